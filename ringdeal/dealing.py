"""The deal: which keeper each name has, and the moves from one deal to a later one."""

from ringdeal.ring import pairs_of, room_of


def rooms_of(each, keepers):
    rooms = {}
    for keeper, share in keepers.items():
        rooms[keeper] = room_of(each, share)
    return rooms


def deal_of(plan, keepers, names):
    rooms = rooms_of(plan[1], keepers)
    dealt = {}
    for pair in pairs_of(plan[0], keepers, names):
        name = pair[1]
        keeper = pair[2]
        if name not in dealt and rooms[keeper] > 0:
            dealt[name] = keeper
            rooms[keeper] = rooms[keeper] - 1
    return [(name, dealt.get(name)) for name in sorted(names)]


def names_of(rows, keeper):
    return [name for name, holder in rows if holder == keeper]


def moves(before, after):
    earlier = dict(before)
    return [(name, earlier.get(name), keeper) for name, keeper in after if earlier.get(name) != keeper]
