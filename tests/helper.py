"""The document's points worked out the long way, and small rings to try them on."""

import itertools


def walked_steps(size, one, other):
    """Point 4 by going from place to place."""
    count = 0
    place = one
    while place != other:
        place = 0 if place == size - 1 else place + 1
        count += 1
    return count


def plain_way(size, name, keeper, share):
    """Points 3 and 4, each post looked at by itself."""
    place = (31 * name * name + 7 * name) % size
    posts = [(97 * keeper + 53 * t * t + 41 * t + 13) % size for t in range(share)]
    return min(post - place if post >= place else post - place + size for post in posts)


def pair_of(size, keepers, name, keeper):
    return (plain_way(size, name, keeper, keepers[keeper]), name, keeper)


def fits(plan, keepers, names, rows):
    """Point 9, ahead of its "just where": each name once, in order, no keeper over its bound."""
    if [name for name, _ in rows] != sorted(names):
        return False
    held = [keeper for _, keeper in rows if keeper is not None]
    return all(keeper in keepers for keeper in held) and all(
        held.count(keeper) <= plan[1] * share for keeper, share in keepers.items()
    )


def is_settled(plan, keepers, rows):
    """Point 9, behind its "just where"."""
    for name, own in rows:
        for keeper, share in keepers.items():
            wish = pair_of(plan[0], keepers, name, keeper)
            if own is not None and not wish < pair_of(plan[0], keepers, name, own):
                continue
            there = [other for other, holder in rows if holder == keeper]
            if len(there) < plan[1] * share:
                return False
            if any(pair_of(plan[0], keepers, other, keeper) > wish for other in there):
                return False
    return True


def all_rows(keepers, names):
    """Every way to give each name a keeper or none."""
    ordered = sorted(names)
    for choice in itertools.product([None] + sorted(keepers), repeat=len(ordered)):
        yield list(zip(ordered, choice))


def small_rings():
    """Plans, keepers and names: room for all, too little, none at all; many ways that are the same."""
    plans = [(1, 1), (2, 2), (7, 1), (12, 1), (12, 2), (60, 1), (60, 3), (10**30 + 57, 1)]
    homes = [{}, {0: 1}, {5: 2, 1: 1}, {0: 1, 12: 1, 24: 1}, {9: 3, 2: 1, 4: 2}]
    lists = [[], [0], [3, 0], [5, 1, 4, 0], [24, 12, 0, 36, 7]]
    return itertools.product(plans, homes, lists)


def plain_deal(plan, keepers, names):
    """Points 6 to 8 as they stand."""
    held = {}
    for _, name, keeper in sorted(pair_of(plan[0], keepers, name, keeper) for name in names for keeper in keepers):
        if name not in held and list(held.values()).count(keeper) < plan[1] * keepers[keeper]:
            held[name] = keeper
    return [(name, held.get(name)) for name in sorted(names)]


def plain_moves(before, after):
    """Point 10 as it stands."""
    had, has = dict(before), dict(after)
    return [(name, had.get(name), has[name]) for name in sorted(has) if had.get(name) != has[name]]


def plain_text(keepers, names, deed):
    """The texts of point 14; None where the deed is done."""
    word, number = deed[0], deed[1]
    if word == "come":
        return "keeper there" if number in keepers else "no share" if deed[2] < 1 else None
    if word == "leave":
        return None if number in keepers else "no keeper"
    if word == "put":
        return "name there" if number in names else None
    return None if number in names else "no name"


def plain_story(plan, deeds):
    """Point 14 as it stands: the answers, the deal behind all deeds, the keepers with their shares."""
    keepers, names, told = {}, [], []
    for deed in deeds:
        before = plain_deal(plan, keepers, names)
        text = plain_text(keepers, names, deed)
        if text is not None:
            told.append(text)
            continue
        if deed[0] == "where":
            told.append(dict(before)[deed[1]])
            continue
        if deed[0] == "come":
            keepers = {**keepers, deed[1]: deed[2]}
        elif deed[0] == "leave":
            keepers = {keeper: share for keeper, share in keepers.items() if keeper != deed[1]}
        elif deed[0] == "put":
            names = names + [deed[1]]
        else:
            names = [name for name in names if name != deed[1]]
        told.append(plain_moves(before, plain_deal(plan, keepers, names)))
    return told, plain_deal(plan, keepers, names), sorted(keepers.items())


def deeds_of(keepers, names):
    """A story in which these come."""
    return [("come", keeper, share) for keeper, share in keepers.items()] + [("put", name) for name in names]
