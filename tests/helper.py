"""The document's points worked out the long way, and small rings to try them on."""

import itertools


def walked_steps(size, one, other):
    """Point 4 by going from place to place."""
    count = 0
    place = one
    while place != other:
        place = 0 if place == size - 1 else place + 1
        count += 1
    return count


def plain_way(size, name, keeper, share):
    """Points 3 and 4, each post looked at by itself."""
    place = (31 * name * name + 7 * name) % size
    posts = [(97 * keeper + 53 * t * t + 41 * t + 13) % size for t in range(share)]
    return min(post - place if post >= place else post - place + size for post in posts)


def pair_of(size, keepers, name, keeper):
    return (plain_way(size, name, keeper, keepers[keeper]), name, keeper)


def fits(plan, keepers, names, rows):
    """Point 9, ahead of its "just where": each name once, in order, no keeper over its bound."""
    if [name for name, _ in rows] != sorted(names):
        return False
    held = [keeper for _, keeper in rows if keeper is not None]
    return all(keeper in keepers for keeper in held) and all(
        held.count(keeper) <= plan[1] * share for keeper, share in keepers.items()
    )


def is_settled(plan, keepers, rows):
    """Point 9, behind its "just where"."""
    for name, own in rows:
        for keeper, share in keepers.items():
            wish = pair_of(plan[0], keepers, name, keeper)
            if own is not None and not wish < pair_of(plan[0], keepers, name, own):
                continue
            there = [other for other, holder in rows if holder == keeper]
            if len(there) < plan[1] * share:
                return False
            if any(pair_of(plan[0], keepers, other, keeper) > wish for other in there):
                return False
    return True


def all_rows(keepers, names):
    """Every way to give each name a keeper or none."""
    ordered = sorted(names)
    for choice in itertools.product([None] + sorted(keepers), repeat=len(ordered)):
        yield list(zip(ordered, choice))


def small_rings():
    """Plans, keepers and names: room for all, too little, none at all; many ways that are the same."""
    plans = [(1, 1), (2, 2), (7, 1), (12, 1), (12, 2), (60, 1), (60, 3), (10**30 + 57, 1)]
    homes = [{}, {0: 1}, {5: 2, 1: 1}, {0: 1, 12: 1, 24: 1}, {9: 3, 2: 1, 4: 2}]
    lists = [[], [0], [3, 0], [5, 1, 4, 0], [24, 12, 0, 36, 7]]
    return itertools.product(plans, homes, lists)
