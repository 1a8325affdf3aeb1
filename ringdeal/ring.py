"""The ring: places of names and posts, the ways between them, and all pairs in order."""


def place_of(size, name):
    return (31 * name * name + 7 * name) % size


def posts_of(size, keeper, share):
    return [(97 * keeper + 53 * post * post + 41 * post + 13) % size for post in range(share)]


def steps(size, one, other):
    return (other - one) % size


# A keeper may have a thousand posts, and each name looks among them all: halving keeps that short.
def count_ahead(ordered, place):
    low = 0
    high = len(ordered)
    while low < high:
        middle = (low + high) // 2
        if ordered[middle] < place:
            low = middle + 1
        else:
            high = middle
    return low


# With posts in the order of their places, the nearest one is the first that isn't ahead of the place;
# where all are ahead of it, the way goes across the last place, to the very first post.
def way_among(size, place, ordered):
    met = count_ahead(ordered, place) % len(ordered)
    return steps(size, place, ordered[met])


def way_to(size, name, keeper, share):
    return way_among(size, place_of(size, name), sorted(posts_of(size, keeper, share)))


def pairs_of(size, keepers, names):
    placed = [(name, place_of(size, name)) for name in names]
    pairs = []
    for keeper, share in keepers.items():
        # Sorted once for each keeper, not once for each pair.
        ordered = sorted(posts_of(size, keeper, share))
        for name, place in placed:
            pairs.append((way_among(size, place, ordered), name, keeper))
    return sorted(pairs)


def room_of(each, share):
    return each * share
