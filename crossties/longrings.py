"""Rings, their cross ties, and long rings."""

from crossties.errors import NotGood
from crossties.maps import map_without
from crossties.nearness import are_different_posts, nears_of
from crossties.peelings import peeled_off, peeling_of


def is_ring(the_map, value):
    """Tell whether a value, which may be anything, is a ring of a map."""
    if not isinstance(value, tuple) or len(value) < 3 or not are_different_posts(the_map, value):
        return False
    return all([the_map.is_near(value[k - 1], value[k]) for k in range(len(value))])


def cross_ties(the_map, ring):
    """Return the list of the cross ties of a ring, in the map's order."""
    places = {post: k for k, post in enumerate(ring)}
    ties = [(x, y) for x, y in the_map.ties() if x in places and y in places]
    # The last post and the first one of a ring are next to one another, too.
    return [(x, y) for x, y in ties if abs(places[x] - places[y]) not in (1, len(ring) - 1)]


def judge_ring(the_map, value):
    """Tell whether a value, which may be anything, is a long ring of a map."""
    return is_ring(the_map, value) and len(value) > 3 and cross_ties(the_map, value) == []


def long_ring_of(the_map):
    """Return a long ring of a map, or None if the map is good."""
    # A post that can be peeled off is in no long ring, so all of them are in what is left at last.
    rest = map_without(the_map, peeled_off(the_map))
    nears = nears_of(rest)
    for post in nears:
        for start in nears[post]:
            way = way_round(nears, post, start)
            if way is not None:
                return (post, *way)
    return None


def way_round(nears, post, start):
    """Return the posts of a long ring behind a post, from a near one on, as a tuple, or None if there is none."""
    ahead = {start: None}
    rim = [start]
    while rim:
        further = []
        for x in rim:
            for y in nears[x]:
                if y in nears[post]:
                    # The way is a shortest one of those that end so; a cross tie would make it shorter.
                    if y not in nears[start]:
                        return way_back(ahead, x) + (y,)
                elif y not in ahead:
                    ahead[y] = x
                    further.append(y)
        rim = further
    return None


def way_back(ahead, last):
    """Return the way to a post as a tuple, if each post of it is told the one ahead of it, and the first None."""
    row = []
    post = last
    while post is not None:
        row.append(post)
        post = ahead[post]
    return tuple(row[::-1])


def good_peeling(the_map):
    """Return a peeling of a map; raise NotGood, with the ring that long_ring_of tells, if there is none."""
    row = peeling_of(the_map)
    if row is None:
        raise NotGood(long_ring_of(the_map))
    return row


def all_long_rings(the_map):
    """Return the list of all long rings, each told once, ascending by the numbers of their posts."""
    nears = nears_of(the_map)
    numbers = {post: k for k, post in enumerate(nears)}
    rings = []
    rows = [(x, y) for x in nears for y in nears[x] if numbers[x] < numbers[y]]
    while rows:
        longer = [row + (z,) for row in rows for z in nears[row[-1]] if goes_on(nears, numbers, row, z)]
        rings += [row for row in longer if is_closed(nears, numbers, row)]
        rows = [row for row in longer if row[-1] not in nears[row[0]]]
    return sorted(rings, key=lambda ring: tuple([numbers[post] for post in ring]))


def goes_on(nears, numbers, row, post):
    """Tell whether a post behind a row is tied to the last one alone, or to the first one, too."""
    if numbers[post] <= numbers[row[0]]:
        return False
    return not any([x in nears[post] for x in row[1:-1]]) and post != row[-1]


def is_closed(nears, numbers, row):
    """Tell whether a row of at least three posts is a long ring, in the direction in which it is told."""
    return len(row) > 3 and row[-1] in nears[row[0]] and numbers[row[1]] < numbers[row[-1]]
