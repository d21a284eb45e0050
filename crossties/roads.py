"""Roads: the shortest ways from post to post, their order and their numbers."""

from crossties.distances import distance, levels_in
from crossties.errors import BadRoads, TooGreat
from crossties.nearness import nears_of

MOST_ROADS = 2000


def next_posts_to(nears, y):
    """Return a dict from each post that hangs together with y to the list of its near posts one nearer to y.

    The posts nearer to y come first in the dict.
    """
    found = levels_in(nears, y)
    return {x: [z for z in nears[x] if found[z] == found[x] - 1] for x in found}


def road_counts(nexts, y):
    """Return a dict from each post to the number of its roads to y, of what next_posts_to returns."""
    counts = {}
    for x in nexts:
        counts[x] = 1 if x == y else sum([counts[z] for z in nexts[x]])
    return counts


def count_roads(the_map, x, y):
    """Return how many roads lead from a post to a post."""
    the_map.check_posts((x, y))
    return road_counts(next_posts_to(nears_of(the_map), y), y).get(x, 0)


def road_at(the_map, x, y, number):
    """Return the road from a post to a post that has a number; raise TooGreat if there are not so many."""
    the_map.check_posts((x, y))
    nexts = next_posts_to(nears_of(the_map), y)
    counts = road_counts(nexts, y)
    if number >= counts.get(x, 0):
        raise TooGreat()
    row = [x]
    left = number
    while row[-1] != y:
        choice = nexts[row[-1]]
        k = 0
        while left >= counts[choice[k]]:
            left -= counts[choice[k]]
            k += 1
        row.append(choice[k])
    return tuple(row)


def road_of(the_map, x, y):
    """Return the road from a post to a post with the number 0, or None if there is none."""
    the_map.check_posts((x, y))
    return first_road(nears_of(the_map), x, y)


def first_road(nears, x, y):
    """Return the first road from a post to a post, or None, by what is near in such a dict."""
    nexts = next_posts_to(nears, y)
    if x not in nexts:
        return None
    row = [x]
    while row[-1] != y:
        row.append(nexts[row[-1]][0])
    return tuple(row)


def all_roads(the_map, x, y):
    """Return the list of all roads from a post to a post, in order; raise TooGreat if there are too many."""
    if count_roads(the_map, x, y) > MOST_ROADS:
        raise TooGreat()
    nexts = next_posts_to(nears_of(the_map), y)
    rows = [(x,)] if x in nexts else []
    while rows and rows[0][-1] != y:
        rows = [row + (z,) for row in rows for z in nexts[row[-1]]]
    return rows


def wrong_road_part(the_map, value):
    """Return the path of the first wrong part of what should be a road, and may be anything, or None."""
    if not isinstance(value, tuple) or value == ():
        return ()
    for k, post in enumerate(value):
        if not the_map.has_post(post):
            return (k,)
        if k > 0 and (post == value[k - 1] or not the_map.is_near(post, value[k - 1])):
            return (k,)
    return None if distance(the_map, value[0], value[-1]) == len(value) - 1 else ()


def is_road(the_map, value):
    """Tell whether a value, which may be anything, is a road."""
    return wrong_road_part(the_map, value) is None


def road_number(the_map, value):
    """Return the number of a road; raise BadRoads if a value, which may be anything, is none."""
    path = wrong_road_part(the_map, value)
    if path is not None:
        raise BadRoads(path)
    y = value[-1]
    nexts = next_posts_to(nears_of(the_map), y)
    counts = road_counts(nexts, y)
    number = 0
    for k, post in enumerate(value[1:]):
        row = nexts[value[k]]
        number += sum([counts[z] for z in row[:row.index(post)]])
    return number
