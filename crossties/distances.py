"""Distances between posts, and the levels of all posts from one of them."""

from crossties.nearness import nears_of
from crossties.words import is_number


def levels_in(nears, x):
    """Return a dict from each post that hangs together with a post to its distance from it."""
    found = {x: 0}
    rim = [x]
    while rim:
        further = []
        for y in rim:
            for z in nears[y]:
                if z not in found:
                    found[z] = found[y] + 1
                    further.append(z)
        rim = further
    return found


def distance(the_map, x, y):
    """Return the distance from a post to a post, or None if they are in different pieces."""
    the_map.check_posts((x, y))
    return levels_in(nears_of(the_map), x).get(y)


def levels(the_map, x):
    """Return the levels from a post, the tuple of the distances to all posts in order."""
    the_map.check_posts((x,))
    found = levels_in(nears_of(the_map), x)
    return tuple([found.get(y) for y in the_map.posts()])


def judge_levels(the_map, x, value):
    """Tell whether a value, which may be anything, is the levels from a post."""
    the_map.check_posts((x,))
    if not isinstance(value, tuple):
        return False
    # To Python True is equal to 1, which it is not here.
    return all([level is None or is_number(level) for level in value]) and value == levels(the_map, x)


def greatest_distance(the_map):
    """Return the greatest distance within a piece and the first two posts that have it, or None without posts."""
    nears = nears_of(the_map)
    best = None
    for x in nears:
        found = levels_in(nears, x)
        for y in nears:
            if y in found and (best is None or found[y] > best[0]):
                best = (found[y], x, y)
    return best
