"""Peelings: orders in which the posts of a map can be peeled off."""

from crossties.errors import TooGreat
from crossties.nearness import all_near, are_different_posts, nears_of

MOST_PEELINGS = 500


def can_peel(the_map, post):
    """Tell whether a post can be peeled off, that is, whether its near posts are near one another."""
    the_map.check_posts((post,))
    nears = nears_of(the_map)
    return all_near(nears, nears[post])


def first_posts(the_map):
    """Return the list of the posts that can be peeled off, in the map's order."""
    nears = nears_of(the_map)
    return [post for post in nears if all_near(nears, nears[post])]


def peeled_off(the_map):
    """Return the list of posts that are peeled off, one after another, until none of those left can be."""
    left = nears_of(the_map)
    row = []
    waiting = the_map.posts()
    while waiting:
        post = waiting.pop()
        if post in left and all_near(left, left[post]):
            row.append(post)
            near = list(left[post])
            del left[post]
            for x in near:
                if x != post:
                    del left[x][post]
                    # What could not be peeled off can only become so when one of its near posts is gone.
                    waiting.append(x)
    return row


def good(the_map):
    """Tell whether a map is good."""
    return peeling_of(the_map) is not None


def peeling_of(the_map):
    """Return a peeling of a map, or None if the map is not good."""
    # It does not matter which posts are peeled off first: what is left of a good map is good.
    row = peeled_off(the_map)
    return tuple(row) if len(row) == len(the_map.posts()) else None


def judge_peeling(the_map, value):
    """Tell whether a value, which may be anything, is a peeling of a map."""
    if not isinstance(value, tuple) or len(value) != len(the_map.posts()):
        return False
    if not are_different_posts(the_map, value):
        return False
    nears = nears_of(the_map)
    return all([all_near(nears, later) for post, later in later_near(the_map, value)])


def all_peelings(the_map):
    """Return the list of all peelings, ascending by the numbers of their posts; raise TooGreat for too many."""
    if not good(the_map):
        return []
    nears = nears_of(the_map)
    rows = [()]
    for _ in nears:
        rows = [row + (post,) for row in rows for post in next_posts(nears, row)]
        # What is left of a good map is good, so each of these rows goes on to a peeling of its own.
        if len(rows) > MOST_PEELINGS:
            raise TooGreat()
    return rows


def next_posts(nears, row):
    """Return the list of the posts that can be peeled off when those of a row are gone."""
    left = [post for post in nears if post not in row]
    return [post for post in left if all_near(nears, [x for x in left if x in nears[post]])]


def later_near(the_map, row):
    """Return the list of pairs of each post of a row of all posts and the tuple of its later near posts."""
    places = {post: k for k, post in enumerate(row)}
    return [(post, tuple([x for x in the_map.near(post) if places[x] > places[post]])) for post in row]
