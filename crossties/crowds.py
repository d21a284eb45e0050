"""Crowds: posts near one another, as many as can be; and the maps of lots."""

from crossties.errors import BadMade
from crossties.longrings import good_peeling
from crossties.maps import Map
from crossties.nearness import all_near, are_different_posts, nears_of
from crossties.peelings import later_near
from crossties.wrongparts import is_list, wrong_choice, wrong_word


def is_crowd(the_map, value):
    """Tell whether a value, which may be anything, is a crowd of a map, which need not be good."""
    if not isinstance(value, tuple) or value == () or not are_different_posts(the_map, value):
        return False
    numbers = [the_map.number(x) for x in value]
    nears = nears_of(the_map)
    if numbers != sorted(numbers) or not all_near(nears, value):
        return False
    further = [x for x in nears[value[0]] if x not in value]
    return not any([all([y in nears[x] for y in value]) for x in further])


def crowds_of(the_map):
    """Return the list of the crowds of a good map, in order; raise NotGood for another map."""
    posts = the_map.posts()
    crowds = sorted(grown_crowds(the_map)[0])
    return [tuple([posts[k] for k in crowd]) for crowd in crowds]


def grown_crowds(the_map):
    """Return the crowds of a good map and pairs that are a crowd tree of it, in the order in which they arise.

    A crowd is a tuple of numbers of posts, ascending. The posts are put back, from the last one of a peeling on;
    what is there is always a map with its crowds.
    """
    crowds = []
    pairs = []
    turns = {}
    homes = []
    for post, later in reversed(later_near(the_map, good_peeling(the_map))):
        turns[post] = len(homes)
        # The one put back last came back into a crowd that has all posts that were near it then.
        home = homes[max([turns[x] for x in later])] if later else None
        if home is not None and len(crowds[home]) == len(later):
            crowds[home].append(post)
        else:
            if home is not None:
                pairs.append((home, len(crowds)))
            home = len(crowds)
            crowds.append([post, *later])
        homes.append(home)
    return [tuple(sorted([the_map.number(x) for x in crowd])) for crowd in crowds], pairs


def crowds_with(the_map, post):
    """Return the list of the numbers of the crowds that have a post, ascending."""
    the_map.check_posts((post,))
    return [k for k, crowd in enumerate(crowds_of(the_map)) if post in crowd]


def wrong_lots(posts, lots):
    """Return the path of the first wrong part of posts and lots, which may be anything, or None."""
    if not is_list(posts):
        return (0,)
    k = wrong_word(posts)
    if k is not None:
        return (0, k)
    if not is_list(lots):
        return (1,)
    known = {post: True for post in posts}
    for k, lot in enumerate(lots):
        if not is_list(lot):
            return (1, k)
        j = wrong_choice(lot, known)
        if j is not None:
            return (1, k, j)
    return None


def map_of_crowds(posts, lots):
    """Return the map of posts and lots, in which two posts are tied if some lot has both."""
    path = wrong_lots(posts, lots)
    if path is not None:
        raise BadMade(path)
    numbers = {post: k for k, post in enumerate(posts)}
    pairs = {(x, y): True for lot in lots for x in lot for y in lot if numbers[x] < numbers[y]}
    return Map(posts, list(pairs))
