"""Lists of posts, one beside another, and whether they are open."""

from crossties.distances import judge_levels, levels, levels_in
from crossties.errors import BadLists, UnknownName
from crossties.maps import part_map
from crossties.nearness import nears_of
from crossties.roads import first_road
from crossties.words import is_number
from crossties.wrongparts import is_list, wrong_choice


class Lists:
    """A row of lists of posts of a map; it never changes."""

    def __init__(self, the_map, lists):
        path = wrong_lists(the_map, lists)
        if path is not None:
            raise BadLists(path)
        self._map = the_map
        self._rows = tuple([in_order(the_map, row) for row in lists])

    def map(self):
        """Return the map."""
        return self._map

    def lists(self):
        """Return the list of the tuples of the posts of each list, in the map's order."""
        return list(self._rows)

    def posts_of(self, k):
        """Return the tuple of the posts of list number k, which may be anything."""
        if not is_number(k) or k >= len(self._rows):
            raise UnknownName(k)
        return self._rows[k]

    def __eq__(self, other):
        return isinstance(other, Lists) and self._map == other._map and self._rows == other._rows


def wrong_lists(the_map, lists):
    """Return the path of the first wrong part of what should be lists of posts, and may be anything, or None."""
    if not is_list(lists):
        return ()
    known = {post: True for post in the_map.posts()}
    for k, row in enumerate(lists):
        if not is_list(row) or len(row) == 0:
            return (k,)
        j = wrong_choice(row, known)
        if j is not None:
            return (k, j)
    return None


def in_order(the_map, posts):
    """Return the tuple of some posts in the map's order."""
    return tuple(sorted(posts, key=the_map.number))


def nears_within(nears, posts):
    """Return what is near in the part of a map that has just some posts, as a dict like that of the map."""
    kept = {post: True for post in posts}
    return {x: {y: True for y in nears[x] if y in kept} for x in nears if x in kept}


def first_not_open(nears, posts):
    """Return the first two posts whose distance within a list is not that in the map, or None if it is open."""
    inner = nears_within(nears, posts)
    for x in inner:
        outer_levels = levels_in(nears, x)
        inner_levels = levels_in(inner, x)
        for y in inner:
            if outer_levels.get(y) != inner_levels.get(y):
                return (x, y)
    return None


def is_open_list(the_map, posts):
    """Tell whether a list of different posts of a map is open."""
    return first_not_open(nears_of(the_map), posts) is None


def are_open(lists):
    """Tell whether Lists are open."""
    nears = nears_of(lists.map())
    return all([first_not_open(nears, posts) is None for posts in lists.lists()])


def check_members(lists, k, x, y):
    """Raise UnknownName for what is no number of a list, or no post of this list; return its posts."""
    posts = lists.posts_of(k)
    for value in (x, y):
        if value not in posts:
            raise UnknownName(value)
    return posts


def distance_within(lists, k, x, y):
    """Return the distance from x to y within list number k, or None."""
    posts = check_members(lists, k, x, y)
    return levels_in(nears_within(nears_of(lists.map()), posts), x).get(y)


def road_within(lists, k, x, y):
    """Return the first road of the map from x to y that has all its posts in list number k, or None."""
    posts = check_members(lists, k, x, y)
    nears = nears_of(lists.map())
    way = first_road(nears_within(nears, posts), x, y)
    # A shortest way within the list may be longer than the roads of the map.
    return way if way is not None and len(way) - 1 == levels_in(nears, x)[y] else None


def not_open_paper(lists):
    """Return a paper that shows that Lists are not open, of the first two posts, or None if they are open."""
    nears = nears_of(lists.map())
    for k, posts in enumerate(lists.lists()):
        pair = first_not_open(nears, posts)
        if pair is not None:
            x, y = pair
            return (k, x, y, levels(lists.map(), x), levels(part_map(lists.map(), posts), x))
    return None


def judge_not_open(lists, value):
    """Tell whether a value, which may be anything, is a paper that shows that Lists are not open."""
    if not isinstance(value, tuple) or len(value) != 5:
        return False
    k, x, y, outer, inner = value
    if not is_number(k) or k >= len(lists.lists()):
        return False
    part = part_map(lists.map(), lists.posts_of(k))
    if not part.has_post(x) or not part.has_post(y):
        return False
    if not judge_levels(lists.map(), x, outer) or not judge_levels(part, x, inner):
        return False
    # Where no way leads in the map, none does within the list, and the two are not equal else.
    return outer[lists.map().number(y)] != inner[part.number(y)]
