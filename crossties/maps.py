"""Maps: posts, ties between them, and what is near."""

from crossties.errors import BadMap, UnknownName
from crossties.words import is_word
from crossties.wrongparts import wrong_part


class Map:
    """Different posts in an order, and ties between two of them; it never changes."""

    def __init__(self, posts, ties):
        path = wrong_part(posts, ties)
        if path is not None:
            raise BadMap(path)
        numbers = {post: k for k, post in enumerate(posts)}
        pairs = number_pairs(numbers, ties)
        self._posts = tuple(posts)
        self._numbers = numbers
        self._ties = tuple([(posts[i], posts[j]) for i, j in pairs])
        self._near = near_posts(posts, pairs)

    def posts(self):
        """Return the list of the posts, in order."""
        return list(self._posts)

    def ties(self):
        """Return the list of the ties, in order."""
        return list(self._ties)

    def has_post(self, value):
        """Tell whether a value, which may be anything, is a post."""
        # What is no word may be no key at all: a list cannot be looked up.
        return is_word(value) and value in self._numbers

    def check_posts(self, values):
        """Raise UnknownName for the first of some values, which may be anything, that is not a post."""
        for value in values:
            if not self.has_post(value):
                raise UnknownName(value)

    def number(self, x):
        """Return the number of a post in the list of the posts."""
        self.check_posts((x,))
        return self._numbers[x]

    def is_near(self, x, y):
        """Tell whether two posts are near, that is, equal or tied."""
        self.check_posts((x, y))
        return y in self._near[x]

    def near(self, x):
        """Return the list of the posts near a post, itself among them, in the map's order."""
        self.check_posts((x,))
        return list(self._near[x])

    def tied(self, x):
        """Return the list of the posts tied to a post, in the map's order."""
        self.check_posts((x,))
        return [y for y in self._near[x] if y != x]

    def __eq__(self, other):
        return isinstance(other, Map) and self._posts == other._posts and self._ties == other._ties


def number_pairs(numbers, ties):
    """Return the ties as pairs of the numbers of their posts, the lesser one first, ascending."""
    pairs = []
    for x, y in ties:
        i = numbers[x]
        j = numbers[y]
        pairs.append((min(i, j), max(i, j)))
    return sorted(pairs)


def near_posts(posts, pairs):
    """Return a dict from each post to a dict whose keys are the posts near it, in order."""
    rows = [[k] for k in range(len(posts))]
    for i, j in pairs:
        rows[i].append(j)
        rows[j].append(i)
    near = {}
    for k, row in enumerate(rows):
        near[posts[k]] = {posts[n]: True for n in sorted(row)}
    return near


def hanging_with(the_map, post):
    """Return the list of the posts that hang together with a post, as they are met."""
    met = {post: True}
    waiting = [post]
    while waiting:
        x = waiting.pop()
        for y in the_map.tied(x):
            if y not in met:
                met[y] = True
                waiting.append(y)
    return list(met)


def heads_of(the_map):
    """Return a dict from each post to the first post of its piece."""
    heads = {}
    for post in the_map.posts():
        if post not in heads:
            for x in hanging_with(the_map, post):
                heads[x] = post
    return heads


def pieces_of(the_map):
    """Return the list of the pieces of a map, each a tuple of posts."""
    heads = heads_of(the_map)
    rows = {}
    for post in the_map.posts():
        if heads[post] == post:
            rows[post] = []
        rows[heads[post]].append(post)
    return [tuple(rows[head]) for head in rows]


def part_map(the_map, posts):
    """Return the part of a map with some posts."""
    the_map.check_posts(posts)
    kept = {post: True for post in posts}
    ties = [(x, y) for x, y in the_map.ties() if x in kept and y in kept]
    return Map([x for x in the_map.posts() if x in kept], ties)


def map_without(the_map, posts):
    """Return a map without some of its posts."""
    the_map.check_posts(posts)
    gone = {post: True for post in posts}
    return part_map(the_map, [x for x in the_map.posts() if x not in gone])


def joined_maps(one, other):
    """Return the map joined of two that have no common post."""
    return Map(one.posts() + other.posts(), one.ties() + other.ties())


def both_near(the_map, x, y):
    """Return the list of the posts that are near x and near y, in the map's order."""
    the_map.check_posts((x, y))
    return [z for z in the_map.near(x) if the_map.is_near(z, y)]


def with_tie(the_map, x, y):
    """Return the map with the same posts in which x and y are tied; an equal one if they are the same."""
    the_map.check_posts((x, y))
    new = [] if the_map.is_near(x, y) else [(x, y)]
    return Map(the_map.posts(), the_map.ties() + new)


def without_tie(the_map, x, y):
    """Return the map with the same posts in which x and y are not tied."""
    the_map.check_posts((x, y))
    ties = [tie for tie in the_map.ties() if tie != (x, y) and tie != (y, x)]
    return Map(the_map.posts(), ties)
