"""Stands: each thing of a party at a post of a map, bonded things at near posts."""

from crossties.errors import BadStand, UnknownName
from crossties.wrongparts import is_list


class Stand:
    """The things of a party at posts of a map; it never changes."""

    def __init__(self, the_map, party, posts):
        path = wrong_stand(the_map, party, posts)
        if path is not None:
            raise BadStand(path)
        self._map = the_map
        self._party = party
        self._posts = tuple(posts)

    def map(self):
        """Return the map."""
        return self._map

    def party(self):
        """Return the party."""
        return self._party

    def posts(self):
        """Return the tuple of the posts of the things, in the order of the things."""
        return self._posts

    def post(self, thing):
        """Return the post of a thing."""
        return self._posts[self._party.number(thing)]

    def things_at(self, post):
        """Return the list of the things at a post, in order."""
        self._map.check_posts((post,))
        return [thing for thing, x in zip(self._party.things(), self._posts) if x == post]

    def __eq__(self, other):
        if not isinstance(other, Stand) or self._posts != other._posts:
            return False
        return self._map == other._map and self._party == other._party


def wrong_stand(the_map, party, posts):
    """Return the path of the first wrong part of what should be the posts of a stand, or None."""
    if not is_list(posts) or len(posts) != len(party.things()):
        return ()
    for k, post in enumerate(posts):
        if not the_map.has_post(post):
            return (k,)
    loose = loose_bonds(the_map, party, posts)
    if not loose:
        return None
    one, other = loose[0]
    return (party.number(one), party.number(other))


def loose_bonds(the_map, party, posts):
    """Return the list of the bonds that are loose when the things are at some posts, in order."""
    places = {thing: post for thing, post in zip(party.things(), posts)}
    return [(one, other) for one, other in party.bonds() if not the_map.is_near(places[one], places[other])]


def moved(stand, thing, post):
    """Return the stand with one thing at another post, wherever that is, if a stand comes of it."""
    k = stand.party().number(thing)
    stand.map().check_posts((post,))
    posts = list(stand.posts())
    posts[k] = post
    return Stand(stand.map(), stand.party(), posts)


def gathered(the_map, party, post):
    """Return the stand in which all things are at one post."""
    the_map.check_posts((post,))
    return Stand(the_map, party, [post for _ in party.things()])
