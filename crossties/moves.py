"""Where the things of stands can go."""

from crossties.nearness import nears_of
from crossties.parties import bonded_numbers


class Moves:
    """What can be done at the stands of one map and one party, told by the tuples of their posts."""

    def __init__(self, stand):
        self._nears = nears_of(stand.map())
        self._bonded = bonded_numbers(stand.party())

    def posts_for(self, posts, k):
        """Return the list of the posts to which thing number k can go, in the map's order."""
        here = posts[k]
        rows = [self._nears[posts[j]] for j in self._bonded[k]]
        return [x for x in self._nears[here] if x != here and all([x in near for near in rows])]

    def after(self, posts):
        """Return the list of the steps that can be done, in order: the thing's number, the post, the posts behind."""
        rows = []
        for k in range(len(posts)):
            for x in self.posts_for(posts, k):
                rows.append((k, x, posts[:k] + (x,) + posts[k + 1:]))
        return rows
