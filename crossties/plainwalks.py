"""What scripts can do, found out by going through the stands, one step after another."""

from heapq import heappop, heappush

from crossties.alike import check_alike
from crossties.errors import TooGreat
from crossties.moves import Moves
from crossties.stands import Stand

MOST_STANDS = 500


class Walks:
    """The stands to which scripts lead from a stand, told by their posts and found level by level."""

    def __init__(self, f):
        self._moves = Moves(f)
        self._ahead = {f.posts(): None}
        self._rim = [f.posts()]

    def rim(self):
        """Return the list of the stands that were found last, all of the same least number of steps."""
        return list(self._rim)

    def many(self):
        """Return how many stands were found."""
        return len(self._ahead)

    def has(self, posts):
        """Tell whether a stand was found."""
        return posts in self._ahead

    def go_on(self):
        """Find the stands that are one step further away, and tell whether there are any."""
        further = []
        for posts in self._rim:
            for k, x, behind in self._moves.after(posts):
                if behind not in self._ahead:
                    self._ahead[behind] = (posts, k, x)
                    further.append(behind)
        self._rim = further
        return further != []

    def seek(self, posts, most):
        """Go on until a stand is found, for most steps at most; return its least number of steps, or None."""
        steps = 0
        while not self.has(posts):
            if steps >= most or not self.go_on():
                return None
            steps += 1
        return steps

    def walk_to(self, posts, things):
        """Return a script that leads to a stand that was found."""
        return script_to(self._ahead, posts, things)


def script_to(ahead, posts, things):
    """Return the script to a stand, if for each stand there are told the one ahead of it and what goes where."""
    script = []
    step = ahead[posts]
    while step is not None:
        before, k, x = step
        script.append((things[k], x))
        step = ahead[before]
    return script[::-1]


def found_levels(f, most):
    """Return the lists of the posts of the stands within most steps of f, of any number if most is None.

    They come by their least numbers of steps; raise TooGreat if there are too many.
    """
    walks = Walks(f)
    levels = [walks.rim()]
    while (most is None or len(levels) <= most) and walks.go_on():
        if walks.many() > MOST_STANDS:
            raise TooGreat()
        levels.append(walks.rim())
    return levels


def stands_in_order(f, rows):
    """Return the stands with these tuples of posts, ordered by the numbers of the posts, thing by thing."""
    numbers = {post: n for n, post in enumerate(f.map().posts())}
    ordered = sorted(rows, key=lambda posts: tuple([numbers[x] for x in posts]))
    return [Stand(f.map(), f.party(), posts) for posts in ordered]


def within(f, most):
    """Return the list of the pairs of each stand within most steps of f and its least number of steps."""
    levels = found_levels(f, most)
    return [(stand, steps) for steps, rows in enumerate(levels) for stand in stands_in_order(f, rows)]


def reached(f):
    """Return the list of all stands to which scripts lead from f."""
    return [stand for rows in found_levels(f, None) for stand in stands_in_order(f, rows)]


def fewest_by_walks(f, g, most):
    """Return the least number of steps of a script from f to g, or None if it is more than most."""
    check_alike(f, [g])
    return Walks(f).seek(g.posts(), most)


def walk_by_walks(f, g, most):
    """Return a script from f to g of the least number of steps, or None if that is more than most."""
    check_alike(f, [g])
    walks = Walks(f)
    if walks.seek(g.posts(), most) is None:
        return None
    return walks.walk_to(g.posts(), f.party().things())


def cheapest_found(f, g, prices):
    """Return the least price of a script from f to g and such a script, or None if none leads there."""
    moves = Moves(f)
    costs = {f.posts(): 0}
    ahead = {f.posts(): None}
    queue = [(0, f.posts())]
    while queue:
        cost, posts = heappop(queue)
        if posts == g.posts():
            return cost, script_to(ahead, posts, f.party().things())
        # A stand waits again for each better price that is found for it; only the best one goes on.
        if cost == costs[posts]:
            for k, x, behind in moves.after(posts):
                total = cost + prices[k]
                # At the same cost the earlier way stays, so that ways of no cost close no round.
                if behind not in costs or total < costs[behind]:
                    costs[behind] = total
                    ahead[behind] = (posts, k, x)
                    heappush(queue, (total, behind))
    return None


def cheapest_by_walks(f, g, prices):
    """Return the least price of a script from f to g at some prices, or None if none leads there."""
    check_alike(f, [g])
    found = cheapest_found(f, g, prices)
    return None if found is None else found[0]


def cheapest_walk(f, g, prices):
    """Return a script from f to g of the least price, or None if none leads there."""
    check_alike(f, [g])
    found = cheapest_found(f, g, prices)
    return None if found is None else found[1]
