"""How many stands and fewest ways there are, how they are spread, and how far apart stands can be."""

from math import gcd

from crossties.alike import check_alike
from crossties.between import between_rows, levels_to
from crossties.distances import greatest_distance, levels_in
from crossties.longrings import good_peeling
from crossties.maps import pieces_of
from crossties.moves import Moves
from crossties.nearness import nears_of
from crossties.stands import Stand, gathered
from crossties.tallies import Tally
from crossties.ways import thing_distances


def all_rows(the_map, party):
    """Return the list of all posts of a map, once for each thing of a party."""
    return [the_map.posts() for _ in party.things()]


def fraction(many, whole):
    """Return the pair of two numbers in lowest terms."""
    common = gcd(many, whole)
    return (many // common, whole // common)


def count_stands(the_map, party):
    """Return the number of the stands of a party on a map."""
    return Tally(the_map, party, all_rows(the_map, party)).total()


def count_within(the_map, party, lists):
    """Return the number of the stands within lists."""
    return Tally(the_map, party, lists.lists()).total()


def chance_of_post(the_map, party, thing, post):
    """Return the chance that a thing stands at a post, a fraction."""
    k = party.number(thing)
    the_map.check_posts((post,))
    rows = all_rows(the_map, party)
    there = rows[:k] + [[post]] + rows[k + 1:]
    return fraction(Tally(the_map, party, there).total(), Tally(the_map, party, rows).total())


def mean_apart(the_map, party):
    """Return the mean of being apart of two stands, a fraction, or None where some have things without roads."""
    if party.things() == []:
        return (0, 1)
    if len(pieces_of(the_map)) != 1:
        return None
    tally = Tally(the_map, party, all_rows(the_map, party))
    nears = nears_of(the_map)
    levels = {x: levels_in(nears, x) for x in nears}
    far = 0
    for shares in post_shares(tally):
        far += sum([shares[x] * shares[y] * levels[x][y] for x in shares for y in shares])
    total = tally.total()
    return fraction(far, total * total)


def post_shares(tally):
    """Return for each thing a dict from posts to the numbers of the stands in which it stands there."""
    tables = tally.tables()
    rests = tally.rests(tables)
    rows = []
    for k in range(tally.things()):
        shares = {}
        for choice, many in tables[k].items():
            for x in tally.posts_for(k, choice):
                shares[x] = shares.get(x, 0) + many * rests[k + 1][tally.behind(k, choice, x)]
        rows.append(shares)
    return rows


def count_amid(f, g):
    """Return the number of the stands amid f and g."""
    check_alike(f, [g])
    return Tally(f.map(), f.party(), between_rows(f, g, thing_distances(f, g))).total()


def count_ways(f, g):
    """Return the number of the fewest ways of f and g on a good map."""
    check_alike(f, [g])
    good_peeling(f.map())
    steps = sum(thing_distances(f, g))
    moves = Moves(f)
    levels = levels_to(f, g)
    counts = {f.posts(): 1}
    for _ in range(steps):
        further = {}
        for posts, many in counts.items():
            for k, x, behind in moves.after(posts):
                if levels[k][x] < levels[k][posts[k]]:
                    further[behind] = further.get(behind, 0) + many
        counts = further
    return counts[g.posts()]


def farthest(the_map, party):
    """Return the greatest number of being apart and two stands so far apart, or None if there is no stand."""
    things = party.things()
    if things == []:
        alone = Stand(the_map, party, ())
        return (0, alone, alone)
    found = greatest_distance(the_map)
    if found is None:
        return None
    far, x, y = found
    return (far * len(things), gathered(the_map, party, x), gathered(the_map, party, y))
