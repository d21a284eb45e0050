"""What lies between two stands, and which steps lead nearer to a stand."""

from crossties.alike import check_alike
from crossties.distances import levels_in
from crossties.errors import TooGreat
from crossties.fillings import fillings
from crossties.longrings import good_peeling
from crossties.nearness import nears_of
from crossties.parties import bonded_numbers
from crossties.stands import Stand
from crossties.steps import all_steps, check_step
from crossties.ways import thing_distances

MOST_BETWEEN = 500


def change_of(f, g, step):
    """Return the change of a step towards g, whatever the map is."""
    check_alike(f, [g])
    thing_distances(f, g)
    check_step(f, step)
    return change_by(f, step, levels_to(f, g))


def levels_to(f, g):
    """Return a dict for each thing, from each post of the piece of its goal to the distance from the goal."""
    nears = nears_of(f.map())
    return [levels_in(nears, y) for y in g.posts()]


def change_by(f, step, levels):
    """Return the change of a step that can be done in f, by the distances of all posts from the goals."""
    thing, post = step
    found = levels[f.party().number(thing)]
    return found[post] - found[f.post(thing)]


def begins(f, g, step):
    """Return whether a step begins a fewest way to g."""
    check_alike(f, [g])
    good_peeling(f.map())
    return change_of(f, g, step) == -1


def first_steps(f, g):
    """Return the list of the steps that begin a fewest way to g, in order."""
    check_alike(f, [g])
    good_peeling(f.map())
    thing_distances(f, g)
    levels = levels_to(f, g)
    return [step for step in all_steps(f) if change_by(f, step, levels) == -1]


def is_between(f, h, g):
    """Return whether h is between f and g."""
    check_alike(f, [h, g])
    whole = thing_distances(f, g)
    nears = nears_of(f.map())
    for x, y, z, far in zip(f.posts(), h.posts(), g.posts(), whole):
        found = levels_in(nears, y)
        if x not in found or found[x] + found[z] != far:
            return False
    return True


def all_between(f, g):
    """Return the list of all stands between f and g; raise TooGreat if there are too many.

    They come by how far they are apart from f, and then by the numbers of their posts.
    """
    check_alike(f, [g])
    rows = between_rows(f, g, thing_distances(f, g))
    choices = [list(row) for row in rows]
    found = fillings(nears_of(f.map()), bonded_numbers(f.party()), choices, MOST_BETWEEN)
    if len(found) > MOST_BETWEEN:
        raise TooGreat()
    numbers = {post: n for n, post in enumerate(f.map().posts())}
    keys = [(sum([row[x] for row, x in zip(rows, posts)]), tuple([numbers[x] for x in posts])) for posts in found]
    names = f.map().posts()
    return [Stand(f.map(), f.party(), [names[n] for n in row]) for _, row in sorted(keys)]


def between_rows(f, g, whole):
    """Return a dict for each thing, from each post between its two ones to the distance from the first one."""
    nears = nears_of(f.map())
    rows = []
    for x, y, far in zip(f.posts(), g.posts(), whole):
        ahead = levels_in(nears, x)
        behind = levels_in(nears, y)
        rows.append({z: ahead[z] for z in ahead if ahead[z] + behind[z] == far})
    return rows


def nearest_stand(f, stands):
    """Return the index of the first stand of which f is least apart, or None if none has roads for all things."""
    check_alike(f, stands)
    nears = nears_of(f.map())
    levels = [levels_in(nears, x) for x in f.posts()]
    best = None
    least = None
    for k, g in enumerate(stands):
        row = [found.get(y) for found, y in zip(levels, g.posts())]
        if None not in row and (least is None or sum(row) < least):
            best = k
            least = sum(row)
    return best
