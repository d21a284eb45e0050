"""How far a goal is while a script is done, how many steps are wasted, and which things keep from a goal."""

from crossties.alike import check_alike
from crossties.between import levels_to
from crossties.scripts import stands_along
from crossties.ways import thing_distances


def gaps_after(f, g, script):
    """Return the list of the gaps to g, from f and then behind each step of a script."""
    check_alike(f, [g])
    thing_distances(f, g)
    # Steps keep things within their pieces, so that they have a road at each of the stands.
    levels = levels_to(f, g)
    return [sum([found[x] for found, x in zip(levels, stand.posts())]) for stand in stands_along(f, script)]


def wasted(f, g, script):
    """Return the number of the steps of a script, less the gap from f to g, plus the gap behind it."""
    gaps = gaps_after(f, g, script)
    return len(script) - gaps[0] + gaps[-1]


def barred_things(f, g, things):
    """Return the list of those of some things that have different posts in f and g, in the party's order."""
    check_alike(f, [g])
    return [thing for thing in f.party().things() if thing in things and f.post(thing) != g.post(thing)]
