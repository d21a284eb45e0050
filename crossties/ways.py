"""Ways of the fewest steps from stand to stand, which exist on every good map."""

from crossties.alike import check_alike
from crossties.distances import levels_in
from crossties.errors import BadLists, BadRoads, NoRoad, UnlikeMaps, UnlikeParties
from crossties.lists import is_open_list, road_within
from crossties.longrings import good_peeling
from crossties.nearness import nears_of
from crossties.peelings import peeling_of
from crossties.roads import first_road, is_road
from crossties.scripts import first_bad, walked
from crossties.wrongparts import is_list


def thing_distances(f, g):
    """Return the list of the distances of the things from f to g; raise NoRoad for the first one without a road."""
    nears = nears_of(f.map())
    row = []
    for thing, x, y in zip(f.party().things(), f.posts(), g.posts()):
        far = levels_in(nears, x).get(y)
        if far is None:
            raise NoRoad(thing)
        row.append(far)
    return row


def good_distances(f, g):
    """Return the list of the distances of the things; raise NotGood, then NoRoad."""
    good_peeling(f.map())
    return thing_distances(f, g)


def apart(f, g):
    """Return how far f and g are apart."""
    check_alike(f, [g])
    return sum(thing_distances(f, g))


def price_apart(f, g, prices):
    """Return the price apart of f and g at some prices."""
    check_alike(f, [g])
    return sum([far * cost for far, cost in zip(thing_distances(f, g), prices)])


def at_goal(f, g):
    """Return the list of the things that have the same post in f and in g, in order."""
    check_alike(f, [g])
    return [thing for thing, x, y in zip(f.party().things(), f.posts(), g.posts()) if x == y]


def fewest_steps(f, g):
    """Return the number of the steps of a fewest way from f to g."""
    check_alike(f, [g])
    return sum(good_distances(f, g))


def any_roads(f, g):
    """Return roads of f and g, a list; of each thing it is the first one."""
    check_alike(f, [g])
    thing_distances(f, g)
    nears = nears_of(f.map())
    return [first_road(nears, x, y) for x, y in zip(f.posts(), g.posts())]


def wrong_road(f, g, value):
    """Return the path of the first wrong part of what should be roads of f and g, and may be anything, or None."""
    check_alike(f, [g])
    ends = list(zip(f.posts(), g.posts()))
    if not is_list(value) or len(value) != len(ends):
        return ()
    for k, road in enumerate(value):
        if not is_road(f.map(), road) or (road[0], road[-1]) != ends[k]:
            return (k,)
    return None


def way_by(f, g, roads):
    """Return a way from f to g that interleaves roads, a list of steps."""
    check_alike(f, [g])
    good_distances(f, g)
    check_roads(f, g, roads)
    return interleaved(f, roads)


def check_roads(f, g, roads):
    """Raise BadRoads if a value, which may be anything, are no roads of f and g."""
    path = wrong_road(f, g, roads)
    if path is not None:
        raise BadRoads(path)


def interleaved(f, roads):
    """Return a way that interleaves roads that begin at the posts of f, on a good map.

    The steps are found from both ends: what is left of each road goes from its place in lows to that in highs.
    """
    things = f.party().things()
    ranks = {post: n for n, post in enumerate(peeling_of(f.map()))}
    rows = [[ranks[post] for post in road] for road in roads]
    lows = [0 for _ in roads]
    highs = [len(road) - 1 for road in roads]
    ahead = []
    behind = []
    moving = moving_numbers(lows, highs)
    while moving:
        first = min([min(rows[k][lows[k]], rows[k][highs[k]]) for k in moving])
        free = [k for k in moving if rows[k][lows[k]] == first]
        if free:
            n = free[0]
            lows[n] += 1
            ahead.append((things[n], roads[n][lows[n]]))
        else:
            n = [k for k in moving if rows[k][highs[k]] == first][0]
            behind.append((things[n], roads[n][highs[n]]))
            highs[n] -= 1
        moving = moving_numbers(lows, highs)
    return ahead + behind[::-1]


def moving_numbers(lows, highs):
    """Return the list of the numbers of the things whose low place is not yet their high one."""
    return [k for k in range(len(lows)) if lows[k] < highs[k]]


def any_way(f, g):
    """Return a fewest way from f to g, a list of steps."""
    check_alike(f, [g])
    good_distances(f, g)
    return interleaved(f, any_roads(f, g))


def way_within(f, g, lists):
    """Return a fewest way from f to g on which each thing is always at a post of its list."""
    if f.map() != g.map() or f.map() != lists.map():
        raise UnlikeMaps()
    if f.party() != g.party() or len(lists.lists()) != len(f.posts()):
        raise UnlikeParties()
    good_distances(f, g)
    ends = list(zip(f.posts(), g.posts()))
    for k, posts in enumerate(lists.lists()):
        x, y = ends[k]
        if x not in posts or y not in posts or not is_open_list(f.map(), posts):
            raise BadLists((k,))
    return interleaved(f, [road_within(lists, k, x, y) for k, (x, y) in enumerate(ends)])


def judge_way(f, g, script):
    """Return None if a value, which may be anything, is a fewest way from f to g; else what is wrong first."""
    check_alike(f, [g])
    if not is_list(script):
        return ("form",)
    k = first_bad(f, script)
    if k is not None:
        return ("step", k)
    if walked(f, script) != g:
        return ("end",)
    more = len(script) - apart(f, g)
    return None if more == 0 else ("steps", more)
