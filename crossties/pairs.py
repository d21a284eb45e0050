"""Orders of steps: which step must be ahead of which, and which orders can be done."""

from crossties.alike import check_alike
from crossties.errors import BadOrder, BadStep, UnknownName
from crossties.longrings import good_peeling
from crossties.nearness import nears_of
from crossties.parties import bonded_numbers
from crossties.steps import done, is_step
from crossties.ways import check_roads, interleaved
from crossties.words import is_number
from crossties.wrongparts import is_list


def check_all(f, g, roads):
    """Raise the errors that come first in each function here."""
    check_alike(f, [g])
    good_peeling(f.map())
    check_roads(f, g, roads)


def check_steps(f, roads, values):
    """Raise UnknownName for the first of some values, which may be anything, that is no step of the roads."""
    for value in values:
        if not is_road_step(f, roads, value):
            raise UnknownName(value)


def is_road_step(f, roads, value):
    """Tell whether a value, which may be anything, is a step of the roads."""
    if not isinstance(value, tuple) or len(value) != 2 or not f.party().has_thing(value[0]):
        return False
    thing, number = value
    return has_step(roads[f.party().number(thing)], number)


def has_step(road, number):
    """Tell whether a value, which may be anything, is the number of a step of a road."""
    return is_number(number) and 1 <= number < len(road)


def low_high(f, g, roads, thing, number, other):
    """Return the least and the greatest place of other on its road at which a step of thing can be done."""
    check_all(f, g, roads)
    party = f.party()
    if not party.are_bonded(thing, other):
        raise UnknownName(other)
    road = roads[party.number(thing)]
    if not has_step(road, number):
        raise BadStep(number)
    return low_high_by(nears_of(f.map()), road, number, roads[party.number(other)])


def low_high_by(nears, road, number, other_road):
    """Return the least and the greatest place of another road that is near both posts of a step of a road."""
    near = nears[road[number - 1]]
    then_near = nears[road[number]]
    places = [i for i, post in enumerate(other_road) if post in near and post in then_near]
    return (min(places), max(places))


def pairs_of(f, g, roads):
    """Return the ordered list of the pairs of steps of which the first one must be ahead of the second one."""
    check_all(f, g, roads)
    things = f.party().things()
    return [((things[k], i), (things[n], j)) for (k, i), (n, j) in number_pairs_of(f, roads)]


def number_pairs_of(f, roads):
    """Return the ordered list of the pairs, each step with the number of its thing."""
    bonded = bonded_numbers(f.party())
    nears = nears_of(f.map())
    found = {}
    for n, road in enumerate(roads):
        for j in range(1, len(road)):
            if j + 1 < len(road):
                found[((n, j), (n, j + 1))] = True
            for k in bonded[n]:
                low, high = low_high_by(nears, road, j, roads[k])
                if low > 0:
                    found[((k, low), (n, j))] = True
                if high + 1 < len(roads[k]):
                    found[((n, j), (k, high + 1))] = True
    return sorted(found)


def judge_order(f, g, roads, value):
    """Return None if a value, which may be anything, is a doable order of steps; else what is wrong first."""
    check_all(f, g, roads)
    if not is_list(value):
        return ("form",)
    party = f.party()
    left = {thing: len(road) - 1 for thing, road in zip(party.things(), roads)}
    turns = {}
    for number, thing in enumerate(value):
        if not party.has_thing(thing) or left[thing] == 0:
            return ("thing", number)
        turns[(thing, len(roads[party.number(thing)]) - left[thing])] = number
        left[thing] -= 1
    for thing in left:
        if left[thing] > 0:
            return ("short", thing)
    for pair in pairs_of(f, g, roads):
        if turns[pair[0]] > turns[pair[1]]:
            return ("pair", pair)
    return None


def any_order(f, g, roads):
    """Return a doable order of steps, a tuple of things."""
    check_all(f, g, roads)
    return tuple([thing for thing, _ in interleaved(f, roads)])


def order_script(f, g, roads, value):
    """Return the script that a doable order of steps tells, a list; raise BadOrder where it cannot go on."""
    check_all(f, g, roads)
    party = f.party()
    places = {thing: 0 for thing in party.things()}
    script = []
    stand = f
    for number, thing in enumerate(value):
        if not party.has_thing(thing):
            raise BadOrder(number)
        road = roads[party.number(thing)]
        places[thing] += 1
        if places[thing] == len(road) or not is_step(stand, (thing, road[places[thing]])):
            raise BadOrder(number)
        step = (thing, road[places[thing]])
        stand = done(stand, step)
        script.append(step)
    if len(script) < sum([len(road) - 1 for road in roads]):
        raise BadOrder(len(script))
    return script


def steps_led_to(pairs, step):
    """Return a dict whose keys are the steps to which pairs lead from a step, in one step or several."""
    met = {}
    waiting = [step]
    while waiting:
        here = waiting.pop()
        for other in [second for first, second in pairs if first == here]:
            if other not in met:
                met[other] = True
                waiting.append(other)
    return met


def steps_ahead(f, g, roads, step):
    """Return the list of all steps that are always ahead of a step, in order."""
    check_all(f, g, roads)
    check_steps(f, roads, (step,))
    turned = [(second, first) for first, second in pairs_of(f, g, roads)]
    met = steps_led_to(turned, step)
    steps = [(thing, j) for thing, road in zip(f.party().things(), roads) for j in range(1, len(road))]
    return [other for other in steps if other in met]


def which_ahead(f, g, roads, one, other):
    """Return which of two steps is always ahead of the other: "first", "second", "same" or, if none is, "open"."""
    check_all(f, g, roads)
    check_steps(f, roads, (one, other))
    pairs = pairs_of(f, g, roads)
    if one == other:
        return "same"
    if other in steps_led_to(pairs, one):
        return "first"
    return "second" if one in steps_led_to(pairs, other) else "open"
