"""Steps: one thing goes to a tied post, if no bond becomes loose."""

from crossties.errors import BadStep
from crossties.moves import Moves
from crossties.stands import moved


def is_step(stand, value):
    """Tell whether a value, which may be anything, is a step that can be done at a stand."""
    if not isinstance(value, tuple) or len(value) != 2 or not stand.party().has_thing(value[0]):
        return False
    return value in steps_of(stand, value[0])


def check_step(stand, step):
    """Raise BadStep(0) if a value, which may be anything, is not a step that can be done at a stand."""
    if not is_step(stand, step):
        raise BadStep(0)


def done(stand, step):
    """Return the stand to which a step leads."""
    check_step(stand, step)
    thing, post = step
    return moved(stand, thing, post)


def step_back(stand, step):
    """Return the step that takes a step back, at the stand to which it leads."""
    check_step(stand, step)
    thing, _ = step
    return (thing, stand.post(thing))


def steps_of(stand, thing):
    """Return the list of the steps of a thing that can be done, in order."""
    k = stand.party().number(thing)
    return [(thing, post) for post in Moves(stand).posts_for(stand.posts(), k)]


def all_steps(stand):
    """Return the list of all steps that can be done, in order."""
    things = stand.party().things()
    return [(things[k], post) for k, post, _ in Moves(stand).after(stand.posts())]


def is_stuck(stand):
    """Tell whether no step can be done at a stand."""
    return all_steps(stand) == []
