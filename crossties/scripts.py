"""Scripts: steps that can be done one after another; their prices and their texts."""

from crossties.errors import BadStep
from crossties.forms import Reading, pair_lexemes, written
from crossties.steps import done, is_step, step_back
from crossties.wrongparts import is_list


def stands_while_done(stand, script):
    """Return the stands that a script comes through, as far as its members are steps that can be done then."""
    stands = [stand]
    for step in script:
        if not is_step(stands[-1], step):
            return stands
        stands.append(done(stands[-1], step))
    return stands


def stands_along(stand, script):
    """Return the list of the stands that a script comes through, the first one and the one after each step."""
    stands = stands_while_done(stand, script)
    if len(stands) <= len(script):
        raise BadStep(len(stands) - 1)
    return stands


def walked(stand, script):
    """Return the stand to which a script leads."""
    return stands_along(stand, script)[-1]


def script_back(stand, script):
    """Return the list of the steps of a script taken back."""
    stands = stands_along(stand, script)
    return [step_back(before, step) for before, step in zip(stands, script)][::-1]


def first_bad(stand, value):
    """Return None if a value, which may be anything, is a script; else the number of its first wrong member."""
    if not is_list(value):
        return 0
    many = len(stands_while_done(stand, value)) - 1
    return None if many == len(value) else many


def price(party, prices, script):
    """Return the price of a script at some prices, whether its steps can be done or not."""
    return sum([prices[party.number(thing)] for thing, _ in script])


def script_text(script):
    """Return the written text of a list of pairs of two words."""
    return written(["script"] + pair_lexemes(script))


def read_script(text):
    """Return the list of the pairs that the text of a script tells."""
    reading = Reading(text)
    reading.take("script")
    pairs = reading.take_pairs()
    reading.take_end()
    return pairs
