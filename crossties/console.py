"""Consoles: a house that is spoken to line by line."""

from crossties.errors import BadAct, BadText, NoRoad, NothingDone, UnknownName, UnlikeMaps, UnlikeParties
from crossties.forms import Reading
from crossties.longrings import long_ring_of

# What stands behind the first word of a line; "choice" is a LIST that may be left out.
FORMS = {
    "step": ("name", "name"), "nail": ("name",), "free": ("name",), "bond": ("name", "name"),
    "unbond": ("name", "name"), "tie": ("name", "name"), "untie": ("name", "name"),
    "join": ("name", "name", "list"), "leave": ("name",), "goal": ("choice",), "undo": (), "redo": (),
    "keep": ("name",), "show": (), "gap": (), "left": (), "paid": (), "ring": (), "way": (), "nails": (),
    "at": ("name",), "where": ("name",), "to": ("name",)}


def read_line(line):
    """Return the tuple of the first word of a line and of its members."""
    reading = Reading(line)
    word = reading.take_one_of(list(FORMS))
    members = [take_member(reading, kind) for kind in FORMS[word]]
    reading.take_end()
    return (word, *members)


def take_member(reading, kind):
    """Read a name or a LIST, and return the word, or the tuple of the words; None for a LIST that is left out."""
    if kind == "name":
        return reading.take_name()
    if kind == "choice" and not reading.comes("("):
        return None
    return tuple(reading.take_names())


def number_or_none(number):
    """Return the answer for a number or None."""
    return "none" if number is None else str(number)


def told_pairs(pairs):
    """Return the answer for pairs of a thing and a post."""
    return "; ".join([f"{thing} {post}" for thing, post in pairs])


def act_answer(house, row):
    """Do an act, which the line tells as it is."""
    return str(house.do(row))


def undo_answer(house, _):
    """Undo the last act."""
    return str(house.undo())


def redo_answer(house, _):
    """Redo the act that was undone last."""
    return str(house.redo())


def keep_answer(house, row):
    """Keep the present stand under a name."""
    house.keep(row[1])
    return str(len(house.marks()))


def show_answer(house, _):
    """Tell where the things are."""
    stand = house.stand()
    return told_pairs(list(zip(stand.party().things(), stand.posts())))


def gap_answer(house, _):
    """Tell the gap."""
    return number_or_none(house.gap())


def left_answer(house, _):
    """Tell what is left."""
    return number_or_none(house.left())


def paid_answer(house, _):
    """Tell the number of the steps that are paid."""
    return str(house.paid())


def ring_answer(house, _):
    """Tell a long ring of the map."""
    ring = long_ring_of(house.stand().map())
    return "none" if ring is None else " ".join(ring)


def way_answer(house, _):
    """Tell a way to the goal."""
    way = house.way()
    return "none" if way is None else told_pairs(way)


def nails_answer(house, _):
    """Tell the nailed things."""
    return ", ".join(house.nails())


def at_answer(house, row):
    """Tell the things at a post."""
    return ", ".join(house.stand().things_at(row[1]))


def where_answer(house, row):
    """Tell the post of a thing."""
    return house.stand().post(row[1])


def to_answer(house, row):
    """Tell how far a mark is apart."""
    return str(house.gap_to(row[1]))


ANSWERERS = {
    "step": act_answer, "nail": act_answer, "free": act_answer, "goal": act_answer, "bond": act_answer,
    "unbond": act_answer, "tie": act_answer, "untie": act_answer, "join": act_answer, "leave": act_answer,
    "undo": undo_answer, "redo": redo_answer, "keep": keep_answer, "show": show_answer, "gap": gap_answer,
    "left": left_answer, "paid": paid_answer, "ring": ring_answer, "way": way_answer, "nails": nails_answer,
    "at": at_answer, "where": where_answer, "to": to_answer}


class Console:
    """Speaks for a house, which changes by what it is told."""

    def __init__(self, house):
        self._house = house

    def house(self):
        """Return the very house for which it speaks."""
        return self._house

    def say(self, line):
        """Do what a line says, and return the answer."""
        try:
            row = read_line(line)
            answerer = ANSWERERS[row[0]]
            return answerer(self._house, row)
        except BadText as text_error:
            return f"no BadText {text_error.place}"
        except BadAct as act_error:
            return f"no BadAct {act_error.word}"
        except NoRoad as road_error:
            return f"no NoRoad {road_error.thing}"
        except NothingDone:
            return "no NothingDone"
        except UnknownName:
            return "no UnknownName"
        except UnlikeMaps:
            return "no UnlikeMaps"
        except UnlikeParties:
            return "no UnlikeParties"
