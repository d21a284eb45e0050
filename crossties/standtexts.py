"""The texts of parties and stands."""

from crossties.errors import BadStand
from crossties.forms import Reading, list_lexemes, pair_lexemes, written
from crossties.parties import Party
from crossties.stands import Stand


def party_text(party):
    """Return the written text of a party."""
    return written(["party"] + list_lexemes(party.things()) + pair_lexemes(party.bonds()))


def stand_text(stand):
    """Return the written text of a stand."""
    places = list(zip(stand.party().things(), stand.posts()))
    return written(["stand"] + pair_lexemes(places))


def read_party(text):
    """Return the party that a text tells."""
    reading = Reading(text)
    reading.take("party")
    things = reading.take_names()
    bonds = reading.take_pairs()
    reading.take_end()
    return Party(things, bonds)


def read_stand(the_map, party, text):
    """Return the stand of a party on a map that a text tells."""
    reading = Reading(text)
    reading.take("stand")
    places = reading.take_pairs()
    reading.take_end()
    things = party.things()
    if len(places) != len(things):
        raise BadStand(())
    for k, place in enumerate(places):
        if place[0] != things[k]:
            raise BadStand((k,))
    return Stand(the_map, party, [post for _, post in places])
