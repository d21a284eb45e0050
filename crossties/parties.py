"""Parties: things, and bonds between two of them."""

from crossties.errors import BadParty
from crossties.maps import Map, part_map, pieces_of, with_tie, without_tie
from crossties.wrongparts import wrong_part


class Party:
    """Different things in an order, and bonds between two of them; it never changes."""

    def __init__(self, things, bonds):
        path = wrong_part(things, bonds)
        if path is not None:
            raise BadParty(path)
        # Things and bonds are asked the same and ordered in the same way as posts and ties.
        self._net = Map(things, bonds)

    def things(self):
        """Return the list of the things, in order."""
        return self._net.posts()

    def bonds(self):
        """Return the list of the bonds, in order."""
        return self._net.ties()

    def net(self):
        """Return the map that has the things as its posts and the bonds as its ties."""
        return self._net

    def has_thing(self, value):
        """Tell whether a value, which may be anything, is a thing."""
        return self._net.has_post(value)

    def number(self, thing):
        """Return the number of a thing."""
        return self._net.number(thing)

    def bonded(self, thing):
        """Return the list of the things bonded to a thing, in order."""
        return self._net.tied(thing)

    def are_bonded(self, one, other):
        """Tell whether two things are bonded."""
        return self._net.is_near(one, other) and one != other

    def __eq__(self, other):
        return isinstance(other, Party) and self._net == other._net


def party_of(net):
    """Return the party that has the posts of a map as its things and the ties as its bonds."""
    return Party(net.posts(), net.ties())


def bonded_numbers(party):
    """Return for each thing the list of the numbers of the things bonded to it."""
    return [[party.number(other) for other in party.bonded(thing)] for thing in party.things()]


def party_pieces(party):
    """Return the list of the pieces of a party, each a tuple of things."""
    return pieces_of(party.net())


def party_part(party, things):
    """Return the part of a party with some things."""
    return party_of(part_map(party.net(), things))


def with_bond(party, one, other):
    """Return the party with the same things in which two things are bonded; as it is if they are the same."""
    net = with_tie(party.net(), one, other)
    return party if one == other else party_of(net)


def without_bond(party, one, other):
    """Return the party with the same things in which two things are not bonded; as it is if they are the same."""
    net = without_tie(party.net(), one, other)
    return party if one == other else party_of(net)
