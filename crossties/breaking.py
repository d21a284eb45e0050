"""Breaks: a long ring, and two stands for which the number of steps is not right."""

from crossties.longrings import judge_ring, long_ring_of
from crossties.parties import Party
from crossties.stands import Stand


def ring_party(things):
    """Return the party of things that are bonded in a ring, each to the next and the last one to the first."""
    return Party(things, list(zip(things, things[1:] + things[:1])))


def breaking(the_map):
    """Return a break of a map, a triple of a long ring and two stands, or None if the map is good."""
    ring = long_ring_of(the_map)
    if ring is None:
        return None
    party = ring_party([f"t{k}" for k in range(len(ring))])
    return (ring, Stand(the_map, party, ring), Stand(the_map, party, ring[1:] + ring[:1]))


def judge_breaking(the_map, value):
    """Tell whether a value, which may be anything, is a break of a map."""
    if not isinstance(value, tuple) or len(value) != 3:
        return False
    ring, f, g = value
    if not judge_ring(the_map, ring) or not isinstance(f, Stand) or not isinstance(g, Stand):
        return False
    if f.map() != the_map or g.map() != the_map or f.party() != g.party():
        return False
    if f.posts() != ring or g.posts() != ring[1:] + ring[:1]:
        return False
    return f.party() == ring_party(f.party().things())
