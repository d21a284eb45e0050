"""Whether stands that are compared have equal maps and equal parties."""

from crossties.errors import UnlikeMaps, UnlikeParties


def check_alike(f, others):
    """Raise UnlikeMaps, and then UnlikeParties, if another stand has another map, or another party, than f."""
    for g in others:
        if g.map() != f.map():
            raise UnlikeMaps()
    for g in others:
        if g.party() != f.party():
            raise UnlikeParties()
