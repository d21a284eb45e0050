"""The numbers of stands in their order, by which each can be found without going through all."""

from crossties.errors import TooGreat
from crossties.standcounts import all_rows
from crossties.stands import Stand
from crossties.tallies import Tally


class Numbering:
    """The stands that have each thing at a post of a row of its own, in their order."""

    def __init__(self, the_map, party, rows):
        self._map = the_map
        self._party = party
        self._tally = Tally(the_map, party, rows)
        self._rests = self._tally.rests(self._tally.tables())

    def total(self):
        """Return the number of all these stands."""
        return self._rests[0][()]

    def _counted(self, k, choice):
        """Return for each post of thing number k, in order, the choice behind it and how many stands begin so."""
        rest = self._rests[k + 1]
        rows = []
        for post in self._tally.posts_for(k, choice):
            behind = self._tally.behind(k, choice, post)
            rows.append((post, behind, rest[behind]))
        return rows

    def stand_at(self, number):
        """Return the stand with a number; raise TooGreat if there are not so many."""
        if number >= self.total():
            raise TooGreat()
        posts = []
        choice = ()
        left = number
        for k in range(self._tally.things()):
            rows = self._counted(k, choice)
            place = 0
            while left >= rows[place][2]:
                left -= rows[place][2]
                place += 1
            post, choice, _ = rows[place]
            posts.append(post)
        return Stand(self._map, self._party, posts)

    def number_of(self, posts):
        """Return how many stands come before the one with these posts."""
        number = 0
        choice = ()
        for k, post in enumerate(posts):
            rows = self._counted(k, choice)
            place = [row[0] for row in rows].index(post)
            number += sum([many for _, _, many in rows[:place]])
            choice = rows[place][1]
        return number


def numbering_of(the_map, party):
    """Return the Numbering of all stands of a party on a map."""
    return Numbering(the_map, party, all_rows(the_map, party))


def stand_at(the_map, party, number):
    """Return the stand with a number; raise TooGreat if there are not so many."""
    return numbering_of(the_map, party).stand_at(number)


def stand_number(stand):
    """Return the number of a stand."""
    return numbering_of(stand.map(), stand.party()).number_of(stand.posts())


def next_stand(stand):
    """Return the stand with the next number, or None if it is the last one."""
    numbering = numbering_of(stand.map(), stand.party())
    number = numbering.number_of(stand.posts()) + 1
    return None if number == numbering.total() else numbering.stand_at(number)


def stands_from(the_map, party, *, number=0, many=10):
    """Return the list of the stands from a number on, as many as asked for, or fewer if there are no more."""
    numbering = numbering_of(the_map, party)
    return [numbering.stand_at(n) for n in range(number, min(number + many, numbering.total()))]


def drawn_stand(the_map, party, number):
    """Return the stand whose number is what is left of a number when it is divided by their number, or None."""
    numbering = numbering_of(the_map, party)
    return None if numbering.total() == 0 else numbering.stand_at(number % numbering.total())


def stand_within_at(the_map, party, lists, number):
    """Return the stand with a number among those within lists; raise TooGreat if there are not so many."""
    return Numbering(the_map, party, lists.lists()).stand_at(number)


def number_within(stand, lists):
    """Return the number of a stand among those within lists, or None if it is not within them."""
    rows = lists.lists()
    if not all([post in row for post, row in zip(stand.posts(), rows)]):
        return None
    return Numbering(stand.map(), stand.party(), rows).number_of(stand.posts())
