"""How many stands there are with each thing at a post of a row of its own, thing by thing in the party's order."""

from crossties.nearness import nears_of
from crossties.parties import bonded_numbers


class Tally:
    """The choices of the posts of those things that are waiting, behind no thing, one thing, two things and so on.

    A thing is waiting if it has a bond with a later thing; what is not waiting is left out of a choice, so that
    there are not too many. A table is a dict from choices to numbers.
    """

    def __init__(self, the_map, party, rows):
        self._nears = nears_of(the_map)
        self._rows = [list(row) for row in rows]
        self._looks, self._keeps = waiting_places(bonded_numbers(party))

    def things(self):
        """Return how many things there are."""
        return len(self._rows)

    def posts_for(self, k, choice):
        """Return the list of the posts at which thing number k can be put behind a choice, in the row's order."""
        nears = [self._nears[choice[place]] for place in self._looks[k]]
        return [x for x in self._rows[k] if all([x in near for near in nears])]

    def behind(self, k, choice, post):
        """Return the choice that comes of a choice when thing number k is put at a post."""
        whole = choice + (post,)
        return tuple([whole[place] for place in self._keeps[k]])

    def next_table(self, k, table):
        """Return the table behind thing number k: in how many ways the first things can be put to come to a choice."""
        found = {}
        for choice, many in table.items():
            for post in self.posts_for(k, choice):
                further = self.behind(k, choice, post)
                found[further] = found.get(further, 0) + many
        return found

    def total(self):
        """Return the number of all stands."""
        table = {(): 1}
        for k in range(len(self._rows)):
            table = self.next_table(k, table)
        return table.get((), 0)

    def tables(self):
        """Return the list of the tables behind no thing, behind one thing and so on."""
        rows = [{(): 1}]
        for k in range(len(self._rows)):
            rows.append(self.next_table(k, rows[-1]))
        return rows

    def rests(self, tables):
        """Return a table for each of these tables: in how many ways the other things can be put behind a choice."""
        rows = [{(): 1}]
        for k in range(len(self._rows) - 1, -1, -1):
            rest = rows[-1]
            found = {}
            for choice in tables[k]:
                found[choice] = sum([rest[self.behind(k, choice, x)] for x in self.posts_for(k, choice)])
            rows.append(found)
        return rows[::-1]


def waiting_places(bonded):
    """Return for each thing which places of a choice are bonded to it, and which ones are kept behind it.

    bonded tells for each thing the numbers of the things bonded to it. The thing itself comes to the end of the
    choice before it is asked what is kept.
    """
    looks = []
    keeps = []
    waiting = []
    for k, others in enumerate(bonded):
        looks.append([place for place, n in enumerate(waiting) if n in others])
        whole = waiting + [k]
        kept = [place for place, n in enumerate(whole) if max(bonded[n], default=-1) > k]
        keeps.append(kept)
        waiting = [whole[place] for place in kept]
    return looks, keeps
