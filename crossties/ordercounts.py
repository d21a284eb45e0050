"""How many orders of steps can be done, and the number that each of them has."""

from crossties.errors import TooGreat
from crossties.pairs import check_all, number_pairs_of, order_script


class Moments:
    """The moments of roads, and how many doable orders lead on from each of them."""

    def __init__(self, f, roads):
        self._last = tuple([len(road) - 1 for road in roads])
        self._first = tuple([0 for _ in roads])
        self._needs = needed_steps(f, roads)
        self._counts = {}
        for rim in self._rims()[::-1]:
            for moment in rim:
                self._counts[moment] = self._count_from(moment)

    def _rims(self):
        """Return the lists of the moments of no step, of one step, of two steps and so on."""
        rims = [[self._first]]
        for _ in range(sum(self._last)):
            rims.append(list({self.after(moment, k): True for moment in rims[-1] for k in self.movable(moment)}))
        return rims

    def _count_from(self, moment):
        """Return how many orders lead on from a moment, if it is known for those that are one step further."""
        if moment == self._last:
            return 1
        return sum([self._counts[self.after(moment, k)] for k in self.movable(moment)])

    def movable(self, moment):
        """Return the list of the numbers of the things whose next step can be done at a moment."""
        return [k for k, done in enumerate(moment) if done < self._last[k] and self._is_free(moment, (k, done + 1))]

    def _is_free(self, moment, step):
        """Tell whether all steps that must be ahead of a step are done at a moment."""
        return all([moment[n] >= j for n, j in self._needs.get(step, [])])

    def after(self, moment, k):
        """Return the moment to which the next step of thing number k leads."""
        return moment[:k] + (moment[k] + 1,) + moment[k + 1:]

    def moments(self):
        """Return the list of all moments, ascending."""
        return sorted(list(self._counts))

    def first(self):
        """Return the moment at which no step is done."""
        return self._first

    def many(self, moment):
        """Return how many doable orders lead on from a moment."""
        return self._counts[moment]

    def total(self):
        """Return the number of all doable orders."""
        return self._counts[self._first]

    def numbers_at(self, number):
        """Return the numbers of the things, turn by turn, in the doable order with a number, which must be one."""
        row = []
        left = number
        moment = self._first
        while moment != self._last:
            choice = [(k, self.after(moment, k)) for k in self.movable(moment)]
            place = 0
            while left >= self._counts[choice[place][1]]:
                left -= self._counts[choice[place][1]]
                place += 1
            k, moment = choice[place]
            row.append(k)
        return row

    def number_of(self, row):
        """Return how many doable orders come before one, which is told by the numbers of its things."""
        number = 0
        moment = self._first
        for k in row:
            number += sum([self._counts[self.after(moment, n)] for n in self.movable(moment) if n < k])
            moment = self.after(moment, k)
        return number


def needed_steps(f, roads):
    """Return a dict from steps to the lists of the steps that must be ahead, all with the numbers of their things."""
    needs = {}
    for first, second in number_pairs_of(f, roads):
        needs.setdefault(second, []).append(first)
    return needs


def checked_moments(f, g, roads):
    """Return the Moments of roads; raise the errors that come first in each function here."""
    check_all(f, g, roads)
    return Moments(f, roads)


def named(f, row):
    """Return the tuple of the things with some numbers."""
    things = f.party().things()
    return tuple([things[k] for k in row])


def count_orders(f, g, roads):
    """Return the number of doable orders."""
    return checked_moments(f, g, roads).total()


def moments(f, g, roads):
    """Return the list of all moments, ascending."""
    return checked_moments(f, g, roads).moments()


def order_at(f, g, roads, number):
    """Return the doable order with a number; raise TooGreat if there are not so many."""
    found = checked_moments(f, g, roads)
    if number >= found.total():
        raise TooGreat()
    return named(f, found.numbers_at(number))


def order_number(f, g, roads, value):
    """Return the number of a doable order; raise BadOrder where it cannot go on, as order_script does."""
    order_script(f, g, roads, value)
    return Moments(f, roads).number_of([f.party().number(thing) for thing in value])


def next_order(f, g, roads, value):
    """Return the doable order behind one, or None if it is the last one; raise BadOrder likewise."""
    number = order_number(f, g, roads, value) + 1
    found = Moments(f, roads)
    return None if number == found.total() else named(f, found.numbers_at(number))


def drawn_order(f, g, roads, number):
    """Return the doable order whose number is what is left of a number when it is divided by their number."""
    found = checked_moments(f, g, roads)
    return named(f, found.numbers_at(number % found.total()))


def orders_beginning(f, g, roads, value):
    """Return how many doable orders begin with the members of a list of anything."""
    found = checked_moments(f, g, roads)
    party = f.party()
    moment = found.first()
    for thing in value:
        if not party.has_thing(thing) or party.number(thing) not in found.movable(moment):
            return 0
        moment = found.after(moment, party.number(thing))
    return found.many(moment)
