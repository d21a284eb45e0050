"""Tables, row parties and ring parties: S9.2, S9.9 and the interface, crossties/matrices.py."""

import copy
import itertools
import random

from crossties.maps import Map
from crossties.matrices import near_table, ring_count, row_count, row_counts, table_power, table_product

from tests import plain
from tests.samples import BAD_MAPS, GOOD_MAPS, Case, all_small_maps, band, plain_map, ring_of_posts, some, ties_of, words

TIES = [("a", "b"), ("a", "c"), ("b", "c"), ("c", "d")]
NEAR = [[1, 1, 1, 0], [1, 1, 1, 0], [1, 1, 1, 1], [0, 0, 1, 1]]
SQUARE = [[3, 3, 3, 1], [3, 3, 3, 1], [3, 3, 4, 2], [1, 1, 2, 2]]


def sample():
    return Map(list("abcd"), TIES)


def product(one, other):
    many = len(one)
    table = [[0] * many for _ in range(many)]
    for x, y, z in itertools.product(range(many), repeat=3):
        table[x][y] += one[x][z] * other[z][y]
    return table


def unit(many):
    return [[int(x == y) for y in range(many)] for x in range(many)]


def random_table(choose, many, digits=3):
    return [[choose.randrange(-(10 ** digits), 10 ** digits) for _ in range(many)] for _ in range(many)]


def row_bonds(things):
    return list(zip(things, things[1:]))


class ExampleTest(Case):
    def test_the_tables(self):
        self.assert_same(near_table(sample()), NEAR)
        self.assert_same(table_power(NEAR, 2), SQUARE)
        self.assert_same(table_product(NEAR, NEAR), SQUARE)
        self.assert_same(row_counts(sample(), 3), SQUARE)

    def test_the_counts(self):
        self.assert_same(row_count(sample(), 3), 38)
        self.assert_same(ring_count(sample(), 3), 34)
        self.assertEqual([sum(row) for row in SQUARE], [10, 10, 12, 6])


class TablesTest(Case):
    def test_products(self):
        choose = random.Random(91)
        for many in [0, 1, 1, 2, 2, 3, 5, 8]:
            one, other = random_table(choose, many), random_table(choose, many)
            self.assert_same(table_product(one, other), product(one, other))
            self.assert_same(table_product(unit(many), other), other)
            self.assert_same(table_product(one, unit(many)), one)

    def test_powers(self):
        choose = random.Random(92)
        for many in [0, 1, 2, 3, 4]:
            table = random_table(choose, many)
            wanted = unit(many)
            for n in range(24):
                self.assert_same(table_power(table, n), wanted)
                wanted = product(wanted, table)

    def test_no_rows(self):
        for n in [0, 1, 2, 60]:
            self.assert_same(table_power([], n), [])
            self.assert_same(table_power((), n), [])
        self.assert_same(table_product([], ()), [])
        self.assert_same(near_table(Map([], [])), [])

    def test_great_tables(self):
        choose = random.Random(93)
        table = random_table(choose, 30, 40)
        self.assert_same(table_power(table, 0), unit(30))
        self.assert_same(table_power(table, 3), product(product(table, table), table))
        half = table_power(table, 30)
        self.assertEqual(table_power(table, 60), table_product(half, half))
        self.assertEqual(table_power(table, 59), table_product(half, table_power(table, 29)))
        self.assert_same(table_power([[10 ** 39]], 60), [[10 ** (39 * 60)]])
        self.assert_same(table_power([[0, 1], [0, 0]], 60), [[0, 0], [0, 0]])

    def test_tuples_stand_for_lists(self):
        table = tuple(tuple(row) for row in NEAR)
        self.assert_same(table_product(table, NEAR), SQUARE)
        self.assert_same(table_product(list(table), table), SQUARE)
        for n, wanted in [(0, unit(4)), (1, NEAR), (2, SQUARE)]:
            self.assert_same(table_power(table, n), wanted)
            self.assert_same(table_power(list(table), n), wanted)

    def test_what_is_passed_stays_and_what_is_returned_is_new(self):
        table = copy.deepcopy(NEAR)
        calls = [lambda: table_product(table, table), lambda: near_table(sample()), lambda: row_counts(sample(), 2)]
        calls += [lambda: row_counts(sample(), 1), *[lambda n=n: table_power(table, n) for n in range(5)]]
        for call in calls:
            first = call()
            wanted = copy.deepcopy(first)
            self.assertEqual(len({id(row) for row in [*first, *table, first]}), 9)
            for row in first:
                row.clear()
            first.append(None)
            self.assert_same(call(), wanted)
            self.assert_same(table, NEAR)


class CountsTest(Case):
    def test_small_maps(self):
        for posts, ties in some(all_small_maps(4), 50, 94):
            made = Map(posts, ties)
            near = plain.near_pairs(posts, ties)
            self.assert_same(near_table(made), [[int((x, y) in near) for y in posts] for x in posts])
            self.assert_same(row_count(made, 0), 1)
            for n in [1, 2, 3, 4]:
                things = words(n, "t")
                rows = plain.stands(posts, ties, things, row_bonds(things))
                wanted = [[sum((row[0], row[-1]) == (x, y) for row in rows) for y in posts] for x in posts]
                self.assert_same(row_counts(made, n), wanted)
                self.assert_same(row_count(made, n), len(rows))
                if n >= 3:
                    ring = plain.stands(posts, ties, things, row_bonds(things) + [(things[0], things[-1])])
                    self.assert_same(ring_count(made, n), len(ring))

    def test_no_posts(self):
        made = Map([], [])
        self.assert_same(row_count(made, 0), 1)
        for n in [1, 2, 61]:
            self.assert_same(row_count(made, n), 0)
            self.assert_same(row_counts(made, n), [])
        for n in [3, 60]:
            self.assert_same(ring_count(made, n), 0)

    def test_maps_of_which_all_is_known(self):
        for n in [1, 2, 60, 61]:
            self.assert_same(row_count(plain_map(16), n), 16)
            self.assert_same(row_count(Map(words(30), ties_of(words(30))), n), 30 ** n)
            self.assert_same(row_counts(plain_map(5), n), unit(5))
        for n in [3, 4, 59, 60]:
            self.assert_same(ring_count(plain_map(16), n), 16)
            self.assert_same(ring_count(Map(words(30), ties_of(words(30))), n), 30 ** n)
            self.assert_same(ring_count(Map(list("abc"), [("a", "b")]), n), 2 ** n + 1)

    def test_a_row_of_three_posts(self):
        """How many row parties have the last thing at an end of the row of posts, and how many in the middle."""
        end, middle = 1, 1
        for n in range(1, 62):
            self.assert_same(row_count(band(3, 1, list("abc")), n), 2 * end + middle)
            end, middle = end + middle, 2 * end + middle

    def test_a_ring_of_posts(self):
        for many in [4, 5, 16]:
            made = ring_of_posts(many)
            for n in [1, 2, 30, 61]:
                self.assert_same(row_count(made, n), many * 3 ** (n - 1))

    def test_greater_maps(self):
        for made in [*GOOD_MAPS[::4], *BAD_MAPS]:
            table = near_table(made)
            power = table_power(table, 12)
            self.assert_same(ring_count(made, 12), sum(power[k][k] for k in range(len(power))))
            self.assert_same(row_counts(made, 13), power)
            self.assert_same(row_count(made, 13), sum(map(sum, power)))
            ends = table_power(table, 60)
            self.assert_same(row_count(made, 61), sum(map(sum, ends)))
            self.assert_same(ring_count(made, 60), sum(ends[k][k] for k in range(len(ends))))
