"""Tables of numbers, and how many stands parties in a row or in a ring have."""


def near_table(the_map):
    """Return the near table of a map: 1 where two posts are near, and 0 elsewhere."""
    posts = the_map.posts()
    return [[1 if the_map.is_near(x, y) else 0 for y in posts] for x in posts]


def table_product(one, other):
    """Return the product of two tables."""
    columns = [[row[y] for row in other] for y in range(len(other))]
    return [[sum([a * b for a, b in zip(row, column)]) for column in columns] for row in one]


def unit_table(many):
    """Return the power 0 of tables with so many rows."""
    return [[1 if x == y else 0 for y in range(many)] for x in range(many)]


def table_power(table, n):
    """Return the power n of a table."""
    power = unit_table(len(table))
    square = table
    left = n
    # The squares, the squares of these and so on have the powers 1, 2, 4 ..; those that n is the sum of are taken.
    while left > 0:
        if left % 2 == 1:
            power = table_product(power, square)
        left //= 2
        if left > 0:
            square = table_product(square, square)
    return power


def row_counts(the_map, n):
    """Return the table of how many stands a row party of n things has with the first and the last one at two posts."""
    return table_power(near_table(the_map), n - 1)


def row_count(the_map, n):
    """Return the number of the stands of a row party of n things."""
    return 1 if n == 0 else sum([sum(row) for row in row_counts(the_map, n)])


def ring_count(the_map, n):
    """Return the number of the stands of a ring party of n things."""
    power = table_power(near_table(the_map), n)
    return sum([power[k][k] for k in range(len(power))])
