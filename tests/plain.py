"""What the document calls things, written down by its words, however long it takes; the tests compare with it."""

import functools
import itertools


def near_pairs(posts, ties):
    return {(x, x) for x in posts} | set(ties) | {(y, x) for x, y in ties}


def are_near(near, posts):
    return all((x, y) in near for x in posts for y in posts)


def can_be_peeled(posts, ties, post):
    near = near_pairs(posts, ties)
    return are_near(near, [x for x in posts if (post, x) in near])


def is_peeling(posts, ties, row):
    near = near_pairs(posts, ties)
    return all(are_near(near, [y for y in row[k:] if (x, y) in near]) for k, x in enumerate(row))


def peelings(posts, ties):
    """All peelings; permutations come in the order of the places of their members."""
    return [row for row in itertools.permutations(posts) if is_peeling(posts, ties, row)]


def is_ring(posts, ties, row):
    near = near_pairs(posts, ties)
    return len(row) >= 3 and len(set(row)) == len(row) and all(
        (x, y) in near for x, y in zip(row, row[1:] + row[:1]))


def cross_ties(posts, ties, ring):
    sides = set(zip(ring, ring[1:] + ring[:1]))
    return [(x, y) for x, y in ties if x in ring and y in ring and (x, y) not in sides and (y, x) not in sides]


def is_long_ring(posts, ties, row):
    return len(row) >= 4 and is_ring(posts, ties, row) and cross_ties(posts, ties, row) == []


def long_rings(posts, ties):
    rings = []
    for many in range(4, len(posts) + 1):
        for row in itertools.permutations(posts, many):
            numbers = [posts.index(x) for x in row]
            if numbers[0] == min(numbers) and numbers[1] < numbers[-1] and is_long_ring(posts, ties, row):
                rings.append(row)
    return sorted(rings, key=lambda row: [posts.index(x) for x in row])


def choices(posts):
    """All tuples of at least one post, in the order of the posts."""
    return [row for many in range(1, len(posts) + 1) for row in itertools.combinations(posts, many)]


def crowds(posts, ties):
    near = near_pairs(posts, ties)
    rows = [row for row in choices(posts) if are_near(near, row)]
    rows = [row for row in rows if not any(set(row) < set(other) for other in rows)]
    return sorted(rows, key=lambda row: [posts.index(x) for x in row])


def closes_no_ring(pairs):
    """Whether pairs can be taken off one after another, each when one of its two is in no other pair any more."""
    left = list(pairs)
    while left:
        ends = [end for pair in left for end in pair]
        free = [pair for pair in left if ends.count(pair[0]) == 1 or ends.count(pair[1]) == 1]
        if not free:
            return False
        left.remove(free[0])
    return True


def hang_together(numbers, pairs):
    met = numbers[:1]
    for _ in numbers:
        met += [k for k in numbers if k not in met and any((k, n) in pairs or (n, k) in pairs for n in met)]
    return len(met) == len(numbers)


def is_crowd_tree(posts, rows, pairs):
    """Whether different pairs of numbers of the crowds, which are rows, are a crowd tree."""
    return closes_no_ring(pairs) and all(set(rows[i]) & set(rows[j]) for i, j in pairs) and all(
        hang_together([k for k, row in enumerate(rows) if x in row], pairs) for x in posts)


def crowd_trees(posts, ties):
    rows = crowds(posts, ties)
    pairs = list(itertools.combinations(range(len(rows)), 2))
    return [tree for many in range(len(rows) + 1) for tree in itertools.combinations(pairs, many)
            if is_crowd_tree(posts, rows, tree)]


def distances(posts, ties):
    """A dict from each pair of posts that hang together to their distance."""
    return found_distances(tuple(posts), tuple(ties))


@functools.lru_cache(maxsize=1000)
def found_distances(posts, ties):
    near = near_pairs(posts, ties)
    found = {(x, x): 0 for x in posts}
    for d in range(1, len(posts)):
        reached = [(x, z) for x, y in found for z in posts if (y, z) in near and (x, z) not in found]
        found.update({pair: d for pair in reached})
    return found


def roads(posts, ties, x, y):
    """All roads from x to y, in order."""
    near = near_pairs(posts, ties)
    many = distances(posts, ties).get((x, y))
    if many is None:
        return []
    rows = [(x,)]
    for _ in range(many):
        rows = [row + (z,) for row in rows for z in posts if z != row[-1] and (row[-1], z) in near]
    return [row for row in rows if row[-1] == y]


def ties_within(ties, row):
    return [(x, y) for x, y in ties if x in row and y in row]


def is_open(posts, ties, row):
    """Whether between any two posts of a list that are in one piece some road has all its posts in the list."""
    return all(
        any(set(road) <= set(row) for road in roads(posts, ties, x, y))
        for x, y in distances(posts, ties) if x in row and y in row)


def loose(posts, ties, things, bonds, row):
    """The bonds whose things are not at near posts; a world is told by its posts, ties, things and bonds."""
    near = near_pairs(posts, ties)
    return [(u, v) for u, v in bonds if (row[things.index(u)], row[things.index(v)]) not in near]


def stands(posts, ties, things, bonds):
    """All stands, as tuples of posts."""
    rows = itertools.product(posts, repeat=len(things))
    return [row for row in rows if loose(posts, ties, things, bonds, row) == []]


def after(world, row, step):
    """The posts behind a step."""
    k = world[2].index(step[0])
    return row[:k] + (step[1],) + row[k + 1:]


def steps(world, row):
    """All steps that can be done at a stand, in order."""
    posts, ties, things, _ = world
    near = near_pairs(posts, ties)
    pairs = [(thing, post) for k, thing in enumerate(things) for post in posts
             if post != row[k] and (row[k], post) in near]
    return [step for step in pairs if loose(*world, after(world, row, step)) == []]


def walks(world, row):
    """A dict from each stand to which scripts lead from a stand to its least number of steps."""
    found = {row: 0}
    rim = [row]
    while rim:
        further = {}
        for here in rim:
            for step in steps(world, here):
                there = after(world, here, step)
                if there not in found:
                    further[there] = found[here] + 1
        found.update(further)
        rim = list(further)
    return found


def leads(world, row, script):
    """The posts to which a script leads, or None if it is none."""
    for step in script:
        if step not in steps(world, row):
            return None
        row = after(world, row, step)
    return row


def in_order(world, rows):
    """Stands by the numbers of their posts."""
    return sorted(rows, key=lambda row: [world[0].index(x) for x in row])


def orders(roads_by_thing):
    """All tuples of things in which each one stands as often as its road has steps, in the order of the things."""
    things = list(roads_by_thing)
    rows = [()]
    for _ in range(sum(len(road) - 1 for road in roads_by_thing.values())):
        rows = [row + (u,) for row in rows for u in things if row.count(u) < len(roads_by_thing[u]) - 1]
    return rows


def order_script(roads_by_thing, order):
    """The steps that an order of steps tells."""
    return [(u, roads_by_thing[u][order[:k + 1].count(u)]) for k, u in enumerate(order)]


def turns(order):
    """A dict from each step (thing, number) to its place in an order."""
    return {(u, order[:k + 1].count(u)): k for k, u in enumerate(order)}


def doable_orders(world, row, roads):
    """All orders of steps that are a script from a stand on, in the order of the things."""
    by_thing = dict(zip(world[2], roads))
    return [order for order in orders(by_thing) if leads(world, row, order_script(by_thing, order)) is not None]
