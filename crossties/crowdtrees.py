"""Crowd trees: pairs of crowds by which the crowds of each post hang together."""

from crossties.crowds import crowds_of, grown_crowds
from crossties.groups import Groups
from crossties.peelings import good
from crossties.words import is_number
from crossties.wrongparts import is_list


def crowd_tree_of(the_map):
    """Return a crowd tree of a good map, a list of pairs of numbers of crowds, ascending."""
    crowds, pairs = grown_crowds(the_map)
    numbers = {crowd: k for k, crowd in enumerate(sorted(crowds))}
    rows = [sorted([numbers[crowds[i]], numbers[crowds[j]]]) for i, j in pairs]
    return sorted([(i, j) for i, j in rows])


def common_posts(one, other):
    """Return the tuple of the posts that two crowds have in common, in the map's order."""
    others = {x: True for x in other}
    return tuple([x for x in one if x in others])


def is_crowd_pair(value, many):
    """Tell whether a value, which may be anything, is a pair of numbers below many, the lesser one first."""
    if not isinstance(value, tuple) or len(value) != 2:
        return False
    i, j = value
    return is_number(i) and is_number(j) and i < j < many


def close_no_ring(pairs, many):
    """Tell whether pairs of numbers below many are different and close no ring."""
    groups = Groups(many)
    for i, j in pairs:
        if not groups.unite(i, j):
            return False
    return True


def judge_crowd_tree(the_map, value):
    """Tell whether a value, which may be anything, is a crowd tree of a map, as a list or a tuple."""
    if not good(the_map) or not is_list(value):
        return False
    crowds = crowds_of(the_map)
    if not all([is_crowd_pair(pair, len(crowds)) for pair in value]):
        return False
    commons = [common_posts(crowds[i], crowds[j]) for i, j in value]
    if () in commons or not close_no_ring(value, len(crowds)):
        return False
    # Of such pairs just those are a crowd tree that have this many posts in common.
    greatest = sum([len(crowd) for crowd in crowds]) - len(the_map.posts())
    return sum([len(common) for common in commons]) == greatest


def count_crowd_trees(the_map):
    """Return how many crowd trees a good map has, if their pairs have no order."""
    crowds = crowds_of(the_map)
    pairs = crowd_tree_of(the_map)
    commons = [common_posts(crowds[i], crowds[j]) for i, j in pairs]
    homes = places_of(the_map, crowds)
    links = places_of(the_map, commons)
    many = 1
    for common in {row: True for row in commons}:
        near = [k for k in homes[common[0]] if has_all(crowds[k], common)]
        closer = [k for k in links[common[0]] if has_all(commons[k], common) and commons[k] != common]
        many *= count_pairings(near, [pairs[k] for k in closer])
    return many


def places_of(the_map, rows):
    """Return a dict from each post of a map to the list of the numbers of the rows that have it."""
    places = {post: [] for post in the_map.posts()}
    for k, row in enumerate(rows):
        for post in row:
            places[post].append(k)
    return places


def has_all(row, posts):
    """Tell whether a row has all of some posts."""
    return all([post in row for post in posts])


def count_pairings(near, closer):
    """Return in how many ways those pairs of a crowd tree can be chosen that have just certain posts in common.

    The crowds that have these posts are near, and they hang together by the tree; closer are those of its pairs
    that have further posts in common. These alone put the crowds into groups, the same ones for every crowd tree,
    and two crowds of different groups have just those posts in common. So all pairs will do that put the groups
    together like a tree, and there are as many ways to do so as the sizes of the groups, multiplied, times the
    number of all these crowds once for each group but two.
    """
    places = {k: place for place, k in enumerate(near)}
    groups = Groups(len(near))
    for i, j in closer:
        groups.unite(places[i], places[j])
    sizes = groups.sizes()
    many = 1
    for size in sizes:
        many *= size
    for _ in sizes[2:]:
        many *= len(near)
    return many
