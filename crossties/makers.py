"""Maps made of kinds, of spans, of windows and of subtrees, and their made peelings; subtree forms of good maps."""

from crossties.crowds import crowds_of
from crossties.crowdtrees import crowd_tree_of
from crossties.errors import BadMade
from crossties.maps import Map
from crossties.words import is_whole, is_word
from crossties.wrongparts import is_list, wrong_choice


def is_row(value, many):
    """Tell whether a value, which may be anything, is a tuple with so many members."""
    return isinstance(value, tuple) and len(value) == many


def wrong_kinds(pairs):
    """Return the path of the first wrong part of what should be kinds, and may be anything, or None."""
    if not is_list(pairs):
        return ()
    elders = {}
    for k, pair in enumerate(pairs):
        if not is_row(pair, 2):
            return (k,)
        if not is_word(pair[0]) or pair[0] in elders:
            return (k, 0)
        elders[pair[0]] = pair[1]
    for k, pair in enumerate(pairs):
        elder = pair[1]
        if elder is not None and (not is_word(elder) or elder not in elders):
            return (k, 1)
    for k, pair in enumerate(pairs):
        if comes_back(elders, pair[0]):
            return (k, 1)
    return None


def comes_back(elders, kind):
    """Tell whether one comes back to a kind by going from elder to elder."""
    here = elders[kind]
    # Behind so many steps one goes round, if at all, past other kinds.
    for _ in elders:
        if here is None or here == kind:
            break
        here = elders[here]
    return here == kind


def elders_of(pairs):
    """Return a dict from each kind to its elder or None, in order; raise BadMade if a value are no kinds."""
    path = wrong_kinds(pairs)
    if path is not None:
        raise BadMade(path)
    return {kind: elder for kind, elder in pairs}


def above(elders, kind):
    """Return the list of the elder of a kind, the elder's elder and so on."""
    row = []
    here = elders[kind]
    while here is not None:
        row.append(here)
        here = elders[here]
    return row


def map_of_kinds(pairs):
    """Return the map of kinds, in which each kind is tied to those above it."""
    elders = elders_of(pairs)
    return Map(list(elders), [(kind, elder) for kind in elders for elder in above(elders, kind)])


def kinds_peeling(pairs):
    """Return the made peeling of the map of kinds: those with the most elders above them first."""
    elders = elders_of(pairs)
    return tuple(sorted(list(elders), key=lambda kind: -len(above(elders, kind))))


def wrong_span(span, earlier):
    """Return the path within a value of what is wrong with it as a span behind some words, or None."""
    if not is_row(span, 3):
        return ()
    word, low, high = span
    if not is_word(word) or word in earlier:
        return (0,)
    if not is_whole(low):
        return (1,)
    if not is_whole(high):
        return (2,)
    return () if low > high else None


def checked_spans(spans):
    """Return the list of some spans; raise BadMade if a value, which may be anything, are none."""
    if not is_list(spans):
        raise BadMade(())
    earlier = {}
    for k, span in enumerate(spans):
        path = wrong_span(span, earlier)
        if path is not None:
            raise BadMade((k,) + path)
        earlier[span[0]] = True
    return list(spans)


def map_of_spans(spans):
    """Return the map of spans, in which two are tied if some integer is in both."""
    rows = checked_spans(spans)
    ties = []
    for k, (word, low, high) in enumerate(rows):
        ties += [(word, other) for other, least, most in rows[:k] if low <= most and least <= high]
    return Map([word for word, _, _ in rows], ties)


def spans_peeling(spans):
    """Return the made peeling of the map of spans: those with the least high number first."""
    return tuple([word for word, _, _ in sorted(checked_spans(spans), key=lambda span: span[2])])


def map_of_window(n, r):
    """Return the window map of n posts, in which two are tied if their numbers are at most r apart."""
    posts = list(window_peeling(n, r))
    return Map(posts, [(posts[i], posts[j]) for i in range(n) for j in range(i + 1, min(n, i + r + 1))])


def window_peeling(n, r):
    """Return the made peeling of the window map, which is the same for each r."""
    return tuple([f"v{k}" for k in range(n)])


def wrong_subtree(parents, pair, earlier):
    """Return the path within a value of what is wrong with it as a word and a subtree behind some words, or None."""
    if not is_row(pair, 2):
        return ()
    word, nodes = pair
    if not is_word(word) or word in earlier:
        return (0,)
    if not isinstance(nodes, tuple) or nodes == ():
        return (1,)
    j = wrong_choice(nodes, parents)
    if j is not None:
        return (1, j)
    return (1,) if len(tops_of(parents, nodes)) > 1 else None


def tops_of(parents, nodes):
    """Return the list of those nodes of a tuple that have no parent in it."""
    return [node for node in nodes if parents[node] not in nodes]


def parents_of(forest, subtrees):
    """Return a dict from each node to its parent or None; raise BadMade if values are no forest and subtrees."""
    path = wrong_kinds(forest)
    if path is not None:
        raise BadMade((0,) + path)
    if not is_list(subtrees):
        raise BadMade((1,))
    parents = elders_of(forest)
    earlier = {}
    for k, pair in enumerate(subtrees):
        path = wrong_subtree(parents, pair, earlier)
        if path is not None:
            raise BadMade((1, k) + path)
        earlier[pair[0]] = True
    return parents


def map_of_subtrees(forest, subtrees):
    """Return the map of subtrees, in which two are tied if they have a node in common."""
    parents_of(forest, subtrees)
    ties = []
    for k, (word, nodes) in enumerate(subtrees):
        ties += [(word, other) for other, others in subtrees[:k] if any([node in others for node in nodes])]
    return Map([word for word, _ in subtrees], ties)


def subtrees_peeling(forest, subtrees):
    """Return the made peeling of the map of subtrees: those whose tops have the most nodes above them first."""
    parents = parents_of(forest, subtrees)
    depths = {word: len(above(parents, tops_of(parents, nodes)[0])) for word, nodes in subtrees}
    return tuple(sorted(list(depths), key=lambda word: -depths[word]))


def subtree_form(the_map):
    """Return a subtree form of a good map, a forest and subtrees, made of a crowd tree of it."""
    crowds = crowds_of(the_map)
    names = [f"c{k}" for k in range(len(crowds))]
    parents = crowd_parents(len(crowds), crowd_tree_of(the_map))
    forest = [(names[k], None if parents[k] is None else names[parents[k]]) for k in range(len(crowds))]
    homes = {post: [] for post in the_map.posts()}
    for name, crowd in zip(names, crowds):
        for post in crowd:
            homes[post].append(name)
    return forest, [(post, tuple(row)) for post, row in homes.items()]


def crowd_parents(many, pairs):
    """Return a dict from the number of each crowd to that of its parent by a crowd tree, or None."""
    linked = [[] for _ in range(many)]
    for i, j in pairs:
        linked[i].append(j)
        linked[j].append(i)
    parents = {}
    for k in range(many):
        if k not in parents:
            parents[k] = None
            waiting = [k]
            while waiting:
                here = waiting.pop()
                further = [n for n in linked[here] if n not in parents]
                for n in further:
                    parents[n] = here
                waiting.extend(further)
    return parents
