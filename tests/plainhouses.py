"""What a house is by the words of part 10, over plain lists, sets and dicts; the tests compare with it."""

import copy

from crossties.words import is_word

from tests import plain

MEMBERS = {
    "step": 2, "nail": 1, "free": 1, "goal": 1, "bond": 2, "unbond": 2, "tie": 2, "untie": 2, "join": 3, "leave": 1}
TURNS = ["goal", "tie", "untie", "join", "leave"]


class PlainState:
    """The parts of a state; places and goal are dicts from things to posts, ties and bonds are sets of sets."""

    def __init__(self, world, row):
        posts, ties, things, bonds = world
        self.posts = list(posts)
        self.ties = {frozenset(tie) for tie in ties}
        self.things = list(things)
        self.bonds = {frozenset(bond) for bond in bonds}
        self.places = dict(zip(things, row))
        self.nails = set()
        self.goal = None

    def world(self):
        ties = [(x, y) for k, x in enumerate(self.posts) for y in self.posts[k + 1:] if {x, y} in self.ties]
        bonds = [(u, v) for k, u in enumerate(self.things) for v in self.things[k + 1:] if {u, v} in self.bonds]
        return self.posts, ties, self.things, bonds

    def told(self):
        """What can be compared with another state."""
        row = tuple(self.places[thing] for thing in self.things)
        goal = None if self.goal is None else tuple(self.goal[thing] for thing in self.things)
        return (*self.world(), row, tuple(thing for thing in self.things if thing in self.nails), goal)

    def near(self, x, y):
        return x == y or frozenset((x, y)) in self.ties

    def stands(self):
        """The places, and those of the goal, each with the word for what is wrong there."""
        return [(self.places, "near")] + ([] if self.goal is None else [(self.goal, "goal")])

    def gap(self):
        if self.goal is None:
            return None
        far = plain.distances(*self.world()[:2])
        row = [far.get((self.places[thing], self.goal[thing])) for thing in self.things]
        return None if None in row else sum(row)

    def is_bad(self):
        return plain.long_rings(*self.world()[:2]) != []


def is_one_of(value, names):
    return isinstance(value, str) and value in names


def word(state, act):
    """The word that tells why a value is no act, or None."""
    if not isinstance(act, tuple) or act == () or not is_one_of(act[0], list(MEMBERS)):
        return "form"
    if len(act) != 1 + MEMBERS[act[0]]:
        return "form"
    return FINDERS[act[0]](state, *act[1:])


def step_word(state, thing, post):
    if not is_one_of(thing, state.things) or not is_one_of(post, state.posts):
        return "step"
    if frozenset((state.places[thing], post)) not in state.ties or state.places[thing] == post:
        return "step"
    others = [other for other in state.things if frozenset((thing, other)) in state.bonds]
    if not all(state.near(state.places[other], post) for other in others):
        return "step"
    return "nail" if thing in state.nails else None


def nail_word(state, thing):
    if not is_one_of(thing, state.things) or thing in state.nails:
        return "thing"
    return "goal" if state.goal is not None and state.goal[thing] != state.places[thing] else None


def free_word(state, thing):
    return None if is_one_of(thing, list(state.nails)) else "thing"


def goal_word(state, posts):
    if posts is None:
        return None
    if not isinstance(posts, tuple) or len(posts) != len(state.things):
        return "stand"
    if not all(is_one_of(post, state.posts) for post in posts):
        return "stand"
    there = dict(zip(state.things, posts))
    if not all(state.near(*[there[thing] for thing in bond]) for bond in state.bonds):
        return "stand"
    return None if all(there[thing] == state.places[thing] for thing in state.nails) else "nail"


def bond_word(state, one, other, wanted=False):
    if not is_one_of(one, state.things) or not is_one_of(other, state.things) or one == other:
        return "thing"
    if (frozenset((one, other)) in state.bonds) != wanted:
        return "bond"
    words = [why for places, why in state.stands() if not state.near(places[one], places[other])]
    return words[0] if words and not wanted else None


def unbond_word(state, one, other):
    return bond_word(state, one, other, True)


def tie_word(state, x, y, wanted=False):
    if not is_one_of(x, state.posts) or not is_one_of(y, state.posts) or x == y:
        return "post"
    if (frozenset((x, y)) in state.ties) != wanted:
        return "tie"
    words = [why for places, why in state.stands() if any({places[u] for u in bond} == {x, y} for bond in state.bonds)]
    return words[0] if words and wanted else None


def untie_word(state, x, y):
    return tie_word(state, x, y, True)


def join_word(state, thing, post, others):
    if not is_word(thing) or thing in state.things:
        return "thing"
    if not is_one_of(post, state.posts):
        return "post"
    if not isinstance(others, tuple) or not all(is_one_of(other, state.things) for other in others):
        return "others"
    if len(set(others)) < len(others):
        return "others"
    words = [why for places, why in state.stands() if not all(state.near(places[other], post) for other in others)]
    if words:
        return words[0]
    return "many" if len(state.things) + 1 > 16 else None


def leave_word(state, thing):
    return None if is_one_of(thing, state.things) else "thing"


FINDERS = {
    "step": step_word, "nail": nail_word, "free": free_word, "goal": goal_word, "bond": bond_word,
    "unbond": unbond_word, "tie": tie_word, "untie": untie_word, "join": join_word, "leave": leave_word}


def after(state, act):
    """The state behind an act that can be done."""
    new = copy.deepcopy(state)
    first, *members = act
    if first == "step":
        new.places[members[0]] = members[1]
    elif first == "nail":
        new.nails.add(members[0])
    elif first == "free":
        new.nails.remove(members[0])
    elif first == "goal":
        new.goal = None if members[0] is None else dict(zip(new.things, members[0]))
    elif first in ("bond", "unbond"):
        new.bonds ^= {frozenset(members)}
    elif first in ("tie", "untie"):
        new.ties ^= {frozenset(members)}
    elif first == "join":
        new.things.append(members[0])
        new.bonds |= {frozenset((members[0], other)) for other in members[2]}
        for places, _ in new.stands():
            places[members[0]] = members[1]
    else:
        new.things.remove(members[0])
        new.bonds = {bond for bond in new.bonds if members[0] not in bond}
        new.nails -= {members[0]}
        for places, _ in new.stands():
            del places[members[0]]
    return new


def random_act(choose, state):
    """Some value that looks like an act, and often is one."""
    first = choose.choice(["step"] * 6 + ["goal"] * 2 + list(MEMBERS))
    things = state.things + ["u", "z9"]
    posts = state.posts + ["zz"]
    if first == "step":
        steps = plain.steps(state.world(), tuple(state.places[thing] for thing in state.things))
        if steps and choose.random() < 0.9:
            return ("step", *choose.choice(steps))
        return ("step", choose.choice(things), choose.choice(posts))
    if first in ("bond", "unbond"):
        return (first, choose.choice(things), choose.choice(things))
    if first in ("tie", "untie"):
        return (first, choose.choice(posts), choose.choice(posts))
    if first == "goal":
        rows = [None, tuple(choose.choice(state.posts) for _ in state.things)]
        # A goal like the stand, but for a few things, is a stand more often.
        row = {thing: choose.choice([post, post, choose.choice(state.posts)]) for thing, post in state.places.items()}
        rows += [tuple(row[thing] for thing in state.things)] * 4
        return (first, choose.choice(rows))
    if first == "join":
        name = choose.choice(["n1", "n2", "n3", "n4"])
        return (first, name, choose.choice(posts), tuple(choose.sample(things, choose.choice([0, 0, 1, 1, 2]))))
    return (first, choose.choice(things))


def waste(states, acts):
    """The waste by the steps behind the last turn: one for each that left the gap, two for each that made it greater."""
    if states[-1].gap() is None:
        return None
    total = 0
    for before, act, behind in list(zip(states, acts, states[1:]))[::-1]:
        if act[0] in TURNS:
            return total
        if act[0] == "step":
            total += behind.gap() - before.gap() + 1
    raise AssertionError("a goal without a turn")
