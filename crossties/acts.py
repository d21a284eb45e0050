"""Acts, which lead a state of a house to another one, and the words that tell why a value is none.

A state is a tuple of a stand, the tuple of the nailed things, and a goal or None.
"""

from crossties.changes import good_changes
from crossties.errors import BadAct
from crossties.maps import with_tie, without_tie
from crossties.parties import Party, party_part, with_bond, without_bond
from crossties.stands import Stand, wrong_stand
from crossties.steps import done, is_step
from crossties.words import is_word
from crossties.wrongparts import wrong_choice

MOST_THINGS = 16


def both_stands(state):
    """Return the list of the stand and the word for what is wrong there, and likewise of the goal, if there is one."""
    stand, _, goal = state
    return [(stand, "near")] if goal is None else [(stand, "near"), (goal, "goal")]


def are_two(net, one, other):
    """Tell whether two values, which may be anything, are two different posts of a map, or of a party's net."""
    return net.has_post(one) and net.has_post(other) and one != other


def step_word(state, members):
    """Tell why a thing cannot go to a post, or None."""
    stand, nails, _ = state
    if not is_step(stand, members):
        return "step"
    return "nail" if members[0] in nails else None


def nail_word(state, members):
    """Tell why a thing cannot be nailed, or None."""
    stand, nails, goal = state
    thing = members[0]
    if not stand.party().has_thing(thing) or thing in nails:
        return "thing"
    return None if goal is None or goal.post(thing) == stand.post(thing) else "goal"


def free_word(state, members):
    """Tell why a thing cannot be freed, or None."""
    _, nails, _ = state
    return None if members[0] in nails else "thing"


def goal_word(state, members):
    """Tell why there cannot be such a goal, or None."""
    stand, nails, _ = state
    posts = members[0]
    if posts is None:
        return None
    if not isinstance(posts, tuple) or wrong_stand(stand.map(), stand.party(), posts) is not None:
        return "stand"
    there = {thing: post for thing, post in zip(stand.party().things(), posts)}
    return None if all([there[thing] == stand.post(thing) for thing in nails]) else "nail"


def bond_word(state, members):
    """Tell why two things cannot be bonded, or None."""
    party = state[0].party()
    one, other = members
    if not are_two(party.net(), one, other):
        return "thing"
    if party.are_bonded(one, other):
        return "bond"
    for stand, word in both_stands(state):
        if not stand.map().is_near(stand.post(one), stand.post(other)):
            return word
    return None


def unbond_word(state, members):
    """Tell why two things cannot be bonded no longer, or None."""
    party = state[0].party()
    one, other = members
    if not are_two(party.net(), one, other):
        return "thing"
    return None if party.are_bonded(one, other) else "bond"


def tie_word(state, members):
    """Tell why two posts cannot be tied, or None."""
    the_map = state[0].map()
    x, y = members
    if not are_two(the_map, x, y):
        return "post"
    return "tie" if the_map.is_near(x, y) else None


def untie_word(state, members):
    """Tell why two posts cannot be tied no longer, or None."""
    the_map = state[0].map()
    x, y = members
    if not are_two(the_map, x, y):
        return "post"
    if not the_map.is_near(x, y):
        return "tie"
    for stand, word in both_stands(state):
        ends = [(stand.post(one), stand.post(other)) for one, other in stand.party().bonds()]
        if (x, y) in ends or (y, x) in ends:
            return word
    return None


def join_word(state, members):
    """Tell why a new thing cannot join the party, or None."""
    the_map = state[0].map()
    party = state[0].party()
    thing, post, others = members
    if not is_word(thing) or party.has_thing(thing):
        return "thing"
    if not the_map.has_post(post):
        return "post"
    if not isinstance(others, tuple) or wrong_choice(others, party.things()) is not None:
        return "others"
    for stand, word in both_stands(state):
        if not all([the_map.is_near(stand.post(other), post) for other in others]):
            return word
    return "many" if len(party.things()) >= MOST_THINGS else None


def leave_word(state, members):
    """Tell why a thing cannot leave the party, or None."""
    return None if state[0].party().has_thing(members[0]) else "thing"


def step_after(state, members):
    """Return the state in which a thing has gone to a post."""
    stand, nails, goal = state
    return (done(stand, members), nails, goal)


def nail_after(state, members):
    """Return the state in which a thing is nailed, too."""
    stand, nails, goal = state
    return (stand, tuple([thing for thing in stand.party().things() if thing in nails + members]), goal)


def free_after(state, members):
    """Return the state in which a thing is nailed no longer."""
    stand, nails, goal = state
    return (stand, tuple([thing for thing in nails if thing not in members]), goal)


def goal_after(state, members):
    """Return the state with another goal, or with none."""
    stand, nails, _ = state
    posts = members[0]
    return (stand, nails, None if posts is None else Stand(stand.map(), stand.party(), posts))


def both_changed(state, change):
    """Return the state with what a function makes of the stand, and of the goal, if there is one."""
    stand, nails, goal = state
    return (change(stand), nails, None if goal is None else change(goal))


def with_party(state, party):
    """Return the state with a party that has the same things."""
    return both_changed(state, lambda stand: Stand(stand.map(), party, stand.posts()))


def with_map(state, the_map):
    """Return the state with a map that has the same posts."""
    return both_changed(state, lambda stand: Stand(the_map, stand.party(), stand.posts()))


def bond_after(state, members):
    """Return the state in which two things are bonded."""
    return with_party(state, with_bond(state[0].party(), members[0], members[1]))


def unbond_after(state, members):
    """Return the state in which two things are not bonded."""
    return with_party(state, without_bond(state[0].party(), members[0], members[1]))


def tie_after(state, members):
    """Return the state in which two posts are tied."""
    return with_map(state, with_tie(state[0].map(), members[0], members[1]))


def untie_after(state, members):
    """Return the state in which two posts are not tied."""
    return with_map(state, without_tie(state[0].map(), members[0], members[1]))


def join_after(state, members):
    """Return the state with one thing more."""
    thing, post, others = members
    party = state[0].party()
    grown = Party(party.things() + [thing], party.bonds() + [(other, thing) for other in others])
    return both_changed(state, lambda stand: Stand(stand.map(), grown, stand.posts() + (post,)))


def leave_after(state, members):
    """Return the state with one thing less."""
    party = state[0].party()
    rest = [thing for thing in party.things() if thing not in members]
    part = party_part(party, rest)
    stand, nails, goal = both_changed(state, lambda old: Stand(old.map(), part, [old.post(other) for other in rest]))
    return (stand, tuple([thing for thing in nails if thing in rest]), goal)


LENGTHS = {
    "step": 3, "nail": 2, "free": 2, "goal": 2, "bond": 3, "unbond": 3, "tie": 3, "untie": 3, "join": 4, "leave": 2}
WORD_FINDERS = {
    "step": step_word, "nail": nail_word, "free": free_word, "goal": goal_word, "bond": bond_word,
    "unbond": unbond_word, "tie": tie_word, "untie": untie_word, "join": join_word, "leave": leave_word}
STATE_MAKERS = {
    "step": step_after, "nail": nail_after, "free": free_after, "goal": goal_after, "bond": bond_after,
    "unbond": unbond_after, "tie": tie_after, "untie": untie_after, "join": join_after, "leave": leave_after}


def act_word(state, act):
    """Return the word that tells why a value, which may be anything, is no act at a state, or None if it is one."""
    # What is no word may be no key at all: a list cannot be looked up.
    if not isinstance(act, tuple) or len(act) < 2 or not is_word(act[0]):
        return "form"
    if len(act) != LENGTHS.get(act[0]):
        return "form"
    finder = WORD_FINDERS[act[0]]
    return finder(state, act[1:])


def state_after(state, act):
    """Return the state to which an act leads; raise BadAct if a value, which may be anything, is none."""
    word = act_word(state, act)
    if word is not None:
        raise BadAct(word)
    maker = STATE_MAKERS[act[0]]
    return maker(state, act[1:])


def good_acts(state):
    """Return the list of the acts that tie, and then of those that untie, behind which the map has no long ring."""
    changes = good_changes(state[0].map())
    acts = [(word, x, y) for word in ("tie", "untie") for x, y in changes]
    return [act for act in acts if act_word(state, act) is None]
