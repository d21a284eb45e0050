"""Houses: a stand with nailed things and a goal, which change by acts, and an account of the steps."""

from crossties.acts import state_after
from crossties.between import first_steps
from crossties.errors import BadAct, NoRoad, NothingDone, UnknownName
from crossties.peelings import good
from crossties.ways import any_way, apart
from crossties.words import is_word

MOST_ACTS = 120
TURNS = ("goal", "tie", "untie", "join", "leave")


class House:
    """A state that acts lead on, with the acts that are done and undone, and with marks; it does change."""

    def __init__(self, stand):
        # Behind each done act there is one state; no state is ever changed.
        self._states = [(stand, (), None)]
        self._done = []
        self._undone = []
        self._marks = {}

    def state(self):
        """Return the present state, a tuple of the stand, the nailed things and the goal."""
        return self._states[-1]

    def stand(self):
        """Return the present stand."""
        return self.state()[0]

    def nails(self):
        """Return the list of the nailed things, in the order of the party."""
        return list(self.state()[1])

    def goal(self):
        """Return the goal, or None."""
        return self.state()[2]

    def done(self):
        """Return the list of the done acts."""
        return list(self._done)

    def undone(self):
        """Return the list of the undone acts, in the sequence in which redoing does them."""
        return list(self._undone)

    def do(self, act):
        """Do an act, which may be anything, and return the number of done acts; raise BadAct if it is none."""
        return self.tried([act])

    def _states_behind(self, acts):
        """Return the list of the states behind some acts, one after another; raise BadAct if one is none."""
        rows = []
        state = self.state()
        for act in acts:
            state = state_after(state, act)
            if len(self._done) + len(rows) >= MOST_ACTS:
                raise BadAct("full")
            rows.append(state)
        return rows

    def tried(self, acts):
        """Do all acts of a list, or none of them if one cannot be done; return the number of done acts."""
        rows = self._states_behind(acts)
        if rows:
            self._states.extend(rows)
            self._done.extend(list(acts))
            self._undone = []
        return len(self._done)

    def would(self, acts):
        """Return the state behind all acts of a list, none of which is done."""
        rows = self._states_behind(acts)
        return rows[-1] if rows else self.state()

    def undo(self):
        """Undo the last done act, and return the number of done acts."""
        if not self._done:
            raise NothingDone()
        self._states.pop()
        self._undone.insert(0, self._done.pop())
        return len(self._done)

    def redo(self):
        """Do the first undone act again, and return the number of done acts."""
        if not self._undone:
            raise NothingDone()
        act = self._undone.pop(0)
        self._states.append(state_after(self.state(), act))
        self._done.append(act)
        return len(self._done)

    def paid(self):
        """Return the number of the steps that are done."""
        return steps_among(self._done)

    def gap(self):
        """Return how far the stand and the goal are apart, or None without a goal or if some thing has no road."""
        return gap_of(self.state())

    def waste(self):
        """Return how many steps more than needed were done since the map, the things or the goal changed, or None."""
        now = self.gap()
        if now is None:
            return None
        behind = 1 + max([k for k, act in enumerate(self._done) if act[0] in TURNS])
        return steps_among(self._done[behind:]) - gap_of(self._states[behind]) + now

    def left(self):
        """Return the fewest steps from the stand to the goal, or None if they are not told."""
        return self.gap() if good(self.stand().map()) else None

    def way(self):
        """Return a list of the fewest steps that lead to the goal, or None if they are not told."""
        return None if self.left() is None else any_way(self.stand(), self.goal())

    def next_steps(self):
        """Return the list of the steps that begin such a way, in order, or None if they are not told."""
        return None if self.left() is None else first_steps(self.stand(), self.goal())

    def keep(self, name):
        """Keep the present stand under a name, which may be anything."""
        if not is_word(name):
            raise UnknownName(name)
        self._marks[name] = self.stand()

    def marks(self):
        """Return the list of the names under which stands are kept, in the order in which they first were."""
        return list(self._marks)

    def marked(self, name):
        """Return the stand that is kept under a name, which may be anything."""
        if not is_word(name) or name not in self._marks:
            raise UnknownName(name)
        return self._marks[name]

    def gap_to(self, name):
        """Return how far the present stand is apart from the one that is kept under a name."""
        return apart(self.stand(), self.marked(name))

    def twin(self):
        """Return an equal house that goes its own way."""
        other = House(self.stand())
        other._states = list(self._states)
        other._done = list(self._done)
        other._undone = list(self._undone)
        other._marks = dict(self._marks)
        return other

    def __eq__(self, other):
        if not isinstance(other, House) or self._states[0][0] != other._states[0][0]:
            return False
        if self._done != other._done or self._undone != other._undone:
            return False
        return list(self._marks.items()) == list(other._marks.items())


def steps_among(acts):
    """Return how many of some acts are steps."""
    return len([act for act in acts if act[0] == "step"])


def gap_of(state):
    """Return how far the stand and the goal of a state are apart, or None if that is not told."""
    stand, _, goal = state
    if goal is None:
        return None
    try:
        return apart(stand, goal)
    except NoRoad:
        return None
