"""State graphs of specifications."""

from clockless.cubes import with_character
from clockless.errors import Inconsistent, TooLarge, Unsafe


def explore(spec, *, limit=1000):
    """The state graph of a specification."""
    found = Exploration(spec, limit)
    while len(found.arc_lists) < len(found.states):
        found.take_next()
    return StateGraph(spec, found.states, found.origins, found.arc_lists)


def _path_to(origins, state):
    """The transitions that lead to the state by the way it was found."""
    backwards = []
    while state != 0:
        state, transition = origins[state]
        backwards.append(transition)
    return backwards[::-1]


def _turned(arc_lists):
    """For each state the pairs of a state and a transition that lead to it."""
    turned = [[] for _ in arc_lists]
    for state, arcs in enumerate(arc_lists):
        for transition, target in arcs:
            turned[target].append((state, transition))
    return turned


class Exploration:
    """The states that have been found, and the arcs of those that were taken."""

    def __init__(self, spec, limit):
        initial = (spec.net.marked, spec.start)
        self.spec = spec
        self.limit = limit
        self.states = [initial]
        self.numbers = {initial: 0}
        # The state and the transition by which each state was found; none for state 0.
        self.origins = [None]
        self.arc_lists = []

    def take_next(self):
        """Take the first state that was not taken yet, and fire what is enabled there."""
        state = len(self.arc_lists)
        marking, _ = self.states[state]
        arcs = []
        for transition in self.spec.net.enabled(marking):
            arcs.append((transition, self._reach(state, transition)))
        self.arc_lists.append(arcs)

    def _reach(self, state, transition):
        """The number of the state after the transition."""
        after = self._fire(state, transition)
        if after not in self.numbers:
            if len(self.states) >= self.limit:
                raise TooLarge(self.limit)
            self.numbers[after] = len(self.states)
            self.states.append(after)
            self.origins.append((state, transition))
        return self.numbers[after]

    def _fire(self, state, transition):
        """The marking and the code after the transition."""
        marking, code = self.states[state]
        signal, value = self.spec.edges[transition]
        try:
            after = self.spec.net.fire(marking, transition)
        except Unsafe as error:
            raise Unsafe(self._sequence(state, transition), error.place) from None
        if code[signal] == str(value):
            raise Inconsistent(self._sequence(state, transition))
        return (after, with_character(code, signal, str(value)))

    def _sequence(self, state, transition):
        return _path_to(self.origins, state) + [transition]


class StateGraph:
    """The reachable states of a specification, and the arcs between them."""

    def __init__(self, spec, states, origins, arc_lists):
        self.spec = spec
        self._states = list(states)
        self._origins = list(origins)
        self._arcs = [list(arcs) for arcs in arc_lists]
        self._arcs_into = _turned(self._arcs)
        self._numbers = {pair: state for state, pair in enumerate(self._states)}

    def __len__(self):
        return len(self._states)

    def __iter__(self):
        return iter(self._states)

    def marking(self, state):
        """The marking of the state."""
        return self._states[state][0]

    def code(self, state):
        """The values of all signals in the state."""
        return self._states[state][1]

    def state_at(self, marking, code):
        """The number of the state, or None if there is no such state."""
        return self._numbers.get((marking, code))

    def path(self, state):
        """The least of the shortest firing sequences that lead to the state."""
        return _path_to(self._origins, state)

    def arcs(self, state):
        """The transitions that are enabled at the state, and the states after them."""
        return list(self._arcs[state])

    def arcs_into(self, state):
        """The states from which an arc leads to the state, and its transitions."""
        return list(self._arcs_into[state])

    def edges(self, state):
        """The edges of the transitions that are enabled at the state."""
        return sorted({self.spec.edges[transition] for transition, _ in self._arcs[state]})

    def after(self, state, edge):
        """The states to which arcs with this edge lead."""
        arcs = self._arcs[state]
        return sorted({target for transition, target in arcs if self.spec.edges[transition] == edge})

    def is_excited(self, state, signal):
        """Whether an edge of the signal is among the edges of the state."""
        return signal in [changing for changing, _ in self.edges(state)]
