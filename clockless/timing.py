"""Boards that are run in time."""

USUAL_DELAY = 1


def simulate(board, delays, *, count):
    """The times and the moves of a run of at most so many moves."""
    return _run(board, delays, count).events


def glitches(board, delays, *, count):
    """The moves of gates that the same run drops."""
    return _run(board, delays, count).dropped


def delays_for(board, moves):
    """Delays with which a run makes these moves at the times 1, 2 and so on."""
    # For each move the times at which it is still to be made, the next one last.
    upcoming = {}
    for made in range(len(moves), 0, -1):
        upcoming.setdefault(moves[made - 1], []).append(made)
    state = board.initial
    present = board.moves(state)
    delays = [_next_time(upcoming, move, len(moves) + 1) for move in present]
    for made, move in enumerate(moves, start=1):
        state = board.after(state, move)
        upcoming[move].pop()
        following = board.moves(state)
        delays += [_next_time(upcoming, one, len(moves) + 1) - made for one in _new_moves(present, move, following)]
        present = following
    return delays


def wave(board, events, wire):
    """The times at which the wire changes, and its values from then on."""
    value = board.initial[1][wire]
    entries = [(0, value)]
    for time, move in events:
        after = _value_after(board, move, wire, value)
        if after != value:
            value = after
            entries.append((time, value))
    return entries


def _run(board, delays, count):
    """The run after so many moves, or when no move is pending."""
    run = TimedRun(board, delays)
    while run.pending and len(run.events) < count:
        run.advance()
    return run


def _next_time(upcoming, move, never):
    """When the move is made next, or the time that stands for never."""
    times = upcoming.get(move, [])
    return times[-1] if times else never


def _new_moves(before, made, after):
    """The moves of a state that become pending when a move has led to it from a state with other moves."""
    return [move for move in after if move == made or move not in before]


def _value_after(board, move, wire, value):
    """The value of the wire after the move."""
    kind, number = move
    if kind == "input":
        signal, new = board.spec.edges[number]
        return str(new) if signal == wire else value
    if number != wire:
        return value
    return "0" if value == "1" else "1"


class TimedRun:
    """What has happened so far, and what is pending."""

    def __init__(self, board, delays):
        self.board = board
        self.delays = list(delays)
        self.delays_taken = 0
        self.now = 0
        self.state = board.initial
        self.events = []
        self.dropped = []
        # The times at which the pending moves are due; the moves stand in the order in which they became pending.
        self.pending = {}
        self._await_all(board.moves(self.state))

    def advance(self):
        """Make the pending move that is due first."""
        # Of several moves that are due at once, `min` takes the first one of the state's moves.
        move = min(self.board.moves(self.state), key=lambda one: self.pending[one])
        self.now = self.pending[move]
        self.events.append((self.now, move))
        self.state = self.board.moved(self.state, move)
        del self.pending[move]
        following = self.board.moves(self.state)
        self._drop_others(following)
        self._await_all(following)

    def _drop_others(self, following):
        """Drop the pending moves that are not moves of the state any more."""
        for move in list(self.pending):
            if move not in following:
                del self.pending[move]
                if move[0] == "gate":
                    self.dropped.append(move)

    def _await_all(self, moves):
        """Give each of the moves that is not pending the next delay."""
        for move in moves:
            if move not in self.pending:
                self.pending[move] = self.now + self._next_delay()

    def _next_delay(self):
        if self.delays_taken == len(self.delays):
            return USUAL_DELAY
        self.delays_taken += 1
        return self.delays[self.delays_taken - 1]
