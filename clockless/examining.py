"""Examining a board for flaws, and certificates that it has none."""

from clockless.errors import Flawed, TooLarge


def examine(board, *, limit=10000):
    """The states of the board in the order of their discovery, if no flaw is found."""
    found = Examination(board, limit)
    while found.taken < len(found.states):
        found.take_next()
    return found.states


def is_certificate(board, states):
    """Whether the states show that no sequence of moves ever leads to a flaw."""
    known = {state: True for state in states}
    if board.initial not in known:
        return False
    for state in known:
        if not _is_flawless(board, state, known):
            return False
    return True


def _is_flawless(board, state, known):
    """Whether the state and its moves have no flaw, and the moves lead to known states."""
    if board.flaw_of_state(state) is not None:
        return False
    for move in board.moves(state):
        if board.flaw_of_move(state, move) is not None or board.moved(state, move) not in known:
            return False
    return True


class Examination:
    """The states that have been found, and how many of them were taken."""

    def __init__(self, board, limit):
        self.board = board
        self.limit = limit
        self.states = [board.initial]
        self.known = {board.initial: True}
        # The state and the move by which each state was found; none for state 0.
        self.origins = [None]
        self.taken = 0

    def take_next(self):
        """Take the first state that was not taken yet, and make its moves."""
        number = self.taken
        self.taken += 1
        state = self.states[number]
        flaw = self.board.flaw_of_state(state)
        if flaw is not None:
            raise Flawed(self._moves_to(number), flaw[0], flaw[1])
        for move in self.board.moves(state):
            flaw = self.board.flaw_of_move(state, move)
            if flaw is not None:
                raise Flawed([*self._moves_to(number), move], flaw[0], flaw[1])
            self._add(self.board.moved(state, move), (number, move))

    def _add(self, state, origin):
        """Note the state if it is a new one."""
        if state not in self.known:
            if len(self.states) >= self.limit:
                raise TooLarge(self.limit)
            self.known[state] = True
            self.states.append(state)
            self.origins.append(origin)

    def _moves_to(self, number):
        """The moves that lead to the state by the way it was found."""
        backwards = []
        while number != 0:
            number, move = self.origins[number]
            backwards.append(move)
        return backwards[::-1]
