"""Boards straight from the words of points 50 to 53, for comparison."""


class Flaw(Exception):
    """What an examination reports: the moves, the kind and the wire, or only that it met the limit."""


def value_of(gate, values, wire, width):
    """The value of a gate."""
    def has(cube):
        return all(mark in ("-", value) for mark, value in zip(cube, values[:width]))

    kind = gate[0]
    if kind == "and":
        return "1" if has(gate[1]) else "0"
    if kind == "or":
        return "1" if "1" in [values[k] for k in gate[1]] else "0"
    if kind == "all":
        return "0" if "0" in [values[k] for k in gate[1]] else "1"
    if kind == "atomic":
        return "1" if [cube for cube in gate[1] if has(cube)] else "0"
    if kind == "c":
        sets, resets = values[gate[1]] == "1", values[gate[2]] == "1"
    else:
        sets, resets = any(map(has, gate[1])), any(map(has, gate[2]))
    return {(True, False): "1", (False, True): "0"}.get((sets, resets), values[wire])


def excited_wires(netlist, values):
    return [wire for wire, gate in enumerate(netlist.gates)
            if gate is not None and value_of(gate, values, wire, len(netlist.signals)) != values[wire]]


def enabled_transitions(spec, marking):
    return [k for k, (preset, _) in enumerate(spec.net.transitions) if set(preset) <= set(marking)]


def fired(spec, marking, transition):
    preset, postset = spec.net.transitions[transition]
    return tuple(sorted((set(marking) - set(preset)) | set(postset)))


def is_input(spec, transition):
    return spec.signals[spec.edges[transition][0]][1] == "input"


def moves_of(board, state):
    inputs = [k for k in enabled_transitions(board.spec, state[0]) if is_input(board.spec, k)]
    return [("input", k) for k in inputs] + [("gate", k) for k in excited_wires(board.netlist, state[1])]


def after_and_flaw(board, state, move):
    """The state after a move, and the move's flaw or None."""
    spec, (marking, values) = board.spec, state
    kind, number = move
    unexpected = False
    if kind == "input":
        wire = spec.edges[number][0]
        value = str(spec.edges[number][1])
        marking = fired(spec, marking, number)
    else:
        wire, value = number, {"0": "1", "1": "0"}[values[number]]
        answers = [k for k in enabled_transitions(spec, marking) if spec.edges[k] == (wire, int(value))]
        if answers:
            marking = fired(spec, marking, answers[0])
        unexpected = wire < len(spec.signals) and not answers
    there = values[:wire] + value + values[wire + 1:]
    stopped = [k for k in excited_wires(board.netlist, values)
               if k not in excited_wires(board.netlist, there) and move != ("gate", k)]
    flaw = ("unexpected", wire) if unexpected else ("hazard", stopped[0]) if stopped else None
    return (marking, there), flaw


def flaw_of(board, state):
    """The flaw of a state, or None."""
    if excited_wires(board.netlist, state[1]):
        return None
    missed = [board.spec.edges[k][0] for k in enabled_transitions(board.spec, state[0]) if not is_input(board.spec, k)]
    return ("missed", min(missed)) if missed else None


def examination(board, limit):
    """The states in the order of their discovery."""
    states, paths = [board.initial], [[]]
    taken = 0
    while taken < len(states):
        state, path = states[taken], paths[taken]
        taken += 1
        if flaw_of(board, state):
            raise Flaw(path, *flaw_of(board, state))
        for move in moves_of(board, state):
            after, flaw = after_and_flaw(board, state, move)
            if flaw:
                raise Flaw(path + [move], *flaw)
            if after not in states:
                if len(states) == limit:
                    raise Flaw("TooLarge")
                states.append(after)
                paths.append(path + [move])
    return states
