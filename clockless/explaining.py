"""Explaining refusals in words."""

from clockless.errors import Inconsistent, Nondeterministic, NotPersistent, TooLarge, Unsafe


def sequence_text(spec, sequence):
    """The texts of the transitions of a sequence."""
    if len(sequence) == 0:
        return "start"
    return " ".join([spec.transition_text(transition) for transition in sequence])


def explanation(spec, refusal):
    """One line that tells why the specification has no circuit."""
    if isinstance(refusal, TooLarge):
        return f"too large: more than {refusal.limit} states"
    if isinstance(refusal, Unsafe):
        return f"unsafe: {sequence_text(spec, refusal.sequence)} puts a second token on place {refusal.place}"
    if isinstance(refusal, Inconsistent):
        signal, _ = spec.edges[refusal.sequence[-1]]
        name, _ = spec.signals[signal]
        return f"inconsistent: {sequence_text(spec, refusal.sequence)} repeats the value of {name}"
    if isinstance(refusal, Nondeterministic):
        both = f"{spec.transition_text(refusal.first)} and {spec.transition_text(refusal.second)}"
        return f"nondeterministic: after {sequence_text(spec, refusal.sequence)}, {both} lead to different states"
    if isinstance(refusal, NotPersistent):
        both = f"{spec.transition_text(refusal.by)} disables {spec.transition_text(refusal.disabled)}"
        return f"not persistent: after {sequence_text(spec, refusal.sequence)}, {both}"
    both = f"{sequence_text(spec, refusal.first)} and {sequence_text(spec, refusal.second)}"
    return f"code conflict: {both} lead to the same code"
