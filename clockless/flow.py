"""The whole flow: from a specification to a netlist, or to the reason why there is none."""

from clockless.building import build
from clockless.checks import check
from clockless.errors import CodeConflict, Inconsistent, Nondeterministic, NotPersistent, TooLarge, Unsafe
from clockless.graphs import explore
from clockless.resolving import resolve


class Design:
    """A circuit for a specification."""

    def __init__(self, spec, refined, netlist):
        self.spec = spec
        self.refined = refined
        self.netlist = netlist

    @property
    def inserted(self):
        """The names of the inserted signals, in their order."""
        return tuple([name for name, _ in self.refined.signals[len(self.spec):]])


def design(spec, *, style="split", rounds=2, limit=1000):
    """The circuit for a specification; a refusal is raised if there is none."""
    check(explore(spec, limit=limit), coded=False)
    refined = resolve(spec, rounds=rounds, limit=limit)
    return Design(spec, refined, build(explore(refined, limit=limit), style=style))


def synthesise(spec, *, style="split", rounds=2, limit=1000):
    """The netlist of the design."""
    return design(spec, style=style, rounds=rounds, limit=limit).netlist


def reason(spec, *, rounds=2, limit=1000):
    """The name of the error that tells why there is no circuit, or None if there is one."""
    try:
        design(spec, rounds=rounds, limit=limit)
    except Unsafe:
        return "Unsafe"
    except Inconsistent:
        return "Inconsistent"
    except TooLarge:
        return "TooLarge"
    except Nondeterministic:
        return "Nondeterministic"
    except NotPersistent:
        return "NotPersistent"
    except CodeConflict:
        return "CodeConflict"
    return None
