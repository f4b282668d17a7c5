"""Translating programs into specifications."""

from clockless.errors import NotTranslatable
from clockless.nets import Net
from clockless.specs import Spec


def front_width(process):
    """How many places the process begins at, or None if any number will do."""
    return _width(process, 0)


def back_width(process):
    """How many places the process ends at, or None if any number will do."""
    return _width(process, -1)


def is_connectable(process):
    """Whether all parts of the process fit together."""
    if process[0] == "edge":
        return True
    kind, parts = process
    if not all([is_connectable(part) for part in parts]):
        return False
    if kind == "seq":
        return all([_fit(back_width(part), front_width(after)) for part, after in zip(parts, parts[1:])])
    return all([_fit(front_width(part), 1) and _fit(back_width(part), 1) for part in parts])


def is_closed(process):
    """Whether the process may be repeated: it is connectable, and its end fits its beginning."""
    return is_connectable(process) and _fit(back_width(process), front_width(process))


def translate(program):
    """The specification of a program."""
    for index, loop in enumerate(program.loops):
        if not is_closed(loop):
            raise NotTranslatable(index)
    made = Translation()
    for loop in program.loops:
        made.add_loop(loop)
    net = Net(made.place_count, made.transitions, made.marked)
    return Spec(net, program.signals, made.edges, program.start)


def _width(process, end):
    """The width at the front (0) or at the back (-1)."""
    kind = process[0]
    if kind == "edge":
        return None
    if kind == "seq":
        return _width(process[1][end], end)
    return len(process[1]) if kind == "par" else 1


def _fit(width, other):
    """Whether what has one width may stand beside what has the other one."""
    return width is None or other is None or (width == 1 and other == 1)


def _places_between(width, other):
    """How many places stand between two widths that fit."""
    if width is not None:
        return width
    return 1 if other is None else other


class Translation:
    """The places and transitions that have been made so far."""

    def __init__(self):
        self.place_count = 0
        self.marked = []
        self.transitions = []
        self.edges = []

    def add_loop(self, process):
        """Make what repeats the process for ever."""
        entry = self._new_places(_places_between(front_width(process), back_width(process)))
        self.marked.extend(entry)
        self._add(process, entry, entry)

    def _new_places(self, count):
        """So many new places."""
        first = self.place_count
        self.place_count += count
        return tuple(range(first, first + count))

    def _add(self, process, before, after):
        """Make what the process needs between these places."""
        kind = process[0]
        if kind == "edge":
            self.edges.append(process[1:])
            self.transitions.append((tuple(sorted(before)), tuple(sorted(after))))
        elif kind == "seq":
            self._add_sequence(process[1], before, after)
        elif kind == "par":
            for index, part in enumerate(process[1]):
                self._add(part, (before[index],), (after[index],))
        else:
            for part in process[1]:
                self._add(part, before, after)

    def _add_sequence(self, parts, before, after):
        """Make what parts one after another need, with places between them."""
        for part, following in zip(parts, parts[1:]):
            between = self._new_places(_places_between(back_width(part), front_width(following)))
            self._add(part, before, between)
            before = between
        self._add(parts[-1], before, after)
