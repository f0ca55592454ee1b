"""Tables of shares."""

from plainway.errors import NoShare, Ring
from plainway.steps import steps_of
from plainway.walking import walked


class Shares:
    """A table of shares, each of which stands for a place."""

    def __init__(self, table):
        """Refuses with BadEscape, then NoShare, then Ring."""
        # Each kind of fault is looked for in all paths ahead of the next kind.
        steps = {name: steps_of(table[name]) for name in table}
        needed = {name: _shares_among(steps[name]) for name in steps}
        _refuse_missing(needed)
        self._names = list(table)
        self._places = {}
        # In this order a path asks only for places that are already there.
        for name in _needed_first(needed):
            self._places[name] = walked([], steps[name], self)

    def names(self):
        """The names of the shares, in the table's order."""
        return list(self._names)

    def place(self, name):
        """The place of a share; refuses with NoShare."""
        if name not in self._places:
            raise NoShare(f"no share has the name {name!r}")
        return list(self._places[name])


def _shares_among(steps):
    return [step[1] for step in steps if step[0] == "share"]


def _refuse_missing(needed):
    for name in needed:
        for other in needed[name]:
            if other not in needed:
                raise NoShare(f"the path of {name!r} has the share {other!r}, which is not in the table")


def _needed_first(needed):
    """The names, each behind all those that its path has; refuses with Ring."""
    done = {}
    waiting = list(needed)
    while waiting:
        ready = [name for name in waiting if _all_in(needed[name], done)]
        if not ready:
            raise Ring(f"a ring among the shares {waiting!r}, or ahead of them")
        for name in ready:
            done[name] = True
        waiting = [name for name in waiting if name not in done]
    return list(done)


def _all_in(names, done):
    for name in names:
        if name not in done:
            return False
    return True
