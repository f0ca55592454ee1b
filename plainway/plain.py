"""The plain texts of paths."""

from plainway.steps import steps_of
from plainway.texts import from_anywhere, from_the_root
from plainway.walking import walked


def plain(path, shares):
    """The plain text of a path; refuses with BadEscape, NoShare."""
    return _told(steps_of(path), shares)


def joined(one, other, shares):
    """The plain text of both paths, one behind the other; refuses with BadEscape, NoShare."""
    # The steps are put together, not the texts: a stroke ahead of the other path still tells the root.
    return _told(steps_of(one) + steps_of(other), shares)


def same(one, other, shares):
    """Whether both paths have one plain text; refuses with BadEscape, NoShare."""
    # Both are read before one is told, as a wrong escape of either goes ahead of all shares.
    steps = steps_of(one)
    others = steps_of(other)
    return _told(steps, shares) == _told(others, shares)


def _told(steps, shares):
    for step in steps:
        if step[0] in ("root", "share"):
            # From there on it makes no difference where one started.
            return from_the_root(walked([], steps, shares))
    return _told_from_anywhere(steps)


def _told_from_anywhere(steps):
    ups = 0
    names = []
    for step in steps:
        if step[0] == "name":
            names.append(step[1])
        elif names:
            names.pop()
        else:
            ups += 1
    return from_anywhere(ups, names)
