"""The steps of a path."""

from plainway.signs import SHARE_SIGN, STROKE, name_of


def steps_of(path):
    """The steps of a path, from the left; refuses with BadEscape."""
    steps = []
    if path.startswith(STROKE):
        steps.append(("root",))
    for part in path.split(STROKE):
        # An escaped dot is no dot, so the part is looked at as it is written.
        if part not in ("", "."):
            steps.append(_step_of(part))
    return steps


def _step_of(part):
    if part == "..":
        return ("up",)
    if part.startswith(SHARE_SIGN):
        return ("share", name_of(part[1:]))
    return ("name", name_of(part))
