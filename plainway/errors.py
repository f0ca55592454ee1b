"""The refusals of Plainway."""


class PathError(ValueError):
    """Any refusal."""


class BadEscape(PathError):
    """A part has an escape that is none."""


class NoShare(PathError):
    """A path has a share that is not in the table."""


class Ring(PathError):
    """A share's path comes back to that share."""
