"""Plain texts, made of the names that they tell."""

from plainway.signs import SHARE_SIGN, STROKE, written


def from_the_root(place):
    """The text that tells a place from the root."""
    return STROKE + STROKE.join(_parts_of(place))


def from_a_share(share, names):
    """The text that leads from a share's place by the names on."""
    return SHARE_SIGN + STROKE.join(_parts_of([share] + names))


def from_anywhere(ups, names):
    """The text that leads so many places up, and then by the names on."""
    parts = [".."] * ups + _parts_of(names)
    if not parts:
        return "."
    return STROKE.join(parts)


def _parts_of(names):
    return [written(name) for name in names]
