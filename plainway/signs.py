"""The 94 signs, and how the parts of a path and names tell each other."""

from plainway.errors import BadEscape

# A sign's number is its place in this row; the percent sign is none of them.
SIGNS = " !\"#$&'()*+,-./0123456789:;<=>?@ABCDEFGHIJKLMNOPQRSTUVWXYZ[\\]^_`abcdefghijklmnopqrstuvwxyz{|}~"

STROKE = "/"
TILDE = "~"
SHARE_SIGN = "@"
DOTS = (".", "..")


def name_of(part):
    """The name that a part tells; refuses with BadEscape."""
    # An escape has no second tilde in it, so each tilde begins one of its own.
    pieces = part.split(TILDE)
    told = [pieces[0]]
    for piece in pieces[1:]:
        told.append(_sign_of(piece[:2]))
        told.append(piece[2:])
    return "".join(told)


def written(name):
    """The part by which a name is written."""
    # Tildes go first, as the escape of a stroke brings in one that has to stay.
    part = name.replace(TILDE, _escape_of(TILDE)).replace(STROKE, _escape_of(STROKE))
    if name in DOTS or name.startswith(SHARE_SIGN):
        return _escape_of(name[0]) + part[1:]
    return part


def _sign_of(figures):
    if len(figures) < 2 or not figures.isdigit():
        raise BadEscape(f"no two figures behind a tilde: {figures!r}")
    number = int(figures)
    if number >= len(SIGNS):
        raise BadEscape(f"no sign has the number {figures}")
    return SIGNS[number]


def _escape_of(sign):
    return TILDE + str(SIGNS.index(sign)).zfill(2)
