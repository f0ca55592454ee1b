"""What the tests work out for themselves, apart from the program, and inputs that several of them use."""

import itertools

SIGNS = [" "] + [chr(code) for code in range(ord("!"), ord("~") + 1) if chr(code) != "%"]

# Escapes that are none, by themselves, in a name, and in a share.
BAD_PARTS = ("~", "a~", "~1", "a~9", "~a", "~1a", "~~", "~~13", "~94", "~99", "a~14b~95c", ".~", "..~1",
             "@~", "@s~", "@~9", "@s~94", "@~~13", "@.~", "@none~")

AHEAD = ("", "/", "a/", "../", "./", "@s/", "@s/../", "a/" * 60)
BEHIND = ("", "/", "/a", "/..", "/@s", "/@s/..", "/~13", "/a" * 60)


def model_name(part):
    """The name that a part tells, read sign by sign."""
    name = ""
    at = 0
    while at < len(part):
        if part[at] == "~":
            name += SIGNS[int(part[at + 1:at + 3])]
            at += 3
        else:
            name += part[at]
            at += 1
    return name


def model_part(name):
    """The part by which a name is written, sign by sign."""
    part = ""
    for at, sign in enumerate(name):
        if sign in "/~" or at == 0 and (sign == "@" or name in (".", "..")):
            part += "~%02d" % SIGNS.index(sign)
        else:
            part += sign
    return part


def model_walk(start, path, table):
    """The place to which a path leads, each share's path walked anew from the root."""
    place = [] if path.startswith("/") else list(start)
    for part in path.split("/"):
        if part in ("", "."):
            continue
        if part == "..":
            place = place[:-1]
        elif part[0] == "@":
            place = model_walk([], table[model_name(part[1:])], table)
        else:
            place = place + [model_name(part)]
    return place


# Two places so deep that no path of the tests comes out above them, alike in no name, nor with any path.
DEEP = [["one"] + ["x%d" % number for number in range(130)],
        ["two"] + ["y%d" % number for number in range(130)]]


def model_leads(path, table):
    """Where a path leads from deep places: paths differ in it where they lead to two places from anywhere."""
    return [model_walk(start, path, table) for start in DEEP]


def model_plain(path, table):
    """The plain text, told by where the path leads, not by its steps."""
    places = model_leads(path, table)
    if places[0] == places[1]:
        return "/" + "/".join([model_part(name) for name in places[0]])
    kept = 0
    while kept < min(len(places[0]), len(DEEP[0])) and places[0][kept] == DEEP[0][kept]:
        kept += 1
    parts = [".."] * (len(DEEP[0]) - kept) + [model_part(name) for name in places[0][kept:]]
    return "/".join(parts) or "."


def paths_of(parts, most):
    """All paths of the parts given, up to so many of them."""
    return ["/".join(row) for many in range(most + 1) for row in itertools.product(parts, repeat=many)]


def places_of(names, most):
    """All places of the names given, up to so many of them."""
    return [list(row) for many in range(most + 1) for row in itertools.product(names, repeat=many)]


def row_of_shares(many):
    """So many shares, each with the one ahead in its path."""
    table = {"s0": "/n0"}
    for number in range(1, many):
        table["s%d" % number] = "@s%d/n%d" % (number - 1, number)
    return table


def turned(table):
    """The same table in the other order."""
    return {name: table[name] for name in reversed(list(table))}
