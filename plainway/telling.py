"""Telling places: the way from one to another, and places told by a share."""

from plainway.texts import from_a_share, from_anywhere, from_the_root


def way(start, goal):
    """The plain text of the shortest path without root and shares from one place to another."""
    common = _names_in_common(start, goal)
    return from_anywhere(len(start) - common, goal[common:])


def by_share(place, shares):
    """The text that tells a place by the share nearest above it, or from the root."""
    nearest = None
    length = 0
    for name in shares.names():
        shared = shares.place(name)
        # Only a longer one takes over: the first of alike ones stays, and the root never counts.
        if len(shared) > length and place[:len(shared)] == shared:
            nearest = name
            length = len(shared)
    if nearest is None:
        return from_the_root(place)
    return from_a_share(nearest, place[length:])


def _names_in_common(one, other):
    """How many names both places have in common, from the root on."""
    common = 0
    for name, beside in zip(one, other):
        if name != beside:
            break
        common += 1
    return common
