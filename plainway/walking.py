"""Walking: where the steps of a path lead."""

from plainway.steps import steps_of


def walk(start, path, shares):
    """The place to which a path leads from a place; refuses with BadEscape, NoShare."""
    return walked(start, steps_of(path), shares)


def walked(start, steps, shares):
    """The place to which steps lead from a place, as a new list; refuses with NoShare."""
    place = list(start)
    for step in steps:
        if step[0] == "name":
            place.append(step[1])
        elif step[0] == "share":
            place = shares.place(step[1])
        elif step[0] == "root":
            place = []
        elif place:
            # What is left is an up, which stays where it is at the root.
            place.pop()
    return place
