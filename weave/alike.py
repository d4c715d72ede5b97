"""Namings by which two nets are alike [9]."""

from weave.nets import renamed
from weave.parts import lies_at, part_at, parts_of, together
from weave.things import are_whole


def names_boxes(one, other, naming):
    """Whether it has for each box of the one a box of the other, each just once, of anything."""
    if not are_whole(naming) or len(naming) != len(one[1]):
        return False
    return sorted(naming) == list(range(len(other[1])))


def is_naming(one, other, naming):
    """Whether two nets are alike by a naming, of anything."""
    if one[0] != other[0] or one[3] != other[3] or not names_boxes(one, other, naming):
        return False
    kinds = tuple(other[1][box] for box in naming)
    return kinds == one[1] and renamed(one[2], naming) == other[2]


def first_free(parts, part, taken):
    """The first box that isn't taken and at which there is that part, or None."""
    for box, there in enumerate(parts):
        if there == part and box not in taken:
            return box
    return None


def naming_of(one, other):
    """A naming by which two nets are alike, or None."""
    parts = parts_of(other)
    names = {}
    taken = {}
    # What hangs together is named as a whole; which one of several like parts it is named by is all the same.
    for group in together(one):
        part = part_at(one, group[0])
        start = first_free(parts, part, taken)
        if start is None:
            return None
        for box, there in zip(lies_at(one, part, group[0]), lies_at(other, part, start)):
            names[box] = there
            taken[there] = True
    naming = tuple(names[box] for box in range(len(one[1])))
    return naming if is_naming(one, other, naming) else None
