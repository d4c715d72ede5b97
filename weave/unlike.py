"""Papers that show two nets unlike [11]."""

from weave.nets import OUTER, outer_wires
from weave.parts import is_part, lies_at, parts_of
from weave.things import is_tuple, is_whole


def unlike_of(one, other):
    """A paper that shows two nets unlike, or None where they are alike."""
    if one[0] != other[0]:
        return ("outers",)
    if one[3] != other[3]:
        return ("rings",)
    paper = wire_paper(outer_wires(one), outer_wires(other))
    return part_paper(one, other) if paper is None else paper


def wire_paper(ones, others):
    """A paper of a wire between outers that stands in one of two lists only, or None."""
    for wire in ones + others:
        if (wire in ones) != (wire in others):
            return ("wire", wire[0][1], wire[1][1])
    return None


def part_paper(one, other):
    """A paper of a part that lies at more boxes of the one net than of the other, or None."""
    ones = part_counts(one)
    others = part_counts(other)
    for part in list(ones) + list(others):
        if ones.get(part, 0) != others.get(part, 0):
            return ("part", part, ones.get(part, 0), others.get(part, 0))
    return None


def part_counts(net):
    """A dict that has for the part at each box at how many boxes it lies."""
    counts = {}
    for part in parts_of(net):
        counts[part] = counts.get(part, 0) + 1
    return counts


def shows_unlike(stock, one, other, paper):
    """Whether a paper, of anything, shows two nets of the stock unlike."""
    if paper == ("outers",):
        return one[0] != other[0]
    if paper == ("rings",):
        return one[3] != other[3]
    if is_tuple(paper, 3) and paper[0] == "wire":
        return shows_wire(one, other, paper[1], paper[2])
    if is_tuple(paper, 4) and paper[0] == "part":
        return is_part(stock, paper[1]) and shows_part(one, other, paper)
    return False


def shows_wire(one, other, low, high):
    """Whether these, of anything, are outers that are joined to one another in just one of the nets."""
    if not is_whole(low) or not is_whole(high) or low >= high or len(one[0]) != len(other[0]):
        return False
    wire = ((OUTER, low), (OUTER, high))
    return (wire in one[2]) != (wire in other[2])


def shows_part(one, other, paper):
    """Whether the part of a paper lies at as many boxes of the nets as it tells, and these are unlike numbers."""
    part, many, few = paper[1:]
    if not is_whole(many) or not is_whole(few) or many == few:
        return False
    return lies_many(one, part) == many and lies_many(other, part) == few


def lies_many(net, part):
    """At how many boxes of the net a part lies."""
    return len([box for box in range(len(net[1])) if lies_at(net, part, box) is not None])
