"""Stocks, nets and odd things that several tests use."""

PLUS = ("n", "+")
MINUS = ("n", "-")

# add takes two and gives one, cut takes one, dup takes one and gives two, one gives one.
STOCK = (
    ("add", (PLUS, PLUS, MINUS)),
    ("cut", (MINUS,)),
    ("dup", (PLUS, MINUS, MINUS)),
    ("neg", (PLUS, MINUS)),
    ("one", (PLUS,)),
    ("two", (("m", "+"), ("m", "-"), PLUS, MINUS)),
)

EMPTY = ((), (), (), ())

# The sample of [7].
SAMPLE = (
    (PLUS, PLUS, MINUS, MINUS),
    ("add", "cut"),
    (((-1, 0), (0, 2)), ((-1, 1), (-1, 2)), ((-1, 3), (0, 0)), ((0, 1), (1, 0))),
    (),
)
SAMPLE_TEXT = "add 2 3 0, cut 3 ; +n 0, +n 1, -n 1, -n 2 ; -"

# A box joined to itself, beside two kinds of rings.
LOOP = ((), ("neg",), (((0, 0), (0, 1)),), (("m", 1), ("n", 12)))

# Outers that are joined to one another, and nothing else.
THROUGH = ((PLUS, MINUS), (), (((-1, 0), (-1, 1)),), ())

# A box whose four ports are joined in two loops, and an outer of a sort that no kind has.
WIDE = (
    (("zzzzzzzz", "-"), ("zzzzzzzz", "+")),
    ("two",),
    (((-1, 0), (-1, 1)), ((0, 0), (0, 1)), ((0, 2), (0, 3))),
    (("a", 1), ("b", 10**29)),
)

NETS = (EMPTY, SAMPLE, LOOP, THROUGH, WIDE)

DEEP = ()
for _ in range(50):
    DEEP = (1, [DEEP])

ANYTHING = (
    None, True, False, 0, 1, -1, 10**29, "", "a", "n", "+", "-", "outers", "part", (), [], ((),), [[]], ([],), [()],
    (None,), (True,), (0,), ("n",), ("n", "+"), ["n", "+"], (("n", "+"),), ((), ()), ((), (), (), ()), [(), (), (), ()],
    ([], [], [], []), (0, 1), (0, 0), [0, 1], ((0, 1), (0, 2)), ("outers", None), (None, None, None, None), DEEP, [DEEP],
    (DEEP, DEEP), (DEEP, DEEP, DEEP, DEEP), ("part", DEEP, 1, 2), ("wire", DEEP, DEEP),
)


def bent(thing):
    """Copies of a thing in which just one spot, at any depth, is of another kind."""
    if isinstance(thing, tuple):
        yield list(thing)
        yield None
        yield 0
        yield "a"
        for at, inner in enumerate(thing):
            for other in bent(inner):
                yield thing[:at] + (other,) + thing[at + 1:]
    elif isinstance(thing, str):
        yield from (None, 0, True, (), [], (thing,), [thing], "", thing.upper() + "A", thing + " ")
    else:
        yield from (None, str(thing), (thing,), [thing], True, False, "")


def shuffled(net, order):
    """The net with its box b called order[b]: alike to it by that naming."""
    outers, boxes, wires, rings = net
    kinds = [None] * len(boxes)
    for box, kind in enumerate(boxes):
        kinds[order[box]] = kind
    ends = [[(box if box < 0 else order[box], port) for box, port in wire] for wire in wires]
    return outers, tuple(kinds), tuple(sorted(tuple(sorted(pair)) for pair in ends)), rings


def some_net(chance, most):
    """A net of a few boxes of one sort, its ends joined by chance, by a source that tells the same each time."""
    kinds = {"add": "++-", "cut": "-", "dup": "+--", "neg": "+-", "one": "+"}
    boxes = [chance.choice(sorted(kinds)) for _ in range(chance.randint(0, most))]
    ends = {"+": [], "-": []}
    for box, kind in enumerate(boxes):
        for port, side in enumerate(kinds[kind]):
            ends[side].append((box, port))
    outers = [chance.choice("+-") for _ in range(chance.randint(0, 2))]
    outers += ["+"] * (len(ends["-"]) + outers.count("-") - len(ends["+"]) - outers.count("+"))
    outers += ["-"] * (len(ends["+"]) + outers.count("+") - len(ends["-"]) - outers.count("-"))
    for at, side in enumerate(outers):
        ends[side].append((-1, at))
    chance.shuffle(ends["-"])
    wires = tuple(sorted(tuple(sorted(pair)) for pair in zip(ends["+"], ends["-"])))
    rings = chance.choice(((), (), (), (("n", 1),), (("m", 2), ("n", 1))))
    return tuple(("n", side) for side in outers), tuple(boxes), wires, rings
