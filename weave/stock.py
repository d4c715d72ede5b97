"""Names, specs and stocks [4], [5]."""

from weave.things import is_spelled, is_tuple, rises

LETTERS = "abcdefghijklmnopqrstuvwxyz"
NAME_MOST = 8
KINDS_MOST = 8
PORTS_MOST = 4


def is_name(thing):
    """Whether it is a text of one to eight small letters, of anything."""
    return isinstance(thing, str) and is_spelled(thing, LETTERS, NAME_MOST)


def is_spec(thing):
    """Whether it is a tuple (sort, side), of anything."""
    return is_tuple(thing, 2) and is_name(thing[0]) and thing[1] in ("+", "-")


def are_specs(thing):
    """Whether it is a tuple of specs, of anything."""
    return isinstance(thing, tuple) and all(is_spec(spec) for spec in thing)


def is_entry(thing):
    """Whether it is a tuple (kind, ports) as stocks have them, of anything."""
    if not is_tuple(thing, 2):
        return False
    kind, ports = thing
    return is_name(kind) and are_specs(ports) and 1 <= len(ports) <= PORTS_MOST


def is_stock(thing):
    """Whether it is a stock, of anything."""
    if not isinstance(thing, tuple) or not 1 <= len(thing) <= KINDS_MOST:
        return False
    if not all(is_entry(entry) for entry in thing):
        return False
    # Kinds stand once each, so that the tuples rise just where their kinds do.
    return rises([entry[0] for entry in thing])


def mate_of(spec):
    """The spec of the same sort and the other side."""
    sort, side = spec
    return (sort, "-" if side == "+" else "+")


def ports_of(stock, kind):
    """The specs of the ports of a kind of the stock."""
    return dict(stock)[kind]
