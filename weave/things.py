"""Questions about things of any form, which the other modules share."""


def is_whole(thing):
    """Whether it is a whole number: truths are ints to Python, but no numbers here."""
    return isinstance(thing, int) and not isinstance(thing, bool)


def are_whole(thing):
    """Whether it is a tuple of whole numbers."""
    return isinstance(thing, tuple) and all(is_whole(number) for number in thing)


def is_tuple(thing, many):
    """Whether it is a tuple of so many things."""
    return isinstance(thing, tuple) and len(thing) == many


def rises(things):
    """Whether each of them is less than the one behind it."""
    return all(things[at] < things[at + 1] for at in range(len(things) - 1))


def is_spelled(text, signs, most):
    """Whether a text has one to so many signs, all of them among those told."""
    return 1 <= len(text) <= most and all(sign in signs for sign in text)


def itself(many):
    """The tuple of so many numbers from 0 on: a naming of boxes by themselves, and the place of a net in itself."""
    return tuple(range(many))
