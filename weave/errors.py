"""All refusals, each a class of its own straight under WeaveError."""


class WeaveError(ValueError):
    """Any refusal."""


class NoStock(WeaveError):
    """There are no kinds, or too many."""


class NoNet(WeaveError):
    """What was handed in makes no net."""


class NoRule(WeaveError):
    """Two nets make no rule."""


class NoPlace(WeaveError):
    """The rule has no such place in the net."""


class Shared(WeaveError):
    """Two places have a box in common."""


class TooMany(WeaveError):
    """A limit is passed."""


class NoFall(WeaveError):
    """Some rule doesn't fall by the weight."""


class NoJoin(WeaveError):
    """The rules aren't told to join."""


class NoName(WeaveError):
    """What was handed in is no name."""


class NoDeed(WeaveError):
    """There is no deed to take back."""


class NoAsk(WeaveError):
    """The row is none that a desk answers."""


class NoText(WeaveError):
    """The text of this number is none."""

    def __init__(self, at):
        self.at = at


class NoRow(WeaveError):
    """The row of this number is none there."""

    def __init__(self, at):
        self.at = at


class NoRoad(WeaveError):
    """The step of this number is none there."""

    def __init__(self, at):
        self.at = at


class Twice(WeaveError):
    """The kind of this name is told a second time."""

    def __init__(self, name):
        self.name = name


class NoThing(WeaveError):
    """Nothing of this name stands."""

    def __init__(self, name):
        self.name = name
