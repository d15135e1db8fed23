"""The errors that the program raises."""


class HouseError(ValueError):
    """The base class of all errors of the program."""


class BadPlan(HouseError):
    """What was given is no plan."""


class FaultyCondition(HouseError):
    """A text is no condition."""


class NoSuchElement(HouseError):
    """A pair is no element of the plan."""


class NothingToAvoid(HouseError):
    """A detour is asked around the space itself or around an outside."""


class NotPresent(HouseError):
    """An element is not present."""


class NotARaise(HouseError):
    """A value is not above the present one."""


class TooGreat(HouseError):
    """A value is above the greatest one."""


class NoSuchMeasure(HouseError):
    """No measure of the plan has this number."""


class AlreadyInstalled(HouseError):
    """A measure is installed already."""


class TooManyChanges(HouseError):
    """No further change can be undone."""


class TooManyEditions(HouseError):
    """A code has no further edition."""


class FaultyLine(HouseError):
    """A text has a wrong line, the one with this number."""

    def __init__(self, line):
        self.line = line


class NoUpgrade(HouseError):
    """There is no upgrade, because of this obstacle."""

    def __init__(self, obstacle):
        self.obstacle = obstacle


class TooManyReasons(HouseError):
    """An upgrade has too many reasons."""

    def __init__(self, count):
        self.count = count


class TooManyMinutes(HouseError):
    """More minutes are asked for than are allowed."""

    def __init__(self, count):
        self.count = count
