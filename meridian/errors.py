"""The errors of the program (point 3)."""


class MeridianError(ValueError):
    """The base class of all errors of the program."""


class BadArgument(MeridianError):
    """An argument is out of its range."""


class BadBytes(MeridianError):
    """A block does not contain what it should contain."""


class BadSeal(BadBytes):
    """A block ends with a wrong checksum."""


class Refused(MeridianError):
    """The object cannot do this in its present state."""
