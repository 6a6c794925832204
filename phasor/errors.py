"""All errors that the program raises."""


class PhasorError(ValueError):
    """The base class of all errors that the program raises."""


class NotDivisible(PhasorError):
    """A ring number is not divisible by another one."""


class SizeMismatch(PhasorError):
    """The sizes of two arguments do not fit each other."""


class InvalidGate(PhasorError):
    """A gate or a macro does not fit, or a width is below 1."""


class NotClifford(PhasorError):
    """A T gate stands where only Clifford gates are allowed."""


class NotPhaseOnly(PhasorError):
    """A gate stands where only gates without H are allowed."""


class NotInvertible(PhasorError):
    """A linear map has no inverse."""


class TooLarge(PhasorError):
    """An argument is larger than the document allows."""


class InvalidDevice(PhasorError):
    """A device is not well formed, or it cannot execute a gate."""


class UnknownPass(PhasorError):
    """There is no pass with the name."""


class NotUnitary(PhasorError):
    """A matrix is not unitary."""


class NotReady(PhasorError):
    """A machine has no program."""


class InvalidText(PhasorError):
    """A line of a text breaks a rule. Lines are counted from 1."""

    def __init__(self, line):
        super().__init__(f"line {line} is not valid")
        self.line = line
