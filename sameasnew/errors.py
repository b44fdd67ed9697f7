"""The errors of the package."""


class ModuleError(ValueError):
    """The base class of all errors of the package."""


class OutOfRange(ModuleError):
    """An argument is not within its bounds; the field name tells which one."""

    def __init__(self, name):
        super().__init__(f"{name} is out of range")
        self.name = name


class AtWork(ModuleError):
    """A call waits already."""


class NotKept(ModuleError):
    """The disk holds no log."""


class NotOpen(ModuleError):
    """What is used was closed by a power cut."""


class LogFull(ModuleError):
    """There are fewer blocks left than the records need."""


class PowerCut(ModuleError):
    """The power was cut."""


class NoLetter(ModuleError):
    """The row has no letter at this index."""
