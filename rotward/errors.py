"""The errors of the program."""


class RotError(ValueError):
    """The base class of all errors of the program."""


class Refused(RotError):
    """A change, or something that is read, has a problem."""

    def __init__(self, index, problem):
        self.index = index
        self.problem = problem


class InvalidArgument(RotError):
    """An argument is not what it has to be."""


class PowerOff(RotError):
    """Power is off, or fails."""


class NotFormatted(RotError):
    """The disks are not formatted."""


class AlreadyFormatted(RotError):
    """The disks are formatted already."""


class FilesOpen(RotError):
    """The files of the disks are open already."""


class FilesClosed(RotError):
    """Power has failed since the files were opened."""


class FilesLost(RotError):
    """The disks do not tell any more what the files are."""


class DisksFull(RotError):
    """A commit cannot be stored."""


class DamagedData(RotError):
    """Bytes are not the written form that they should be."""
