"""The errors that the package raises."""


class PieceError(ValueError):
    """The base class of all errors of the package."""


class InvalidProgram(PieceError):
    """The parts do not make a program."""


class InvalidChain(PieceError):
    """The programs and links do not make a chain, or the chain has too many programs."""


class InvalidBeginning(PieceError):
    """The value is not a beginning of the chain."""


class InvalidInput(PieceError):
    """The value is not an input of the chain, or it has a wrong length."""


class InvalidClass(PieceError):
    """The value is not a class of the chain."""


class InvalidDeed(PieceError):
    """The value is not a possible deed for the class."""


class NoSuchPiece(PieceError):
    """The document has no piece with this number."""


class NoSuchPlace(PieceError):
    """There is no such place."""


class TooMuch(PieceError):
    """There would be more than is allowed."""


class NothingToUndo(PieceError):
    """No earlier state is remembered."""


class NothingToRedo(PieceError):
    """Nothing was undone since the last edit."""


class InvalidWorker(PieceError):
    """The value is not a worker."""


class ToldOther(PieceError):
    """The worker has told another deed for the class before."""


class InvalidDesk(PieceError):
    """The number of workers who may lie is not one that a desk can have."""


class NoSuchChannel(PieceError):
    """The chain has no such program, or the program no such channel."""
