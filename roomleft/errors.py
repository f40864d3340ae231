"""The errors that the package raises, each with the fields that it is made with."""


class RoomError(ValueError):
    """Whatever the package refuses."""


class BadKind(RoomError):
    """A parameter of a kind, a way or a part is not as told."""

    def __init__(self, part):
        self.part = part


class BadEdition(RoomError):
    """A parameter of an edition is not as told."""

    def __init__(self, part):
        self.part = part


class MissingKind(RoomError):
    """A Call names a kind that the edition does not have."""

    def __init__(self, name):
        self.name = name


class RingOfCalls(RoomError):
    """A kind calls itself, directly or through other kinds."""

    def __init__(self, name):
        self.name = name


class LongBody(RoomError):
    """An own message does not fit into the body of its door or room."""

    def __init__(self, name, inner):
        self.name = name
        self.inner = inner


class RoomTaken(RoomError):
    """The word of a room is not free for what follows the room."""

    def __init__(self, name, inner):
        self.name = name
        self.inner = inner


class NoKind(RoomError):
    """There is no such kind in the edition."""

    def __init__(self):
        super().__init__()


class NoBits(RoomError):
    """The argument is not bits."""

    def __init__(self):
        super().__init__()


class BadValue(RoomError):
    """The thing at the path is not as told, so there is no value."""

    def __init__(self, path):
        self.path = path


class BadBits(RoomError):
    """No message can come behind the bit with this number."""

    def __init__(self, at):
        self.at = at


class TooFew(RoomError):
    """The bits begin a message that needs at least so many more."""

    def __init__(self, due):
        self.due = due


class Left(RoomError):
    """The message ends ahead of the bit with this number."""

    def __init__(self, at):
        self.at = at


class NoOwn(RoomError):
    """The message is not an own one of the edition."""

    def __init__(self):
        super().__init__()


class BadNumber(RoomError):
    """A number among the arguments is not as told."""

    def __init__(self, part):
        self.part = part


class TooMany(RoomError):
    """There are more things than are looked at."""

    def __init__(self, most):
        self.most = most


class NoUndo(RoomError):
    """There is not so much to take back."""

    def __init__(self):
        super().__init__()


class NoStep(RoomError):
    """The edition cannot take the step."""

    def __init__(self, reason):
        self.reason = reason


class BadWeights(RoomError):
    """The weights are not as told."""

    def __init__(self):
        super().__init__()


class NoPlace(RoomError):
    """The path leads to no place of the message."""

    def __init__(self):
        super().__init__()


class NoRoom(RoomError):
    """The body at the path would have too many bits."""

    def __init__(self, path):
        self.path = path


class Broken(RoomError):
    """A program on the way of a message fails."""

    def __init__(self, at, word):
        self.at = at
        self.word = word


class BadText(RoomError):
    """A line of a text is wrong."""

    def __init__(self, line):
        self.line = line


class NoLine(RoomError):
    """The desk knows no line of this form."""

    def __init__(self):
        super().__init__()


class NoName(RoomError):
    """The desk has no edition of this name."""

    def __init__(self, name):
        self.name = name
