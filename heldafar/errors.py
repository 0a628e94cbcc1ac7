"""The refusals of heldafar; all of them are a FarError."""


class FarError(ValueError):
    """What heldafar refuses."""


class NoPicture(FarError):
    """This is no picture; house and number are those of a name of no thing, or -1 and -1."""

    def __init__(self, house, number):
        super().__init__("this is no picture")
        self.house = house
        self.number = number


class NoText(FarError):
    """A text, or what is to be shown as one, isn't of the told form."""


class NoThing(FarError):
    """There is no such thing."""


class NoHouse(FarError):
    """There is no such other house."""


class NoPacket(FarError):
    """This is no packet, or none is there."""


class BadStep(FarError):
    """This is no step."""


class NotHere(FarError):
    """The name's home is another house."""


class IsHere(FarError):
    """The name's home is this house."""


class NoField(FarError):
    """The thing has no such field."""


class TooMany(FarError):
    """There is no room for one more."""
