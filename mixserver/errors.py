"""The refusals of the program."""


class MixError(ValueError):
    """Any refusal."""


class BadSoft(MixError):
    """Voices can't rise and fall in so many beats."""


class BadName(MixError):
    """A voice can't be called so."""


class There(MixError):
    """A voice of this name is there."""


class NoVoice(MixError):
    """No voice of this name is there."""


class BadPace(MixError):
    """A voice can't have this pace."""


class BadWait(MixError):
    """A voice can't wait so long."""


class BadParcel(MixError):
    """A voice can't take this parcel."""


class BadEnd(MixError):
    """A voice can't end there."""


class BadLead(MixError):
    """A voice can't be led to this loudness, or not in so many beats."""


class BadBounds(MixError):
    """Parcels can't keep to these bounds."""


class BadArrivals(MixError):
    """Parcels can't come at these beats; number is the place of the first that can't be."""

    def __init__(self, number):
        super().__init__(f"arrival {number} can't be")
        self.number = number


class BadDeed(MixError):
    """Deeds can't be these; number is the place of the first that can't be."""

    def __init__(self, number):
        super().__init__(f"deed {number} can't be")
        self.number = number


class BadText(MixError):
    """A text doesn't write deeds; row is the place of the first row that writes none."""

    def __init__(self, row):
        super().__init__(f"row {row} writes no deed")
        self.row = row
