"""The errors that the package raises."""


class HearsayError(ValueError):
    """What all errors of this package derive from."""


class BadNet(HearsayError):
    """No Net, or a part that a Net cannot have; `part` names that part, or is None."""

    def __init__(self, part=None):
        super().__init__(f"not a net, or not a part of one: {part}")
        self.part = part


class BadTie(HearsayError):
    """Not the number of a tie."""


class BadState(HearsayError):
    """Not a state of the net."""


class BadDeed(HearsayError):
    """Not a deed that can be done."""


class BadWeaving(HearsayError):
    """Not a weaving; `index` is that of the first wrong deed, or None if it is no list or tuple."""

    def __init__(self, index=None):
        super().__init__(f"not a weaving, wrong at: {index}")
        self.index = index


class BadWish(HearsayError):
    """Not a wish, or not hopes."""


class TooLarge(HearsayError):
    """More states come about than are looked at."""


class BadPrices(HearsayError):
    """Not prices of rules."""


class BadChoice(HearsayError):
    """Not a choice of rules."""


class BadHost(HearsayError):
    """Not the number of a host other than 0."""


class BadHops(HearsayError):
    """Not a number of hops that a letter can have."""


class Unlike(HearsayError):
    """Two nets that have not as many hosts."""


class BadLog(HearsayError):
    """Not a log; `index` is that of the first wrong pair, or None if the log as a whole is wrong."""

    def __init__(self, index=None):
        super().__init__(f"not a log, wrong at: {index}")
        self.index = index


class NothingDone(HearsayError):
    """There is no deed to take back."""


class BadRates(HearsayError):
    """Not rates of deeds."""


class BadText(HearsayError):
    """Not a text that can be read; `row` is the index of the first wrong line."""

    def __init__(self, row=0):
        super().__init__(f"not a text that can be read, wrong in row: {row}")
        self.row = row
