"""The exceptions that this package raises."""


class ChainError(ValueError):
    """Any argument that is refused."""


class BadLay(ChainError):
    """A value is no lay, or not one that is wanted here."""

    def __init__(self, place):
        super().__init__("this is no such lay")
        self.place = place


class BadChains(ChainError):
    """A value is no chains."""

    def __init__(self, place):
        super().__init__("these are no chains")
        self.place = place


class BadStep(ChainError):
    """A value is no step of the lay."""

    def __init__(self, value):
        super().__init__("this is no step of the lay")
        self.value = value


class BadEnd(ChainError):
    """A value is no end of the lay."""

    def __init__(self, value):
        super().__init__("this is no end of the lay")
        self.value = value


class BadLink(ChainError):
    """A value is no link, or no links, that can be meant here."""

    def __init__(self, value):
        super().__init__("this is no such link")
        self.value = value


class BadNumber(ChainError):
    """A value is no number, or no numbers, that can stand here."""

    def __init__(self, value):
        super().__init__("this is no such number")
        self.value = value


class BadHistory(ChainError):
    """A value is no history from the lay."""

    def __init__(self, place):
        super().__init__("this is no history from the lay")
        self.place = place


class BadSeveral(ChainError):
    """A value is no tuple of several lays."""

    def __init__(self, place):
        super().__init__("these are no several lays")
        self.place = place


class BadPaper(ChainError):
    """A paper does not show what it should."""

    def __init__(self, word):
        super().__init__("this paper does not hold")
        self.word = word


class BadWorths(ChainError):
    """A value is no worths."""

    def __init__(self, place):
        super().__init__("these are no worths")
        self.place = place


class BadTree(ChainError):
    """A value is no tree of lays."""

    def __init__(self, path):
        super().__init__("this is no tree")
        self.path = path


class BadTerm(ChainError):
    """A value is no TERM."""

    def __init__(self, path):
        super().__init__("this is no term")
        self.path = path


class BadSaying(ChainError):
    """A value is no SAYING."""

    def __init__(self, path):
        super().__init__("this is no saying")
        self.path = path


class BadLog(ChainError):
    """A value is no LOG."""

    def __init__(self, place):
        super().__init__("this is no log")
        self.place = place


class BadLot(ChainError):
    """A value is no LOT."""

    def __init__(self, place):
        super().__init__("this is no lot")
        self.place = place


class BadText(ChainError):
    """A text cannot be read."""

    def __init__(self, line, word):
        super().__init__("this text cannot be read")
        self.line = line
        self.word = word


class Unlike(ChainError):
    """Lays have unlike numbers of links."""

    def __init__(self):
        super().__init__("these lays have unlike numbers of links")


class TooGreat(OverflowError):
    """There would be more than so many."""

    def __init__(self, most):
        super().__init__("there would be too many")
        self.most = most
