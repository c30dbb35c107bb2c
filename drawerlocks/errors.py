"""The errors that the package raises."""


class DrawerError(ValueError):
    """The base class of all errors of the package."""


class BadDrawers(DrawerError):
    """The number of drawers is none."""


class BadBars(DrawerError):
    """The bars are none; index is that of the first wrong one, None if they are no tuple."""

    def __init__(self, index):
        super().__init__(f"wrong bars, index {index}")
        self.index = index


class BadCabinet(DrawerError):
    """The value is no cabinet."""


class BadStanding(DrawerError):
    """The value is no standing of the cabinet."""


class BadPattern(DrawerError):
    """The value is no pattern of the cabinet."""


class BadDrawer(DrawerError):
    """The value is no drawer of the cabinet."""


class BadSet(DrawerError):
    """The value is no set of drawers."""


class BadPairs(DrawerError):
    """The pairs are none; index is that of the first wrong one, None if they are no list or tuple."""

    def __init__(self, index):
        super().__init__(f"wrong pairs, index {index}")
        self.index = index


class BadNumber(DrawerError):
    """The number is none that may stand there; n is what was passed."""

    def __init__(self, n):
        super().__init__("a number that may not stand there")
        self.n = n


class BadTries(DrawerError):
    """The tries are none; index is that of the first wrong one, None if they are no such list or tuple."""

    def __init__(self, index):
        super().__init__(f"wrong tries, index {index}")
        self.index = index


class Barred(DrawerError):
    """The pull does not go."""


class TooMany(DrawerError):
    """The cabinet has more drawers than most."""

    def __init__(self, most):
        super().__init__(f"more drawers than {most}")
        self.most = most


class Unlike(DrawerError):
    """The cabinets have unlike numbers of drawers."""


class BadCosts(DrawerError):
    """The value is no tuple of costs."""


class BadOrder(DrawerError):
    """The value is no order of the drawers."""


class BadSeen(DrawerError):
    """What was seen is none; index is that of the first wrong thing, None if it is no such list or tuple."""

    def __init__(self, index):
        super().__init__(f"wrong things seen, index {index}")
        self.index = index


class InvalidText(DrawerError):
    """The text is that of no cabinet; line and word, from 1, are the first that cannot stand there."""

    def __init__(self, line, word):
        super().__init__(f"line {line}, word {word}")
        self.line = line
        self.word = word
