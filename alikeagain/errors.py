"""All errors that the package raises."""


class AlikeError(ValueError):
    """Any argument that is refused."""

    def __init__(self, text):
        ValueError.__init__(self, text)


class BadNet(AlikeError):
    """No net."""

    def __init__(self, place):
        AlikeError.__init__(self, "no net")
        self.place = place


class BadRound(AlikeError):
    """No round."""

    def __init__(self, place):
        AlikeError.__init__(self, "no round")
        self.place = place


class BadPlan(AlikeError):
    """No plan."""

    def __init__(self, place):
        AlikeError.__init__(self, "no plan")
        self.place = place


class BadFaults(AlikeError):
    """No faults."""

    def __init__(self, place):
        AlikeError.__init__(self, "no faults")
        self.place = place


class BadHears(AlikeError):
    """No hearing."""

    def __init__(self, value):
        AlikeError.__init__(self, "no hearing")
        self.value = value


class BadWants(AlikeError):
    """No wants."""

    def __init__(self, value):
        AlikeError.__init__(self, "no wants")
        self.value = value


class BadKind(AlikeError):
    """No such kind."""

    def __init__(self, place):
        AlikeError.__init__(self, "no such kind")
        self.place = place


class BadLetters(AlikeError):
    """No such letters."""

    def __init__(self, value):
        AlikeError.__init__(self, "no such letters")
        self.value = value


class BadBook(AlikeError):
    """No book."""

    def __init__(self, place):
        AlikeError.__init__(self, "no book")
        self.place = place


class BadNumber(AlikeError):
    """No such number."""

    def __init__(self, value):
        AlikeError.__init__(self, "no such number")
        self.value = value


class BadStation(AlikeError):
    """No such station."""

    def __init__(self, value):
        AlikeError.__init__(self, "no such station")
        self.value = value


class BadStand(AlikeError):
    """No stand."""

    def __init__(self, value):
        AlikeError.__init__(self, "no stand")
        self.value = value


class BadState(AlikeError):
    """No such state."""

    def __init__(self, value):
        AlikeError.__init__(self, "no such state")
        self.value = value


class BadRelay(AlikeError):
    """No relay."""

    def __init__(self, part):
        AlikeError.__init__(self, "no relay")
        self.part = part


class BadPaper(AlikeError):
    """A paper that does not hold."""

    def __init__(self, word):
        AlikeError.__init__(self, "a paper that does not hold")
        self.word = word


class BadTest(AlikeError):
    """No tests."""

    def __init__(self, place):
        AlikeError.__init__(self, "no tests")
        self.place = place


class BadSeen(AlikeError):
    """Nothing that can be seen."""

    def __init__(self, place):
        AlikeError.__init__(self, "nothing that can be seen")
        self.place = place


class BadSaying(AlikeError):
    """No saying."""

    def __init__(self, path):
        AlikeError.__init__(self, "no saying")
        self.path = path


class BadWish(AlikeError):
    """No wish."""

    def __init__(self, path):
        AlikeError.__init__(self, "no wish")
        self.path = path


class BadTerm(AlikeError):
    """No term."""

    def __init__(self, path):
        AlikeError.__init__(self, "no term")
        self.path = path


class BadLog(AlikeError):
    """No log."""

    def __init__(self, place):
        AlikeError.__init__(self, "no log")
        self.place = place


class BadLines(AlikeError):
    """Lines that cannot be read."""

    def __init__(self, line, word):
        AlikeError.__init__(self, "lines that cannot be read")
        self.line = line
        self.word = word


class TooGreat(OverflowError):
    """More than the package goes through."""

    def __init__(self, most):
        OverflowError.__init__(self, "too great")
        self.most = most
