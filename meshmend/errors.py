"""The errors of the package, each one directly under NetError."""

# The messages leave the values out: these may be of any kind, and of a size
# that makes them slow or impossible to write.


class NetError(ValueError):
    """What all errors of the package have in common."""


class NotOne(NetError):
    """The tear is not one hole; number tells how many holes it has."""

    def __init__(self, number):
        super().__init__("the tear is not one hole")
        self.number = number


class TooMany(NetError):
    """More than MAX_WRONG knots are wrong (or odd); number tells how many."""

    def __init__(self, number):
        super().__init__("too many knots are wrong")
        self.number = number


class NoTrim(NetError):
    """There is no trim; lot holds the joined knots that show it."""

    def __init__(self, lot):
        super().__init__("there is no trim")
        self.lot = lot


class NoPaper(NetError):
    """A value is no paper; word tells what is wrong, number where."""

    def __init__(self, word, number):
        super().__init__("this is no trim paper")
        self.word = word
        self.number = number


class NotEven(NetError):
    """The hole has an odd knot; knot is the first one."""

    def __init__(self, knot):
        super().__init__("the hole has an odd knot")
        self.knot = knot


class NoRing(NetError):
    """There is no whole turning for this value."""

    def __init__(self, value):
        super().__init__("there is no such whole turning")
        self.value = value


class BadExchange(NetError):
    """Exchanges cannot be done; number is that of the first bad one, or -1."""

    def __init__(self, number):
        super().__init__("these exchanges cannot be done")
        self.number = number


class NoEdge(NetError):
    """No even edge goes these steps."""

    def __init__(self):
        super().__init__("no even edge goes these steps")


class BadSheet(NetError):
    """A value is no sheet; word is that of sheet_error."""

    def __init__(self, word):
        super().__init__("this is no sheet")
        self.word = word


class BadTear(NetError):
    """A value is no tear; number is that of tear_error."""

    def __init__(self, number):
        super().__init__("this is no tear of the sheet")
        self.number = number


class NoBar(NetError):
    """A value is no whole bar, so it cannot be ripped."""

    def __init__(self, bar):
        super().__init__("this is no whole bar")
        self.bar = bar


class BadBars(NetError):
    """Bars cannot be trimmed; number is that of the first bad one, or -1."""

    def __init__(self, number):
        super().__init__("these bars cannot be trimmed")
        self.number = number


class BadTwine(NetError):
    """A value is no twine to mend with; word is that of plan_error."""

    def __init__(self, word):
        super().__init__("this twine cannot mend the tear")
        self.word = word


class BadPlan(NetError):
    """A value is no plan; number and word are those of plan_error."""

    def __init__(self, number, word):
        super().__init__("this is no plan for the tear")
        self.number = number
        self.word = word


class Full(NetError):
    """MAX_DEEDS deeds stand already."""

    def __init__(self):
        super().__init__("no more deeds can be done")


class NothingDone(NetError):
    """No deed stands that could be taken back."""

    def __init__(self):
        super().__init__("there is no deed to take back")


class NothingUndone(NetError):
    """No deed is taken back that could be done again."""

    def __init__(self):
        super().__init__("there is no deed to do again")


class NoListener(NetError):
    """A value is no number of one that listens."""

    def __init__(self, number):
        super().__init__("nobody listens under this number")
        self.number = number


class BadText(NetError):
    """A value is no text of a net; line and sign tell the place of the fault."""

    def __init__(self, line, sign):
        super().__init__("this is no text of a net")
        self.line = line
        self.sign = sign
