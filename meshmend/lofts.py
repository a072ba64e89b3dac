"""Lofts: a net that is ripped, trimmed and mended, with undo and redo."""

from meshmend.bounds import MAX_DEEDS
from meshmend.errors import (
    BadBars, BadPlan, BadSheet, BadTear, BadTwine, Full, NoBar, NoListener, NothingDone, NothingUndone,
)
from meshmend.plans import bars_along, fewest, plan_error
from meshmend.sheets import is_bar, is_integer_within, sheet_error
from meshmend.tears import bars_error, holes, odd, tear_error
from meshmend.texts import net_text


class Loft:
    """A sheet and a tear of it, which deeds change."""

    def __init__(self, sheet, *, tear=()):
        word = sheet_error(sheet)
        if word is not None:
            raise BadSheet(word)
        number = tear_error(sheet, tear)
        if number is not None:
            raise BadTear(number)
        self._sheet = sheet
        self._tear = tear
        self._used = 0
        # Pairs of a tear and of how many twines were used: those ahead of the
        # deeds that stand, and those behind the deeds that are taken back.
        self._ahead = []
        self._behind = []
        self._listeners = {}
        self._next_number = 0

    @property
    def sheet(self):
        """The sheet."""
        return self._sheet

    @property
    def tear(self):
        """The tear as it is now."""
        return self._tear

    @property
    def used(self):
        """How many twines the deeds that stand have used."""
        return self._used

    def __len__(self):
        return len(self._tear)

    def __contains__(self, bar):
        return is_bar(self._sheet, bar) and bar in self._tear

    def __iter__(self):
        return iter(self._tear)

    def __str__(self):
        return str(net_text(self._sheet, self._tear))

    def __eq__(self, other):
        return isinstance(other, Loft) and self._sheet == other._sheet and self._tear == other._tear

    def holes(self):
        """Return the holes of the tear as it is now."""
        return holes(self._sheet, self._tear)

    def odd(self):
        """Return the odd knots as they are now."""
        return odd(self._sheet, self._tear)

    def fewest(self):
        """Return the least number of twines of a plan for the tear as it is now."""
        return fewest(self._sheet, self._tear)

    def rip(self, bar):
        """Let the bar lack; return how many bars lack."""
        self._need_room()
        if not is_bar(self._sheet, bar) or bar in self._tear:
            raise NoBar(bar)
        return self._do(self._tear + (bar,), 0)

    def trim(self, bars):
        """Let all of these bars lack; return how many bars lack."""
        self._need_room()
        number = bars_error(self._sheet, self._tear, bars)
        if number is not None:
            raise BadBars(number)
        return self._do(self._tear + bars, 0)

    def mend(self, twine):
        """Make whole the bars that the twine goes over; return how many bars lack."""
        self._need_room()
        error = plan_error(self._sheet, self._tear, (twine,))
        # That bars lack which no twine goes over does not matter here.
        if error is not None and error[1] != "lacking":
            raise BadTwine(error[1])
        mended = bars_along(self._sheet, twine)
        return self._do([bar for bar in self._tear if bar not in mended], 1)

    def mend_all(self, plan):
        """Make all bars whole by the plan; return how many bars lack."""
        self._need_room()
        error = plan_error(self._sheet, self._tear, plan)
        if error is not None:
            raise BadPlan(error[0], error[1])
        return self._do((), len(plan))

    def undo(self):
        """Take back the last deed that stands; return how many bars lack."""
        if not self._ahead:
            raise NothingDone()
        self._behind.append((self._tear, self._used))
        tear, used = self._ahead.pop()
        return self._show(tear, used)

    def redo(self):
        """Do again the last deed that was taken back; return how many bars lack."""
        if not self._behind:
            raise NothingUndone()
        self._ahead.append((self._tear, self._used))
        tear, used = self._behind.pop()
        return self._show(tear, used)

    def listen(self, function):
        """Let the function be called when another number of twines is the least; return its number."""
        number = self._next_number
        self._next_number = number + 1
        self._listeners[number] = function
        return number

    def unlisten(self, number):
        """Let the function with this number be called no more."""
        if not is_integer_within(number, 0, self._next_number - 1) or number not in self._listeners:
            raise NoListener(number)
        del self._listeners[number]

    def twin(self):
        """Return a new loft with the same sheet, tear and deeds, without listeners."""
        other = Loft(self._sheet, tear=self._tear)
        other._used = self._used
        other._ahead = list(self._ahead)
        other._behind = list(self._behind)
        return other

    def _need_room(self):
        """Raise Full if no more deed can be done."""
        if len(self._ahead) == MAX_DEEDS:
            raise Full()

    def _do(self, bars, twines):
        """Do a deed, behind which these bars lack and so many more twines are used."""
        self._ahead.append((self._tear, self._used))
        self._behind = []
        return self._show(tuple(sorted(bars)), self._used + twines)

    def _show(self, tear, used):
        """Show this tear from now on, and call those that listen; return how many bars lack."""
        earlier = self.fewest()
        self._tear = tear
        self._used = used
        if self.fewest() != earlier:
            for function in list(self._listeners.values()):
                function(self)
        return len(tear)
