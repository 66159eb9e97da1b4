"""Books: sheets that grow from day to day, while terms are quashed and their lengths are told."""

from termlays.chains import chains_told
from termlays.days import full_lines
from termlays.ends import Ends
from termlays.errors import BadDays, IsTold, NoTerm, Nothing
from termlays.sheets import Sheet
from termlays.values import is_count


def replayed(events):
    """The book behind a list of events."""
    book = Book()
    for event in events:
        _happen(book, event)
    return book


def _happen(book, event):
    if event[0] == "lay":
        book.lay(event[1], event[2], least=event[3])
    elif event[0] == "quash":
        book.quash(event[1])
    elif event[0] == "restore":
        book.restore(event[1])
    elif event[0] == "tell":
        book.tell(event[1], event[2])
    else:
        book.pass_days(event[1])


class Book:
    """Lines that are laid on their days, and what has come about since."""

    def __init__(self):
        # How the book stands: the day, the sheet, the days of the names that are told, and the days on which the
        # lines were laid. A stand never changes, each event makes another one; so it can be kept to be taken back.
        self._stand = (0, Sheet([]), {}, {})
        # The events, each with the stand ahead of it.
        self._past = []

    @property
    def day(self):
        """The number of days that have passed."""
        return self._stand[0]

    @property
    def sheet(self):
        """The sheet of the lines and the quashed names."""
        return self._stand[1]

    @property
    def told(self):
        """The dict from the names that are told to their days."""
        return dict(self._stand[2])

    @property
    def history(self):
        """The list of the events."""
        return [event for event, _ in self._past]

    def lay(self, name, lay, *, least=12):
        """A line is put in."""
        day, sheet, told, laid = self._stand
        longer = sheet.with_line(name, lay, least=least)
        self._go_on(("lay", name, lay, least), (day, longer, told, {**laid, name: day}))

    def quash(self, name):
        """A term is quashed."""
        day, sheet, told, laid = self._stand
        self._go_on(("quash", name), (day, sheet.quash(name), told, laid))

    def restore(self, name):
        """A term is not quashed any more."""
        day, sheet, told, laid = self._stand
        self._go_on(("restore", name), (day, sheet.restore(name), told, laid))

    def tell(self, name, days):
        """The length of a term is told."""
        day, sheet, told, laid = self._stand
        if name not in sheet.names:
            raise NoTerm(name)
        if name in told:
            raise IsTold(name)
        if not is_count(days):
            raise BadDays(days)
        self._go_on(("tell", name, days), (day, sheet, {**told, name: days}, laid))

    def pass_days(self, days):
        """So many days pass."""
        day, sheet, told, laid = self._stand
        if not is_count(days) or days == 0:
            raise BadDays(days)
        self._go_on(("pass", days), (day + days, sheet, told, laid))

    def undo(self):
        """The last event, which is taken back."""
        if len(self._past) == 0:
            raise Nothing()
        event, self._stand = self._past.pop()
        return event

    def fork(self):
        """A new book that stands as this one does, with its history."""
        other = Book()
        other._stand = self._stand
        other._past = list(self._past)
        return other

    def form(self):
        """The ends of the form."""
        _, sheet, told, laid = self._stand
        return Ends(chains_told(full_lines(sheet), sheet.quashed, told, laid))

    def end(self):
        """The end in parts, None if a name of the form is not told."""
        form = self.form()
        return form.at({}) if form.names in ([], [""]) else None

    def _go_on(self, event, stand):
        self._past.append((event, self._stand))
        self._stand = stand
