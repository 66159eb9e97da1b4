"""[19]: books, event by event."""

import copy
import random
import unittest

from termlays.books import Book, replayed
from termlays.days import end
from termlays.ends import Ends, ends_of
from termlays.errors import (
    BadDays, BadLay, BadName, BadShare, IsQuashed, IsTold, NamedTwice, Nothing, NotNamed, NoTerm, NotQuashed,
)
from termlays.sheets import Sheet
from tests.samples import ANY_VALUES, BIG, drawn_lay, raised


class Record:
    """What a book is told, kept by the test itself."""

    def __init__(self):
        self.day = 0
        self.lines = []
        self.days_of_lines = []
        self.quashed = []
        self.told = {}
        self.history = []

    def does(self, event):
        self.history.append(event)
        kind, *given = event
        if kind == "lay":
            self.lines.append(tuple(given))
            self.days_of_lines.append(self.day)
        elif kind == "quash":
            self.quashed.append(given[0])
        elif kind == "restore":
            self.quashed.remove(given[0])
        elif kind == "tell":
            self.told[given[0]] = given[1]
        else:
            self.day += given[0]

    def names(self):
        return [line[0] for line in self.lines]

    def untold(self):
        return [name for name in self.names() if name not in self.told]

    def end_at(self, lengths):
        """The end, counted from day 0, if the terms that are not told have these lengths."""
        days = {**lengths, **self.told}
        spans = {}
        for (name, lay, _), day in zip(self.lines, self.days_of_lines):
            start = 0
            if lay[0] == "behind":
                start = max(spans[anchor][1] for anchor in lay[1])
            elif lay[0] != "now":
                start = spans[lay[1]][0]
            start = max(start, 144 * day)
            whole = 0 if name in self.quashed else days[name]
            stop = start + 144 * whole
            if lay[0] == "split":
                stop = max(stop, spans[lay[1]][1] + 12 * lay[2] * whole)
            spans[name] = (start, stop)
        return max([stop for _, stop in spans.values()], default=0)

    def chains(self):
        """All chains of the form, by the words of the document, also those that lie within others."""
        spans = {}
        every = {()}
        for (name, lay, _), day in zip(self.lines, self.days_of_lines):
            starts = {()}
            if lay[0] == "behind":
                starts = {chain for anchor in lay[1] for chain in spans[anchor][1]}
            elif lay[0] != "now":
                starts = set(spans[lay[1]][0])
            if day:
                starts.add((("", 144 * day),))
            stops = {self.with_term(chain, name, 144) for chain in starts}
            if lay[0] == "split":
                stops |= {self.with_term(chain, name, 12 * lay[2]) for chain in spans[lay[1]][1]}
            spans[name] = (starts, stops)
            every |= stops
        return sorted(every)

    def with_term(self, chain, name, parts):
        if name in self.quashed:
            return chain
        told = dict(chain)
        key, more = ("", parts * self.told[name]) if name in self.told else (name, parts)
        told[key] = told.get(key, 0) + more
        return tuple(sorted((other, number) for other, number in told.items() if number))


def drawn_event(draw, record, most):
    """An event that can be done next."""
    names = record.names()
    quashed = [name for name in names if name in record.quashed]
    live = [name for name in names if name not in record.quashed]
    events = [("pass", draw.choice([1, 2, draw.randint(1, 30), BIG]))]
    free = [name for name in ["zz", "a", "b", "c", "abcdefgh", "d", "ab", "e", "f", "g"] if name not in names]
    if len(names) < most:
        least = draw.choice([0, 1, 7, 12, 12])
        events += 3 * [("lay", draw.choice(free), drawn_lay(draw, names), least)]
    if live:
        events.append(("quash", draw.choice(live)))
    if quashed:
        events.append(("restore", draw.choice(quashed)))
    if record.untold():
        days = draw.choice([0, 1, 2, draw.randint(0, 20), BIG])
        events.append(("tell", draw.choice(record.untold()), days))
    return draw.choice(events)


def drawn_events(draw, many, most):
    record = Record()
    for _ in range(many):
        record.does(drawn_event(draw, record, most))
    return record.history


def do(book, event):
    """The event is done by the book; what it returns."""
    kind, *given = event
    if kind == "lay":
        return book.lay(given[0], given[1], least=given[2])
    return {"quash": book.quash, "restore": book.restore, "tell": book.tell, "pass": book.pass_days}[kind](*given)


def recorded(events):
    record = Record()
    for event in events:
        record.does(event)
    return record


def stand(book):
    return [book.day, book.sheet, book.told, book.history, book.form(), book.end()]


class Checks(unittest.TestCase):

    def check(self, book, record, draw):
        """The book stands as the record does."""
        self.assertEqual([book.day, book.told, book.history], [record.day, record.told, record.history])
        self.assertEqual(book.sheet, Sheet(record.lines, quashed=record.quashed))
        form = book.form()
        self.assertIs(type(form), Ends)
        self.assertEqual([name for name in form.names if name and name not in record.untold()], [])
        for most in (0, 1, 9, BIG):
            lengths = {name: draw.choice([0, draw.randint(0, most), most]) for name in record.untold()}
            self.assertEqual(form.at(lengths), record.end_at(lengths))
        if all(name == "" for name in form.names):
            self.assertEqual(book.end(), record.end_at({name: draw.randint(0, 5) for name in record.untold()}))
        else:
            self.assertIsNone(book.end())


class ByHand(Checks):

    def test_a_new_book(self):
        book = Book()
        self.assertEqual(stand(book), [0, Sheet([]), {}, [], Ends([()]), 0])
        self.assertEqual([type(book.day), type(book.told), type(book.history)], [int, dict, list])

    def test_days_pass_ahead_of_a_line(self):
        book = Book()
        self.assertIsNone(book.pass_days(3))
        self.assertEqual(stand(book), [3, Sheet([]), {}, [("pass", 3)], Ends([()]), 0])
        self.assertIsNone(book.lay("a", ("now",), least=0))
        self.assertEqual(book.form().chains, [(("", 432), ("a", 144))])
        self.assertIsNone(book.end())
        self.assertIsNone(book.quash("a"))
        self.assertEqual([book.form().chains, book.end()], [[(("", 432),)], 432])
        self.assertIsNone(book.tell("a", 2))
        self.assertEqual(book.end(), 432)
        self.assertIsNone(book.restore("a"))
        self.assertEqual([book.form().chains, book.end()], [[(("", 720),)], 720])
        self.assertEqual(book.history, [
            ("pass", 3), ("lay", "a", ("now",), 0), ("quash", "a"), ("tell", "a", 2), ("restore", "a"),
        ])

    def test_each_lay_on_a_later_day(self):
        told = [
            (("now",), [(("", 720), ("b", 144)), (("a", 144),)]),
            (("behind", ("a",)), [(("", 720), ("b", 144)), (("a", 144), ("b", 144))]),
            (("beside", "a"), [(("", 720), ("b", 144)), (("a", 144),)]),
            (("split", "a", 3), [(("", 720), ("b", 144)), (("a", 144), ("b", 36))]),
        ]
        for lay, chains in told:
            book = Book()
            book.lay("a", ("now",))
            book.pass_days(days=5)
            book.lay(lay=lay, name="b")
            self.assertEqual(book.form().chains, chains)
            self.assertEqual(book.history[-1], ("lay", "b", lay, 12))

    def test_each_lay_on_day_0(self):
        lines = [("a", ("now",), 12), ("b", ("behind", ("a",)), 8), ("c", ("split", "a", 6), 12), ("d", ("beside", "b"), 0)]
        book = Book()
        for name, lay, least in lines:
            book.lay(name, lay, least=least)
            self.assertEqual(book.form(), ends_of(book.sheet))
        self.assertEqual(book.sheet, Sheet(lines))
        book.pass_days(4)
        self.assertEqual(book.form(), ends_of(Sheet(lines)))

    def test_what_is_told_counts_as_days(self):
        book = Book()
        for name, lay in (("a", ("now",)), ("b", ("behind", ("a",))), ("c", ("split", "a", 6))):
            book.lay(name, lay)
        book.tell(days=10, name="a")
        self.assertEqual(book.form().chains, [(("", 1440), ("b", 144)), (("", 1440), ("c", 72)), (("c", 144),)])
        book.tell("b", 6)
        self.assertEqual([book.form().chains, book.end()], [[(("", 1440), ("c", 72)), (("", 2304),), (("c", 144),)], None])
        book.tell("c", 8)
        self.assertEqual([book.form().chains, book.end(), book.told], [[(("", 2304),)], 2304, {"a": 10, "b": 6, "c": 8}])
        self.assertEqual(end(book.sheet, book.told), 2304)

    def test_none_told_leaves_no_parts(self):
        book = Book()
        book.lay("a", ("now",))
        book.tell("a", 0)
        self.assertEqual([book.form().chains, book.end()], [[()], 0])
        book.lay("b", ("behind", ("a",)))
        self.assertEqual([book.form().chains, book.end()], [[(("b", 144),)], None])

    def test_told_as_soon_as_no_name_is_left(self):
        book = Book()
        book.lay("a", ("now",))
        book.lay("b", ("now",))
        book.tell("a", 4)
        self.assertIsNone(book.end())
        book.quash("b")
        self.assertEqual([book.end(), book.told], [576, {"a": 4}])
        book.restore("b")
        self.assertIsNone(book.end())

    def test_days_go_on_but_lines_keep_theirs(self):
        book = Book()
        book.lay("a", ("now",))
        book.pass_days(2)
        book.lay("b", ("now",))
        book.pass_days(10 ** 30)
        book.lay("c", ("now",))
        book.lay("d", ("beside", "a"))
        late = [(("", 144 * (10 ** 30 + 2)), (name, 144)) for name in "cd"]
        self.assertEqual(book.form().chains, sorted([(("a", 144),), (("", 288), ("b", 144)), *late]))
        self.assertEqual(book.day, 10 ** 30 + 2)


class Drawn(Checks):

    def test_event_by_event(self):
        draw = random.Random(140)
        for _ in range(60):
            book, record = Book(), Record()
            for _ in range(draw.randint(1, 25)):
                event = drawn_event(draw, record, 6)
                self.assertIsNone(do(book, event))
                record.does(event)
                self.check(book, record, draw)

    def test_the_form_by_all_chains(self):
        draw = random.Random(141)
        for _ in range(150):
            events = drawn_events(draw, draw.randint(5, 18), 5)
            self.assertEqual(replayed(events).form(), Ends(recorded(events).chains()))

    def test_ten_lines(self):
        draw = random.Random(142)
        for _ in range(10):
            events = drawn_events(draw, 40, 10)
            self.check(replayed(events), recorded(events), draw)

    def test_undo_to_the_very_beginning(self):
        draw = random.Random(143)
        for _ in range(20):
            events = drawn_events(draw, draw.randint(1, 15), 5)
            book, stands = Book(), []
            for event in events:
                stands.append(stand(book))
                do(book, event)
            for event in events[::-1]:
                self.assertEqual(book.undo(), event)
                self.assertEqual(stand(book), stands.pop())
            for _ in range(2):
                self.assertEqual(raised(Nothing, book.undo).args, ())
                self.assertEqual(stand(book), stand(Book()))

    def test_on_from_what_was_taken_back(self):
        draw = random.Random(144)
        for _ in range(20):
            events = drawn_events(draw, 12, 5)
            book = replayed(events)
            for _ in range(5):
                book.undo()
            for event in events[7:]:
                do(book, event)
            self.assertEqual(stand(book), stand(replayed(events)))

    def test_replayed(self):
        draw = random.Random(145)
        for _ in range(30):
            events = drawn_events(draw, draw.randint(0, 20), 6)
            held = copy.deepcopy(events)
            book = replayed(events)
            self.assertIs(type(book), Book)
            self.check(book, recorded(events), draw)
            self.assertEqual(stand(replayed(events=book.history)), stand(book))
            book.pass_days(1)
            self.assertEqual(events, held)
        self.assertEqual(stand(replayed([])), stand(Book()))


class Forks(Checks):

    def test_both_go_on_by_themselves(self):
        draw = random.Random(146)
        for _ in range(20):
            events = drawn_events(draw, 10, 4)
            book = replayed(events)
            fork = book.fork()
            self.assertEqual(stand(fork), stand(book))
            self.assertIsNot(fork, book)
            records = [recorded(events), recorded(events)]
            for _ in range(8):
                for one, record in zip((book, fork), records):
                    event = drawn_event(draw, record, 6)
                    do(one, event)
                    record.does(event)
                    self.check(book, records[0], draw)
                    self.check(fork, records[1], draw)

    def test_taken_back_beyond_its_making(self):
        draw = random.Random(147)
        for _ in range(20):
            events = drawn_events(draw, 10, 5)
            book = replayed(events)
            held = stand(book)
            fork = book.fork()
            fork.pass_days(7)
            self.assertEqual([fork.undo() for _ in range(11)], [("pass", 7), *events[::-1]])
            raised(Nothing, fork.undo)
            self.assertEqual([stand(fork), stand(book)], [stand(Book()), held])
            other = book.fork()
            self.assertEqual([book.undo() for _ in range(10)], events[::-1])
            self.assertEqual([stand(other), stand(book)], [held, stand(Book())])

    def test_a_fork_of_a_fork(self):
        book = Book()
        book.lay("a", ("now",))
        fork = book.fork().fork()
        fork.tell("a", 3)
        self.assertEqual([book.told, fork.told, book.end(), fork.end()], [{}, {"a": 3}, None, 432])


class New(Checks):

    def test_what_is_told_changes_no_book(self):
        events = [("lay", "a", ("now",), 12), ("pass", 2), ("tell", "a", 4), ("lay", "b", ("behind", ("a",)), 3)]
        book = replayed(events)
        held = stand(book)
        book.history.clear()
        book.history.append(("pass", 1))
        book.told["b"] = 1
        book.told.clear()
        book.sheet.lines.clear()
        book.sheet.names.append("z")
        book.form().chains.clear()
        history = book.history
        history[0] = ("pass", 9)
        self.assertEqual(stand(book), held)
        self.assertIsNot(book.history, book.history)
        self.assertIsNot(book.told, book.told)
        self.assertEqual(stand(replayed(book.history)), held)

    def test_a_history_that_was_handed_out_stays(self):
        book = Book()
        book.lay("a", ("now",))
        history, told, sheet = book.history, book.told, book.sheet
        book.tell("a", 1)
        book.quash("a")
        self.assertEqual([history, told, sheet], [[("lay", "a", ("now",), 12)], {}, Sheet([("a", ("now",), 12)])])

    def test_a_list_of_events_that_is_changed_later(self):
        events = [("lay", "a", ("now",), 12)]
        book = replayed(events)
        events.clear()
        self.assertEqual([book.history, book.undo()], [[("lay", "a", ("now",), 12)], ("lay", "a", ("now",), 12)])


class Refused(Checks):

    def book(self):
        return replayed([
            ("lay", "a", ("now",), 12), ("pass", 2), ("lay", "b", ("behind", ("a",)), 3), ("quash", "b"),
            ("tell", "a", 4), ("lay", "c", ("split", "b", 5), 12),
        ])

    def refuse(self, kind, word, value, call, *given, **named):
        """The call raises the error with the value, which stays as it is, and the book stands as it did."""
        book = self.book()
        held = [copy.deepcopy(value), stand(book)]
        with self.subTest(call=call, given=given, named=named):
            error = raised(kind, getattr(book, call), *given, **named)
            self.assertIs(getattr(error, word), value)
            self.assertEqual([value, stand(book)], held)

    def test_lay(self):
        names = [value for value in ANY_VALUES if value not in ("a", "now")]
        lays = [value for value in ANY_VALUES if value != ("now",)]
        lays += [("behind", ()), ("behind", ["a"]), ("behind", ("a", "a")), ("split", "a", 12), ("split", "a", 0),
                 ("beside", "A"), ["now"], ("beside",), ("now", "a")]
        shares = [value for value in ANY_VALUES if type(value) is not int or not 0 <= value <= 12] + [13, -1, 1000]
        for value in names:
            self.refuse(BadName, "value", value, "lay", value, ("now",))
            self.refuse(BadName, "value", value, "lay", value, ("now",), least=13)
            self.refuse(BadName, "value", value, "lay", least=None, name=value, lay=("nought",))
        for value in lays:
            self.refuse(BadLay, "value", value, "lay", "d", value)
            self.refuse(BadLay, "value", value, "lay", "a", value, least=13)
            self.refuse(BadLay, "value", value, "lay", least=True, name="d", lay=value)
        for value in shares:
            self.refuse(BadShare, "value", value, "lay", "d", ("now",), least=value)
            self.refuse(BadShare, "value", value, "lay", "a", ("beside", "z"), least=value)
            self.refuse(BadShare, "value", value, "lay", least=value, lay=("now",), name="a")
        for name in ("a", "b", "c"):
            self.refuse(NamedTwice, "name", name, "lay", name, ("now",))
            self.refuse(NamedTwice, "name", name, "lay", name, ("beside", "z"), least=0)
        for lay in (("beside", "z"), ("split", "z", 3), ("behind", ("a", "z", "y")), ("behind", ("z", "a"))):
            self.refuse(NotNamed, "name", lay[1] if len(lay[1]) == 1 else "z", "lay", "d", lay)
        self.refuse(NotNamed, "name", "d", "lay", "d", ("beside", "d"))

    def test_quash_and_restore(self):
        for value in [value for value in ANY_VALUES if value != "a"] + ["d", "A", "aa"]:
            self.refuse(NoTerm, "value", value, "quash", value)
            self.refuse(NoTerm, "value", value, "restore", name=value)
        self.refuse(IsQuashed, "name", "b", "quash", "b")
        for name in ("a", "c"):
            self.refuse(NotQuashed, "name", name, "restore", name)

    def test_tell(self):
        days = [value for value in ANY_VALUES if type(value) is not int or value < 0] + [-5, -10 ** 30]
        for value in [value for value in ANY_VALUES if value != "a"] + ["d", "A", "aa"]:
            self.refuse(NoTerm, "value", value, "tell", value, 3)
            self.refuse(NoTerm, "value", value, "tell", days=-1, name=value)
        for value in [0, 4, *days]:
            self.refuse(IsTold, "name", "a", "tell", "a", value)
        for value in days:
            for name in ("b", "c"):
                self.refuse(BadDays, "value", value, "tell", name, value)
                self.refuse(BadDays, "value", value, "tell", days=value, name=name)

    def test_pass_days(self):
        for value in [value for value in ANY_VALUES if type(value) is not int or value < 1] + [0, -5, -10 ** 30]:
            self.refuse(BadDays, "value", value, "pass_days", value)
            self.refuse(BadDays, "value", value, "pass_days", days=value)

    def test_quashed_terms_may_be_told_and_told_ones_quashed(self):
        book = self.book()
        self.assertEqual([book.tell("b", 1), book.quash("a"), book.restore("b")], [None, None, None])
        self.assertEqual([book.told, book.sheet.quashed], [{"a": 4, "b": 1}, ("a",)])
        raised(IsTold, book.tell, "b", 1)

    def test_told_once_for_all_unless_it_is_taken_back(self):
        book = self.book()
        self.assertEqual([book.undo(), book.undo()], [("lay", "c", ("split", "b", 5), 12), ("tell", "a", 4)])
        self.assertEqual([book.told, book.tell("a", 9), book.told], [{}, None, {"a": 9}])
