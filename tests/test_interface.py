"""The interface of the document: worked examples word for word, names, arguments, and where things are defined."""

import doctest
import importlib
import inspect
import unittest

EXAMPLES = {
    "stage 1": '''
>>> from termlays.sheets import Sheet
>>> sheet = Sheet([("a", ("now",), 12), ("b", ("behind", ("a",)), 8), ("c", ("split", "a", 6), 12)])
>>> [sheet.names, len(sheet), sheet.line_named("b"), sheet.quash("b").quashed, sheet.with_line("d", ("beside", "c")).names]
[['a', 'b', 'c'], 3, ('b', ('behind', ('a',)), 8), ('b',), ['a', 'b', 'c', 'd']]
''',
    "stage 2": '''
>>> from termlays.days import begins, end, ends, least_end
>>> from termlays.sheets import Sheet
>>> sheet = Sheet([("a", ("now",), 12), ("b", ("behind", ("a",)), 8), ("c", ("split", "a", 6), 12)])
>>> days = {"a": 10, "b": 6, "c": 8}
>>> [begins(sheet, days), ends(sheet, days), end(sheet, days), least_end(sheet, days)]
[{'a': 0, 'b': 1440, 'c': 0}, {'a': 1440, 'b': 2304, 'c': 2016}, 2304, 2016]
''',
    "stage 3": '''
>>> from termlays.chains import chains_of, longest, within
>>> from termlays.sheets import Sheet
>>> sheet = Sheet([("a", ("now",), 12), ("b", ("behind", ("a",)), 8), ("c", ("split", "a", 6), 12)])
>>> [chains_of(sheet), longest(sheet, {"a": 10, "b": 6, "c": 8}), within((("a", 144),), (("a", 144), ("b", 1)))]
[[(('a', 144), ('b', 144)), (('a', 144), ('c', 72)), (('c', 144),)], (('a', 144), ('b', 144)), True]
''',
    "stage 4": '''
>>> from termlays.games import is_settled, settled
>>> [settled([[1, 0], [0, 1]])[0], is_settled([[1, 0], [0, 1]], ((1, 2), (1, 1), (3, 3))), is_settled([[3, 1]], ((3, 1), (1, 0), (2,)))]
[(1, 2), True, True]
''',
    "stage 5": '''
>>> from termlays.ends import Ends
>>> late = Ends([(("a", 2),), (("b", 2),), (("a", 1), ("b", 1))])
>>> [late.chains, late.at({"a": 3, "b": 5}), (late * 2).chains, late + late == late * 2, late.without("a").chains]
[[(('a', 2),), (('b', 2),)], 10, [(('a', 4),), (('b', 4),)], True, [(('b', 2),)]]
''',
    "stage 6": '''
>>> from termlays.ends import Ends
>>> from termlays.later import is_later, is_paper, later_lengths, never_later, paper
>>> one, other = Ends([(("a", 1), ("b", 1))]), Ends([(("a", 2),), (("b", 2),)])
>>> [never_later(one, other), is_paper(one, other, paper(one, other)), is_paper(one, other, [(2, 2)]), is_later(other, one, {"a": 1, "b": 0}), later_lengths(one, other)]
[True, True, True, True, None]
''',
    "stage 7": '''
>>> from termlays.ends import Ends
>>> from termlays.ranges import amounts, corners, greatest_end, least_end_in
>>> late, ranges = Ends([(("a", 2),), (("b", 2),)]), {"a": (0, 2), "b": (1, 1)}
>>> [corners(ranges, total=2), amounts(late, ranges), greatest_end(late, ranges), least_end_in(late, ranges)]
[[{'a': 1, 'b': 1}], [[0, 2], [4, 2]], 4, (2, 1)]
''',
    "stage 8": '''
>>> from termlays.ends import ends_of
>>> from termlays.matters import best_served, gain, never_worse, room
>>> from termlays.sheets import Sheet
>>> sheet = Sheet([("a", ("now",), 12), ("b", ("behind", ("a",)), 8), ("c", ("split", "a", 6), 12)])
>>> late, days = ends_of(sheet), {"a": 10, "b": 6, "c": 8}
>>> [gain(late, "c"), room(sheet, days, "c"), best_served(sheet, days, 2), never_worse(late, "a", "b"), never_worse(late, "b", "a")]
[144, 4, ['a', 'b'], True, False]
''',
    "stage 9": '''
>>> from termlays.lean import lean, spare
>>> from termlays.sheets import Sheet
>>> sheet = Sheet([("a", ("now",), 12), ("b", ("behind", ("a",)), 12), ("c", ("behind", ("a", "b")), 12)])
>>> [spare(sheet), lean(sheet).line_named("c")]
[[(2, 'a')], ('c', ('behind', ('b',)), 12)]
''',
    "stage 10": '''
>>> from termlays.answers import answers, told_back
>>> from termlays.ends import ends_of
>>> from termlays.sheets import Sheet
>>> late = ends_of(Sheet([("a", ("now",), 12), ("b", ("beside", "a"), 12)]))
>>> [answers(late, ["b", "a"]), told_back(["a", "b"], answers(late, ["a", "b"])).chains]
[{(): 0, ('a',): 144, ('b',): 144, ('a', 'b'): 144}, [(('a', 144),), (('b', 144),)]]
''',
    "stage 11": '''
>>> from termlays.books import Book
>>> book = Book()
>>> [book.lay("a", ("now",)), book.pass_days(2), book.lay("b", ("behind", ("a",))), book.form().chains, book.tell("b", 3), book.end(), book.tell("a", 1), book.end(), book.undo()]
[None, None, None, [(('', 288), ('b', 144)), (('a', 144), ('b', 144))], None, None, None, 720, ('tell', 'a', 1)]
''',
    "stage 12": '''
>>> from termlays.ends import Ends
>>> from termlays.papers import format_ends, format_sheet, read_ends, read_sheet
>>> from termlays.sheets import Sheet
>>> sheet = Sheet([("a", ("now",), 12), ("b", ("behind", ("a",)), 8), ("c", ("split", "a", 6), 12)], quashed=["c"])
>>> [format_sheet(sheet).split("\\n"), format_ends(Ends([(("a", 2),), (("b", 2),)])), read_ends("nought").chains]
[['a now', 'b behind a; least 8', 'c split a 6; quashed'], 'a 2\\nb 2', [()]]
>>> read_sheet("a now\\nb behind c")
Traceback (most recent call last):
termlays.errors.BadLine: 2
''',
}

ERRORS = (
    "TermError BadName BadLay BadShare BadLines BadRow NamedTwice NotNamed NoTerm IsQuashed NotQuashed BadLengths "
    "BadMatrix BadChains BadRanges NoLengths BadAnswers NotWhole IsTold BadDays Nothing BadLine"
).split()
FUNCTIONS = {
    "termlays.sheets": {"is_name": "(value)", "is_lay": "(value)", "is_line": "(value)"},
    "termlays.days": {
        "is_lengths": "(sheet, value)", "begins": "(sheet, lengths)", "ends": "(sheet, lengths)",
        "end": "(sheet, lengths)", "least_end": "(sheet, lengths)",
    },
    "termlays.chains": {
        "is_chain": "(value)", "amount": "(chain, lengths)", "within": "(one, other)", "added": "(one, other)",
        "chains_of": "(sheet)", "least_chains_of": "(sheet)", "longest": "(sheet, lengths)",
    },
    "termlays.games": {"is_matrix": "(value)", "settled": "(matrix)", "is_settled": "(matrix, value)"},
    "termlays.ends": {
        "is_mixture": "(chain, chains, value)", "mixture": "(chain, chains)",
        "ends_of": "(sheet)", "least_ends_of": "(sheet)",
    },
    "termlays.later": {
        "never_later": "(one, other)", "paper": "(one, other)", "is_paper": "(one, other, value)",
        "later_lengths": "(one, other)", "is_later": "(one, other, value)",
    },
    "termlays.ranges": {
        "corners": "(ranges, *, total=None)", "amounts": "(ends, ranges, *, total=None)",
        "greatest_end": "(ends, ranges, *, total=None)", "least_end_in": "(ends, ranges, *, total=None)",
        "paper_in": "(one, other, ranges, *, total=None)",
        "is_paper_in": "(one, other, ranges, value, *, total=None)",
        "later_in": "(one, other, ranges, *, total=None)",
        "is_later_in": "(one, other, ranges, value, *, total=None)",
    },
    "termlays.matters": {
        "matters": "(ends, name)", "gain": "(ends, name)", "room": "(sheet, lengths, name)",
        "marked": "(ends, name)", "never_worse": "(ends, one, other)", "best_served": "(sheet, lengths, days)",
    },
    "termlays.lean": {"spare": "(sheet)", "lean": "(sheet)"},
    "termlays.answers": {
        "lots": "(names)", "answers": "(ends, names)", "is_whole": "(ends)", "told_back": "(names, answers)",
    },
    "termlays.books": {"replayed": "(events)"},
    "termlays.papers": {
        "format_sheet": "(sheet)", "format_ends": "(ends)", "read_sheet": "(text)", "read_ends": "(text)",
    },
}
METHODS = {
    ("termlays.sheets", "Sheet"): {
        "__init__": "(self, lines, *, quashed=())", "__len__": "(self)", "__eq__": "(self, other)",
        "line_named": "(self, name)", "with_line": "(self, name, lay, *, least=12)",
        "quash": "(self, name)", "restore": "(self, name)",
    },
    ("termlays.ends", "Ends"): {
        "__init__": "(self, chains)", "__eq__": "(self, other)", "__add__": "(self, other)", "__or__": "(self, other)",
        "__mul__": "(self, other)", "at": "(self, lengths)", "without": "(self, name)",
    },
    ("termlays.books", "Book"): {
        "__init__": "(self)", "lay": "(self, name, lay, *, least=12)", "quash": "(self, name)",
        "restore": "(self, name)", "tell": "(self, name, days)", "pass_days": "(self, days)", "undo": "(self)",
        "fork": "(self)", "form": "(self)", "end": "(self)",
    },
}
PROPERTIES = {
    ("termlays.sheets", "Sheet"): ["lines", "names", "quashed"],
    ("termlays.ends", "Ends"): ["chains", "names"],
    ("termlays.books", "Book"): ["day", "sheet", "told", "history"],
}


class Examples(unittest.TestCase):

    def test_examples(self):
        for stage, text in EXAMPLES.items():
            with self.subTest(stage):
                test = doctest.DocTestParser().get_doctest(text, {}, stage, None, 0)
                told = []
                result = doctest.DocTestRunner().run(test, out=told.append)
                self.assertGreaterEqual(result.attempted, 2)
                self.assertEqual(result.failed, 0, "".join(told))


class Defined(unittest.TestCase):

    def test_errors(self):
        for word in ERRORS:
            kind = getattr(importlib.import_module("termlays.errors"), word)
            self.assertEqual((kind.__module__, kind.__name__), ("termlays.errors", word))

    def test_functions(self):
        for place, functions in FUNCTIONS.items():
            for word, arguments in functions.items():
                with self.subTest(word):
                    function = getattr(importlib.import_module(place), word)
                    self.assertTrue(inspect.isfunction(function))
                    self.assertEqual((function.__module__, function.__name__), (place, word))
                    self.assertEqual(str(inspect.signature(function)), arguments)

    def test_methods_stand_in_the_class_itself(self):
        for (place, word), methods in METHODS.items():
            kind = getattr(importlib.import_module(place), word)
            self.assertEqual((kind.__module__, kind.__name__), (place, word))
            for method, arguments in methods.items():
                with self.subTest(method):
                    self.assertEqual(str(inspect.signature(vars(kind)[method])), arguments)

    def test_properties_stand_in_the_class_itself(self):
        for (place, word), properties in PROPERTIES.items():
            kind = getattr(importlib.import_module(place), word)
            for name in properties:
                self.assertIsInstance(vars(kind)[name], property)
