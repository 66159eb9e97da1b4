"""The interface of the document: worked examples word for word, names, arguments, and where things are defined."""

import doctest
import importlib
import inspect
import unittest

EXAMPLES = {
    "stage 1": '''
>>> from termlays.sheets import Sheet
>>> sheet = Sheet([("a", ("now",), 12), ("b", ("behind", ("a",)), 8), ("c", ("split", "a", 6), 12)])
>>> [sheet.names, len(sheet), sheet.line_named("b"), sheet.quash("b").quashed, sheet.with_line("d", ("beside", "c")).names]
[['a', 'b', 'c'], 3, ('b', ('behind', ('a',)), 8), ('b',), ['a', 'b', 'c', 'd']]
''',
    "stage 2": '''
>>> from termlays.days import begins, end, ends, least_end
>>> from termlays.sheets import Sheet
>>> sheet = Sheet([("a", ("now",), 12), ("b", ("behind", ("a",)), 8), ("c", ("split", "a", 6), 12)])
>>> days = {"a": 10, "b": 6, "c": 8}
>>> [begins(sheet, days), ends(sheet, days), end(sheet, days), least_end(sheet, days)]
[{'a': 0, 'b': 1440, 'c': 0}, {'a': 1440, 'b': 2304, 'c': 2016}, 2304, 2016]
''',
}

ERRORS = (
    "TermError BadName BadLay BadShare BadLines BadRow NamedTwice NotNamed NoTerm IsQuashed NotQuashed BadLengths "
    "BadMatrix BadChains BadRanges NoLengths BadAnswers NotWhole IsTold BadDays Nothing BadLine"
).split()
FUNCTIONS = {
    "termlays.sheets": {"is_name": "(value)", "is_lay": "(value)", "is_line": "(value)"},
    "termlays.days": {
        "is_lengths": "(sheet, value)", "begins": "(sheet, lengths)", "ends": "(sheet, lengths)",
        "end": "(sheet, lengths)", "least_end": "(sheet, lengths)",
    },
}
METHODS = {
    ("termlays.sheets", "Sheet"): {
        "__init__": "(self, lines, *, quashed=())", "__len__": "(self)", "__eq__": "(self, other)",
        "line_named": "(self, name)", "with_line": "(self, name, lay, *, least=12)",
        "quash": "(self, name)", "restore": "(self, name)",
    },
}
PROPERTIES = {("termlays.sheets", "Sheet"): ["lines", "names", "quashed"]}


class Examples(unittest.TestCase):

    def test_examples(self):
        for stage, text in EXAMPLES.items():
            with self.subTest(stage):
                test = doctest.DocTestParser().get_doctest(text, {}, stage, None, 0)
                told = []
                result = doctest.DocTestRunner().run(test, out=told.append)
                self.assertGreater(result.attempted, 2)
                self.assertEqual(result.failed, 0, "".join(told))


class Defined(unittest.TestCase):

    def test_errors(self):
        for word in ERRORS:
            kind = getattr(importlib.import_module("termlays.errors"), word)
            self.assertEqual((kind.__module__, kind.__name__), ("termlays.errors", word))

    def test_functions(self):
        for place, functions in FUNCTIONS.items():
            for word, arguments in functions.items():
                with self.subTest(word):
                    function = getattr(importlib.import_module(place), word)
                    self.assertTrue(inspect.isfunction(function))
                    self.assertEqual((function.__module__, function.__name__), (place, word))
                    self.assertEqual(str(inspect.signature(function)), arguments)

    def test_methods_stand_in_the_class_itself(self):
        for (place, word), methods in METHODS.items():
            kind = getattr(importlib.import_module(place), word)
            self.assertEqual((kind.__module__, kind.__name__), (place, word))
            for method, arguments in methods.items():
                with self.subTest(method):
                    self.assertEqual(str(inspect.signature(vars(kind)[method])), arguments)

    def test_properties_stand_in_the_class_itself(self):
        for (place, word), properties in PROPERTIES.items():
            kind = getattr(importlib.import_module(place), word)
            for name in properties:
                self.assertIsInstance(vars(kind)[name], property)
