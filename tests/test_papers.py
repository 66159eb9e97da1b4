"""[20]: the texts of sheets and of ends, there and back."""

import copy
import random
import re
import unittest

from termlays.ends import Ends, ends_of, least_ends_of, mixture
from termlays.errors import BadLine
from termlays.papers import format_ends, format_sheet, read_ends, read_sheet
from termlays.sheets import Sheet
from tests.samples import (
    ANY_VALUES, MIXED, any_values_but, drawn_chains, drawn_lengths, drawn_pairs, drawn_sheets, raised, small_sheets,
)

NAME = "[a-z]{1,8}"
LINE = re.compile(
    f"({NAME}) (now|behind((?: {NAME})+)|beside ({NAME})|split ({NAME}) (?:[1-9]|1[01]))"
    "(?:; least (?:[0-9]|1[01]))?(?:; quashed)?", re.ASCII)
CHAIN = re.compile(f"nought|(?:-|{NAME}) [1-9][0-9]*(?: {NAME} [1-9][0-9]*)*", re.ASCII)
TEXTS = [value for value in ANY_VALUES if isinstance(value, str)]


def first_wrong_line(text):
    """The number of the first line with which the lines begin no text of a sheet, None if there is none."""
    names = []
    for number, row in enumerate(text.split("\n") if text else [], start=1):
        found = LINE.fullmatch(row)
        if not found or found[1] in names:
            return number
        anchors = (found[3] or found[4] or found[5] or "").split()
        if len(set(anchors)) < len(anchors) or not set(anchors) <= set(names):
            return number
        names.append(found[1])
    return None


def first_wrong_chain(text):
    """The number of the first line that is no chain or not greater, or is beaten if all are; None if there is none."""
    chains = []
    for number, row in enumerate(text.split("\n"), start=1):
        if not CHAIN.fullmatch(row):
            return number
        words = [] if row == "nought" else row.split(" ")
        names = ["" if word == "-" else word for word in words[::2]]
        chain = tuple(zip(names, [int(word) for word in words[1::2]]))
        if names != sorted(set(names)) or chains and not chain > chains[-1]:
            return number
        chains.append(chain)
    for number, chain in enumerate(chains, start=1):
        if mixture(chain, [other for other in chains if other != chain]) is not None:
            return number
    return None


def line_of(line, quashed):
    """The text of a line, by the words of the document."""
    name, lay, least = line
    text = name + " " + lay[0]
    if lay[0] == "behind":
        text += "".join(" " + anchor for anchor in lay[1])
    elif lay[0] != "now":
        text += "".join(f" {word}" for word in lay[1:])
    if least != 12:
        text += f"; least {least}"
    return text + "; quashed" * (name in quashed)


def changed(draw, text, words):
    """Texts with lines left out, put in, doubled, turned, with words and signs exchanged, and with other blanks."""
    rows = text.split("\n")
    at, to = draw.randrange(len(rows)), draw.randrange(len(rows))
    told = [rows[:at] + rows[at + 1:], rows[:at] + [rows[to]] + rows[at:], rows[::-1], rows + [""], [""] + rows,
            rows[:at] + [""] + rows[at:], rows[:at] + [draw.choice(words)] + rows[at:]]
    row = rows[at].split(" ")
    spot = draw.randrange(len(row))
    for word in [draw.choice(words), draw.choice(row), "", row[spot] + ";", row[spot][:-1], "0" + row[spot],
                 "+" + row[spot], row[spot] + "0", row[spot].upper(), row[spot] + " ", " " + row[spot], "\t"]:
        told.append(rows[:at] + [" ".join(row[:spot] + [word] + row[spot + 1:])] + rows[at + 1:])
    told.append(rows[:at] + [" ".join(row[:spot] + row[spot + 1:])] + rows[at + 1:])
    told.append(rows[:at] + [" ".join(row[:spot] + [draw.choice(words)] + row[spot:])] + rows[at + 1:])
    told.append(rows[:at] + [" ".join(row[::-1])] + rows[at + 1:])
    place = draw.randrange(len(text) + 1)
    sign = draw.choice(" ;\n\t-+0az_A~.")
    texts = ["\n".join(some) for some in told]
    return texts + [text[:place] + sign + text[place:], text[:place] + text[place + 1:], text[:place],
                    text[:place] + sign + text[place + 1:], text.replace(" ", "\t"), text.replace(" ", "  "),
                    text.replace("\n", "\r\n"), text + "\n", text + " ", " " + text, text.replace("\n", " ")]


class FormatSheet(unittest.TestCase):

    def test_by_hand(self):
        told = [
            ([], [], ""), ([("a", ("now",), 12)], [], "a now"), ([("a", ("now",), 8)], [], "a now; least 8"),
            ([("a", ("now",), 0)], ["a"], "a now; least 0; quashed"), ([("a", ("now",), 12)], ["a"], "a now; quashed"),
            ([("a", ("now",), 12), ("c", ("now",), 12), ("b", ("behind", ("c", "a")), 11)], ["c"],
             "a now\nc now; quashed\nb behind c a; least 11"),
            ([("a", ("now",), 12), ("c", ("beside", "a"), 12), ("d", ("split", "a", 6), 1)], [],
             "a now\nc beside a\nd split a 6; least 1"),
            ([("now", ("now",), 12), ("behind", ("behind", ("now",)), 12), ("least", ("split", "behind", 11), 12),
              ("quashed", ("beside", "least"), 12)], ["least"],
             "now now\nbehind behind now\nleast split behind 11; quashed\nquashed beside least"),
        ]
        for lines, quashed, text in told:
            sheet = Sheet(lines, quashed=quashed)
            self.assertEqual([format_sheet(sheet), format_sheet(sheet=sheet)], [text, text])
            self.assertEqual([read_sheet(text), read_sheet(text=text)], [sheet, sheet])

    def test_there_and_back(self):
        for sheet in [*small_sheets(), *drawn_sheets(150, 150, 10), Sheet(MIXED), Sheet(MIXED, quashed=["a", "g"])]:
            text = format_sheet(sheet)
            self.assertEqual(text, "\n".join(line_of(line, sheet.quashed) for line in sheet.lines))
            self.assertEqual(read_sheet(text), sheet)
            self.assertEqual(ends_of(read_sheet(text)), ends_of(sheet))

    def test_each_share_and_each_least(self):
        for least in range(13):
            for share in range(1, 12):
                sheet = Sheet([("a", ("now",), least), ("b", ("split", "a", share), least)], quashed=["a"])
                self.assertEqual(read_sheet(format_sheet(sheet)), sheet)


class ReadSheet(unittest.TestCase):

    def check(self, text):
        wrong = first_wrong_line(text)
        if wrong is None:
            self.assertEqual(format_sheet(read_sheet(text)), text)
        else:
            self.assertEqual(raised(BadLine, read_sheet, text).line, wrong, repr(text))
            self.assertEqual(raised(BadLine, read_sheet, text=text).line, wrong)
        return wrong is None

    def test_wrong_lines(self):
        wrong = [
            "a", "a now ", " a now", "a  now", "a\tnow", "a now\t", "A now", "a1 now", "ninechars now", "a later", " now",
            "a now now", "a now; least 12", "a now; least 13", "a now; least -1", "a now; least 08", "a now; least +8",
            "a now; least", "a now; least 8; least 8", "a now; quashed; least 8", "a now; quashed; quashed", "a now;",
            "a now; ", "a now; least 8;", "a now;least 8", "a now ; least 8", "a now;  least 8", "a now; least  8",
            "a now; Quashed", "a now; quashed ", "a now; least 8 ; quashed", "a now, quashed", "; quashed", "; least 8",
            "a now; least 8.0", "a now; least eight", "a now; least " + "1" * 1000, "a now; 8", "a now; least8",
            "a behind", "a behind b", "a beside", "a beside b", "a split b", "a split b 6", "a split 6", "a beside a",
            "a behind a", "behind", "now", "-", "nought", "a 144", "-now", "a now; nought", "a now\r",
        ]
        for text in wrong:
            with self.subTest(text=text):
                self.assertEqual(raised(BadLine, read_sheet, text).line, 1)
                self.assertEqual(raised(BadLine, read_sheet, "z now\ny beside z\n" + text + "\nx").line, 3)
                self.assertEqual(first_wrong_line("z now\ny beside z\n" + text), 3)

    def test_wrong_lines_behind_others(self):
        wrong = [
            "a now", "c behind", "c behind a ", "c behind  a", "c behind a  b", "c behind a a", "c behind a b a",
            "c behind c", "c behind a c", "c beside", "c beside a b", "c beside c", "c beside d", "c split a",
            "c split a 0", "c split a 12", "c split a 06", "c split a +6", "c split a -6", "c split a 6 ", "c split a 6 6",
            "c split d 6", "c split a b", "c split a 6; least 12", "c split a " + "6" * 1000, "c split 6 a", "b now",
            "c split a 1_0", "c beside A", "c behind a, b", "c behind a;b", "c Behind a", "", " ", "\t", "c split a 6.",
        ]
        for text in wrong:
            with self.subTest(text=text):
                self.assertEqual(raised(BadLine, read_sheet, "a now\nb now; least 3\n" + text).line, 3)
                self.assertEqual(raised(BadLine, read_sheet, "a now\nb now\n" + text + "\nd now").line, 3)
                self.assertEqual(first_wrong_line("a now\nb now; least 3\n" + text), 3)

    def test_figures_of_other_kinds(self):
        for figure in ("\u0666", "\u00b2", "\uff16", "\u2468"):
            for text in (f"a now; least {figure}", f"a now\nb split a {figure}", f"a now\nb split a 1{figure}"):
                self.assertEqual(raised(BadLine, read_sheet, text).line, text.count("\n") + 1)

    def test_empty_lines(self):
        told = [("\n", 1), ("\n\n", 1), ("a now\n", 2), ("a now\n\n", 2), ("a now\n\nb now", 2), ("\na now", 1),
                ("a now\nb now\n", 3)]
        for text, line in told:
            self.assertEqual(raised(BadLine, read_sheet, text).line, line)
        self.assertEqual(read_sheet(""), Sheet([]))

    def test_the_first_wrong_line_counts(self):
        told = [("a now\nb\nc\nd", 2), ("a beside b\nb now", 1), ("a now\na now\n\n", 2), ("b behind a\na now", 1),
                ("a now\nb behind c\nc now", 2), ("a now\nb split a 6\nb split a 5", 3)]
        for text, line in told:
            self.assertEqual(raised(BadLine, read_sheet, text).line, line)

    def test_no_strings(self):
        for value in any_values_but(str) + [["a now"], ("a now",), b"a now", {"a now": 1}, Sheet([("a", ("now",), 12)])]:
            held = copy.deepcopy(value)
            self.assertEqual(raised(BadLine, read_sheet, value).line, 1)
            self.assertEqual(value, held)
        for value in TEXTS:
            self.check(value)

    def test_texts_with_a_little_changed(self):
        draw = random.Random(151)
        words = ["now", "behind", "beside", "split", "a", "b", "zz", "6", "12", "least", "quashed", ";", "a;", "now;", ""]
        counts = [0, 0]
        for sheet in drawn_sheets(152, 120, 7):
            for text in changed(draw, format_sheet(sheet), words):
                counts[self.check(text)] += 1
                for other in changed(draw, text, words)[::9]:
                    self.check(other)
        self.assertGreater(min(counts), 200)


class FormatEnds(unittest.TestCase):

    def test_by_hand(self):
        told = [
            ([()], "nought"), ([(("", 7),)], "- 7"), ([(("a", 144), ("b", 72))], "a 144 b 72"),
            ([(("b", 1),), (("", 10 ** 60), ("a", 3))], f"- 1{60 * '0'} a 3\nb 1"),
            ([(("nought", 1),)], "nought 1"), ([(("a", 2),), (("b", 2),), (("a", 1), ("b", 1))], "a 2\nb 2"),
        ]
        for chains, text in told:
            late = Ends(chains)
            self.assertEqual([format_ends(late), format_ends(ends=late)], [text, text])
            self.assertEqual([read_ends(text), read_ends(text=text)], [late, late])
            self.assertIs(type(read_ends(text)), Ends)

    def test_there_and_back(self):
        pairs = [late for pair in drawn_pairs(153, 150) for late in pair]
        sheets = [late(sheet) for sheet in drawn_sheets(154, 60, 8) for late in (ends_of, least_ends_of)]
        for late in pairs + sheets:
            text = format_ends(late)
            rows = [" ".join(f"{name or '-'} {parts}" for name, parts in chain) or "nought" for chain in late.chains]
            self.assertEqual(text, "\n".join(rows))
            self.assertEqual(read_ends(text), late)

    def test_a_thousand_figures(self):
        draw = random.Random(155)
        for many in (1, 2, 5):
            chains = [tuple((name, draw.randint(10 ** 999, 10 ** 1000 - 1)) for name in ["", "a", "b"])
                      for _ in range(many)]
            late = Ends(chains)
            self.assertEqual(read_ends(format_ends(late)), late)
        self.assertEqual(read_ends("a " + "9" * 1000).chains, [(("a", 10 ** 1000 - 1),)])
        self.assertEqual(raised(BadLine, read_ends, "a " + "0" * 1000).line, 1)
        self.assertEqual(raised(BadLine, read_ends, "a 0" + "9" * 999).line, 1)
        self.assertEqual(raised(BadLine, read_ends, "9" * 1000).line, 1)
        # As great as the mean of the other two, or greater by one.
        top = "5" * 1000
        half = str(int(top) // 2)
        self.assertEqual(raised(BadLine, read_ends, f"a {half} b {half}\na {top}\nb {top}").line, 1)
        more = str(int(top) // 2 + 1)
        self.assertEqual(len(read_ends(f"a {more} b {more}\na {top}\nb {top}").chains), 3)


class ReadEnds(unittest.TestCase):

    def check(self, text):
        wrong = first_wrong_chain(text)
        if wrong is None:
            self.assertEqual(format_ends(read_ends(text)), text)
        else:
            self.assertEqual(raised(BadLine, read_ends, text).line, wrong, repr(text))
            self.assertEqual(raised(BadLine, read_ends, text=text).line, wrong)
        return wrong is None

    def test_wrong_lines(self):
        wrong = [
            "", " ", "\t", "a", "b", "-", "- -", "144", "b 0", "b -1", "b +1", "b 01", "b 1.0", "b 1_0", "b x", "b 1 c",
            "b 1 b 2", "c 1 b 2", "b 1 - 2", "- 1 - 2", " b 1", "b 1 ", "b  1", "b\t1", "b 1  c 1", "B 1", "b1 1",
            "ninechars 1", " 1", "b ", "nought ", " nought", "nought nought", "Nought", "nought b 1", "b 1 nought",
            "b 1; c 1", "b 1,c 1", "'' 1", "b 1\r", "b \u0661", "b \u00b2", "b \uff11", "b 1\u0660", "-- 1", "-1", "b 1-",
        ]
        for text in wrong:
            with self.subTest(text=text):
                self.assertEqual(raised(BadLine, read_ends, text).line, 1)
                self.assertEqual(raised(BadLine, read_ends, "a 1\n" + text).line, 2)
                self.assertEqual(raised(BadLine, read_ends, "a 1\n" + text + "\nz 9").line, 2)
                self.assertEqual(first_wrong_chain("a 1\n" + text), 2)

    def test_lines_that_are_not_greater(self):
        told = [("a 1\na 1", 2), ("b 2\na 2", 2), ("a 2\nb 2\na 3", 3), ("nought\nnought", 2), ("a 2\nnought", 2),
                ("a 2\n- 3", 2), ("a 2 b 1\na 2", 2), ("a 10\na 9", 2), ("b 2\na 2\nx", 2), ("a 2\nb 2\nb 2\na", 3),
                ("a 9\nab 9\naa 9", 3)]
        for text, line in told:
            self.assertEqual(raised(BadLine, read_ends, text).line, line)
            self.assertEqual(first_wrong_chain(text), line)

    def test_beaten_chains(self):
        told = [("a 1 b 1\na 2\nb 2", 1), ("a 2\nb 1\nb 2", 2), ("nought\na 1", 1), ("a 1\na 2\na 3", 1),
                ("- 1\n- 1 a 1", 1), ("- 2\n- 1 a 1\na 2", 2), ("- 1 a 1\n- 2\na 2", 1),
                ("a 1 c 1\na 2\nb 1 c 1\nb 2\nc 2", 1), ("a 3\nb 1 c 1\nb 2\nc 2", 2), ("a 2\na 3\nb", 3),
                ("a 1\na 2\na 1", 3), ("a 1 b 2\na 2\nb 2", 3), ("nought\nnought 1", 1)]
        for text, line in told:
            with self.subTest(text=text):
                self.assertEqual(first_wrong_chain(text), line)
                self.check(text)

    def test_the_newline_at_the_end(self):
        for text, line in (("a 1\n", 2), ("nought\n", 2), ("\n", 1), ("a 1\n\nb 1", 2), ("\na 1", 1), ("a 2\nb 2\n", 3)):
            self.assertEqual(raised(BadLine, read_ends, text).line, line)

    def test_no_strings(self):
        for value in any_values_but(str) + [["a 1"], ("a 1",), b"a 1", {"a 1": 1}, Ends([(("a", 1),)])]:
            held = copy.deepcopy(value)
            self.assertEqual(raised(BadLine, read_ends, value).line, 1)
            self.assertEqual(value, held)
        for value in TEXTS:
            self.check(value)

    def test_texts_with_a_little_changed(self):
        draw = random.Random(156)
        words = ["a", "b", "-", "nought", "1", "2", "144", "zz", "", "0", "a 1", "abc"]
        counts = [0, 0]
        for number in range(120):
            names = ["", "a", "b", "c"][draw.randint(0, 1):]
            late = Ends(drawn_chains(draw, names, draw.choice([2, 3, 144]), draw.randint(1, 6)))
            for text in changed(draw, format_ends(late), words):
                counts[self.check(text)] += 1
                for other in changed(draw, text, words)[number % 3::11]:
                    self.check(other)
        self.assertGreater(min(counts), 200)

    def test_texts_of_all_chains_of_few_parts(self):
        draw = random.Random(157)
        rows = [f"a {a} b {b}" for a in (1, 2) for b in (1, 2)] + ["a 3", "a 4", "b 3", "b 4", "- 1 a 2", "- 2", "nought"]
        counts = [0, 0]
        for _ in range(600):
            some = draw.sample(rows, draw.randint(1, 4))
            text = "\n".join(sorted(some) if draw.random() < 0.7 else some)
            counts[self.check(text)] += 1
        self.assertGreater(min(counts), 100)

    def test_read_back_they_end_the_same(self):
        draw = random.Random(158)
        for late, _ in drawn_pairs(159, 60):
            lengths = drawn_lengths(draw, "abcdefgh")
            self.assertEqual(read_ends(format_ends(late)).at(lengths), late.at(lengths))
