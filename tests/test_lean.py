"""[17]: spare anchors, and sheets made lean."""

import random
import unittest

from termlays.days import end
from termlays.ends import ends_of
from termlays.lean import lean, spare
from termlays.sheets import Sheet
from tests.samples import drawn_lay, drawn_lengths, drawn_sheets

NOW, BEHIND = ("a", ("now",), 12), ("b", ("behind", ("a",)), 12)


def less(sheet, number, anchor):
    """The sheet without an anchor of a line, written anew."""
    lines = []
    for at, (name, lay, least) in enumerate(sheet.lines):
        if at == number:
            lay = (lay[0], tuple(name for name in lay[1] if name != anchor))
        lines.append((name, lay, least))
    return Sheet(lines, quashed=sheet.quashed)


def spare_of(sheet):
    """The spare anchors, by the words of the document."""
    told = []
    for number, (_, lay, _) in enumerate(sheet.lines):
        if lay[0] == "behind" and len(lay[1]) >= 2:
            told += [(number, anchor) for anchor in lay[1] if ends_of(less(sheet, number, anchor)) == ends_of(sheet)]
    return sorted(told)


def lean_of(sheet):
    """The sheet made lean, by the words of the document."""
    for number in range(len(sheet) - 1, -1, -1):
        lay = sheet.lines[number][1]
        if lay[0] == "behind":
            for anchor in lay[1][::-1]:
                if (number, anchor) in spare_of(sheet):
                    sheet = less(sheet, number, anchor)
    return sheet


def many_anchors(seed, many, most):
    """Sheets in which most terms are laid behind many others, with some of them quashed."""
    draw = random.Random(seed)
    for _ in range(many):
        lines = []
        for name in draw.sample("abcdefghij", draw.randint(1, most)):
            earlier = [line[0] for line in lines]
            lay = drawn_lay(draw, earlier)
            if len(earlier) > 1 and draw.random() < 0.7:
                lay = ("behind", tuple(draw.sample(earlier, draw.randint(2, len(earlier)))))
            lines.append((name, lay, draw.choice([0, 3, 12])))
        yield Sheet(lines, quashed=[line[0] for line in lines if draw.random() < 0.2])


class Spare(unittest.TestCase):

    def test_by_hand(self):
        told = [
            ([], []), ([NOW], []), ([NOW, BEHIND], []),
            ([NOW, BEHIND, ("c", ("behind", ("a", "b")), 12)], [(2, "a")]),
            ([NOW, BEHIND, ("c", ("behind", ("b", "a")), 12)], [(2, "a")]),
            ([NOW, ("b", ("now",), 12), ("c", ("behind", ("b", "a")), 12)], []),
            ([NOW, ("b", ("beside", "a"), 12), ("c", ("behind", ("b", "a")), 0)], []),
            ([NOW, ("b", ("split", "a", 6), 12), ("c", ("behind", ("b", "a")), 12)], [(2, "a")]),
            ([NOW, BEHIND, ("d", ("now",), 12), ("c", ("behind", ("d", "b", "a")), 12)], [(3, "a")]),
            ([NOW, BEHIND, ("d", ("behind", ("a", "b")), 12), ("c", ("behind", ("d", "b", "a")), 12)],
             [(2, "a"), (3, "a"), (3, "b")]),
        ]
        for lines, some in told:
            with self.subTest(lines=lines):
                self.assertEqual(spare(Sheet(lines)), some)
                self.assertEqual(spare(sheet=Sheet(lines)), some)
                self.assertEqual(spare_of(Sheet(lines)), some)

    def test_quashed_terms(self):
        lines = [NOW, ("b", ("now",), 12), ("c", ("behind", ("b", "a")), 12)]
        self.assertEqual(spare(Sheet(lines, quashed=["a"])), [(2, "a")])
        self.assertEqual(spare(Sheet(lines, quashed=["a", "b"])), [(2, "a"), (2, "b")])
        self.assertEqual(spare(Sheet(lines, quashed=["c"])), [(2, "a"), (2, "b")])
        self.assertEqual(spare(Sheet([NOW, BEHIND, ("c", ("behind", ("a", "b")), 12)], quashed=["b"])),
                         [(2, "a"), (2, "b")])

    def test_a_single_anchor_is_never_spare(self):
        lines = [NOW, BEHIND, ("c", ("beside", "a"), 12), ("d", ("split", "b", 3), 12), ("e", ("behind", ("c",)), 12)]
        self.assertEqual(spare(Sheet(lines, quashed=["a", "b", "c", "d", "e"])), [])

    def test_drawn_sheets(self):
        many = 0
        for sheet in [*many_anchors(120, 120, 7), *drawn_sheets(121, 60, 7)]:
            told = spare(sheet)
            self.assertEqual(told, spare_of(sheet))
            self.assertIs(type(told), list)
            many += len(told)
        self.assertGreater(many, 300)

    def test_new_each_time(self):
        sheet = Sheet([NOW, BEHIND, ("c", ("behind", ("a", "b")), 12)])
        spare(sheet).clear()
        self.assertEqual(spare(sheet), [(2, "a")])
        self.assertEqual(sheet.lines[2], ("c", ("behind", ("a", "b")), 12))


class Lean(unittest.TestCase):

    def check(self, sheet):
        draw = random.Random(122)
        held = Sheet(sheet.lines, quashed=sheet.quashed)
        told = lean(sheet)
        self.assertIs(type(told), Sheet)
        self.assertEqual([spare(told), told.quashed, told.names], [[], sheet.quashed, sheet.names])
        self.assertEqual(ends_of(told), ends_of(sheet))
        for _ in range(5):
            lengths = drawn_lengths(draw, sheet.names)
            self.assertEqual(end(told, lengths), end(sheet, lengths))
        for line, other in zip(told.lines, sheet.lines):
            self.assertEqual([line[0], line[1][0], line[2]], [other[0], other[1][0], other[2]])
        self.assertEqual([lean(told), lean(sheet=sheet)], [told, told])
        self.assertEqual(sheet, held)
        return told

    def test_by_hand(self):
        last = ("c", ("behind", ("a", "b")), 7)
        told = self.check(Sheet([NOW, BEHIND, last]))
        self.assertEqual(told.lines, [NOW, BEHIND, ("c", ("behind", ("b",)), 7)])
        told = self.check(Sheet([NOW, BEHIND, last, ("d", ("behind", ("c", "a", "b")), 12)]))
        self.assertEqual(told.lines, [NOW, BEHIND, ("c", ("behind", ("b",)), 7), ("d", ("behind", ("c",)), 12)])
        for lines in ([], [NOW], [NOW, BEHIND], [NOW, ("b", ("now",), 12), ("c", ("behind", ("b", "a")), 12)]):
            self.assertEqual(self.check(Sheet(lines)), Sheet(lines))

    def test_of_each_line_the_last_anchors_go_first(self):
        lines = [NOW, ("b", ("now",), 12), ("c", ("behind", ("b", "a")), 12)]
        told = [(["a", "b"], ("b",)), (["c"], ("b",)), (["a"], ("b",)), (["b"], ("a",)), ([], ("b", "a"))]
        for quashed, anchors in told:
            self.assertEqual(self.check(Sheet(lines, quashed=quashed)).line_named("c")[1], ("behind", anchors))
        lines[2] = ("c", ("behind", ("a", "b")), 12)
        self.assertEqual(self.check(Sheet(lines, quashed=["c"])).line_named("c")[1], ("behind", ("a",)))

    def test_the_last_lines_go_first(self):
        lines = [NOW, ("b", ("now",), 12), ("c", ("behind", ("a", "b")), 12), ("d", ("behind", ("a", "b")), 12)]
        told = self.check(Sheet(lines, quashed=["c", "d"]))
        self.assertEqual([line[1][1] for line in told.lines[2:]], [("a",), ("a",)])
        # With a term behind both, one of them must stay behind a and b: the one whose line comes first.
        told = self.check(Sheet(lines + [("e", ("behind", ("c", "d")), 12)], quashed=["c", "d"]))
        self.assertEqual([line[1][1] for line in told.lines[2:]], [("a", "b"), ("a",), ("c",)])

    def test_drawn_sheets(self):
        leaner = 0
        for sheet in [*many_anchors(123, 100, 7), *drawn_sheets(124, 40, 7)]:
            told = self.check(sheet)
            self.assertEqual(told, lean_of(sheet))
            leaner += told != sheet
        self.assertGreater(leaner, 50)

    def test_ten_lines(self):
        for sheet in many_anchors(125, 12, 10):
            self.check(sheet)
