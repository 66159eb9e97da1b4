"""[3], [6], [8] and all points together: names exchanged, lines in another order, and the parts played through."""

import itertools
import random
import unittest

from termlays.answers import answers, is_whole, told_back
from termlays.books import Book, replayed
from termlays.chains import chains_of, least_chains_of
from termlays.days import begins, end, ends, least_end
from termlays.ends import Ends, ends_of, least_ends_of
from termlays.later import is_later, later_lengths, never_later, paper
from termlays.lean import lean
from termlays.matters import best_served, gain, never_worse, room
from termlays.papers import format_ends, format_sheet, read_ends, read_sheet
from termlays.ranges import amounts, corners, greatest_end, later_in, least_end_in, paper_in
from termlays.sheets import Sheet
from tests.samples import BIG, drawn_lengths, drawn_pairs, drawn_sheets, greatest

OTHER_NAMES = ["zz", "m", "b", "abcdefgh", "c", "now", "y", "a", "behind", "x"]


def renamed_lay(lay, names):
    if lay[0] == "behind":
        return ("behind", tuple(names.get(name, name) for name in lay[1]))
    return (lay[0], *[names.get(word, word) for word in lay[1:]])


def renamed(sheet, names):
    """The sheet with its names exchanged for others."""
    lines = [(names[name], renamed_lay(lay, names), least) for name, lay, least in sheet.lines]
    return Sheet(lines, quashed=[names[name] for name in sheet.quashed])


def renamed_chains(chains, names):
    return sorted(tuple(sorted((names.get(name, name), parts) for name, parts in chain)) for chain in chains)


def drawn_names(draw, names):
    return dict(zip(names, draw.sample(OTHER_NAMES, len(names))))


def in_another_order(draw, sheet):
    """The sheet with its lines in another order that is a sheet, too."""
    left, lines = sheet.lines, []
    while left:
        named = {line[0] for line in lines}
        free = [line for line in left if line[1][0] == "now" or
                set(line[1][1] if line[1][0] == "behind" else line[1][1:2]) <= named]
        line = draw.choice(free)
        left.remove(line)
        lines.append(line)
    return Sheet(lines, quashed=sheet.quashed)


class NamesExchanged(unittest.TestCase):

    def test_of_a_sheet(self):
        draw = random.Random(160)
        for sheet in drawn_sheets(161, 120, 7):
            names = drawn_names(draw, sheet.names)
            other = renamed(sheet, names)
            lengths = drawn_lengths(draw, sheet.names)
            days = {names[name]: lengths[name] for name in sheet.names}
            self.assertEqual(begins(other, days), {names[name]: at for name, at in begins(sheet, lengths).items()})
            self.assertEqual(ends(other, days), {names[name]: at for name, at in ends(sheet, lengths).items()})
            self.assertEqual([end(other, days), least_end(other, days)], [end(sheet, lengths), least_end(sheet, lengths)])
            self.assertEqual(chains_of(other), renamed_chains(chains_of(sheet), names))
            self.assertEqual(least_chains_of(other), renamed_chains(least_chains_of(sheet), names))
            self.assertEqual(least_ends_of(other).chains, renamed_chains(least_ends_of(sheet).chains, names))
            served = best_served(sheet, lengths, 3)
            self.assertEqual(best_served(other, days, 3), sorted(names[name] for name in served))
            for name in sheet.names:
                self.assertEqual(gain(ends_of(other), names[name]), gain(ends_of(sheet), name))
                self.assertEqual(room(other, days, names[name]), room(sheet, lengths, name))
            self.assertEqual(ends_of(lean(other)), ends_of(other))

    def test_of_ends(self):
        draw = random.Random(162)
        counts = [0, 0]
        for one, other in drawn_pairs(163, 250):
            names = drawn_names(draw, "abcdefgh")
            pair = [Ends(renamed_chains(late.chains, names)) for late in (one, other)]
            for late, last in zip(pair, (one, other)):
                self.assertEqual(late.chains, renamed_chains(last.chains, names))
                self.assertEqual(late.names, sorted(names.get(name, name) for name in last.names))
                self.assertEqual([gain(late, names[name]) for name in names], [gain(last, name) for name in names])
            self.assertEqual((pair[0] + pair[1]).chains, renamed_chains((one + other).chains, names))
            self.assertEqual((pair[0] | pair[1]).chains, renamed_chains((one | other).chains, names))
            self.assertIs(never_later(*pair), never_later(one, other))
            self.assertIs(never_worse(pair[0], names["a"], names["b"]), never_worse(one, "a", "b"))
            counts[never_later(one, other)] += 1
            ranges = {name: (0, draw.randint(0, 4)) for name in "abcde"}
            spans = {names[name]: ranges[name] for name in ranges}
            self.assertEqual(least_end_in(pair[0], spans), least_end_in(one, ranges))
            self.assertIs(paper_in(*pair, spans) is None, paper_in(one, other, ranges) is None)
        self.assertGreater(min(counts), 50)

    def test_of_a_book(self):
        draw = random.Random(164)
        for sheet in drawn_sheets(165, 40, 6):
            names = drawn_names(draw, sheet.names)
            book, other = Book(), Book()
            for name, lay, least in sheet.lines:
                days = draw.randint(1, 9)
                for one, told in ((book, {}), (other, names)):
                    one.lay(told.get(name, name), renamed_lay(lay, told), least=least)
                    one.pass_days(days)
                    if days < 4:
                        one.tell(told.get(name, name), days)
            self.assertEqual(other.form().chains, renamed_chains(book.form().chains, names))
            self.assertEqual([other.end(), other.day], [book.end(), book.day])


class LinesInAnotherOrder(unittest.TestCase):

    def test_they_end_the_same(self):
        draw = random.Random(166)
        moved = 0
        for sheet in drawn_sheets(167, 150, 8):
            other = in_another_order(draw, sheet)
            lengths = drawn_lengths(draw, sheet.names)
            self.assertEqual([begins(other, lengths), ends(other, lengths)], [begins(sheet, lengths), ends(sheet, lengths)])
            self.assertEqual([end(other, lengths), least_end(other, lengths)], [end(sheet, lengths), least_end(sheet, lengths)])
            self.assertEqual([chains_of(other), least_chains_of(other)], [chains_of(sheet), least_chains_of(sheet)])
            self.assertEqual([ends_of(other), least_ends_of(other)], [ends_of(sheet), least_ends_of(sheet)])
            moved += other != sheet
        self.assertGreater(moved, 60)


class Together(unittest.TestCase):

    def test_lengths_at_which_a_sheet_is_later_are_played_through_both(self):
        counts = [0, 0]
        sheets = {}
        for sheet in drawn_sheets(168, 200, 6):
            for other in sheets.get(len(sheet), [])[-3:]:
                lengths = later_lengths(ends_of(sheet), ends_of(other))
                if lengths is None:
                    self.assertIsNotNone(paper(ends_of(sheet), ends_of(other)))
                    days = drawn_lengths(random.Random(169), sheet.names)
                    self.assertLessEqual(end(sheet, days), end(other, days))
                else:
                    days = {**{name: 0 for name in sheet.names}, **lengths}
                    self.assertGreater(end(sheet, days), end(other, days))
                    self.assertIs(is_later(ends_of(sheet), ends_of(other), lengths), True)
                counts[lengths is None] += 1
            sheets.setdefault(len(sheet), []).append(sheet)
        self.assertGreater(min(counts), 50)

    def test_corners_of_ranges_are_played_through_the_sheets(self):
        draw = random.Random(170)
        for sheet, other in itertools.pairwise(drawn_sheets(171, 120, 5)):
            names = sorted({*sheet.names, *other.names})
            ranges = {name: tuple(sorted(draw.randint(0, draw.choice([3, BIG])) for _ in range(2))) for name in names}
            total = draw.choice([None, sum(low for low, _ in ranges.values()), sum(map(sum, ranges.values())) // 2])
            some = corners(ranges, total=total)
            told = [end(sheet, lengths) for lengths in some]
            self.assertEqual([max(row) for row in amounts(ends_of(sheet), ranges, total=total)], told)
            self.assertEqual(greatest_end(ends_of(sheet), ranges, total=total), max(told))
            top, bottom = least_end_in(ends_of(sheet), ranges, total=total)
            self.assertLessEqual(top, bottom * min(told))
            if later_in(ends_of(sheet), ends_of(other), ranges, total=total) is None:
                self.assertTrue(all(end(sheet, lengths) <= end(other, lengths) for lengths in some))

    def test_texts_read_back_end_the_same(self):
        draw = random.Random(172)
        for sheet in drawn_sheets(173, 80, 10):
            other = read_sheet(format_sheet(sheet))
            lengths = drawn_lengths(draw, sheet.names)
            self.assertEqual([end(other, lengths), least_end(other, lengths)], [end(sheet, lengths), least_end(sheet, lengths)])
            for late in (ends_of(sheet), least_ends_of(sheet)):
                self.assertEqual(read_ends(format_ends(late)), late)
                self.assertEqual(read_ends(format_ends(late)).at(lengths), greatest(late.chains, lengths))

    def test_a_book_laid_line_by_line_on_day_0_comes_to_the_sheet(self):
        draw = random.Random(174)
        for sheet in drawn_sheets(175, 60, 8):
            book = replayed([("lay", *line) for line in sheet.lines] + [("quash", name) for name in sheet.quashed])
            self.assertEqual([book.sheet, book.form()], [sheet, ends_of(sheet)])
            lengths = drawn_lengths(draw, sheet.names)
            for name in sheet.names:
                book.tell(name, lengths[name])
            self.assertEqual(book.end(), end(sheet, lengths))

    def test_a_book_is_never_sooner_than_its_sheet_on_day_0(self):
        draw = random.Random(176)
        for sheet in drawn_sheets(177, 60, 6):
            book = Book()
            for name, lay, least in sheet.lines:
                book.lay(name, lay, least=least)
                if draw.random() < 0.5:
                    book.pass_days(draw.randint(1, 9))
            for name in sheet.quashed:
                book.quash(name)
            self.assertTrue(never_later(ends_of(sheet), book.form()))
            self.assertTrue(never_later(book.form(), ends_of(sheet) + Ends([(("", 144),)]) * book.day))

    def test_days_put_best_are_never_worse(self):
        draw = random.Random(178)
        for sheet in drawn_sheets(179, 60, 6):
            late, days = ends_of(sheet), draw.randint(0, 5)
            lengths = {name: draw.randint(days, days + 9) for name in sheet.names}
            served = {name: end(sheet, {**lengths, name: lengths[name] - days}) for name in sheet.names}
            best = best_served(sheet, lengths, days)
            self.assertTrue(all(served[name] <= served[other] for name in best for other in served))
            for one, other in itertools.permutations(sheet.names, 2):
                if never_worse(late, one, other):
                    self.assertLessEqual(served[one], served[other])
                    self.assertTrue(other not in best or one in best)

    def test_whole_ends_are_told_back_from_the_sheets_own_ends(self):
        for sheet in drawn_sheets(180, 60, 6):
            lines = [(name, lay if lay[0] != "split" else ("behind", lay[1:2]), 12) for name, lay, _ in sheet.lines]
            whole = Sheet(lines, quashed=sheet.quashed)
            names = whole.names
            told = {}
            for many in range(len(names) + 1):
                for lot in itertools.combinations(sorted(names), many):
                    told[lot] = end(whole, {name: int(name in lot) for name in names})
            self.assertEqual(answers(ends_of(whole), names), told)
            self.assertEqual(told_back(names, told), ends_of(whole))
            self.assertIs(is_whole(ends_of(whole)), True)
            self.assertEqual(told_back(names, answers(ends_of(lean(whole)), names)), ends_of(whole))

    def test_ends_of_books_against_those_of_sheets(self):
        draw = random.Random(181)
        for sheet in drawn_sheets(182, 60, 5):
            book = Book()
            book.pass_days(draw.randint(1, 5))
            for name, lay, least in sheet.lines:
                book.lay(name, lay, least=least)
            for name in sheet.quashed:
                book.quash(name)
            # All of it is laid on one later day: it ends by so many days later.
            self.assertEqual(book.form(), ends_of(sheet) + Ends([(("", 144),)]) * book.day)
