"""[100] to [106]: what follows from books, and the books of panels."""

from itertools import combinations
from unittest import main

from cardpanel.alike import alike, within
from cardpanel.books import Book, is_bar, is_row_with, keeps, why_none
from cardpanel.errors import Clash, InvalidBook, InvalidLine, InvalidPanel, Unlike
from cardpanel.heads import heads, lots_of
from cardpanel.implied import (all_follow, book_of, check_parting_panel, contrary, follows, greatest_lots, is_reasons,
                               lean_book, least_book, needless_lines, parting_panel, reasons, same_book)
from cardpanel.keepoffs import least_keepoffs
from cardpanel.panels import Panel
from cardpanel.several import plain_panel
from support import (ABC, Case, all_panels, all_rows, big_book, big_names, big_panel, calls_about, odd_lines,
                     odd_objects, offs_about, panel_keeps, row_keeps, some_lines, some_numbers, told_table)

LINES = calls_about(ABC) + offs_about(ABC)
PANELS = all_panels(ABC, 6)
KEPT = {repr(line): frozenset(at for at, panel in enumerate(PANELS) if panel_keeps(panel.rows(), line))
        for line in LINES}


def in_turn():
    return Book(ABC, [("off", ["a"], "b"), ("off", ["b"], "c")])


def called():
    return Book(ABC, [("off", ["a"], "b"), ("call", ["a", "c"], "c")])


def more():
    return Book(ABC, [("call", ["a", "b"], "a"), ("call", ["a", "b", "c"], "a"), ("off", ["b"], "c")])


def keeping(lines):
    """The positions of all panels of a, b and c that keep some lines."""
    found = frozenset(range(len(PANELS)))
    for line in lines:
        found = found & KEPT[repr(line)]
    return found


def some_books(seed, many):
    numbers = some_numbers(seed)
    return [Book(ABC, some_lines(numbers, ABC, at % 7)) for at in range(many)]


def told_contrary(line):
    word, lot, name = line
    if word == "off":
        return "call", sorted(lot + [name]), name
    return ("off", [other for other in lot if other != name], name) if len(lot) > 1 else None


class Document(Case):
    def test_first_examples(self):
        self.same(
            [contrary(("off", ["a"], "c")), follows(in_turn(), ("off", ["a"], "c")),
             reasons(in_turn(), ("off", ["a"], "c")),
             is_reasons(in_turn(), ("off", ["c"], "a"), ("parts", Panel(ABC, [ABC])))],
            [("call", ["a", "c"], "c"), True, ("follows", (("call", ["a", "c"], "c"), ["a", "b", "c"])), True])

    def test_second_examples(self):
        self.same(
            [follows(called(), ("call", ["b", "c"], "b")), reasons(called(), ("call", ["b", "c"], "c")),
             reasons(called(), ("call", ["a"], "a")),
             is_reasons(called(), ("call", ["a", "b"], "a"), ("follows", (None, ["a", "b"])))],
            [False, ("follows", (("call", ["a", "c"], "c"), ["a", "b", "c"])), ("follows", None), True])

    def test_third_examples(self):
        self.same(
            [needless_lines(more()), lean_book(more()).lines(), same_book(more(), lean_book(more())),
             all_follow(in_turn(), more()), all_follow(more(), in_turn())],
            [[("call", ["a", "b"], "a"), ("call", ["a", "b", "c"], "a")],
             [("call", ["a", "b"], "a"), ("off", ["b"], "c")], True, True, False])

    def test_fourth_examples(self):
        stand = Panel(ABC, [["a", "b", "c"], ["b", "a", "c"]])
        self.same(
            [book_of(stand).lines(), least_book(stand).lines(), greatest_lots(Book(ABC, [("off", ["a", "b"], "c")]))],
            [[("call", ["a", "b", "c"], "a"), ("call", ["a", "b", "c"], "b"), ("call", ["c"], "c"),
              ("off", ["a"], "c"), ("off", ["b"], "c")],
             [("call", ["a", "b", "c"], "a"), ("call", ["a", "b", "c"], "b"), ("off", ["a"], "c"), ("off", ["b"], "c")],
             {"a": [[]], "b": [[]], "c": [["a"], ["b"]]}])


class Follows(Case):
    def test_contraries(self):
        for line in LINES:
            other = contrary(line)
            self.same(other, told_contrary(line))
            if other is None:
                self.same(len(KEPT[repr(line)]), len(PANELS))
            else:
                self.assertEqual(KEPT[repr(line)] | KEPT[repr(other)], frozenset(range(len(PANELS))))
                self.assertFalse(KEPT[repr(line)] & KEPT[repr(other)])
                self.same(contrary(line=other), line)
        self.same(contrary(("call", ["by", "jam"], "jam")), ("off", ["by"], "jam"))

    def test_contraries_of_wrong_lines(self):
        for line in odd_lines() + [("call", ["abcdefghi"], "abcdefghi"), ("off", ["A"], "b")]:
            if line not in [("off", ["d"], "a"), ("off", ["a"], "d")]:
                self.raises(InvalidLine, line, contrary, line)

    def test_all_lines_of_small_books(self):
        for book in some_books(1, 90):
            kept = keeping(book.lines())
            for line in LINES:
                told = kept <= KEPT[repr(line)]
                self.same(follows(book, line), told)
                found = reasons(book, line)
                self.same(is_reasons(book, line, found), True)
                if told:
                    self.assertEqual(found[0], "follows")
                    if told_contrary(line) is None:
                        self.same(found[1], None)
                    else:
                        self.same(is_bar(book.with_line(contrary(line)), found[1]), True)
                else:
                    self.assertEqual(found[0], "parts")
                    self.assertTrue(keeps(book, found[1]) and not keeps(Book(ABC, [line]), found[1]))

    def test_all_panels_as_reasons(self):
        for book in some_books(2, 20):
            kept = keeping(book.lines())
            for line in LINES:
                self.same([is_reasons(book, line, ("parts", panel)) for panel in PANELS],
                          [at in kept and at not in KEPT[repr(line)] for at in range(len(PANELS))])

    def test_any_object_may_be_no_reasons(self):
        line, panel = ("off", ["c"], "a"), Panel(ABC, [ABC])
        for value in odd_objects() + [["parts", panel], ("parts", panel, None), ("follows", None), ("parts", None),
                                      ("parts",), ("Parts", panel), ("follows", panel), ("follows", (None, ["a"])),
                                      ("parts", panel.rows()), ("parts", Panel(["a"], [["a"]])), (True, panel),
                                      (None, panel), (["parts"], panel)]:
            self.same(is_reasons(in_turn(), line, value), False)
        bar = (("call", ["a", "c"], "c"), ABC)
        follow = ("off", ["a"], "c")
        self.same(is_reasons(value=("follows", bar), line=follow, book=in_turn()), True)
        for value in [("follows", list(bar)), ("follows", (bar[0], ["a", "c"])), ("follows", None), ["follows", bar],
                      ("follows", (None, ABC)), ("parts", bar), ("follows", bar, 1), ("follows", (bar[0], tuple(ABC)))]:
            self.same(is_reasons(in_turn(), follow, value), False)
        self.same([is_reasons(in_turn(), ("call", ["a"], "a"), value) for value in
                   [("follows", None), ("follows", bar), ("parts", panel), ("parts", None), None]],
                  [True, False, False, False, False])

    def test_wrong(self):
        for value in odd_objects():
            self.raises(InvalidBook, value, follows, value, None)
            self.raises(InvalidBook, value, reasons, value, None)
            self.raises(InvalidBook, value, is_reasons, value, None, None)
        for line in odd_lines():
            self.raises(InvalidLine, line, follows, in_turn(), line)
            self.raises(InvalidLine, line, reasons, in_turn(), line)
            self.raises(InvalidLine, line, is_reasons, in_turn(), line, None)
        self.same([follows(line=("off", ["a"], "c"), book=in_turn()),
                   reasons(line=("call", ["a"], "a"), book=in_turn())], [True, ("follows", None)])


class TwoBooks(Case):
    def test_small_books(self):
        every = some_books(3, 30) + [Book(ABC, [line]) for line in LINES[::4]]
        told = [keeping(book.lines()) for book in every]
        for one, ours in zip(every, told):
            for other, theirs in zip(every, told):
                self.same([all_follow(one, other), same_book(one, other)], [ours <= theirs, ours == theirs])
                panel = parting_panel(one, other)
                if ours == theirs:
                    self.same(panel, None)
                else:
                    self.assertTrue(keeps(one, panel) != keeps(other, panel))
                    self.same(check_parting_panel(one, other, panel), True)
            for at, panel in enumerate(PANELS[::3]):
                self.same(check_parting_panel(one, every[at], panel), (3 * at in ours) != (3 * at in told[at]))

    def test_any_object(self):
        for value in odd_objects() + [Panel(["a", "b"], [["a", "b"]]), [["a", "b", "c"]], (Panel(ABC, [ABC]),)]:
            self.same(check_parting_panel(in_turn(), Book(ABC, []), value), False)
        self.same(check_parting_panel(value=Panel(ABC, [["c", "b", "a"]]), other=Book(ABC, []), one=in_turn()), True)

    def test_wrong(self):
        small = Book(["a", "b"], [])
        for call, after in [(all_follow, []), (same_book, []), (parting_panel, []), (check_parting_panel, [None])]:
            for value in odd_objects():
                self.raises(InvalidBook, value, call, value, None, *after)
                self.raises(InvalidBook, value, call, small, value, *after)
            other = Book(ABC, [])
            self.raises(Unlike, other, call, small, other, *after)
        self.same([all_follow(other=more(), one=in_turn()), same_book(other=more(), one=more()),
                   parting_panel(other=more(), one=more())], [True, True, None])


class Lean(Case):
    def check(self, book):
        lines = book.lines()
        told = [line for line in lines if keeping(book.without_line(line).lines()) <= KEPT[repr(line)]]
        self.same(needless_lines(book), told)
        left = lines
        for line in reversed(lines):
            rest = [other for other in left if other != line]
            if keeping(rest) <= KEPT[repr(line)]:
                left = rest
        self.same(lean_book(book).lines(), left)
        self.same(same_book(book, lean_book(book)), True)

    def test_small_books(self):
        for book in some_books(4, 200):
            self.check(book)

    def test_books_of_many_lines(self):
        numbers = some_numbers(5)
        for panel in PANELS[::4]:
            kept = [line for line in LINES if panel_keeps(panel.rows(), line)]
            self.check(Book(ABC, kept))
            self.check(Book(ABC, [line for line in kept if next(numbers) % 3]))
        self.check(Book(ABC, LINES))

    def test_two_calls_that_each_follow_from_the_other(self):
        self.same([len(needless_lines(book=more())), len(lean_book(book=more()).lines())], [2, 2])

    def test_wrong(self):
        for value in odd_objects():
            for call in (needless_lines, lean_book, greatest_lots):
                self.raises(InvalidBook, value, call, value)


class RowByRow(Case):
    """Books of four and five entries: some panel keeps one if rows that keep all keep-offs meet each call."""

    def kept(self, rows, lines):
        good = [row for row in rows if all(row_keeps(row, line) for line in lines if line[0] == "off")]
        calls = [line for line in lines if line[0] == "call"]
        return bool(good) and all(any(row_keeps(row, line) for row in good) for line in calls)

    def told(self, rows, lines, line):
        against = told_contrary(line)
        return against is None or not self.kept(rows, lines + [against])

    def test_drawn_books(self):
        numbers = some_numbers(12)
        for at in range(160):
            entries = ["a", "b", "c", "d", "e"][:4 + at % 2]
            rows = all_rows(entries)
            book = Book(entries, some_lines(numbers, entries, at % 10))
            lines, other = book.lines(), Book(entries, some_lines(numbers, entries, 3))
            self.same(why_none(book) is None, self.kept(rows, lines))
            for line in other.lines() + lines[:2]:
                told = self.told(rows, lines, line)
                self.same([follows(book, line), reasons(book, line)[0] == "follows"], [told, told])
                self.same(is_reasons(book, line, reasons(book, line)), True)
            without = {repr(line): [each for each in lines if each != line] for line in lines}
            self.same(needless_lines(book), [line for line in lines if self.told(rows, without[repr(line)], line)])
            left = lines
            for line in reversed(lines):
                rest = [each for each in left if each != line]
                left = rest if self.told(rows, rest, line) else left
            self.same(lean_book(book).lines(), left)
            self.same(all_follow(book, other), all(self.told(rows, lines, line) for line in other.lines()))
            self.same(all_follow(other, book), all(self.told(rows, other.lines(), line) for line in lines))


class BooksOfPanels(Case):
    def check(self, panel):
        names = panel.entries()
        calls = [("call", [name for name in names if name not in lot], entry) for lot, entry in heads(panel)]
        offs = [("off", lot, name) for name in names for lot in least_keepoffs(panel, name)]
        book, least = book_of(panel), least_book(panel)
        self.same([book.entries(), book.lines()], [names, sorted(calls + offs)])
        self.same(least.lines(), [line for line in book.lines() if line not in needless_lines(book)])
        self.same([same_book(book, least), keeps(book, panel), needless_lines(least)], [True, True, []])
        return book, least

    def test_small_panels(self):
        for panel in PANELS:
            book, least = self.check(panel)
            told = [told_table(other) == told_table(panel) for other in PANELS]
            self.same([keeps(book, other) for other in PANELS], told)
            self.same([keeps(least, other) for other in PANELS], told)
        for entries in [["a"], ["a", "b"]]:
            for panel in all_panels(entries, 2):
                self.check(panel)

    def test_greater_panels(self):
        panels = [big_panel(seed, 4 + seed % 3, 1 + seed % 5) for seed in range(20)]
        for panel in panels:
            book, least = self.check(panel)
            for other in panels:
                if other.entries() == panel.entries():
                    self.same([keeps(book, other), keeps(least, other), least_book(other) == least],
                              [alike(panel, other)] * 3)

    def test_no_book_has_fewer_calls_or_fewer_keepoffs(self):
        calls, offs = calls_about(ABC), offs_about(ABC)
        for panel in PANELS[::5]:
            alike_ones = frozenset(at for at, other in enumerate(PANELS) if told_table(other) == told_table(panel))
            lines = least_book(panel).lines()
            many = sum(line[0] == "call" for line in lines)
            good_calls = [line for line in calls if panel_keeps(panel.rows(), line)]
            good_offs = [line for line in offs if panel_keeps(panel.rows(), line)]
            for some in combinations(good_calls, many - 1) if many else []:
                self.assertNotEqual(keeping(list(some) + good_offs), alike_ones)
            for some in combinations(good_offs, len(lines) - many - 1) if many < len(lines) else []:
                self.assertNotEqual(keeping(list(some) + good_calls), alike_ones)

    def test_greatest_lots(self):
        for book in some_books(6, 80):
            offs = [line for line in book.lines() if line[0] == "off"]
            rows = [row for row in all_rows(ABC) if is_row_with(Book(ABC, offs), [], row)]
            if rows:
                found = greatest_lots(book)
                self.same(found, lots_of(Panel(ABC, rows)))
                for panel in PANELS[::5]:
                    if keeps(Book(ABC, offs), panel):
                        self.same(within(panel, Panel(ABC, rows)), True)
            else:
                self.raises(Clash, book, greatest_lots, book)

    def test_greatest_lots_of_books_of_panels(self):
        for seed in range(6):
            panel = big_panel(seed, 4 + seed, 1 + seed)
            self.same(greatest_lots(book=book_of(panel)), lots_of(panel))

    def test_wrong(self):
        for value in odd_objects()[:-1]:
            self.raises(InvalidPanel, value, book_of, value)
            self.raises(InvalidPanel, value, least_book, value)
        alone = Panel(["a"], [["a"]])
        self.same([book_of(panel=alone).lines(), least_book(panel=alone).lines(), greatest_lots(Book(["a"], []))],
                  [[("call", ["a"], "a")], [], {"a": [[]]}])


class Limits(Case):
    def test_forty_lines_of_forty_entries(self):
        for seed, calls in [(0, 10), (1, 20), (2, 35)]:
            names, lines, panel = big_book(seed, 40, calls)
            book = Book(names, lines)
            for line in [("call", names[:3], names[1]), ("off", names[:2], names[5]), lines[0]]:
                told = self.at_once(follows, book, line)
                self.same(self.at_once(is_reasons, book, line, self.at_once(reasons, book, line)), True)
                self.same(told, reasons(book, line)[0] == "follows")
            needless = self.at_once(needless_lines, book)
            self.same(needless, [line for line in book.lines() if follows(book.without_line(line), line)])
            lean = self.at_once(lean_book, book)
            self.same([self.at_once(same_book, book, lean), self.at_once(all_follow, book, lean)], [True, True])
            self.same(self.at_once(parting_panel, book, lean), None)
            other = book.with_line(("off", names[:2], names[5]))
            apart = self.at_once(parting_panel, book, other)
            self.same(self.at_once(check_parting_panel, book, other, apart), True)

    def test_many_lines_that_nothing_keeps(self):
        names, lines, _ = big_book(3, 38, 20)
        book = Book(names, lines + [("off", names[:1], names[1]), ("off", names[1:2], names[0])])
        self.same(self.at_once(needless_lines, book)[:20], [line for line in book.lines() if line[0] == "call"])
        self.same(self.at_once(lean_book, book).lines(), [("off", names[:1], names[1]), ("off", names[1:2], names[0])])

    def test_twelve_entries(self):
        panel = big_panel(4, 12, 7)
        book = self.at_once(book_of, panel)
        least = self.at_once(least_book, panel)
        self.assertTrue(len(least.lines()) < len(book.lines()) <= 120)
        self.same([self.at_once(same_book, book, least), self.at_once(same_book, least, book)], [True, True])
        self.same(self.at_once(greatest_lots, least), lots_of(panel))
        self.same(self.at_once(greatest_lots, Book(big_names(12), [])), {name: [[]] for name in big_names(12)})

    def test_a_book_of_very_many_lines(self):
        names = big_names(9)
        panel = plain_panel(names, [(4, names)])
        book = book_of(panel)
        self.assertTrue(len(book.lines()) > 200)
        self.same([self.at_once(keeps, book, panel), self.at_once(why_none, book),
                   self.at_once(follows, book, ("call", names, names[3])),
                   self.at_once(follows, book, ("call", names, names[4]))], [True, None, True, False])


if __name__ == "__main__":
    main()
