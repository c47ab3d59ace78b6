"""[95] to [98]: books of calls and keep-offs, rows and panels that keep them, and bars."""

from itertools import combinations, product
from unittest import main

from cardpanel.books import (Book, count_rows, is_bar, is_row_with, is_stuck, keeps, row_with, some_panel, stuck,
                             why_broken, why_none)
from cardpanel.errors import InvalidBook, InvalidEntries, InvalidLine, InvalidPanel, Unlike
from cardpanel.panels import Panel
from support import (ABC, Case, all_panels, all_rows, big_book, big_names, calls_about, fields, lots, odd_lines,
                     odd_objects, offs_about, panel_keeps, row_keeps, some_lines, some_numbers)

NAMES = ["ann", "bob", "cy"]


def early():
    return Book(NAMES, [("off", ["ann"], "bob"), ("call", ["bob", "cy"], "cy")])


def some_books(seed, many, entries=ABC):
    """Books of up to six lines, those of all single lines first."""
    numbers = some_numbers(seed)
    single = [[line] for line in calls_about(entries) + offs_about(entries)]
    return [Book(entries, lines) for lines in
            ([[]] + single + [some_lines(numbers, entries, 2 + at % 5) for at in range(many)])]


def told_stuck(offs, wishes, lot):
    """Whether a lot is stuck, by the word of the document."""
    def held(name):
        if any(other == name and set(less) <= set(lot) for _, less, other in offs):
            return True
        return any(name in field and wished != name and wished in lot for field, wished in wishes)
    return bool(lot) and all(held(name) for name in lot)


def offs_in(book):
    return [line for line in book.lines() if line[0] == "off"]


class Document(Case):
    def test_first_examples(self):
        self.same(
            [keeps(early(), Panel(NAMES, [["cy", "ann", "bob"]])),
             why_broken(early(), Panel(NAMES, [["ann", "bob", "cy"]])),
             why_broken(early(), Panel(NAMES, [["cy", "ann", "bob"], ["bob", "cy", "ann"]]))],
            [True, (("call", ["bob", "cy"], "cy"), None), (("off", ["ann"], "bob"), 1)])

    def test_second_examples(self):
        self.same(
            [is_row_with(early(), [], ["ann", "cy", "bob"]), row_with(early(), [(["ann", "bob"], "bob")]),
             stuck(early(), [(["ann", "bob"], "bob")]), is_stuck(early(), [], ["bob"]), count_rows(early())],
            [True, None, ["ann", "bob"], False, 3])

    def test_third_examples(self):
        round_book = Book(NAMES, [("off", ["ann"], "bob"), ("off", ["bob"], "ann")])
        asked = ("call", ["ann", "bob"], "bob")
        self.same(
            [keeps(early(), some_panel(early())), why_none(round_book), why_none(early().with_line(asked)),
             is_bar(round_book, (None, ["cy"]))],
            [True, (None, ["ann", "bob"]), (("call", ["ann", "bob"], "bob"), ["ann", "bob"]), False])


class Books(Case):
    def test_lines_ascend_and_stand_there_once(self):
        lines = [("off", ["b"], "a"), ("call", ["a", "b"], "b"), ("off", ["b"], "a"), ("call", ["a"], "a"),
                 ("off", ["a", "b"], "c"), ("off", ["a"], "b"), ("call", ["a", "b"], "a")]
        for told in [lines, lines[::-1], lines * 2]:
            book = Book(["c", "a", "b"], told)
            self.same(book.lines(), [("call", ["a"], "a"), ("call", ["a", "b"], "a"), ("call", ["a", "b"], "b"),
                                     ("off", ["a"], "b"), ("off", ["a", "b"], "c"), ("off", ["b"], "a")])
            self.same(book.entries(), ABC)
            self.assertTrue(book == Book(lines=lines, entries=ABC))

    def test_all_lines_can_stand_in_a_book(self):
        every = calls_about(ABC) + offs_about(ABC)
        self.same(Book(ABC, every).lines(), sorted(every))
        self.same(len(every), 21)
        self.same(Book(["a"], [("call", ["a"], "a")]).lines(), [("call", ["a"], "a")])
        self.same(Book(["a"], []).lines(), [])

    def test_equality(self):
        book = Book(ABC, [("off", ["a"], "b")])
        self.assertTrue(book == Book(["b", "a", "c"], [("off", ["a"], "b")]) and not book != book.with_line(
            ("off", ["a"], "b")))
        for other in [Book(ABC, []), Book(ABC, [("off", ["a"], "c")]), Book(["a", "b"], [("off", ["a"], "b")]),
                      book.with_line(("call", ["a"], "a")), None, "b", [("off", ["a"], "b")], Panel(ABC, [ABC])]:
            self.assertFalse(book == other)
            self.assertTrue(book != other)
            self.assertFalse(other == book)

    def test_with_and_without_each_line(self):
        for book in some_books(2, 20):
            kept = book.lines()
            for line in calls_about(ABC) + offs_about(ABC):
                more = book.with_line(line)
                self.same(more.lines(), sorted(kept + [line] * (line not in kept)))
                if line in kept:
                    self.same(book.without_line(line).lines(), [other for other in kept if other != line])
                else:
                    self.assertTrue(more.without_line(line=line) == book)
                    self.raises(InvalidLine, line, book.without_line, line)
                self.same(book.lines(), kept)

    def test_lists_may_be_changed(self):
        entries, line = ["b", "a"], ("off", ["a"], "b")
        lines = [line]
        book = Book(entries, lines)
        more = book.with_line(line=("call", ["a", "b"], "a"))
        for changed in (entries, lines, line[1], book.entries(), book.lines(), book.lines()[0][1], more.lines()[0][1]):
            changed.append("zz")
        self.same([book.entries(), book.lines()], [["a", "b"], [("off", ["a"], "b")]])
        self.same(more.lines(), [("call", ["a", "b"], "a"), ("off", ["a"], "b")])
        self.same(book.with_line(("off", ["b"], "a")).lines(), [("off", ["a"], "b"), ("off", ["b"], "a")])

    def test_wrong(self):
        for entries in [None, [], ("a",), ["a", "a"], ["A"], "abc", {"a": 1}, [1], [["a"]], True]:
            self.raises(InvalidEntries, entries, Book, entries, None)
        for line in odd_lines():
            self.raises(InvalidLine, line, early().with_line, line)
            self.raises(InvalidLine, line, Book(ABC, [("off", ["a"], "b")]).without_line, line)
            lines = [("off", ["a"], "b"), line]
            self.raises(InvalidLine, lines, Book, ABC, lines)
        for lines in odd_objects() + [(("off", ["a"], "b"),), {"a": ("off", ["a"], "b")}, ("off", ["a"], "b")]:
            if lines != []:
                self.raises(InvalidLine, lines, Book, ABC, lines)


class Keeping(Case):
    def test_all_panels(self):
        panels = all_panels(ABC, 6)
        kept = [{repr(line): panel_keeps(panel.rows(), line) for line in calls_about(ABC) + offs_about(ABC)}
                for panel in panels]
        for book in some_books(3, 60):
            for panel, told in zip(panels, kept):
                broken = [line for line in book.lines() if not told[repr(line)]]
                self.same(keeps(book, panel), broken == [])
                if not broken:
                    self.same(why_broken(book, panel), None)
                elif broken[0][0] == "call":
                    self.same(why_broken(book, panel), (broken[0], None))
                else:
                    at = [row_keeps(row, broken[0]) for row in panel.rows()].index(False)
                    self.same(why_broken(book, panel), (broken[0], at))

    def test_wrong(self):
        for value in odd_objects():
            for call in (keeps, why_broken):
                self.raises(InvalidBook, value, call, value, None)
                if not isinstance(value, Panel):
                    self.raises(InvalidPanel, value, call, early(), value)
        for panel in [Panel(["ann", "bob"], [["ann", "bob"]]), Panel(ABC, [ABC])]:
            self.raises(Unlike, panel, keeps, early(), panel)
            self.raises(Unlike, panel, why_broken, early(), panel)
        self.same([keeps(panel=Panel(NAMES, [["cy", "ann", "bob"]]), book=early()),
                   why_broken(panel=Panel(NAMES, [["cy", "ann", "bob"]]), book=early())], [True, None])


class Rows(Case):
    def check(self, book, wishes, entries):
        offs = offs_in(book)
        good = [row for row in all_rows(entries) if all(row_keeps(row, line) for line in offs)
                and all(row_keeps(row, ("call", field, name)) for field, name in wishes)]
        self.same([is_row_with(book, wishes, row) for row in all_rows(entries)],
                  [row in good for row in all_rows(entries)])
        stuck_lots = [lot for lot in lots(entries) if told_stuck(offs, wishes, lot)]
        self.same([is_stuck(book, wishes, lot) for lot in lots(entries)], [lot in stuck_lots for lot in lots(entries)])
        row, lot = row_with(book, wishes), stuck(book, wishes)
        self.assertEqual([row is None, lot is None], [good == [], good != []])
        if good:
            self.assertIn(row, good)
            self.same(stuck_lots, [])
        else:
            self.assertIn(lot, stuck_lots)
            self.assertTrue(all(set(other) <= set(lot) for other in stuck_lots))
        return good

    def test_small_books_and_wishes(self):
        wishes = [(field, name) for field in fields(ABC) for name in field]
        numbers = some_numbers(9)
        for book in some_books(4, 40):
            rows = self.check(book, [], ABC)
            self.same(count_rows(book), len(rows))
            for _ in range(6):
                some = [wishes[next(numbers) % len(wishes)] for _ in range(1 + next(numbers) % 3)]
                self.check(book, some, ABC)

    def test_books_of_four_entries(self):
        entries = ["a", "b", "c", "d"]
        wishes = [(field, name) for field in fields(entries) for name in field]
        numbers = some_numbers(10)
        for book in some_books(5, 30, entries)[-30:]:
            self.same(count_rows(book), len(self.check(book, [], entries)))
            self.check(book, [wishes[next(numbers) % len(wishes)] for _ in range(2)], entries)

    def test_calls_of_the_book_mean_nothing_for_rows(self):
        book = Book(["a", "b"], [("call", ["a", "b"], "a"), ("call", ["a", "b"], "b")])
        self.same([is_row_with(book, [], ["a", "b"]), count_rows(book), stuck(book, [])], [True, 2, None])

    def test_one_entry_and_books_without_lines(self):
        self.same([row_with(Book(["a"], []), []), count_rows(Book(["a"], [])), stuck(Book(["a"], []), [(["a"], "a")]),
                   row_with(Book(["a"], [("call", ["a"], "a")]), [(["a"], "a")] * 2)], [["a"], 1, None, ["a"]])
        self.same(count_rows(Book(big_names(12), [])), 479001600)
        self.same(self.at_once(count_rows, Book(big_names(12), [("off", big_names(12)[1:], "naa")])),
                  479001600 // 12 * 11)

    def test_wrong_wishes(self):
        wrong = odd_objects() + [((["a"], "a"),), [[["a"], "a"]], [(["a"], "b")], [(["b", "a"], "a")], [([], "a")],
                                 [(("a",), "a")], [(["a"],)], [(["a"], "a", 1)], [(["a"], "a"), None], [("a", "a")],
                                 [(["d"], "d")], [(["a"], True)], [("call", ["a"], "a")], {"a": (["a"], "a")}, [()]]
        book = Book(ABC, [("off", ["a"], "b")])
        for wishes in wrong:
            if wishes != []:
                self.raises(InvalidLine, wishes, row_with, book, wishes)
                self.raises(InvalidLine, wishes, is_row_with, book, wishes, None)
                self.raises(InvalidLine, wishes, stuck, book, wishes)
                self.raises(InvalidLine, wishes, is_stuck, book, wishes, None)
        for value in odd_objects():
            self.raises(InvalidBook, value, row_with, value, None)
            self.raises(InvalidBook, value, is_row_with, value, None, None)
            self.raises(InvalidBook, value, stuck, value, None)
            self.raises(InvalidBook, value, is_stuck, value, None, None)
            self.raises(InvalidBook, value, count_rows, value)

    def test_any_object(self):
        book = Book(ABC, [("off", ["a"], "b"), ("off", ["b"], "a")])
        for value in odd_objects() + [("a", "b"), ["b", "a"], ["a", "a"], ["a", "d"], "ab", ["a"], ["a", "b", "c"],
                                      ["a", None], {"a": 1, "b": 1}]:
            self.same(is_stuck(book, [], value), False)
        self.same(is_stuck(value=["a", "b"], wishes=[], book=book), True)
        for value in odd_objects() + [tuple(ABC), ["a", "b"], ["a", "b", "b"], ["a", "b", "d"], ["b", "a", "c"], "abc",
                                      ["a", "b", None], ABC + ["a"]]:
            self.same(is_row_with(book.without_line(("off", ["b"], "a")), [], value), False)
        self.same([is_row_with(value=ABC, wishes=[], book=Book(ABC, [])), row_with(wishes=[(ABC, "c")], book=Book(
            ABC, [("off", ["b"], "a")])), stuck(wishes=[], book=book)], [True, ["c", "b", "a"], ["a", "b"]])


class Bars(Case):
    def check(self, book, entries, panels):
        kept = [panel for panel in panels if keeps(book, panel)]
        offs = offs_in(book)
        calls = [line for line in book.lines() if line[0] == "call"]
        bars = [(None, lot) for lot in lots(entries) if told_stuck(offs, [], lot)]
        bars += [(call, lot) for call in calls for lot in lots(entries) if told_stuck(offs, [call[1:]], lot)]
        panel, bar = some_panel(book), why_none(book)
        self.assertEqual([panel is None, bar is None], [kept == [], kept != []])
        if kept:
            self.same([keeps(book, panel), bars], [True, []])
        else:
            plain = stuck(book, [])
            first = [call for call in calls if stuck(book, [call[1:]]) is not None]
            self.same(bar, (None, plain) if plain else (first[0], stuck(book, [first[0][1:]])))
        for value in [(line, lot) for line in [None] + calls + offs + [("call", ABC, "c")] for lot in lots(entries)]:
            self.same(is_bar(book, value), value in bars)

    def test_small_books(self):
        panels = all_panels(ABC, 6)
        for book in some_books(6, 150):
            self.check(book, ABC, panels)

    def test_two_entries(self):
        panels = all_panels(["a", "b"], 2)
        every = calls_about(["a", "b"]) + offs_about(["a", "b"])
        for many in range(len(every) + 1):
            for lines in combinations(every, many):
                self.check(Book(["a", "b"], list(lines)), ["a", "b"], panels)

    def test_any_object(self):
        book = Book(ABC, [("off", ["a"], "b"), ("off", ["b"], "a"), ("call", ["a", "b"], "b")])
        call = ("call", ["a", "b"], "b")
        self.same([is_bar(book, (None, ["a", "b"])), is_bar(value=(call, ["a", "b"]), book=book)], [True, True])
        for value in odd_objects() + [[None, ["a", "b"]], (None, ("a", "b")), (None, ["a", "b"], 1), (None, ["b", "a"]),
                                      (None, []), (None, None), (list(call), ["a", "b"]), (("off", ["a"], "b"), [
                                          "a", "b"]), (("call", ("a", "b"), "b"), ["a", "b"]), (call, ["a"]), (call,),
                                      (("call", ["a"], "a"), ["a", "b"]), (True, ["a", "b"]), (0, ["a", "b"]),
                                      ([], ["a", "b"]), ("call", ["a", "b"])]:
            self.same(is_bar(book, value), False)

    def test_wrong(self):
        for value in odd_objects():
            for call in (some_panel, why_none, count_rows):
                self.raises(InvalidBook, value, call, value)
            self.raises(InvalidBook, value, is_bar, value, None)
        self.same([why_none(book=early()), keeps(early(), some_panel(book=early())), count_rows(book=early())],
                  [None, True, 3])


class Limits(Case):
    def test_forty_lines_of_forty_entries(self):
        for seed, calls in product(range(2), [10, 25]):
            names, lines, panel = big_book(seed, 40, calls)
            book = Book(names, lines)
            self.same([self.at_once(keeps, book, panel), self.at_once(why_none, book)], [True, None])
            self.same(keeps(book, self.at_once(some_panel, book)), True)
            wishes = [(line[1], line[2]) for line in lines if line[0] == "call"][:1]
            row = self.at_once(row_with, book, wishes)
            self.same(self.at_once(is_row_with, book, wishes, row), True)

    def test_a_long_ring_is_stuck(self):
        names = big_names(40)
        book = Book(names, [("off", [names[at - 1]], name) for at, name in enumerate(names)])
        self.same([self.at_once(stuck, book, []), self.at_once(why_none, book), self.at_once(some_panel, book),
                   is_stuck(book, [], names[:39])], [names, (None, names), None, False])
        chain = book.without_line(("off", [names[39]], names[0]))
        last = [([names[0], names[39]], names[39])]
        self.same([self.at_once(row_with, chain, []), self.at_once(row_with, chain, last),
                   self.at_once(stuck, chain, last)], [names, None, names])


if __name__ == "__main__":
    main()
