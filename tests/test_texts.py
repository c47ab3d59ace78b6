"""[140] to [144]: texts of one line, and what is read from them."""

from itertools import product
from unittest import main

from cardpanel.books import Book
from cardpanel.errors import InvalidBook, InvalidEntries, InvalidLine, InvalidPanel, InvalidRounds, InvalidText
from cardpanel.implied import book_of
from cardpanel.panels import Panel
from cardpanel.texts import (book_text, line_text, names_text, panel_text, read_book, read_line, read_names,
                             read_panel, read_rounds, rounds_text)
from support import (ABC, Case, all_panels, big_book, big_names, big_panel, calls_about, fields, odd_lines, odd_objects,
                     offs_about, some_lines, some_numbers, told_cards)

WRITE = [(names_text, read_names), (panel_text, read_panel), (line_text, read_line), (book_text, read_book),
         (rounds_text, read_rounds)]


def stall():
    return Panel(["a", "b", "c"], [["b", "a", "c"], ["c", "b", "a"]])


def wishes():
    return Book(["a", "b", "c"], [("off", ["a", "b"], "c"), ("call", ["a", "c"], "a")])


def told_names(names):
    return ", ".join(names) or "-"


def told_line(line):
    word, lot, name = line
    return f"call {name} in {told_names(lot)}" if word == "call" else f"off {name} by {told_names(lot)}"


class Document(Case):
    def test_first_examples(self):
        self.same([names_text(["jam", "call"]), names_text([]), panel_text(stall()), book_text(wishes())],
                  ["jam, call", "-", "b, a, c; c, b, a", "a, b, c; call a in a, c; off c by a, b"])

    def test_second_examples(self):
        self.same([line_text(("off", ["by"], "off")), read_line("call in in in, of"),
                   rounds_text([(["a", "b"], ["a"]), (["b", "c"], ["b", "c"])]), rounds_text([])],
                  ["off off by by", ("call", ["in", "of"], "in"), "a, b: a; b, c: b, c", "-"])

    def test_third_examples(self):
        self.same([read_names("b, a, b"), read_panel("b, a, c; c, b, a") == stall(),
                   read_book("a, b, c; call a in a, c; off c by a, b") == wishes(), read_rounds("a, b: a")],
                  [["b", "a", "b"], True, True, [(["a", "b"], ["a"])]])


class ThereAndBack(Case):
    def test_names(self):
        for names in [[], ["a"], ["b", "a"], ["a", "a"], ["call", "off", "in", "by", "none", "abcdefgh"],
                      big_names(40)]:
            self.same([names_text(names), read_names(told_names(names))], [told_names(names), names])

    def test_panels(self):
        panels = all_panels(ABC, 3) + [Panel(["a"], [["a"], ["a"]]), big_panel(1, 40, 8),
                                       Panel(["by", "in"], [["in", "by"], ["in", "by"]])]
        for panel in panels:
            text = "; ".join(told_names(row) for row in panel.rows())
            self.same(panel_text(panel), text)
            self.assertTrue(read_panel(text) == panel)

    def test_lines(self):
        for line in calls_about(["by", "call", "in", "off"]) + offs_about(["by", "call", "in", "off"]):
            self.same([line_text(line), read_line(told_line(line))], [told_line(line), line])

    def test_books(self):
        numbers = some_numbers(2)
        every = [Book(ABC, some_lines(numbers, ABC, at % 7)) for at in range(60)]
        every += [Book(["a"], []), Book(*big_book(1, 40, 20)[:2]), book_of(big_panel(2, 8, 4)),
                  Book(["by", "in"], [("call", ["by", "in"], "in"), ("off", ["by"], "in")])]
        for book in every:
            text = "; ".join([told_names(book.entries())] + [told_line(line) for line in book.lines()])
            self.same(book_text(book), text)
            self.assertTrue(self.at_once(read_book, text) == book)

    def test_rounds(self):
        panel = big_panel(1, 12, 5)
        some = [(field, told_cards(panel.rows(), field)) for field in fields(panel.entries())[::400]]
        for rounds in [[], some, some[:1] * 3, [(["by", "in"], ["in"])], [(["a"], ["a"]), (["b"], ["b"])]]:
            text = "; ".join(f"{told_names(field)}: {told_names(given)}" for field, given in rounds) or "-"
            self.same([rounds_text(rounds), read_rounds(text)], [text, rounds])

    def test_by_name(self):
        self.same([names_text(names=["a"]), panel_text(panel=stall()), line_text(line=("off", ["a"], "b")),
                   book_text(book=Book(["a"], [])), rounds_text(rounds=[]), read_names(text="-"),
                   read_panel(text="a").rows(), read_line(text="call a in a"), read_book(text="a").lines(),
                   read_rounds(text="-")],
                  ["a", "b, a, c; c, b, a", "off b by a", "a", "-", [], [["a"]], ("call", ["a"], "a"), [], []])


class WrongValues(Case):
    def test_names(self):
        for names in odd_objects() + [("a", "b"), ["a", "B"], ["a", None], ["a", ["b"]], "a, b", {"a": "b"}]:
            if names not in ([], ["a", "a"], ["b", "a"]):
                self.raises(InvalidEntries, names, names_text, names)

    def test_panels_and_books(self):
        for value in odd_objects():
            if not isinstance(value, Panel):
                self.raises(InvalidPanel, value, panel_text, value)
            self.raises(InvalidBook, value, book_text, value)

    def test_lines(self):
        for line in odd_lines() + [("call", ["abcdefghi"], "abcdefghi"), ("off", ["A"], "b"), ("off", ["a"], "B")]:
            if line not in [("off", ["d"], "a"), ("off", ["a"], "d")]:
                self.raises(InvalidLine, line, line_text, line)

    def test_rounds(self):
        good = (["a", "b"], ["a"])
        for each in [(), (["a"],), (["a", "b"], ["c"]), (["a", "b"], []), ([], []), (["b", "a"], ["a"]),
                     (["a", "b"], ["b", "a"]), (["a", "b"], ["a", "a"]), (("a", "b"), ["a"]), (["a", "b"], ("a",)),
                     [["a", "b"], ["a"]], (["a", "b"], ["a"], None), (["a", "D"], ["a"]), (["a", 1], ["a"]), None,
                     (["a", "b"], "a"), ("a", "a"), (["a", "b"], None), (["a", "b"], [True]), ([["a"]], [["a"]])]:
            rounds = [good, each]
            self.raises(InvalidRounds, rounds, rounds_text, rounds)
        for rounds in odd_objects() + [(good,), good, {"a": good}]:
            if rounds != []:
                self.raises(InvalidRounds, rounds, rounds_text, rounds)


class WrongTexts(Case):
    def test_any_object(self):
        for text in odd_objects() + [b"a", ["a"], ("a",), 1, stall(), wishes()]:
            for _, read in WRITE:
                self.raises(InvalidText, text, read, text)

    def test_wrong_texts(self):
        common = [
            "a,b", "a ,b", "a,  b", "a, ", ", a", " a", "a ", "A", "a, B", "abcdefghi", "a;b", "a\n", "-, a", "--",
            "a, -", "a, a, ", "a1", "a\tb", " -", "- ", "\n", ",", "; ", ": "]
        wrong = {
            read_names: ["a; b", "a: b"],
            read_panel: [
                "-", "a; ", "; a", "a;a", "a, a", "a, b; a", "a, b; a, c", "a, b; a, b, c", "a, b; a, a", "a; -",
                "a, b;b, a", "a, b;  b, a", "a, b; b, a;", "a, b; b,a"],
            read_line: [
                "a", "call", "call a", "call a in", "call a in ", "call a in -", "call a in b", "call a in b, a",
                "call a by a", "off a by a", "off a in b", "off a by -", "off a by", "off  a by b", "off a  by b",
                "off a by  b", "off a by b ", " off a by b", "Call a in a", "off a by b, b", "off a by c, b",
                "call a in a, a", "call A in A", "off - by b", "call a in a; call a in a", "off a by b c",
                "call in a", "off by b", "call a in a,b", "offa by b", "off a by b:", "call a  in a"],
            read_book: [
                "-", "b, a", "a, a", "a; ", "a; a", "a;call a in a", "a; call b in b", "; call a in a",
                "a, b; off b by a; call a in a", "a, b; call a in a; call a in a", "a, b; call a in a, b; call a in a",
                "a, b; call a in a; ", "call a in a", "a, b; call a in b", "a, b; off a by b;", "a, b; off a by c",
                "-; call a in a", "a; -", "a, b;  off a by b", "a, b; off a by b ", "a, b; off b by b"],
            read_rounds: [
                "a", "a:", "a: ", "a: -", "-: -", "-: a", "a:a", "a : a", "a:  a", "a: b", "b, a: a", "a, b: b, a",
                "a: a; ", "; a: a", "a: a;b: b", "a: a; -", "-; a: a", "a: a: a", "a, a: a", "a, b: a, a",
                "a: a ", " a: a", "a: a;  b: b", "a; a", "-; -"],
        }
        for read, texts in wrong.items():
            for text in common + texts:
                self.raises(InvalidText, text, read, text)

    def test_short_texts_of_all_signs(self):
        signs = ["a", "b", ", ", "; ", ": ", "-", " ", "call ", "off ", "in ", "by "]
        for many in range(1, 6):
            for parts in product(signs, repeat=many) if many < 5 else product(signs[:5], repeat=many):
                self.check("".join(parts))

    def check(self, text):
        for write, read in WRITE:
            try:
                found = read(text)
            except InvalidText as error:
                self.assertIs(error.value, text)
            else:
                self.same(write(found), text)

    def test_one_sign_more_or_less(self):
        for text in [names_text(["jam", "call"]), panel_text(stall()), book_text(wishes()),
                     line_text(("off", ["by"], "off")), rounds_text([(["a", "b"], ["a"]), (["b", "c"], ["b", "c"])])]:
            for at in range(len(text) + 1):
                for other in [text[:at] + text[at + 1:]] + [text[:at] + sign + text[at:] for sign in " ,;:-ab\n"]:
                    self.check(other)


if __name__ == "__main__":
    main()
