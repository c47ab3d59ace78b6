"""[30] to [34]: panels, and who names whom."""

from unittest import main

from cardpanel.errors import (InvalidCount, InvalidEntries, InvalidField, InvalidLot, InvalidPanel, InvalidRow,
                              InvalidRows, LastRow, UnknownEntry)
from cardpanel.panels import Panel, ahead, cards, equal_rows, named, places, plain, turned, who
from support import ABC, Case, all_panels, big_panel, fields, odd_objects, told_cards


def show():
    return Panel(["jam", "ale", "pie"], [["jam", "pie", "ale"], ["ale", "jam", "pie"]])


class Document(Case):
    def test_first_example(self):
        self.same(
            [show().entries(), len(show()), cards(show(), ["ale", "jam", "pie"]), cards(show(), ["ale", "pie"]),
             named(show(), 0, ["ale", "pie"])],
            [["ale", "jam", "pie"], 2, ["ale", "jam"], ["ale", "pie"], "pie"])

    def test_second_example(self):
        self.same(
            [who(show(), ["jam", "pie"], "jam"), who(show(), ["jam", "pie"], "pie"), ahead(show(), 1, "pie"),
             places(show(), "pie"), turned(show()).rows()],
            [[0, 1], [], ["ale", "jam"], [1, 2], [["ale", "pie", "jam"], ["pie", "jam", "ale"]]])

    def test_third_example(self):
        more = Panel(["ale", "jam", "pie"], show().rows() + [["pie", "ale", "jam"]])
        self.same(
            [show().struck(["jam"]).rows(), show().without_row(0).rows(),
             show().with_row(["pie", "ale", "jam"]) == more],
            [[["pie", "ale"], ["ale", "pie"]], [["ale", "jam", "pie"]], True])

    def test_fourth_example(self):
        thrice = Panel(["a", "b"], [["a", "b"], ["b", "a"], ["a", "b"]])
        self.same(
            [equal_rows(thrice), plain(thrice).rows(), thrice.renamed({"a": "b", "b": "a"}).rows()],
            [[[0, 2], [1]], [["a", "b"], ["b", "a"]], [["b", "a"], ["a", "b"], ["b", "a"]]])


class Making(Case):
    def test_entries_ascend_and_rows_keep_their_order(self):
        panel = Panel(["c", "a", "b"], [["b", "c", "a"], ["a", "b", "c"], ["b", "c", "a"]])
        self.same(panel.entries(), ABC)
        self.same(panel.rows(), [["b", "c", "a"], ["a", "b", "c"], ["b", "c", "a"]])
        self.same(len(panel), 3)

    def test_one_entry_and_one_steward(self):
        panel = Panel(["jam"], [["jam"]])
        self.same([panel.entries(), panel.rows(), len(panel)], [["jam"], [["jam"]], 1])
        self.same(cards(panel, ["jam"]), ["jam"])

    def test_names_of_one_sign_and_of_eight(self):
        self.same(Panel(["z", "abcdefgh"], [["z", "abcdefgh"]]).entries(), ["abcdefgh", "z"])

    def test_names_as_arguments(self):
        self.assertEqual(Panel(entries=["a"], rows=[["a"]]), Panel(["a"], [["a"]]))

    def test_wrong_entries(self):
        wrong = [None, "ab", ("a", "b"), {"a": 1}, [], ["a", "a"], ["a", 1], ["a", None], ["A"], [""], ["abcdefghi"],
                 ["a b"], ["a", ["b"]], [("a",)], ["a-b"], ["a1"], [True], ["`"], ["{"], show(), 0, True]
        for entries in wrong:
            self.raises(InvalidEntries, entries, Panel, entries, [["a", "b"]])

    def test_wrong_rows(self):
        wrong = [None, [], (), (["a", "b"],), ["ab"], [("a", "b")], [["a"]], [["a", "b", "b"]], [["a", "a"]],
                 [["a", "c"]], [["a", "b", "c"]], [["a", "b"], ["a"]], [["a", 1]], [["a", ["b"]]], [[]], [None],
                 {"a": ["a", "b"]}, ["a", "b"], show(), [show()], True, [[True, False]]]
        for rows in wrong:
            self.raises(InvalidRows, rows, Panel, ["b", "a"], rows)

    def test_entries_are_checked_ahead_of_rows(self):
        entries = ["a", "a"]
        self.raises(InvalidEntries, entries, Panel, entries, None)


class Equality(Case):
    def test_equal_whatever_order_the_entries_were_passed_in(self):
        self.assertTrue(Panel(["b", "a"], [["a", "b"]]) == Panel(["a", "b"], [["a", "b"]]))
        self.assertFalse(Panel(["b", "a"], [["a", "b"]]) != Panel(["a", "b"], [["a", "b"]]))

    def test_order_and_number_of_rows_count(self):
        one, other = [["a", "b"], ["b", "a"]], [["b", "a"], ["a", "b"]]
        self.assertFalse(Panel(["a", "b"], one) == Panel(["a", "b"], other))
        self.assertFalse(Panel(["a", "b"], one) == Panel(["a", "b"], one + one))
        self.assertTrue(Panel(["a", "b"], one) != Panel(["a", "b"], other))

    def test_other_entries(self):
        self.assertFalse(Panel(["a"], [["a"]]) == Panel(["b"], [["b"]]))

    def test_never_equal_to_anything_else(self):
        panel = Panel(["a"], [["a"]])
        for other in [None, 1, "a", ["a"], [["a"]], (["a"], [["a"]]), {}, InvalidPanel(panel)]:
            self.assertFalse(panel == other)
            self.assertFalse(other == panel)
            self.assertTrue(panel != other)


class Others(Case):
    def test_with_row(self):
        self.same(show().with_row(row=["pie", "jam", "ale"]).rows(), show().rows() + [["pie", "jam", "ale"]])
        self.same(len(show().with_row(["jam", "pie", "ale"])), 3)

    def test_with_row_wrong(self):
        for row in [None, [], ["jam"], ["jam", "pie", "pie"], ("jam", "pie", "ale"), ["jam", "pie", "rye"], "jam",
                    ["jam", "pie", "ale", "ale"], ["jam", "pie", 1], ["jam", "pie", ["ale"]], {"jam": 1}, show()]:
            self.raises(InvalidRow, row, show().with_row, row)

    def test_without_row(self):
        three = show().with_row(["pie", "jam", "ale"])
        self.same(three.without_row(at=1).rows(), [["jam", "pie", "ale"], ["pie", "jam", "ale"]])
        self.assertEqual(three.without_row(2), show())

    def test_without_row_wrong(self):
        for at in [None, -1, 2, 10 ** 20, True, False, "0", [0], (0,), {}, show()]:
            self.raises(InvalidCount, at, show().without_row, at)

    def test_last_row(self):
        last = show().without_row(0)
        self.raises(LastRow, 0, last.without_row, 0)
        self.raises(InvalidCount, 1, last.without_row, 1)
        self.raises(InvalidCount, False, last.without_row, False)

    def test_struck(self):
        self.same(show().struck(lot=["ale", "pie"]).rows(), [["jam"], ["jam"]])
        self.same(show().struck(["ale", "pie"]).entries(), ["jam"])
        self.assertEqual(show().struck([]), show())

    def test_struck_wrong(self):
        for lot in [["ale", "jam", "pie"], ["pie", "ale"], ["ale", "ale"], ["rye"], ("ale",), "ale", None, {"ale": 1},
                    [1], [["ale"]], show(), True]:
            self.raises(InvalidLot, lot, show().struck, lot)

    def test_renamed(self):
        panel = show().renamed(names={"pie": "a", "ale": "zz", "jam": "pie"})
        self.same(panel.entries(), ["a", "pie", "zz"])
        self.same(panel.rows(), [["pie", "a", "zz"], ["zz", "pie", "a"]])

    def test_renamed_wrong(self):
        for names in [{}, {"ale": "a", "jam": "b"}, {"ale": "a", "jam": "b", "pie": "a"},
                      {"ale": "a", "jam": "b", "pie": "c", "rye": "d"}, {"ale": "a", "jam": "b", "rye": "c"},
                      {"ale": "a", "jam": "b", "pie": 1}, {"ale": "a", "jam": "b", "pie": "C"},
                      {"ale": "a", "jam": "b", "pie": ["c"]}, {"ale": "a", "jam": "b", 1: "c"},
                      [("ale", "a"), ("jam", "b"), ("pie", "c")], ["a", "b", "c"], None, "abc", show()]:
            self.raises(InvalidEntries, names, show().renamed, names)

    def test_panels_never_change(self):
        panel = show()
        panel.with_row(["pie", "jam", "ale"])
        panel.without_row(0)
        panel.struck(["jam"])
        panel.renamed({"ale": "a", "jam": "b", "pie": "c"})
        turned(panel)
        plain(panel)
        self.assertEqual(panel, show())


class Naming(Case):
    def test_all_small_panels(self):
        for panel in all_panels(ABC, 3):
            for field in fields(ABC):
                self.same(cards(panel, field), told_cards(panel.rows(), field))
                firsts = [min(field, key=row.index) for row in panel.rows()]
                self.same([named(panel, at, field) for at in range(len(panel))], firsts)
                for entry in ABC:
                    told = [at for at, first in enumerate(firsts) if first == entry]
                    self.same(who(panel, field, entry), told)

    def test_ahead_and_places_of_all_small_panels(self):
        for panel in all_panels(ABC, 2):
            for entry in ABC:
                told = [sorted(row[:row.index(entry)]) for row in panel.rows()]
                self.same([ahead(panel, at, entry) for at in range(len(panel))], told)
                self.same(places(panel, entry), [len(each) for each in told])

    def test_calls_by_name(self):
        self.same(named(field=["ale", "pie"], at=0, panel=show()), "pie")
        self.same(cards(field=["ale", "pie"], panel=show()), ["ale", "pie"])
        self.same(who(entry="jam", field=["jam", "pie"], panel=show()), [0, 1])
        self.same(ahead(entry="pie", at=1, panel=show()), ["ale", "jam"])
        self.same(places(entry="pie", panel=show()), [1, 2])
        self.same(turned(panel=show()).rows(), [["ale", "pie", "jam"], ["pie", "jam", "ale"]])
        self.same(equal_rows(panel=show()), [[0], [1]])
        self.assertEqual(plain(panel=show()), show())

    def test_rows_that_stand_there_twice(self):
        panel = Panel(ABC, [["c", "a", "b"], ["a", "b", "c"], ["c", "a", "b"], ["b", "a", "c"], ["a", "b", "c"]])
        self.same(cards(panel, ["a", "b"]), ["a", "b"])
        self.same(who(panel, ["a", "b"], "a"), [0, 1, 2, 4])
        self.same(equal_rows(panel), [[0, 2], [1, 4], [3]])
        self.same(plain(panel).rows(), [["c", "a", "b"], ["a", "b", "c"], ["b", "a", "c"]])

    def test_turned_twice(self):
        for panel in all_panels(ABC, 2):
            self.assertEqual(turned(turned(panel)), panel)
            self.same(turned(panel).rows(), [[row[2], row[1], row[0]] for row in panel.rows()])

    def test_big_panel(self):
        panel = big_panel(3, 40, 8)
        names = panel.entries()
        for field in [names, names[::2], names[-1:], names[5:30]]:
            self.same(cards(panel, field), told_cards(panel.rows(), field))


class Wrong(Case):
    def test_panel(self):
        calls = [lambda panel: named(panel, None, None), lambda panel: cards(panel, None),
                 lambda panel: who(panel, None, None), lambda panel: ahead(panel, None, None),
                 lambda panel: places(panel, None), turned, equal_rows, plain]
        wrong = [None, 1, True, "abc", [["a"]], (["a"], [["a"]]), {"a": [[]]}, InvalidPanel()]
        for call in calls:
            for panel in wrong:
                self.raises(InvalidPanel, panel, call, panel)

    def test_position(self):
        for at in [None, -1, 2, True, False, "0", [], (0,), {}, show()]:
            self.raises(InvalidCount, at, named, show(), at, None)
            self.raises(InvalidCount, at, ahead, show(), at, None)

    def test_field(self):
        wrong = [[], ["pie", "ale"], ["ale", "ale"], ["ale", "rye"], ("ale",), "ale", {"ale": 1}, None, [1], [True],
                 [["ale"]], [None], show(), 3]
        for field in wrong:
            self.raises(InvalidField, field, named, show(), 1, field)
            self.raises(InvalidField, field, cards, show(), field)
            self.raises(InvalidField, field, who, show(), field, None)

    def test_entry(self):
        for entry in odd_objects() + ["rye", "al", ["ale"]]:
            self.raises(UnknownEntry, entry, who, show(), ["ale"], entry)
            self.raises(UnknownEntry, entry, ahead, show(), 0, entry)
            self.raises(UnknownEntry, entry, places, show(), entry)

    def test_entry_off_the_field(self):
        self.same(who(show(), ["ale"], "pie"), [])

    def test_calls_that_raise_leave_the_panel(self):
        panel = show()
        for call in [lambda: panel.with_row([]), lambda: panel.without_row(9), lambda: panel.struck(["x"]),
                     lambda: panel.renamed({}), lambda: cards(panel, [])]:
            with self.assertRaises(ValueError):
                call()
        self.assertEqual(panel, show())


if __name__ == "__main__":
    main()
