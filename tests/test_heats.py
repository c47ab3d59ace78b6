"""[50] to [53]: trees of heats, and panels that sift for others."""

from unittest import main

from cardpanel.alike import within
from cardpanel.errors import InvalidField, InvalidPanel, InvalidTree, Unlike
from cardpanel.heats import (bad_field, each_heat, field_of, finals, finals_table, heats, is_bad_field, may_sift,
                             widest)
from cardpanel.panels import Panel, cards
from cardpanel.tables import flaw, is_table, table_of
from support import ABC, Case, all_panels, big_names, big_panel, fields, odd_objects, some_numbers, told_cards

DAY = [["cob", "bun"], ["ale", ["dip", "cob"]]]


def stall():
    return Panel(["ale", "bun", "cob", "dip"], [["ale", "bun", "cob", "dip"], ["dip", "bun", "ale", "cob"]])


def early():
    return Panel(["x", "y", "z"], [["y", "x", "z"], ["z", "x", "y"]])


def later():
    return Panel(["x", "y", "z"], [["x", "y", "z"], ["z", "y", "x"]])


def told_heats(rows, tree, heard):
    """Who goes on from a tree, by the word of the document; each heat that ends is put to `heard`."""
    if isinstance(tree, str):
        return [tree]
    there = sorted({name for part in tree for name in told_heats(rows, part, heard)})
    heard.append((there, told_cards(rows, there)))
    return told_cards(rows, there)


def told_field(tree):
    return {tree} if isinstance(tree, str) else set().union(*[told_field(part) for part in tree])


def some_tree(numbers, names, depth):
    """A tree of heats that the numbers tell, nested at most so deep."""
    if depth == 0 or next(numbers) % 4 == 0:
        return names[next(numbers) % len(names)]
    return [some_tree(numbers, names, depth - 1) for _ in range(1 + next(numbers) % 3)]


class Document(Case):
    def test_first_example(self):
        self.same([field_of(stall(), DAY), heats(stall(), DAY), heats(stall(), "cob"), widest(stall(), DAY),
                   widest(stall(), "cob")], [["ale", "bun", "cob", "dip"], ["ale", "dip"], ["cob"], 3, 0])

    def test_second_example(self):
        self.same(each_heat(stall(), DAY), [
            (["bun", "cob"], ["bun"]), (["cob", "dip"], ["cob", "dip"]), (["ale", "cob", "dip"], ["ale", "dip"]),
            (["ale", "bun", "dip"], ["ale", "dip"])])

    def test_third_example(self):
        self.same([finals(early(), later(), ["x", "y", "z"]), may_sift(early(), later()),
                   bad_field(early(), later()), is_bad_field(early(), later(), ["x", "y"]),
                   may_sift(early(), early())], [["y", "z"], False, ["x", "y", "z"], False, True])
        self.same([flaw(finals_table(early(), later())), finals(later(), early(), ["x", "y", "z"])],
                  [None, ["x", "z"]])


class Trees(Case):
    def check(self, panel, tree):
        heard = []
        going_on = told_heats(panel.rows(), tree, heard)
        self.same(field_of(panel, tree), sorted(told_field(tree)))
        self.same(heats(panel, tree), going_on)
        self.same(heats(panel, tree), cards(panel, field_of(panel, tree)))
        self.same(each_heat(panel, tree), heard)
        self.same(widest(panel, tree), max([len(field) for field, _ in heard], default=0))

    def test_many_trees(self):
        numbers = some_numbers(5)
        for seed in range(30):
            panel = big_panel(seed, 1 + seed % 7, 1 + seed % 4)
            for depth in range(5):
                self.check(panel, some_tree(numbers, panel.entries(), depth))

    def test_entries_lists_of_one_and_entries_that_stand_there_often(self):
        for tree in ["bun", ["bun"], [["bun"]], [[["bun"]], "bun"], ["bun", "bun", "bun"], [["ale", "bun"], ["bun"]],
                     [["bun", "dip"], ["bun", "dip"], "cob"], [["ale", "bun", "cob", "dip"], "bun"]]:
            self.check(stall(), tree)
        self.same([each_heat(stall(), "bun"), widest(stall(), ["bun"])], [[], 1])
        self.same(each_heat(stall(), [["bun"], "bun"]), [(["bun"], ["bun"]), (["bun"], ["bun"])])

    def test_sixty_entries_ten_deep_of_forty(self):
        panel = big_panel(3, 40, 8)
        names = panel.entries()
        tree = [names[at * 7 % 40] for at in range(24)]
        for depth in range(9):
            tree = [tree] + [names[(depth * 11 + at * 3) % 40] for at in range(4)]
        self.check(panel, tree)
        self.assertEqual(self.at_once(heats, panel, tree), cards(panel, field_of(panel, tree)))

    def test_one_entry(self):
        panel = Panel(["a"], [["a"]])
        for tree in ["a", ["a"], [["a", ["a"]], "a"]]:
            self.check(panel, tree)

    def test_by_name(self):
        self.same([field_of(tree=DAY, panel=stall()), heats(tree=DAY, panel=stall()),
                   each_heat(tree="ale", panel=stall()), widest(tree=DAY, panel=stall())],
                  [["ale", "bun", "cob", "dip"], ["ale", "dip"], [], 3])

    def test_wrong(self):
        deep = "rye"
        for _ in range(39):
            deep = [deep]
        wrong = odd_objects() + ["rye", ["rye"], [[]], ["bun", []], ("bun",), [("bun", "ale")], ["bun", None],
                                 {"bun": 1}, [{"bun": "ale"}], ["bun", True], [["bun", ["ale", ()]]], stall(),
                                 [stall()], deep, b"bun"]
        for tree in wrong:
            for call in (field_of, heats, each_heat, widest):
                self.raises(InvalidTree, tree, call, stall(), tree)
        for panel in [None, True, "a", DAY, stall().rows()]:
            for call in (field_of, heats, each_heat, widest):
                self.raises(InvalidPanel, panel, call, panel, None)


class Sifting(Case):
    def check(self, first, second):
        every = fields(first.entries())
        told = [told_cards(second.rows(), told_cards(first.rows(), field)) for field in every]
        self.same([finals(first, second, field) for field in every], told)
        bad = [field for field, last in zip(every, told) if last != cards(second, field)]
        self.same(may_sift(first, second), not bad)
        self.same(may_sift(first, second), within(second, first))
        self.same([is_bad_field(first, second, field) for field in every], [field in bad for field in every])
        found = bad_field(first, second)
        if bad:
            self.assertIn(found, bad)
            self.same(is_bad_field(first, second, found), True)
            self.assertLessEqual(min(map(len, bad)), len(first) + 1)
        else:
            self.assertIsNone(found)
        table = finals_table(first, second)
        self.same(table, sorted(zip(every, told)))
        self.same(is_table(first.entries(), table), True)
        if within(first, second) or len(first) == 1:
            self.same(table, table_of(first))
        elif within(second, first):
            self.same(table, table_of(second))

    def test_all_small_panels(self):
        panels = all_panels(ABC, 2) + [Panel(ABC, [ABC, ["b", "c", "a"], ["c", "a", "b"], ABC])]
        for first in panels:
            for second in panels:
                self.check(first, second)

    def test_panels_of_five_entries(self):
        for seed in range(12):
            first, second = big_panel(seed, 5, 1 + seed % 4), big_panel(seed + 70, 5, 1 + seed % 3)
            self.check(first, second)
            self.check(Panel(first.entries(), first.rows() + second.rows()), second)
            self.check(second, Panel(first.entries(), first.rows() + second.rows()))

    def test_one_entry(self):
        self.check(Panel(["a"], [["a"]]), Panel(["a"], [["a"], ["a"]]))

    def test_a_table_of_finals_may_be_no_panels(self):
        flaws = [flaw(finals_table(first, second)) for first in all_panels(ABC, 2) for second in all_panels(ABC, 2)]
        self.assertTrue([each for each in flaws if each is not None])

    def test_big_panels(self):
        for seed in range(3):
            first, second = big_panel(seed, 40, 8), big_panel(seed + 60, 40, 8)
            found = self.at_once(bad_field, first, second)
            self.same([is_bad_field(first, second, found), self.at_once(may_sift, first, second)], [True, False])
            self.same([self.at_once(bad_field, first, first.without_row(3)), may_sift(first, first.without_row(3))],
                      [None, True])
            self.same(finals(first, second, big_names(40)), cards(second, cards(first, big_names(40))))

    def test_by_name(self):
        self.same([finals(field=["x", "y", "z"], second=later(), first=early()),
                   may_sift(second=later(), first=early()), bad_field(second=early(), first=early()),
                   is_bad_field(value=["x", "y", "z"], second=later(), first=early())],
                  [["y", "z"], False, None, True])
        self.same(finals_table(second=early(), first=early()), table_of(early()))

    def test_any_object_may_be_no_bad_field(self):
        for value in odd_objects() + [["z", "y", "x"], ("x", "y", "z"), ["w", "x", "y", "z"], "xyz", early(),
                                      ["x", "y", "z", None], {"x": 1, "y": 2, "z": 3}, ["x", "y", True]]:
            self.same(is_bad_field(early(), later(), value), False)

    def test_wrong(self):
        pairs = (may_sift, bad_field, finals_table)
        for wrong in [None, True, "abc", [["x"]], early().rows()]:
            for call in pairs:
                self.raises(InvalidPanel, wrong, call, wrong, None)
                self.raises(InvalidPanel, wrong, call, early(), wrong)
            self.raises(InvalidPanel, wrong, finals, wrong, None, None)
            self.raises(InvalidPanel, wrong, finals, early(), wrong, None)
            self.raises(InvalidPanel, wrong, is_bad_field, wrong, None, None)
            self.raises(InvalidPanel, wrong, is_bad_field, early(), wrong, None)
        for other in [Panel(["x", "y"], [["x", "y"]]), Panel(["w", "y", "z"], [["w", "y", "z"]]), stall()]:
            for call in pairs:
                self.raises(Unlike, other, call, early(), other)
            self.raises(Unlike, other, finals, early(), other, None)
            self.raises(Unlike, other, is_bad_field, early(), other, None)
        for field in odd_objects() + [["y", "x"], ["x", "rye"], ("x",), "x"]:
            self.raises(InvalidField, field, finals, early(), later(), field)


if __name__ == "__main__":
    main()
