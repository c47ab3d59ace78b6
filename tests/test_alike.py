"""[40] to [43]: panels within one another, alike ones, and the fields that part others."""

from unittest import main

from cardpanel.alike import (alike, bad_row, beyond, is_parting_field, parting_field, parting_pairs, parting_size,
                             within)
from cardpanel.errors import InvalidPanel, Unlike
from cardpanel.heads import least_lots, lots_of
from cardpanel.panels import Panel, cards
from support import ABC, Case, all_panels, big_names, big_panel, fields, odd_objects, told_table

FUNCTIONS = [within, alike, beyond, bad_row, parting_field, parting_size, parting_pairs]


def ends():
    return Panel(["a", "b", "c"], [["a", "b", "c"], ["c", "b", "a"]])


def turned():
    return Panel(["a", "b", "c"], [["b", "a", "c"], ["c", "a", "b"]])


def three():
    return Panel(["a", "b", "c"], [["a", "b", "c"], ["a", "c", "b"], ["c", "a", "b"]])


def two():
    return Panel(["a", "b", "c"], [["c", "a", "b"], ["a", "b", "c"]])


def told_bad_row(one, other):
    """The bad row, by the word of the document."""
    for at, row in enumerate(one.rows()):
        for name in row:
            ahead = set(row[:row.index(name)])
            if not any(set(lot) <= ahead for lot in least_lots(other, name)):
                return (at, name)
    return None


def small_panels():
    """Panels of four entries, of one to four stewards, of which many are within one another."""
    names = ["a", "b", "c", "d"]
    rows = [["a", "b", "c", "d"], ["b", "a", "c", "d"], ["a", "b", "d", "c"], ["d", "c", "b", "a"],
            ["c", "a", "d", "b"], ["b", "d", "a", "c"], ["b", "a", "d", "c"]]
    some = [[0], [1], [0, 1], [0, 6], [1, 2], [0, 1, 2], [0, 1, 2, 6], [3, 0], [3, 4, 5], [4, 5], [5, 4], [0, 3, 0]]
    return [Panel(names, [rows[at] for at in each]) for each in some]


class Document(Case):
    def test_first_example(self):
        self.same(
            [within(ends(), turned()), alike(ends(), turned()), beyond(ends(), turned()), beyond(turned(), ends()),
             bad_row(ends(), turned()), bad_row(turned(), ends())],
            [False, False, ["a"], ["b"], (0, "a"), (0, "b")])

    def test_second_example(self):
        self.same(
            [parting_field(ends(), turned()), parting_size(ends(), turned()), parting_pairs(ends(), turned()),
             is_parting_field(ends(), turned(), ["a", "c"])],
            [["a", "b", "c"], 3, [], False])

    def test_third_example(self):
        self.same(
            [within(two(), three()), alike(two(), three()), bad_row(three(), two()), parting_field(two(), three()),
             parting_pairs(two(), ends()), parting_size(two(), ends())],
            [True, True, None, None, [["a", "b"]], 2])


class ByAllFields(Case):
    """Each function beside what going through all fields tells."""

    def check(self, one, other):
        every = fields(one.entries())
        ours, theirs = told_table(one), told_table(other)
        lost = {name for our, their in zip(ours, theirs) for name in our if name not in their}
        parting = [field for field, our, their in zip(every, ours, theirs) if our != their]
        self.same(within(one, other), not lost)
        self.same(beyond(one, other), sorted(lost))
        self.same(alike(one, other), not parting)
        self.same(bad_row(one, other), told_bad_row(one, other))
        self.same(bad_row(one, other) is None, not lost)
        self.same(parting_size(one, other), min(map(len, parting)) if parting else None)
        self.same(parting_pairs(one, other), sorted(field for field in parting if len(field) == 2))
        self.same([is_parting_field(one, other, field) for field in every], [field in parting for field in every])
        found = parting_field(one, other)
        if not parting:
            self.assertIsNone(found)
        else:
            self.assertIn(found, parting)
            self.assertLessEqual(len(found), max(len(one), len(other)) + 1)

    def test_all_small_panels(self):
        panels = all_panels(ABC, 2) + [three(), ends(), turned()]
        for one in panels:
            for other in panels:
                self.check(one, other)

    def test_panels_of_four_entries(self):
        for one in small_panels():
            for other in small_panels():
                self.check(one, other)

    def test_panels_of_seven_entries(self):
        for seed in range(12):
            one, other = big_panel(seed, 7, 1 + seed % 4), big_panel(seed + 50, 7, 1 + seed % 3)
            self.check(one, other)
            self.check(one, Panel(one.entries(), one.rows() + other.rows()))

    def test_one_entry(self):
        self.check(Panel(["a"], [["a"]]), Panel(["a"], [["a"], ["a"]]))


class Alike(Case):
    def test_order_and_number_of_rows_mean_nothing(self):
        rows = ends().rows()
        for other in [rows[::-1], rows + rows, [rows[1], rows[0], rows[1]]]:
            panel = Panel(["c", "a", "b"], other)
            self.same([alike(ends(), panel), within(ends(), panel), within(panel, ends())], [True, True, True])
            self.same([parting_field(ends(), panel), parting_size(ends(), panel), parting_pairs(ends(), panel)],
                      [None, None, []])
            self.same([beyond(ends(), panel), bad_row(ends(), panel)], [[], None])

    def test_exactly_if_lots_are_the_same_and_if_each_is_within_the_other(self):
        for one in all_panels(ABC, 2):
            for other in all_panels(ABC, 3)[::2]:
                self.same(alike(one, other), lots_of(one) == lots_of(other))
                self.same(alike(one, other), within(one, other) and within(other, one))

    def test_the_bad_row_is_the_first_one(self):
        one = Panel(ABC, [["a", "b", "c"], ["a", "b", "c"], ["a", "c", "b"], ["c", "b", "a"]])
        other = Panel(ABC, [["a", "b", "c"]])
        self.same(bad_row(one, other), (2, "c"))

    def test_calls_by_name(self):
        self.same([within(other=turned(), one=ends()), alike(other=three(), one=two())], [False, True])
        self.same([beyond(other=ends(), one=turned()), bad_row(other=ends(), one=turned())], [["b"], (0, "b")])
        self.same([parting_field(other=turned(), one=ends()), parting_size(other=turned(), one=ends())],
                  [["a", "b", "c"], 3])
        self.same(is_parting_field(value=["a", "b", "c"], other=turned(), one=ends()), True)
        self.same(parting_pairs(other=ends(), one=two()), [["a", "b"]])


class Parting(Case):
    def test_any_object_may_be_no_parting_field(self):
        wrong = odd_objects() + [["c", "b", "a"], ["a", "b", "c", "d"], ("a", "b", "c"), ["a", "b", "b", "c"], "abc",
                                 ["a", "b", None], {"a": 1, "b": 2, "c": 3}, ends(), ["a", "b", ["c"]]]
        for value in wrong:
            self.same(is_parting_field(ends(), turned(), value), False)

    def test_alike_panels_have_no_parting_field(self):
        for field in fields(ABC):
            self.same(is_parting_field(two(), three(), field), False)

    def test_size_of_a_field_that_needs_one_for_each_steward(self):
        for many in range(1, 9):
            names = big_names(many + 1)
            last = names[-1]
            rest = names[:-1]
            rows = [[name, last] + [other for other in rest if other != name] for name in rest]
            one, other = Panel(names, rows), Panel(names, rows + [[last] + rest])
            self.same(parting_size(one, other), many + 1)
            self.same(parting_size(other, one), many + 1)
            self.same(parting_field(one, other), names)

    def test_size_of_big_panels(self):
        names = big_names(40)
        last = names[39:]
        for many in range(1, 9):
            blocks = [names[4 * at:4 * at + 4] for at in range(many)]
            rows = [block + last + [name for name in names[:39] if name not in block] for block in blocks]
            one, other = Panel(names, rows), Panel(names, rows + [last + names[:39]])
            self.same([parting_size(one, other), parting_size(other, one)], [many + 1, many + 1])
            self.same(is_parting_field(one, other, parting_field(one, other)), True)
            self.assertLessEqual(len(parting_field(one, other)), many + 2)


class Wrong(Case):
    def test_panels(self):
        for wrong in [None, 1, True, "abc", [["a"]], ends().rows(), lots_of(ends()), InvalidPanel()]:
            for call in FUNCTIONS:
                self.raises(InvalidPanel, wrong, call, wrong, None)
                self.raises(InvalidPanel, wrong, call, ends(), wrong)
            self.raises(InvalidPanel, wrong, is_parting_field, wrong, None, None)
            self.raises(InvalidPanel, wrong, is_parting_field, ends(), wrong, None)

    def test_unlike(self):
        others = [Panel(["a", "b"], [["a", "b"]]), Panel(["a", "b", "d"], [["a", "b", "d"]]),
                  Panel(["a", "b", "c", "d"], [["a", "b", "c", "d"]])]
        for other in others:
            for call in FUNCTIONS:
                self.raises(Unlike, other, call, ends(), other)
            self.raises(Unlike, other, is_parting_field, ends(), other, None)

    def test_parting_fields_show_the_very_cards(self):
        self.same([cards(ends(), ABC), cards(turned(), ABC)], [["a", "c"], ["b", "c"]])


if __name__ == "__main__":
    main()
