"""[90] to [92]: stewards of several cards."""

from itertools import combinations
from math import comb
from unittest import main

from cardpanel.errors import InvalidEntries, InvalidField, InvalidPanel, InvalidStewards, UnknownEntry
from cardpanel.fewest import is_fewest
from cardpanel.panels import Panel
from cardpanel.several import (alike_stewards, is_plain, one_steward, parting_several, plain_panel, several_cards,
                               several_lots)
from support import (ABC, Case, all_panels, all_rows, big_names, big_panel, fields, odd_objects, shuffled,
                     some_numbers, told_table)

TRIO, FOUR = ["x", "y", "z"], ["w", "x", "y", "z"]


def told_several(stewards, field):
    """The cards of a field, by the word of the document."""
    return sorted({name for many, row in stewards for name in [each for each in row if each in field][:many]})


def told_several_table(entries, stewards):
    return [told_several(stewards, field) for field in fields(entries)]


def told_lots(entries, stewards, entry):
    """The least lots without which, when just they are gone, an entry is named."""
    free = []
    for many in range(len(entries)):
        for lot in combinations([name for name in sorted(entries) if name != entry], many):
            if not any(set(less) <= set(lot) for less in free):
                if entry in told_several(stewards, [name for name in entries if name not in lot]):
                    free.append(lot)
    return sorted(list(lot) for lot in free)


def some_stewards(numbers, entries, many):
    return [(1 + next(numbers) % 4, shuffled(numbers, entries)) for _ in range(many)]


class Document(Case):
    def test_first_examples(self):
        self.same(
            [several_cards(FOUR, [(2, FOUR)], ["x", "y", "z"]),
             several_cards(FOUR, [(2, FOUR), (1, ["z", "y", "x", "w"])], FOUR), several_lots(FOUR, [(2, FOUR)], "z"),
             several_lots(FOUR, [(2, FOUR)], "y"), several_lots(FOUR, [(2, FOUR)], "x")],
            [["x", "y"], ["w", "x", "z"], [["w", "x"], ["w", "y"], ["x", "y"]], [["w"], ["x"]], [[]]])
        self.same([len(plain_panel(FOUR, [(count, FOUR)]).rows()) for count in [1, 2, 3, 4, 9]], [1, 3, 3, 4, 4])

    def test_second_examples(self):
        self.same(
            [is_plain(TRIO, [(2, TRIO)], Panel(TRIO, [["y", "z", "x"], ["x", "z", "y"]])),
             is_plain(TRIO, [(2, TRIO)], Panel(TRIO, [TRIO])),
             alike_stewards(TRIO, [(2, TRIO)], [(2, ["y", "x", "z"])]),
             parting_several(TRIO, [(1, TRIO)], [(2, TRIO)]) is None], [True, False, True, False])
        self.same(
            [one_steward(Panel(TRIO, [["x", "y", "z"], ["z", "y", "x"]])),
             one_steward(Panel(TRIO, [["x", "y", "z"], ["y", "x", "z"]])), one_steward(Panel(TRIO, [["z", "x", "y"]]))],
            [(2, ["x", "z", "y"]), None, (1, ["z", "x", "y"])])


class Several(Case):
    def check(self, entries, stewards):
        table = told_several_table(entries, stewards)
        self.same([several_cards(entries, stewards, field) for field in fields(entries)], table)
        for name in entries:
            self.same(several_lots(entries, stewards, name), told_lots(entries, stewards, name))
        panel = plain_panel(entries, stewards)
        self.same([told_table(panel), panel.entries()], [table, sorted(entries)])
        self.same([is_fewest(panel, panel.rows()), is_plain(entries, stewards, panel)], [True, True])

    def test_single_stewards(self):
        for entries in [["a"], ["b", "a"], ["c", "a", "b"], ["d", "a", "c", "b"], ["e", "d", "a", "c", "b"]]:
            for many in range(1, len(entries) + 2):
                for row in all_rows(entries)[::5]:
                    self.check(entries, [(many, row)])

    def test_several_stewards(self):
        numbers = some_numbers(1)
        for seed in range(60):
            entries = shuffled(numbers, big_names(2 + seed % 4))
            self.check(entries, some_stewards(numbers, entries, 1 + seed % 4))

    def test_the_fewest_for_one(self):
        row = shuffled(some_numbers(3), big_names(7))
        for many in range(1, 7):
            self.same(len(plain_panel(big_names(7), [(many, row)])), comb(6, many - 1))
        for many in [7, 8, 10 ** 20]:
            self.same(len(plain_panel(big_names(7), [(many, row)])), 7)

    def test_is_plain_for_all_panels(self):
        for stewards in [[(1, ABC)], [(2, ABC)], [(3, ABC)], [(1, ABC), (2, ["c", "b", "a"])],
                         [(1, ABC), (1, ["b", "a", "c"])], [(9, ["b", "c", "a"]), (1, ABC)]]:
            table = told_several_table(ABC, stewards)
            for panel in all_panels(ABC, 4):
                self.same(is_plain(["b", "a", "c"], stewards, panel), told_table(panel) == table)

    def test_is_plain_any_object(self):
        good = Panel(TRIO, [["y", "z", "x"], ["x", "z", "y"]])
        for value in odd_objects() + [good.rows(), Panel(["x", "y"], [["x", "y"]]), good.renamed(
                {"x": "a", "y": "b", "z": "c"}), good.without_row(1), good.with_row(["z", "y", "x"]), (good,), [good]]:
            self.same(is_plain(TRIO, [(2, TRIO)], value), False)
        self.same(is_plain(TRIO, [(2, TRIO)], good.with_row(["y", "x", "z"])), True)

    def test_twelve_entries(self):
        names = big_names(12)
        row = shuffled(some_numbers(8), names)
        stewards = [(6, row)]
        lots = self.at_once(several_lots, names, stewards, row[-1])
        self.same([len(lots), lots == sorted(lots), {len(lot) for lot in lots}], [comb(11, 5), True, {6}])
        panel = self.at_once(plain_panel, names, stewards)
        self.same([len(panel), self.at_once(is_plain, names, stewards, panel)], [comb(11, 5), True])
        self.same(self.at_once(is_plain, names, stewards, panel.without_row(77)), False)
        self.same(self.at_once(is_plain, names, stewards, panel.with_row(row)), True)
        self.same(self.at_once(is_plain, names, stewards, panel.with_row(row[::-1])), False)
        self.same(self.at_once(alike_stewards, names, stewards, [(6, row[:6][::-1] + row[6:])]), True)
        self.same(self.at_once(alike_stewards, names, stewards, [(6, row[:5] + [row[6], row[5]] + row[7:])]), False)
        self.same(self.at_once(one_steward, panel), (6, sorted(row[:6]) + row[6:]))
        self.same(self.at_once(one_steward, panel.without_row(5)), None)

    def test_eight_stewards_of_eight_entries(self):
        numbers, names = some_numbers(21), big_names(8)
        stewards = []
        for _ in range(8):
            row = list(names)
            for _ in range(3):
                at = 3 + next(numbers) % 4
                row[at], row[at + 1] = row[at + 1], row[at]
            stewards.append((3, row))
        for name in names:
            self.same(self.at_once(several_lots, names, stewards, name), told_lots(names, stewards, name))
        panel = self.at_once(plain_panel, names, stewards)
        self.same([told_table(panel), is_fewest(panel, panel.rows())], [told_several_table(names, stewards), True])
        self.same(self.at_once(is_plain, names, stewards, panel), True)
        self.same(self.at_once(alike_stewards, names, stewards, stewards[::-1]), True)


class AlikeStewards(Case):
    def test_all_pairs(self):
        numbers = some_numbers(6)
        every = [[(many, row)] for many in range(1, 5) for row in all_rows(ABC)]
        every += [some_stewards(numbers, ABC, 2) for _ in range(12)]
        tables = [told_several_table(ABC, stewards) for stewards in every]
        for one, ours in zip(every, tables):
            for other, theirs in zip(every, tables):
                self.same(alike_stewards(ABC, one, other), ours == theirs)
                field = parting_several(ABC, one, other)
                if ours == theirs:
                    self.same(field, None)
                else:
                    self.assertIn(field, fields(ABC))
                    self.assertNotEqual(told_several(one, field), told_several(other, field))

    def test_entries_in_any_order(self):
        entries, one, other = ["d", "b", "a", "c"], [(1, ["d", "b", "a", "c"])], [(1, ["d", "b", "c", "a"])]
        for names in [entries, sorted(entries)]:
            field = parting_several(names, one, other)
            self.assertIn(field, fields(entries))
            self.assertNotEqual(told_several(one, field), told_several(other, field))
            self.same([several_cards(names, one, ["a", "c"]), several_lots(names, one, "a"),
                       plain_panel(names, one).rows()], [["a"], [["b", "d"]], [["d", "b", "a", "c"]]])

    def test_more_than_there_are_names_all(self):
        self.same([alike_stewards(ABC, [(3, ABC)], [(10 ** 20, ["c", "a", "b"])]),
                   alike_stewards(["a"], [(1, ["a"])], [(5, ["a"]), (1, ["a"])])], [True, True])


class OneSteward(Case):
    def check(self, panel, told):
        found = [each for each in told if each[1] == told_table(panel)]
        self.assertLessEqual(len(found), 1)
        self.same(one_steward(panel), found[0][0] if found else None)

    def told(self, entries):
        """All single stewards whose first entries, as many as cards, ascend, with their tables."""
        return [((many, row), told_several_table(entries, [(many, row)])) for many in range(1, len(entries) + 1)
                for row in all_rows(entries) if row[:many] == sorted(row[:many])]

    def test_small_panels(self):
        for entries in [["a"], ["a", "b"], ABC]:
            for panel in all_panels(entries, 4):
                self.check(panel, self.told(entries))

    def test_greater_panels(self):
        entries = ["a", "b", "c", "d"]
        told = self.told(entries)
        for (many, row), _ in told:
            panel = plain_panel(entries, [(many, row)])
            self.check(panel, told)
            self.check(panel.with_row(row), told)
        for seed in range(12):
            self.check(big_panel(seed, 4, 1 + seed % 4).renamed(dict(zip(big_names(4), entries))), told)

    def test_wrong(self):
        for panel in odd_objects()[:-1]:
            self.raises(InvalidPanel, panel, one_steward, panel)
        self.same(one_steward(panel=Panel(["a"], [["a"], ["a"]])), (1, ["a"]))


class Arguments(Case):
    def calls(self):
        return [(several_cards, 1), (several_lots, 1), (plain_panel, 0), (is_plain, 1), (alike_stewards, 1),
                (parting_several, 1)]

    def test_wrong_entries(self):
        for entries in [None, [], ("a",), ["a", "a"], ["A"], "abc", {"a": 1}, [1], [["a"]], True]:
            for call, more in self.calls():
                self.raises(InvalidEntries, entries, call, entries, None, *[None] * more)

    def wrong_stewards(self):
        return odd_objects() + [((1, ABC),), [[1, ABC]], [(1, tuple(ABC))], [(0, ABC)], [(-1, ABC)], [(True, ABC)],
                                [("1", ABC)], [(1, ["a", "b"])], [(1, ["a", "b", "d"])], [(1, ["a", "b", "b"])],
                                [(1, ABC, 2)], [(1,)], [(1, ABC), None], [(1, ABC), (0, ABC)], {1: ABC}, (1, ABC),
                                [(1, [1, 2, 3])], [(1, ABC + ["a"])], [(1, {"a": 1, "b": 1, "c": 1})]]

    def test_wrong_stewards(self):
        for stewards in self.wrong_stewards():
            for call, more in self.calls():
                self.raises(InvalidStewards, stewards, call, ABC, stewards, *[None] * more)
            self.raises(InvalidStewards, stewards, alike_stewards, ABC, [(1, ABC)], stewards)
            self.raises(InvalidStewards, stewards, parting_several, ABC, [(1, ABC)], stewards)

    def test_wrong_fields_and_entries(self):
        for value in odd_objects() + [("a",), ["b", "a"], ["a", "d"], "a"]:
            self.raises(InvalidField, value, several_cards, ABC, [(1, ABC)], value)
            if value != "a":
                self.raises(UnknownEntry, value, several_lots, ABC, [(1, ABC)], value)

    def test_by_name(self):
        one = [(2, ABC)]
        self.same([several_cards(field=["b", "c"], stewards=[(1, ABC)], entries=ABC),
                   several_lots(entry="c", stewards=one, entries=ABC), len(plain_panel(stewards=one, entries=ABC)),
                   is_plain(value=None, stewards=one, entries=ABC),
                   alike_stewards(other=one, one=one, entries=ABC),
                   parting_several(other=one, one=one, entries=ABC)],
                  [["b"], [["a"], ["b"]], 2, False, True, None])


if __name__ == "__main__":
    main()
