"""[60] to [63]: lots that keep an entry off, the least and the shortest of them."""

from itertools import combinations, product
from unittest import main

from cardpanel.errors import InvalidCount, InvalidField, InvalidLot, InvalidLots, InvalidPanel, UnknownEntry
from cardpanel.heads import least_lots
from cardpanel.keepoffs import (for_good, is_shortest_keepoff, is_why_kept_off, keeps_off, least_keepoffs,
                                least_meeting, shortest_keepoff, surely_named, why_kept_off)
from cardpanel.panels import Panel, cards
from support import (ABC, Case, all_panels, all_rows, big_names, big_panel, fields, lots, odd_objects, some_numbers,
                     told_cards, within_lines)


def pair():
    return Panel(["a", "b", "c", "d"], [["a", "b", "c", "d"], ["b", "d", "a", "c"]])


def told_keepoffs(panel, entry):
    """All lots that keep an entry off, by the word of the document: all fields are gone through."""
    every, rows = fields(panel.entries()), panel.rows()
    named = [field for field in every if entry in told_cards(rows, field)]
    others = [name for name in panel.entries() if name != entry]
    return [lot for lot in lots(others) if not any(set(lot) <= set(field) for field in named)]


def least_of(some):
    """Those of some lots that hold no other one of them, ascending."""
    return sorted(lot for lot in some if not any(set(other) < set(lot) for other in some))


def told_meeting(given):
    """All least lots that have an entry of each of some lists, out of their entries."""
    names = sorted({name for lot in given for name in lot})
    return least_of([lot for lot in lots(names) if all(set(lot) & set(each) for each in given)])


class Document(Case):
    def test_first_example(self):
        self.same(
            [keeps_off(pair(), "c", ["a"]), keeps_off(pair(), "c", ["d"]), keeps_off(pair(), "c", []),
             for_good(pair()), least_keepoffs(pair(), "c"), least_keepoffs(pair(), "d"), least_keepoffs(pair(), "a")],
            [True, False, False, [("a", "c"), ("b", "c"), ("b", "d")], [["a"], ["b"]], [["b"]], []])

    def test_second_example(self):
        self.same([least_meeting([["a", "b"]]), least_meeting([["a"], ["b"]]), least_meeting([["a", "b"], ["b", "c"]]),
                   least_meeting([]), least_meeting([["x"], []])],
                  [[["a"], ["b"]], [["a", "b"]], [["a", "c"], ["b"]], [[]], []])

    def test_third_example(self):
        self.same(
            [why_kept_off(pair(), "d", ["b", "c", "d"]), why_kept_off(pair(), "c", ["c", "d"]),
             is_why_kept_off(pair(), "c", ["a", "b", "c"], ["a", "b"]), shortest_keepoff(pair(), "a"),
             is_shortest_keepoff(pair(), "c", ["b"]), [surely_named(pair(), "c", many) for many in [1, 2]],
             surely_named(pair(), "a", 4)], [["b"], None, False, None, True, [True, False], True])


class ByAllFields(Case):
    def check(self, panel):
        names = panel.entries()
        good = []
        for entry in names:
            told = told_keepoffs(panel, entry)
            others = [name for name in names if name != entry]
            self.same([keeps_off(panel, entry, lot) for lot in lots(others)], [lot in told for lot in lots(others)])
            self.same(least_keepoffs(panel, entry), least_of(told))
            self.same(least_meeting(least_lots(panel, entry)), least_of(told))
            self.same(least_meeting(least_keepoffs(panel, entry)), least_lots(panel, entry))
            good += [(lot[0], entry) for lot in told if len(lot) == 1]
            self.check_shortest(panel, entry, told)
            for field in fields(names):
                if entry in field:
                    self.check_field(panel, entry, field, least_of([lot for lot in told if set(lot) <= set(field)]))
        self.same(for_good(panel), sorted(good))

    def check_shortest(self, panel, entry, told):
        short = min(map(len, told), default=None)
        found = shortest_keepoff(panel, entry)
        self.assertTrue(found in told and len(found) == short if told else found is None)
        every = lots(panel.entries())
        self.same([is_shortest_keepoff(panel, entry, lot) for lot in every],
                  [lot in told and len(lot) == short for lot in every])
        for many in range(1, len(panel.entries()) + 2):
            named = all(entry in told_cards(panel.rows(), field) for field in fields(panel.entries())
                        if entry in field and len(field) <= many)
            self.same(surely_named(panel, entry, many), named)

    def check_field(self, panel, entry, field, least):
        found = why_kept_off(panel, entry, field)
        self.assertTrue(found in least if least else found is None)
        self.assertEqual(found is None, entry in cards(panel, field))
        every = lots(panel.entries())
        self.same([is_why_kept_off(panel, entry, field, lot) for lot in every], [lot in least for lot in every])
        self.same(is_why_kept_off(panel, entry, field, None), False)

    def test_small_panels(self):
        for panel in all_panels(ABC, 3):
            self.check(panel)

    def test_panels_of_five_entries(self):
        for seed in range(8):
            self.check(big_panel(seed, 5, 1 + seed % 5))

    def test_one_entry_one_steward_and_entries_that_are_first(self):
        self.check(Panel(["a"], [["a"], ["a"]]))
        self.check(Panel(["a", "b", "c", "d"], [["d", "b", "a", "c"]]))
        alone = Panel(["a"], [["a"]])
        self.same([least_keepoffs(alone, "a"), shortest_keepoff(alone, "a")], [[], None])


class LeastMeeting(Case):
    def test_all_lists_of_two_lots_of_three_names(self):
        every = lots(ABC)
        for given in [[]] + [list(some) for many in (1, 2, 3) for some in product(every, repeat=many)]:
            self.same(least_meeting(given), told_meeting(given))

    def test_lists_of_six_names(self):
        numbers = some_numbers(3)
        every = lots(["a", "bb", "c", "dd", "e", "f"])
        for many in list(range(1, 12)) * 4:
            given = [every[next(numbers) % len(every)] for _ in range(many)]
            self.same(least_meeting(given), told_meeting(given))
            given = [lot for lot in given if lot]
            self.same(least_meeting(least_meeting(given)), least_of({tuple(lot): lot for lot in given}.values()))

    def test_the_empty_list_and_empty_lots(self):
        self.same([least_meeting([]), least_meeting([[]]), least_meeting([[], ["a"]]), least_meeting([["a"], []]),
                   least_meeting([["a"], ["a"]]), least_meeting([["b", "c"], ["a"], ["b", "c"]])],
                  [[[]], [], [], [], [["a"]], [["a", "b"], ["a", "c"]]])

    def test_five_hundred_lists_of_twelve_names(self):
        names = big_names(12)
        for many, expected in [(6, 0), (2, 12), (4, 220)]:
            given = [list(lot) for lot in combinations(names, many)][:500]
            found = within_lines(10 ** 7, least_meeting, given[::-1])
            if expected:
                self.assertEqual(found, [list(lot) for lot in combinations(names, 13 - many)])
            self.assertEqual(found, sorted(found))
            for lot in found[::20]:
                self.assertTrue(all(set(lot) & set(each) for each in given))
                self.assertFalse(any(all(set(lot) - {name} & set(each) for each in given) for name in lot))
        self.assertEqual(len(self.at_once(least_meeting, [names[at:at + 3] for at in range(0, 12, 3)])), 81)

    def test_wrong(self):
        for given in [None, True, 1, "abc", (), (["a"],), {"a": ["b"]}, [("a",)], [["b", "a"]], [["a", "a"]], [["A"]],
                      [[""]], [["abcdefghi"]], [[1]], [[True]], [["a"], None], [["a"], "b"], [["a", None]], ["a"],
                      [[["a"]]], [{"a": 1}], pair(), [pair()], [["a"], ["a", "a1"]], [["a b"]]]:
            self.raises(InvalidLots, given, least_meeting, given)

    def test_lists_may_be_changed(self):
        given = [["a", "b"], ["b", "c"]]
        found = least_meeting(given)
        found[0].append("z")
        found.clear()
        self.same([least_meeting(given), given], [[["a", "c"], ["b"]], [["a", "b"], ["b", "c"]]])
        again = least_meeting(given)
        given[0].clear()
        self.same(again, [["a", "c"], ["b"]])


class Limits(Case):
    def test_forty_entries_and_eight_stewards(self):
        for seed in range(2):
            panel = big_panel(seed, 40, 8)
            names = panel.entries()
            self.assertEqual(self.at_once(for_good, panel), [
                (one, other) for one in names for other in names
                if all(row.index(one) < row.index(other) for row in panel.rows())])
            for entry in names[::3]:
                found = self.at_once(shortest_keepoff, panel, entry)
                if found is None:
                    self.assertIn([], least_lots(panel, entry))
                    self.same(self.at_once(surely_named, panel, entry, 40), True)
                    continue
                self.same(self.at_once(is_shortest_keepoff, panel, entry, found), True)
                self.same([surely_named(panel, entry, len(found)), surely_named(panel, entry, len(found) + 1)],
                          [True, False])
                self.assertNotIn(entry, cards(panel, sorted(found + [entry])))
                lesser = self.at_once(why_kept_off, panel, entry, names)
                self.same(self.at_once(is_why_kept_off, panel, entry, names, lesser), True)
                fewer = [lot for lot in combinations([name for name in names if name != entry], len(found) - 1)]
                for lot in fewer[:2000]:
                    self.same(keeps_off(panel, entry, list(lot)), False)

    def test_a_keepoff_of_one_entry_for_each_steward(self):
        names = big_names(33)
        blocks = [names[at:at + 4] for at in range(0, 32, 4)]
        rows = [block + names[32:] + [name for name in names[:32] if name not in block] for block in blocks]
        panel = Panel(names, rows)
        found = self.at_once(shortest_keepoff, panel, names[32])
        self.same([len(found), is_shortest_keepoff(panel, names[32], found)], [8, True])
        self.same([surely_named(panel, names[32], 8), surely_named(panel, names[32], 9)], [True, False])
        self.same(is_shortest_keepoff(panel, names[32], names[:32:4]), True)
        self.same(is_shortest_keepoff(panel, names[32], names[:28:4] + names[26:27]), False)

    def test_keepoffs_of_twelve_entries(self):
        panel = big_panel(6, 12, 8)
        for entry in panel.entries():
            found = self.at_once(least_keepoffs, panel, entry)
            self.assertEqual(least_meeting(found), least_lots(panel, entry))


class Wrong(Case):
    def test_panels_and_entries(self):
        for wrong in [None, True, "abc", [["a"]], pair().rows()]:
            self.raises(InvalidPanel, wrong, for_good, wrong)
            for call in (least_keepoffs, shortest_keepoff):
                self.raises(InvalidPanel, wrong, call, wrong, None)
            for call in (keeps_off, why_kept_off, is_shortest_keepoff, surely_named):
                self.raises(InvalidPanel, wrong, call, wrong, None, None)
            self.raises(InvalidPanel, wrong, is_why_kept_off, wrong, None, None, None)
        for entry in odd_objects() + ["e", "ab"]:
            for call in (least_keepoffs, shortest_keepoff):
                self.raises(UnknownEntry, entry, call, pair(), entry)
            for call in (keeps_off, why_kept_off, is_shortest_keepoff, surely_named):
                self.raises(UnknownEntry, entry, call, pair(), entry, None)
            self.raises(UnknownEntry, entry, is_why_kept_off, pair(), entry, None, None)

    def test_lots_fields_and_counts(self):
        for lot in [None, True, "a", ("a",), {"a": 1}, ["b", "a"], ["a", "a"], ["c"], ["a", "c"], ["e"], [1], [["a"]],
                    (), {}, pair()]:
            self.raises(InvalidLot, lot, keeps_off, pair(), "c", lot)
        for field in [None, True, "c", ("c",), {"c": 1}, ["c", "a"], ["c", "c"], ["a", "b"], [], ["c", "e"], [1],
                      [["c"]], pair(), ["c", None]]:
            self.raises(InvalidField, field, why_kept_off, pair(), "c", field)
            self.raises(InvalidField, field, is_why_kept_off, pair(), "c", field, None)
        for many in [0, -1, True, False, None, "1", [1], (1,), {}, pair()]:
            self.raises(InvalidCount, many, surely_named, pair(), "c", many)
        self.same(surely_named(pair(), "c", 10 ** 30), False)

    def test_any_object_may_be_no_lot(self):
        for value in odd_objects() + [("b",), "b", ["c"], ["b", "c"], ["e"], {"b": 1}, [["b"]], ["b", None], [True],
                                      pair()]:
            self.same(is_shortest_keepoff(pair(), "c", value), False)
            self.same(is_why_kept_off(pair(), "c", ["a", "b", "c"], value), False)
        self.same([is_shortest_keepoff(pair(), "a", []), is_shortest_keepoff(pair(), "a", None)], [False, False])
        self.same(is_why_kept_off(pair(), "c", ["a", "c"], ["b"]), False)

    def test_by_name(self):
        self.same(
            [keeps_off(lot=["a"], entry="c", panel=pair()), for_good(panel=pair()) == for_good(pair()),
             least_keepoffs(entry="c", panel=pair()), least_meeting(lots=[["a"]]),
             why_kept_off(field=["b", "c", "d"], entry="d", panel=pair()),
             is_why_kept_off(value=["a"], field=["a", "c"], entry="c", panel=pair()),
             shortest_keepoff(entry="d", panel=pair()), is_shortest_keepoff(value=["a"], entry="c", panel=pair()),
             surely_named(many=2, entry="c", panel=pair())],
            [True, True, [["a"], ["b"]], [["a"]], ["b"], True, ["b"], True, False])


class Keepoffs(Case):
    def test_keep_offs_tell_all_that_a_panel_does(self):
        for panel in all_panels(ABC, 2) + [Panel(ABC, all_rows(ABC))]:
            for entry in ABC:
                self.same(least_meeting(least_keepoffs(panel, entry)), least_lots(panel, entry))


if __name__ == "__main__":
    main()
