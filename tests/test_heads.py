"""[35] to [38]: least ahead lots, heads and families."""

from itertools import combinations, product
from unittest import main

from cardpanel.errors import InvalidField, InvalidLot, InvalidLots, InvalidPanel, UnknownEntry
from cardpanel.heads import (are_lots, cards_by, heads, is_panel_of, least_lots, lots_of, panel_of, stewards_of,
                             unbuilt)
from cardpanel.panels import Panel, cards
from support import ABC, Case, all_panels, all_rows, big_panel, fields, lots, odd_objects


def garden():
    return Panel(["jam", "leek", "rose"], [["jam", "leek", "rose"], ["rose", "jam", "leek"]])


def told_lots(panel, entry):
    """The least ahead lots of an entry, by the word of the document."""
    ahead = [set(row[:row.index(entry)]) for row in panel.rows()]
    least = [lot for lot in ahead if not any(other < lot for other in ahead)]
    return sorted({tuple(sorted(lot)) for lot in least})


def families(entries):
    """All families of some entries."""
    choices = []
    for name in entries:
        of_others = lots([other for other in entries if other != name])
        apart = []
        for many in range(1, len(of_others) + 1):
            for some in combinations(sorted(of_others), many):
                if not any(set(one) < set(other) for one in some for other in some):
                    apart.append([list(lot) for lot in some])
        choices.append(apart)
    return [dict(zip(entries, chosen)) for chosen in product(*choices)]


def can_be_built(family, lot):
    """Whether some order of the entries of a lot takes each behind one of its lots."""
    return any(
        all(any(set(one) <= set(order[:at]) for one in family[name]) for at, name in enumerate(order))
        for order in all_rows(lot))


WRONG_FAMILIES = [
    None, 1, True, "a", [], (), {}, ["a"], [[]], {"a": []}, {"a": [[]], "b": []}, {"a": None}, {"a": {}},
    {"a": "x"}, {"a": ()}, {"a": ([],)}, {"a": [()]}, {"a": [["a"]]}, {"a": [["b"]]}, {"a": [[], []]},
    {"a": [[]], "b": [[], ["a"]]}, {"a": [[]], "b": [["a"], []]}, {"A": [[]]}, {1: [[]]}, {(): [[]]}, {None: [[]]},
    {"": [[]]}, {"abcdefghi": [[]]}, {"a": [[]], "b": [("a",)]}, {"a": [[]], "b": ["a"]}, {"a": [[]], "b": [[1]]},
    {"a": [[]], "b": [[]], "c": [["b"], ["a"]]}, {"a": [[]], "b": [[]], "c": [["b", "a"]]},
    {"a": [[]], "b": [[]], "c": [["a"], ["a", "b"]]}, {"a": [[]], "b": [[]], "c": [["a"], ["a"]]},
    {"a": [[]], "b": [[]], "c": [["a", "a"]]}, {"a": [[]], "b": [["a"]], "c": [["d"]]}, {"a": [[]], 1: [["a"]]},
    {"a": [[]], "b": [[]], "c": [["a"], ["d"]]}, {"a": [[]], "b": [[]], "c": [["a"], 1]},
    {"a": [[]], "b": [[]], "c": [["a"], ["b", "c"]]}, {"a": [[]], "b": [[["a"]]]}, {"a": [[]], "b": [None]}, Panel(["a"], [["a"]]), {"a": Panel(["a"], [["a"]])},
]
RINGS = [
    {"a": [["b"]], "b": [["a"]]},
    {"a": [["c"]], "b": [["a"]], "c": [["b"]]},
    {"a": [[]], "b": [["a"]], "c": [["b"]]},
    {"a": [[]], "b": [["c"]], "c": [["b"]]},
    {"a": [[]], "b": [["c"]], "c": [["a"], ["b"]]},
]


class Document(Case):
    def test_first_example(self):
        self.same(
            [least_lots(garden(), "leek"), lots_of(garden()), heads(garden())],
            [[["jam"]], {"jam": [[]], "leek": [["jam"]], "rose": [[]]},
             [([], "jam"), ([], "rose"), (["jam"], "leek")]])

    def test_second_example(self):
        self.same(
            [stewards_of(garden(), [], "rose"), stewards_of(garden(), ["jam"], "leek"),
             stewards_of(garden(), ["leek"], "jam"), cards_by(lots_of(garden()), ["leek", "rose"])],
            [[1], [0], [], ["leek", "rose"]])

    def test_third_example(self):
        some = {"a": [[]], "b": [["a"]], "c": [["a", "b"]]}
        others = {"a": [[]], "b": [["a"]], "c": [["b"]]}
        self.same(
            [are_lots(some), are_lots(others), unbuilt(others),
             is_panel_of(some, Panel(["a", "b", "c"], [["a", "b", "c"]])),
             is_panel_of(lots_of(garden()), panel_of(lots_of(garden())))],
            [True, False, [(["b"], "c")], True, True])


class LeastLots(Case):
    def test_all_small_panels(self):
        for panel in all_panels(ABC, 3):
            told = {entry: [list(lot) for lot in told_lots(panel, entry)] for entry in ABC}
            self.same(lots_of(panel), told)
            self.same([least_lots(panel, entry) for entry in ABC], list(told.values()))
            self.same(heads(panel), sorted((lot, entry) for entry in ABC for lot in told[entry]))

    def test_big_panel(self):
        panel = big_panel(7, 40, 8)
        for entry in panel.entries():
            self.same(least_lots(panel, entry), [list(lot) for lot in told_lots(panel, entry)])

    def test_one_entry(self):
        panel = Panel(["a"], [["a"], ["a"]])
        self.same([lots_of(panel), least_lots(panel, "a"), heads(panel)], [{"a": [[]]}, [[]], [([], "a")]])

    def test_one_steward(self):
        panel = Panel(["c", "b", "a"], [["c", "a", "b"]])
        self.same(lots_of(panel), {"a": [["c"]], "b": [["a", "c"]], "c": [[]]})
        self.same(heads(panel), [([], "c"), (["a", "c"], "b"), (["c"], "a")])

    def test_the_last_of_a_row_and_equal_lots_in_another_order(self):
        panel = Panel(ABC, [["a", "b", "c"], ["b", "a", "c"]])
        self.same(lots_of(panel), {"a": [[]], "b": [[]], "c": [["a", "b"]]})

    def test_a_lot_that_holds_another_one_is_left_out(self):
        panel = Panel(["a", "b", "c", "d"], [["a", "b", "c", "d"], ["a", "d", "c", "b"], ["b", "a", "c", "d"]])
        self.same(least_lots(panel, "d"), [["a"]])
        self.same(least_lots(panel, "c"), [["a", "b"], ["a", "d"]])

    def test_lots_are_ordered_as_lists_are(self):
        panel = Panel(["a", "b", "c", "d"], [["b", "d", "a", "c"], ["a", "c", "d", "b"], ["c", "d", "b", "a"]])
        self.same(least_lots(panel, "d"), [["a", "c"], ["b"], ["c"]][1:])
        panel = Panel(["a", "b", "c", "d"], [["b", "d", "a", "c"], ["a", "c", "d", "b"]])
        self.same(least_lots(panel, "d"), [["a", "c"], ["b"]])

    def test_dictionary_ascends(self):
        self.same(list(lots_of(Panel(["c", "a", "b"], [["c", "b", "a"]]))), ABC)

    def test_they_tell_all_cards(self):
        for panel in all_panels(ABC, 3):
            family = lots_of(panel)
            for field in fields(ABC):
                self.same(cards_by(family, field), cards(panel, field))

    def test_every_head_shows(self):
        for panel in all_panels(ABC, 2):
            for lot, entry in heads(panel):
                field = [name for name in ABC if name not in lot]
                self.assertIn(entry, cards(panel, field))

    def test_calls_by_name(self):
        self.same(least_lots(entry="leek", panel=garden()), [["jam"]])
        self.same(lots_of(panel=garden()), lots_of(garden()))
        self.same(heads(panel=garden()), heads(garden()))
        self.same(stewards_of(entry="rose", lot=[], panel=garden()), [1])
        self.same(cards_by(field=["leek", "rose"], lots=lots_of(garden())), ["leek", "rose"])
        self.same(unbuilt(lots=lots_of(garden())), [])
        self.same(are_lots(value=lots_of(garden())), True)
        self.assertIsInstance(panel_of(lots=lots_of(garden())), Panel)
        self.same(is_panel_of(value=garden(), lots=lots_of(garden())), True)

    def test_wrong(self):
        for panel in [None, 1, {"a": [[]]}, [["a"]], "a"]:
            self.raises(InvalidPanel, panel, least_lots, panel, None)
            self.raises(InvalidPanel, panel, lots_of, panel)
            self.raises(InvalidPanel, panel, heads, panel)
            self.raises(InvalidPanel, panel, stewards_of, panel, None, None)
        for entry in odd_objects() + ["rye"]:
            self.raises(UnknownEntry, entry, least_lots, garden(), entry)


class StewardsOf(Case):
    def test_all_small_panels(self):
        for panel in all_panels(ABC, 2):
            for entry in ABC:
                for lot in lots(ABC):
                    told = [at for at, row in enumerate(panel.rows()) if sorted(row[:row.index(entry)]) == lot]
                    self.same(stewards_of(panel, lot, entry), told)

    def test_rows_that_stand_there_twice(self):
        panel = Panel(ABC, [["a", "b", "c"], ["b", "a", "c"], ["a", "c", "b"], ["a", "b", "c"]])
        self.same(stewards_of(panel, ["a", "b"], "c"), [0, 1, 3])
        self.same(stewards_of(panel, [], "c"), [])

    def test_lots_that_are_no_least_ones(self):
        panel = Panel(ABC, [["a", "b", "c"], ["b", "c", "a"]])
        self.same(stewards_of(panel, ["a", "b"], "c"), [0])

    def test_a_lot_with_the_entry_and_one_of_all(self):
        self.same(stewards_of(garden(), ["jam", "leek"], "leek"), [])
        self.same(stewards_of(garden(), ["jam", "leek", "rose"], "leek"), [])

    def test_wrong(self):
        for lot in [None, "jam", ("jam",), ["leek", "jam"], ["jam", "jam"], ["rye"], [1], [["jam"]], {"jam": 1}, {},
                    True, garden()]:
            self.raises(InvalidLot, lot, stewards_of, garden(), lot, None)
        for entry in odd_objects() + ["rye"]:
            self.raises(UnknownEntry, entry, stewards_of, garden(), ["jam"], entry)


class Families(Case):
    def test_cards_by_goes_by_the_lots_alone(self):
        family = {"b": [["a"]], "a": [["b"]]}
        self.same(cards_by(family, ["a", "b"]), [])
        self.same(cards_by(family, ["b"]), ["b"])
        self.same(cards_by({"a": [[]]}, ["a"]), ["a"])
        self.same(cards_by({"a": [[]], "b": [["a"]], "c": [["a"], ["b"]]}, ["a", "c"]), ["a", "c"])
        self.same(cards_by({"a": [[]], "b": [["a"]], "c": [["a"], ["b"]]}, ["b", "c"]), ["b", "c"])
        self.same(cards_by({"a": [[]], "b": [["a"]], "c": [["a", "b"]]}, ["b", "c"]), ["b"])

    def test_order_of_keys_means_nothing(self):
        family = {"c": [["a", "b"]], "a": [[]], "b": [["a"]]}
        self.same(cards_by(family, ["b", "c"]), ["b"])
        self.same(unbuilt(family), [])
        self.same(are_lots(family), True)
        self.same(is_panel_of(family, Panel(ABC, [ABC])), True)
        self.same(is_panel_of(family, panel_of(family)), True)

    def test_built_lots(self):
        for family in families(ABC):
            told = sorted((lot, name) for name in ABC for lot in family[name] if not can_be_built(family, lot))
            self.same(unbuilt(family), told)

    def test_rings(self):
        self.same([unbuilt(family) for family in RINGS], [
            [(["a"], "b"), (["b"], "a")],
            [(["a"], "b"), (["b"], "c"), (["c"], "a")],
            [(["b"], "c")],
            [(["b"], "c"), (["c"], "b")],
            [(["b"], "c"), (["c"], "b")],
        ])
        self.same([are_lots(family) for family in RINGS], [False] * len(RINGS))

    def test_a_lot_is_built_of_its_own_entries_alone(self):
        family = {"a": [[]], "b": [["a"]], "c": [["a"]], "d": [["b", "c"]]}
        self.same(unbuilt(family), [(["b", "c"], "d")])

    def test_just_the_lots_of_panels_are_lots(self):
        rows = all_rows(ABC)
        real = [lots_of(Panel(ABC, list(some))) for many in range(1, 7) for some in combinations(rows, many)]
        for family in families(ABC):
            self.same(are_lots(family), family in real)
            self.assertEqual(unbuilt(family) == [], family in real)

    def test_one_entry(self):
        self.same([are_lots({"jam": [[]]}), unbuilt({"jam": [[]]})], [True, []])
        self.assertEqual(panel_of({"jam": [[]]}), Panel(["jam"], [["jam"]]))
        self.same(is_panel_of({"jam": [[]]}, Panel(["jam"], [["jam"], ["jam"]])), True)

    def test_wrong_families(self):
        for family in WRONG_FAMILIES:
            self.same(are_lots(family), False)
            self.raises(InvalidLots, family, cards_by, family, None)
            self.raises(InvalidLots, family, unbuilt, family)
            self.raises(InvalidLots, family, panel_of, family)
            self.raises(InvalidLots, family, is_panel_of, family, None)

    def test_wrong_fields(self):
        family = {"a": [[]], "b": [["a"]]}
        for field in [[], ["b", "a"], ["a", "a"], ["a", "c"], ("a",), "a", None, {"a": 1}, [1], [["a"]], True,
                      garden()]:
            self.raises(InvalidField, field, cards_by, family, field)

    def test_any_object_may_be_no_lots(self):
        for value in odd_objects():
            self.same(are_lots(value), False)


class PanelOf(Case):
    def check(self, family):
        panel = panel_of(family)
        self.assertEqual(lots_of(panel), family)
        self.assertEqual(panel.entries(), sorted(family))
        self.assertLessEqual(len(panel), sum(len(each) for each in family.values()))
        self.same(is_panel_of(family, panel), True)
        self.same(is_panel_of(family, panel.with_row(panel.rows()[0])), True)

    def test_all_small_families(self):
        for family in families(ABC):
            if are_lots(family):
                self.check(family)

    def test_greater_families(self):
        for seed in range(20):
            self.check(lots_of(big_panel(seed, 4 + seed % 8, 2 + seed % 5)))
        self.check(lots_of(big_panel(21, 40, 1)))

    def test_sixty_lots(self):
        family = lots_of(big_panel(9, 20, 5))
        self.assertEqual(sum(len(each) for each in family.values()), 60)
        self.check(family)

    def test_rings_have_no_panel(self):
        for family in RINGS:
            self.raises(InvalidLots, family, panel_of, family)
            self.raises(InvalidLots, family, is_panel_of, family, None)

    def test_is_panel_of_all_small_panels(self):
        panels = all_panels(ABC, 3)
        for one in panels[:20]:
            family = lots_of(one)
            for other in panels:
                self.same(is_panel_of(family, other), lots_of(other) == family)

    def test_is_panel_of_any_object(self):
        family = lots_of(garden())
        for value in odd_objects() + [garden().rows(), family, garden().struck(["jam"]), InvalidPanel(garden())]:
            self.same(is_panel_of(family, value), False)
        other = garden().renamed({"jam": "jam", "leek": "leek", "rose": "rye"})
        self.same(is_panel_of(family, other), False)


if __name__ == "__main__":
    main()
