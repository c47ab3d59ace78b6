"""[55] to [58]: hulls, spans of fields, and the lots that can be cards."""

from unittest import main

from cardpanel.errors import InvalidCount, InvalidField, InvalidLot, InvalidPanel
from cardpanel.fewest import fewest_rows
from cardpanel.panels import Panel, cards
from cardpanel.spans import (can_be_cards, field_at, field_number, fields_with, hull, is_most_cards, lots_of_cards,
                             most_cards, span_of, tally)
from support import ABC, Case, all_panels, big_names, big_panel, fields, lots, odd_objects, told_cards, told_table


def two():
    return Panel(["a", "b", "c", "d"], [["a", "b", "c", "d"], ["b", "d", "a", "c"]])


def told_hull(rows, lot):
    """The hull of a lot, by the word of the document: all fields that hold a lot and another entry are gone through."""
    every = fields(rows[0])
    held = [field for field in every if set(lot) <= set(field)]
    return sorted(lot + [name for name in rows[0] if name not in lot and not any(
        name in told_cards(rows, field) for field in held if name in field)])


class Document(Case):
    def test_first_example(self):
        self.same([hull(two(), ["a"]), hull(two(), ["b"]), hull(two(), ["c", "d"]), hull(two(), []),
                   can_be_cards(two(), ["a", "d"]), can_be_cards(two(), ["b", "d"]), can_be_cards(two(), [])],
                  [["a", "c"], ["b", "c", "d"], ["c", "d"], [], True, False, False])

    def test_second_example(self):
        self.same([span_of(two(), ["b", "d"]), fields_with(two(), ["b"]), fields_with(two(), ["b", "d"]),
                   [field_at(two(), ["b"], at) for at in range(4)], field_number(two(), ["a", "b", "d"])],
                  [(["b"], ["b", "c", "d"]), 4, 0, [["b"], ["b", "c"], ["b", "c", "d"], ["b", "d"]], 3])

    def test_third_example(self):
        self.same([lots_of_cards(two()), tally(two()), is_most_cards(two(), ["a", "b", "c"]),
                   is_most_cards(two(), ["b", "c"]), is_most_cards(two(), most_cards(two()))],
                  [[["a"], ["a", "b"], ["a", "d"], ["b"], ["c"], ["c", "d"], ["d"]], [8, 7], True, False, True])


class ByAllFields(Case):
    def check(self, panel):
        every, given = fields(panel.entries()), told_table(panel)
        by_lot = {}
        for field, lot in zip(every, given):
            by_lot.setdefault(tuple(lot), []).append(field)
        for lot in lots(panel.entries()):
            told = sorted(by_lot.get(tuple(lot), []))
            self.same(hull(panel, lot), told_hull(panel.rows(), lot))
            self.same([can_be_cards(panel, lot), fields_with(panel, lot)], [told != [], len(told)])
            self.same([field_at(panel, lot, at) for at in range(len(told))], told)
            self.raises(InvalidCount, len(told), field_at, panel, lot, len(told))
            self.same([field_number(panel, field) for field in told], list(range(len(told))))
        for field, lot in zip(every, given):
            greatest = max(by_lot[tuple(lot)], key=len)
            self.same(span_of(panel, field), (lot, greatest))
            inside = [other for other in every if set(lot) <= set(other) <= set(greatest)]
            self.assertEqual(sorted(inside), sorted(by_lot[tuple(lot)]))
        most = max(map(len, given))
        self.same(lots_of_cards(panel), sorted(map(list, by_lot)))
        self.same(tally(panel), [sum(len(lot) == many for lot in given) for many in range(1, most + 1)])
        self.same([is_most_cards(panel, field) for field in every], [len(lot) == most for lot in given])
        self.same(is_most_cards(panel, most_cards(panel)), True)
        self.assertLessEqual(most, len(fewest_rows(panel)))
        free = [lot for lot in lots_of_cards(panel) if hull(panel, lot) == lot]
        self.assertEqual(sum((-1) ** (len(lot) + 1) for lot in free), 1)

    def test_all_small_panels(self):
        for panel in all_panels(ABC, 3):
            self.check(panel)

    def test_one_entry_and_one_steward(self):
        self.check(Panel(["jam"], [["jam"], ["jam"]]))
        self.check(Panel(["a", "b", "c", "d"], [["c", "a", "d", "b"]]))

    def test_panels_of_six_entries(self):
        for seed in range(8):
            self.check(big_panel(seed, 6, 1 + seed % 6))

    def test_hulls_of_hulls(self):
        for panel in all_panels(ABC, 2):
            for lot in lots(ABC):
                self.same(hull(panel, hull(panel, lot)), hull(panel, lot))
                for lesser in lots(lot):
                    self.assertLessEqual(set(hull(panel, lesser)), set(hull(panel, lot)))


class Limits(Case):
    def test_hull_of_forty_entries(self):
        for seed in range(3):
            panel = big_panel(seed, 40, 8)
            names = panel.entries()
            for lot in [names[::9], names[3:5], names, [], names[20:]]:
                found = self.at_once(hull, panel, lot)
                told = [name for name in names if name in lot or name not in cards(panel, sorted({*lot, name}))]
                self.same(found, told)
            given = cards(panel, names[::2])
            self.same(self.at_once(span_of, panel, names[::2]), (given, hull(panel, given)))
            self.same([self.at_once(can_be_cards, panel, given), can_be_cards(panel, names)], [True, False])

    def test_twelve_entries(self):
        for stewards in [1, 3, 8]:
            panel = big_panel(4, 12, stewards)
            names = big_names(12)
            self.assertEqual(sum(self.at_once(tally, panel)), 2 ** 12 - 1)
            self.same(self.at_once(is_most_cards, panel, self.at_once(most_cards, panel)), True)
            for lot in self.at_once(lots_of_cards, panel)[::40]:
                self.assertEqual(cards(panel, lot), lot)
                many = self.at_once(fields_with, panel, lot)
                found = [self.at_once(field_at, panel, lot, number) for number in range(many)]
                self.assertEqual(found, sorted(found))
                self.assertEqual([cards(panel, field) for field in found], [lot] * many)
                self.assertEqual([field_number(panel, field) for field in found[::17]], list(range(many))[::17])
            self.same(field_at(panel, cards(panel, names), field_number(panel, names)), names)

    def test_numbers_of_spans_of_forty_entries(self):
        panel = Panel(big_names(40), [big_names(40)])
        self.same(fields_with(panel, ["naa"]), 2 ** 39)
        for number in [0, 1, 2 ** 38, 2 ** 39 - 1, 123456789]:
            self.same(field_number(panel, field_at(panel, ["naa"], number)), number)
        self.raises(InvalidCount, 2 ** 39, field_at, panel, ["naa"], 2 ** 39)


class Wrong(Case):
    def test_panels(self):
        for wrong in [None, True, "abc", [["a"]], two().rows()]:
            for call in (lots_of_cards, tally, most_cards):
                self.raises(InvalidPanel, wrong, call, wrong)
            for call in (hull, can_be_cards, span_of, fields_with, field_number, is_most_cards):
                self.raises(InvalidPanel, wrong, call, wrong, None)
            self.raises(InvalidPanel, wrong, field_at, wrong, None, None)

    def test_lots_and_fields(self):
        for lot in [None, True, "a", ("a",), {"a": 1}, ["b", "a"], ["a", "a"], ["e"], [1], [["a"]], [None], two(), ()]:
            for call in (hull, can_be_cards, fields_with):
                self.raises(InvalidLot, lot, call, two(), lot)
            self.raises(InvalidLot, lot, field_at, two(), lot, None)
            self.raises(InvalidField, lot, span_of, two(), lot)
            self.raises(InvalidField, lot, field_number, two(), lot)
        empty = []
        self.raises(InvalidField, empty, span_of, two(), empty)
        self.raises(InvalidField, empty, field_number, two(), empty)

    def test_numbers(self):
        for number in [4, 5, -1, 10 ** 30, True, False, None, "0", [0], (0,), two()]:
            self.raises(InvalidCount, number, field_at, two(), ["b"], number)
        for lot in [["b", "d"], []]:
            self.raises(InvalidCount, 0, field_at, two(), lot, 0)

    def test_any_object_may_be_no_field(self):
        for value in odd_objects() + [("a", "b"), "ab", ["b", "a"], ["a", "b", "e"], {"a": 1, "b": 2}, two()]:
            self.same(is_most_cards(two(), value), False)
        self.same(is_most_cards(two(), ["a", "b"]), True)

    def test_by_name(self):
        self.same([hull(lot=["a"], panel=two()), can_be_cards(lot=["a"], panel=two()),
                   span_of(field=["b", "d"], panel=two()), fields_with(lot=["b"], panel=two()),
                   field_at(number=3, lot=["b"], panel=two()), field_number(field=["b", "d"], panel=two())],
                  [["a", "c"], True, (["b"], ["b", "c", "d"]), 4, ["b", "d"], 3])
        self.same([lots_of_cards(panel=two()), tally(panel=two()), most_cards(panel=two()) == most_cards(two()),
                   is_most_cards(value=["a", "b"], panel=two())], [lots_of_cards(two()), [8, 7], True, True])


if __name__ == "__main__":
    main()
