"""[70] to [73]: takings, their numbers, the steps between them, and the places of entries in them."""

from itertools import combinations, product
from unittest import main

from cardpanel.alike import alike
from cardpanel.errors import InvalidCount, InvalidLot, InvalidPanel, InvalidRow, UnknownEntry
from cardpanel.heads import least_lots
from cardpanel.panels import Panel, cards
from cardpanel.takings import (are_steps, count_takeable, count_takings, held_by, is_takeable, is_taking, next_takings,
                               places_of, steps_between, taking_at, taking_number, taking_of, taking_with)
from support import (ABC, Case, all_panels, all_rows, big_names, big_panel, lots, odd_objects, told_cards,
                     within_lines)

UP, DOWN = ["a", "b", "c"], ["c", "b", "a"]


def show():
    return Panel(["a", "b", "c"], [["a", "b", "c"], ["c", "b", "a"]])


def late():
    return Panel(["a", "b", "c", "d"], [["a", "b", "c", "d"], ["b", "a", "c", "d"], ["b", "d", "a", "c"]])


def told_takings(panel):
    """All rows of takings, by the word of the document, ascending."""
    names = panel.entries()
    return [row for row in all_rows(names) if all(
        name in told_cards(panel.rows(), sorted(row[at:])) for at, name in enumerate(row))]


def unlike_pairs(one, other):
    return sum((one.index(low) < one.index(high)) != (other.index(low) < other.index(high))
               for low, high in combinations(one, 2))


def are_neighbours_exchanged(one, other):
    return any(one[:at] + [one[at + 1], one[at]] + one[at + 2:] == other for at in range(len(one) - 1))


class Document(Case):
    def test_first_example(self):
        self.same(
            [next_takings(show(), []), next_takings(show(), ["a"]), is_takeable(show(), ["b"]),
             is_taking(show(), ["b", "a", "c"]), taking_of(show(), ["b", "c"])],
            [["a", "c"], ["b", "c"], False, False, ["c", "b", "a"]])
        self.same(
            [count_takings(show()), count_takeable(show()), taking_at(show(), 2),
             taking_number(show(), ["c", "b", "a"])], [4, 7, ["c", "a", "b"], 3])

    def test_second_example(self):
        self.same(steps_between(show(), ["a", "b", "c"], ["c", "b", "a"]), [UP, ["a", "c", "b"], ["c", "a", "b"], DOWN])
        self.same([are_steps(show(), UP, ["a", "c", "b"], [UP, ["a", "c", "b"]]), are_steps(show(), UP, UP, [])],
                  [True, False])

    def test_third_example(self):
        self.same(
            [[places_of(late(), name) for name in ["a", "b", "c", "d"]], held_by(late(), "b"), held_by(late(), "a"),
             taking_with(late(), "d", 1), taking_with(late(), "a", 2)],
            [[(0, 2), (0, 1), (2, 3), (1, 3)], ["c", "d"], ["c"], ["b", "d", "a", "c"], ["b", "d", "a", "c"]])


class ByAllRows(Case):
    def check(self, panel):
        names, rows = panel.entries(), told_takings(panel)
        takeable = sorted({tuple(sorted(row[:many])) for row in rows for many in range(len(names) + 1)})
        self.same([is_takeable(panel, lot) for lot in lots(names)], [tuple(lot) in takeable for lot in lots(names)])
        self.same([is_taking(panel, row) for row in all_rows(names)], [row in rows for row in all_rows(names)])
        self.same([count_takings(panel), count_takeable(panel)], [len(rows), len(takeable)])
        self.same([taking_at(panel, number) for number in range(len(rows))], rows)
        self.same([taking_number(panel, row) for row in rows], list(range(len(rows))))
        self.raises(InvalidCount, len(rows), taking_at, panel, len(rows))
        for lot in map(list, takeable):
            left = [name for name in names if name not in lot]
            self.same(next_takings(panel, lot), told_cards(panel.rows(), left) if left else [])
            found = taking_of(panel, lot)
            self.assertTrue(found in rows and sorted(found[:len(lot)]) == lot)
        for lot in lots(names):
            if tuple(lot) not in takeable:
                self.raises(InvalidLot, lot, next_takings, panel, lot)
                self.raises(InvalidLot, lot, taking_of, panel, lot)
        for name in names:
            self.check_entry(panel, name, rows)

    def check_entry(self, panel, name, rows):
        places = sorted({row.index(name) for row in rows})
        self.same(places_of(panel, name), (places[0], places[-1]))
        self.assertEqual(places, list(range(places[0], places[-1] + 1)))
        self.assertEqual(places[0], min(map(len, least_lots(panel, name))))
        for place in places:
            found = taking_with(panel, name, place)
            self.assertTrue(found in rows and found[place] == name)
        for place in [places[0] - 1, places[-1] + 1]:
            self.raises(InvalidCount, place, taking_with, panel, name, place)
        self.same(held_by(panel, name), [other for other in panel.entries() if other != name and all(
            row.index(name) < row.index(other) for row in rows)])

    def check_steps(self, panel):
        rows = told_takings(panel)
        for one, other in product(rows, repeat=2):
            found = steps_between(panel, one, other)
            self.same([found[0], found[-1], len(found)], [one, other, unlike_pairs(one, other) + 1])
            self.assertTrue(all(row in rows for row in found))
            self.assertTrue(all(are_neighbours_exchanged(low, high) for low, high in zip(found, found[1:])))
            self.same(are_steps(panel, one, other, found), True)
            self.same([are_steps(panel, one, other, found + [other]), are_steps(panel, one, other, found[:-1]),
                       are_steps(panel, one, other, found[::-1])], [False, False, one == other])

    def test_small_panels(self):
        for panel in all_panels(ABC, 3):
            self.check(panel)
            self.check_steps(panel)

    def test_panels_of_four_and_five_entries(self):
        for seed in range(10):
            self.check(big_panel(seed, 5, 1 + seed % 5))
        for seed in range(4):
            self.check_steps(big_panel(seed, 4, 1 + seed))

    def test_one_entry_and_one_steward(self):
        self.check(Panel(["a"], [["a"], ["a"]]))
        self.check_steps(Panel(["a"], [["a"]]))
        self.check(Panel(["a", "b", "c", "d"], [["d", "b", "a", "c"]]))
        self.same(steps_between(Panel(["a"], [["a"]]), ["a"], ["a"]), [["a"]])

    def test_a_row_of_takings_adds_no_card(self):
        for panel in all_panels(ABC, 2):
            for row in all_rows(ABC):
                self.same(is_taking(panel, row), alike(panel.with_row(row), panel))

    def test_every_list_of_rows_that_could_be_steps(self):
        panel = Panel(ABC, [UP, ["b", "c", "a"], DOWN])
        rows = told_takings(panel)
        for one, other in [(UP, DOWN), (UP, UP), (UP, ["a", "c", "b"]), (["b", "a", "c"], DOWN)]:
            for many in range(5):
                for value in map(list, product(all_rows(ABC), repeat=many)):
                    told = (many == unlike_pairs(one, other) + 1 and value[0] == one and value[-1] == other
                            and all(row in rows for row in value)
                            and all(are_neighbours_exchanged(low, high) for low, high in zip(value, value[1:])))
                    self.same(are_steps(panel, one, other, value), told)


class Limits(Case):
    def forty(self):
        names = big_names(40)
        return Panel(names, [names, names[::-1]])

    def test_forty_entries_and_two_stewards(self):
        panel = self.forty()
        self.same([self.at_once(count_takings, panel), self.at_once(count_takeable, panel)], [2 ** 39, 821])
        for number in [0, 1, 2 ** 38, 2 ** 39 - 1, 98765432101]:
            row = self.at_once(taking_at, panel, number)
            self.same([is_taking(panel, row), self.at_once(taking_number, panel, row)], [True, number])
        self.same([taking_at(panel, 0), taking_at(panel, 2 ** 39 - 1)], panel.rows())
        self.raises(InvalidCount, 2 ** 39, taking_at, panel, 2 ** 39)
        names = panel.entries()
        steps = self.at_once(steps_between, panel, names, names[::-1])
        self.same([len(steps), self.at_once(are_steps, panel, names, names[::-1], steps)], [781, True])
        self.same(are_steps(panel, names, names[::-1], steps[:300] + [steps[299]] + steps[301:]), False)

    def test_twenty_entries_and_three_stewards_and_twelve_entries(self):
        names = big_names(20)
        for panel in [Panel(names, [names, names[::-1], names[1::2] + names[::2]]), big_panel(5, 12, 8)]:
            many = within_lines(10 ** 7, count_takings, panel)
            for number in [0, many // 3, many - 1]:
                row = within_lines(10 ** 7, taking_at, panel, number)
                self.assertEqual(within_lines(10 ** 7, taking_number, panel, row), number)
            self.assertEqual(taking_at(panel, many - 1), max(taking_at(panel, many - 1), max(panel.rows())))
        lots_told = {frozenset()}
        for row in panel.rows():
            lots_told = {lot | set(row[:at]) for lot in lots_told for at in range(13)}
        self.assertEqual(count_takeable(panel), len(lots_told))

    def test_forty_entries_and_eight_stewards(self):
        panel = big_panel(3, 40, 8)
        names, rows = panel.entries(), panel.rows()
        steps = self.at_once(steps_between, panel, rows[0], rows[5])
        self.same(self.at_once(are_steps, panel, rows[0], rows[5], steps), True)
        lot = sorted(set(rows[1][:9] + rows[4][:5]))
        never_first = [name for name in names if name not in [row[0] for row in rows]]
        self.same([self.at_once(is_takeable, panel, lot), self.at_once(is_takeable, panel, names),
                   is_takeable(panel, never_first[:1]), is_takeable(panel, never_first)], [True, True, False, False])
        self.same(self.at_once(next_takings, panel, lot), cards(panel, [name for name in names if name not in lot]))
        row = self.at_once(taking_of, panel, lot)
        self.same([sorted(row[:len(lot)]), self.at_once(is_taking, panel, row)], [lot, True])
        for name in names[::6]:
            first, last = self.at_once(places_of, panel, name)
            self.same(len(self.at_once(held_by, panel, name)), 39 - last)
            for place in {first, last, (first + last) // 2}:
                row = self.at_once(taking_with, panel, name, place)
                self.same([row[place], is_taking(panel, row)], [name, True])

    def test_one_row_of_forty(self):
        names = big_names(40)
        panel = Panel(names, [names])
        self.same([count_takings(panel), count_takeable(panel), taking_at(panel, 0), taking_number(panel, names)],
                  [1, 41, names, 0])


class Wrong(Case):
    def test_panels(self):
        for wrong in [None, True, "abc", [["a"]], show().rows()]:
            for call in (count_takings, count_takeable):
                self.raises(InvalidPanel, wrong, call, wrong)
            for call in (next_takings, taking_of, is_takeable, is_taking, taking_at, taking_number, places_of, held_by):
                self.raises(InvalidPanel, wrong, call, wrong, None)
            for call in (steps_between, taking_with):
                self.raises(InvalidPanel, wrong, call, wrong, None, None)
            self.raises(InvalidPanel, wrong, are_steps, wrong, None, None, None)

    def test_lots(self):
        for lot in [None, True, "a", ("a",), (), {}, {"a": 1}, ["b"], ["c", "a"], ["a", "a"], ["d"], [1], [["a"]],
                    show()]:
            self.raises(InvalidLot, lot, next_takings, show(), lot)
            self.raises(InvalidLot, lot, taking_of, show(), lot)
            self.same(is_takeable(show(), lot), False)
        self.same(next_takings(show(), ["a", "b", "c"]), [])
        self.same(is_taking(show(), taking_of(show(), ["a", "b", "c"])), True)

    def test_rows(self):
        for row in [None, True, "abc", tuple(UP), {"a": 1}, ["b", "a", "c"], ["a", "b"], ["a", "b", "d"], [], [1, 2, 3],
                    ["a", "b", "c", "c"], [UP], ["a", "b", None], show(), ["a", "b", ["c"]]]:
            self.raises(InvalidRow, row, taking_number, show(), row)
            self.raises(InvalidRow, row, steps_between, show(), row, None)
            self.raises(InvalidRow, row, steps_between, show(), UP, row)
            self.raises(InvalidRow, row, are_steps, show(), row, None, None)
            self.raises(InvalidRow, row, are_steps, show(), UP, row, None)
            self.same(is_taking(show(), row), False)

    def test_numbers_entries_and_places(self):
        for number in [4, -1, True, False, None, "0", [0], 10 ** 30, show(), ()]:
            self.raises(InvalidCount, number, taking_at, show(), number)
            self.raises(InvalidCount, number, taking_with, show(), "b", number)
        self.raises(InvalidCount, 0, taking_with, show(), "b", 0)
        for entry in odd_objects() + ["d"]:
            self.raises(UnknownEntry, entry, places_of, show(), entry)
            self.raises(UnknownEntry, entry, held_by, show(), entry)
            self.raises(UnknownEntry, entry, taking_with, show(), entry, None)

    def test_any_object(self):
        side = ["a", "c", "b"]
        for value in odd_objects():
            self.same([is_takeable(show(), value), is_taking(show(), value)], [value == [], False])
            self.same(are_steps(show(), UP, side, value), False)
        for value in [(UP, side), [tuple(UP), side], [UP, side[:2]], [UP, None], [side, UP], [UP], [UP, UP],
                      [UP, side, side], {"a": UP}, [UP, ["a", "c", 1]], show(), [UP, DOWN]]:
            self.same(are_steps(show(), UP, side, value), False)
        self.same([are_steps(show(), UP, UP, [UP]), are_steps(show(), UP, UP, [UP, UP]),
                   are_steps(show(), UP, UP, [side])], [True, False, False])
        self.same(are_steps(show(), UP, DOWN, [UP, ["b", "a", "c"], ["b", "c", "a"], DOWN]), False)

    def test_by_name(self):
        self.same(
            [next_takings(lot=["a"], panel=show()), taking_of(lot=["b", "c"], panel=show()),
             is_takeable(value=["a"], panel=show()), is_taking(value=UP, panel=show()), count_takings(panel=show()),
             count_takeable(panel=show()), taking_at(number=2, panel=show()), taking_number(row=DOWN, panel=show()),
             len(steps_between(other=DOWN, one=UP, panel=show())),
             are_steps(value=[UP], other=UP, one=UP, panel=show()), places_of(entry="b", panel=show()),
             taking_with(place=2, entry="b", panel=show())[2], held_by(entry="b", panel=show())],
            [["b", "c"], DOWN, True, True, 4, 7, ["c", "a", "b"], 3, 4, True, (1, 2), "b", []])

    def test_results_are_new(self):
        one, other = list(UP), ["a", "c", "b"]
        found = steps_between(show(), one, other)
        found[0].clear()
        found[1].append("z")
        self.same([one, other], [UP, ["a", "c", "b"]])
        again = steps_between(show(), one, one)
        one.clear()
        self.same(again, [UP])


if __name__ == "__main__":
    main()
