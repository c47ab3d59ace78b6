"""[85] to [88]: how many fields name an entry, and the chances of cards."""

from fractions import Fraction
from itertools import product
from unittest import main

from cardpanel.chances import (chance_if, chance_of_card, chance_of_cards, count_both, count_cards, count_first,
                               count_naming, counts_by_size, mean_cards)
from cardpanel.errors import InvalidChances, InvalidCount, InvalidLot, InvalidPanel, UnknownEntry
from cardpanel.heads import least_lots
from cardpanel.panels import Panel
from support import ABC, Case, all_panels, big_names, big_panel, fields, lots, odd_objects, some_numbers, told_cards


def duel():
    return Panel(["ham", "leek", "marrow"], [["ham", "leek", "marrow"], ["marrow", "ham", "leek"]])


def weather():
    return {"ham": (1, 2), "leek": (2, 3), "marrow": (3, 4)}


def some_chances(numbers, names, most=9):
    """Chances that are often 0, 1, or not in lowest terms."""
    found = {}
    for name in names:
        of = 1 + next(numbers) % most
        found[name] = (next(numbers) % (of + 1), of)
    return found


def told_chance(chances, there):
    """The chance that just some entries come, by the word of the document."""
    found = Fraction(1)
    for name, (number, of) in chances.items():
        found *= Fraction(number, of) if name in there else 1 - Fraction(number, of)
    return found


def pair(fraction):
    return fraction.numerator, fraction.denominator


def told_sum(panel, chances, counted):
    """The mean of a number that is counted on the cards of whatever is on the table."""
    found = Fraction(0)
    for field in lots(panel.entries()):
        given = told_cards(panel.rows(), field) if field else []
        found += told_chance(chances, field) * counted(given)
    return pair(found)


class Document(Case):
    def test_first_examples(self):
        self.same([count_naming(duel(), "ham"), count_naming(duel(), "leek"), count_both(duel(), "ham", "marrow"),
                   count_first(duel(), "ham", "leek"), counts_by_size(duel(), "leek")], [4, 2, 2, 2, [0, 1, 1, 0]])

    def test_second_examples(self):
        self.same([counts_by_size(duel(), "marrow"), count_cards(duel(), 2), count_cards(duel(), 3),
                   count_cards(duel(), 9)], [[0, 1, 2, 1], 5, 2, 0])

    def test_third_examples(self):
        self.same([chance_of_card(duel(), weather(), "leek"), chance_of_card(duel(), weather(), "ham"),
                   chance_of_cards(duel(), weather(), ["ham", "marrow"]),
                   chance_of_cards(duel(), weather(), ["leek"])], [(1, 3), (1, 2), (3, 8), (1, 12)])

    def test_fourth_examples(self):
        self.same([chance_of_cards(duel(), weather(), []), mean_cards(duel(), weather()),
                   chance_if(duel(), weather(), "leek", "ham"), chance_of_cards(duel(), weather(), ["ham", "leek"])],
                  [(1, 24), (19, 12), ((0, 1), (2, 3)), (0, 1)])


class Counts(Case):
    def check(self, panel):
        names = panel.entries()
        told = [(field, told_cards(panel.rows(), field)) for field in fields(names)]
        for one in names:
            self.same(count_naming(panel, one), sum(one in given for _, given in told))
            self.same(counts_by_size(panel, one),
                      [sum(one in given for field, given in told if len(field) == size)
                       for size in range(len(names) + 1)])
            for other in names:
                self.same(count_both(panel, one, other), sum(one in given and other in given for _, given in told))
                self.same(count_first(panel, one, other),
                          sum(one in given and other in field and other not in given for field, given in told))
        for many in range(len(names) + 3):
            self.same(count_cards(panel, many), sum(len(given) for field, given in told if len(field) == many))

    def test_small_panels(self):
        for panel in all_panels(ABC, 3) + all_panels(["a", "b"], 2):
            self.check(panel)

    def test_greater_panels(self):
        for seed in range(16):
            self.check(big_panel(seed, 4 + seed % 4, 1 + seed % 8))

    def test_one_entry(self):
        alone = Panel(["a"], [["a"], ["a"]])
        self.same([count_naming(alone, "a"), count_both(alone, "a", "a"), count_first(alone, "a", "a"),
                   counts_by_size(alone, "a"), count_cards(alone, 1), count_cards(alone, 0)], [1, 1, 0, [0, 1], 1, 0])

    def test_greater_counts_than_entries(self):
        self.same([count_cards(duel(), many) for many in [0, 4, 40, 10 ** 29]], [0, 0, 0, 0])

    def test_forty_entries_and_eight_lots(self):
        names = big_names(40)
        first, rest = names[:8], names[8:]
        panel = Panel(names, [[first[at]] + rest + first[:at] + first[at + 1:] for at in range(8)])
        last = rest[0]
        self.same(len(least_lots(panel, last)), 8)
        # It gets a card unless all of the first eight are there.
        self.same(self.at_once(count_naming, panel, last), 2 ** 39 - 2 ** 31)
        self.same(self.at_once(count_both, panel, last, rest[1]), 0)
        self.same(self.at_once(count_both, panel, last, first[0]), 2 ** 38 - 2 ** 31)
        self.same(self.at_once(count_first, panel, last, rest[1]), 2 ** 38 - 2 ** 30)
        counts = self.at_once(counts_by_size, panel, last)
        self.same([sum(counts), counts[1], counts[2]], [2 ** 39 - 2 ** 31, 1, 39])
        self.same(sum(self.at_once(count_cards, panel, many) for many in range(41)),
                  sum(count_naming(panel, name) for name in names))

    def test_wrong(self):
        panel = duel()
        for value in odd_objects():
            self.raises(UnknownEntry, value, count_naming, panel, value)
            self.raises(UnknownEntry, value, counts_by_size, panel, value)
            for call in (count_both, count_first):
                self.raises(UnknownEntry, value, call, panel, value, None)
                self.raises(UnknownEntry, value, call, panel, "ham", value)
        for many in [-1, True, False, None, "2", [2], (2,), {}, panel]:
            self.raises(InvalidCount, many, count_cards, panel, many)
        for wrong in odd_objects()[:-1]:
            self.raises(InvalidPanel, wrong, count_naming, wrong, "x")
            self.raises(InvalidPanel, wrong, count_both, wrong, "x", "x")
            self.raises(InvalidPanel, wrong, count_first, wrong, "x", "x")
            self.raises(InvalidPanel, wrong, counts_by_size, wrong, "x")
            self.raises(InvalidPanel, wrong, count_cards, wrong, -1)

    def test_by_name(self):
        self.same([count_naming(entry="ham", panel=duel()), count_both(other="marrow", one="ham", panel=duel()),
                   count_first(other="leek", one="ham", panel=duel()), counts_by_size(entry="leek", panel=duel()),
                   count_cards(many=2, panel=duel())], [4, 2, 2, [0, 1, 1, 0], 5])


class Chances(Case):
    def check(self, panel, chances):
        names = panel.entries()
        for name in names:
            self.same(chance_of_card(panel, chances, name), told_sum(panel, chances, lambda given: name in given))
        for lot in lots(names):
            self.same(chance_of_cards(panel, chances, lot), told_sum(panel, chances, lambda given: given == lot))
        self.same(mean_cards(panel, chances), told_sum(panel, chances, len))
        for one, other in product(names, names):
            if one != other:
                surely, never = dict(chances), dict(chances)
                surely[other], never[other] = (1, 1), (0, 1)
                found = chance_if(panel, chances, one, other)
                self.same(found, (told_sum(panel, surely, lambda given: one in given),
                                  told_sum(panel, never, lambda given: one in given)))
                self.assertLessEqual(Fraction(*found[0]), Fraction(*found[1]))
                if not any(other in lot for lot in least_lots(panel, one)):
                    self.same(found[0], found[1])

    def test_small_panels(self):
        numbers = some_numbers(3)
        for panel in all_panels(ABC, 3)[::3]:
            self.check(panel, some_chances(numbers, ABC))

    def test_greater_panels(self):
        numbers = some_numbers(4)
        for seed in range(6):
            panel = big_panel(seed, 4 + seed % 2, 1 + seed)
            self.check(panel, some_chances(numbers, panel.entries()))

    def test_nobody_or_everybody_comes(self):
        panel = duel()
        never = {name: (0, 7) for name in panel.entries()}
        surely = {name: (5, 5) for name in panel.entries()}
        self.same([mean_cards(panel, never), mean_cards(panel, surely), chance_of_cards(panel, never, []),
                   chance_of_cards(panel, surely, []), chance_of_cards(panel, surely, ["ham", "marrow"]),
                   chance_of_card(panel, never, "ham"), chance_of_card(panel, surely, "leek")],
                  [(0, 1), (2, 1), (1, 1), (0, 1), (1, 1), (0, 1), (0, 1)])
        alone = Panel(["a"], [["a"]])
        self.same([chance_of_card(alone, {"a": (2, 6)}, "a"), mean_cards(alone, {"a": (2, 6)}),
                   chance_of_cards(alone, {"a": (2, 6)}, []), chance_of_cards(alone, {"a": (2, 6)}, ["a"])],
                  [(1, 3), (1, 3), (2, 3), (1, 3)])

    def test_the_order_of_the_dictionary_means_nothing(self):
        told = dict(reversed(weather().items()))
        self.same([chance_of_card(duel(), told, "ham"), mean_cards(duel(), told)], [(1, 2), (19, 12)])

    def test_forty_entries_and_eight_lots(self):
        names, numbers = big_names(40), some_numbers(6)
        first, rest = names[:8], names[8:]
        panel = Panel(names, [[first[at]] + rest + first[:at] + first[at + 1:] for at in range(8)])
        chances = {name: (next(numbers) % 10 ** 6, 10 ** 6 - 1) for name in names}
        fractions = {name: Fraction(*told) for name, told in chances.items()}
        every = Fraction(1)
        for name in first:
            every *= fractions[name]
        self.same(self.at_once(chance_of_card, panel, chances, rest[0]), pair(fractions[rest[0]] * (1 - every)))
        found = self.at_once(mean_cards, panel, chances)
        self.same(found, pair(sum(Fraction(*chance_of_card(panel, chances, name)) for name in names)))
        away, here = self.at_once(chance_if, panel, chances, rest[0], first[3])[::-1]
        self.same(away, pair(fractions[rest[0]]))
        self.same(here, pair(fractions[rest[0]] * (1 - every / fractions[first[3]])))
        nobody = Fraction(1)
        for name in names:
            nobody *= 1 - fractions[name]
        self.same(self.at_once(chance_of_cards, panel, chances, []), pair(nobody))

    def wrong_chances(self):
        good = weather()
        wrong = odd_objects() + [list(good.items()), {**good, "rye": (1, 2)}, {"ham": (1, 2), "leek": (1, 2)},
                                 {"ham": (1, 2), "leek": (1, 2), "rye": (1, 2)}]
        for told in [None, 1, True, "1/2", [1, 2], (1,), (1, 2, 3), (3, 2), (-1, 2), (1, -2), (0, 0), (1, 0),
                     (True, 2), (1, True), (False, 1), ("1", 2), (1, None), ((1,), 2), {}, duel()]:
            wrong.append({**good, "leek": told})
        return wrong

    def test_wrong_chances(self):
        panel = duel()
        for chances in self.wrong_chances():
            self.raises(InvalidChances, chances, chance_of_card, panel, chances, None)
            self.raises(InvalidChances, chances, chance_of_cards, panel, chances, None)
            self.raises(InvalidChances, chances, mean_cards, panel, chances)
            self.raises(InvalidChances, chances, chance_if, panel, chances, None, None)

    def test_other_wrong_arguments(self):
        panel = duel()
        for value in odd_objects():
            self.raises(UnknownEntry, value, chance_of_card, panel, weather(), value)
            self.raises(UnknownEntry, value, chance_if, panel, weather(), value, value)
            self.raises(UnknownEntry, value, chance_if, panel, weather(), "ham", value)
            if value != []:
                self.raises(InvalidLot, value, chance_of_cards, panel, weather(), value)
        self.raises(UnknownEntry, "ham", chance_if, panel, weather(), "ham", "ham")
        for lot in [["marrow", "ham"], ("ham",), ["ham", "ham"], "ham", ["rye"]]:
            self.raises(InvalidLot, lot, chance_of_cards, panel, weather(), lot)
        for wrong in odd_objects()[:-1]:
            self.raises(InvalidPanel, wrong, chance_of_card, wrong, None, None)
            self.raises(InvalidPanel, wrong, chance_of_cards, wrong, None, None)
            self.raises(InvalidPanel, wrong, mean_cards, wrong, None)
            self.raises(InvalidPanel, wrong, chance_if, wrong, None, None, None)

    def test_by_name(self):
        self.same([chance_of_card(entry="leek", chances=weather(), panel=duel()),
                   chance_of_cards(lot=["leek"], chances=weather(), panel=duel()),
                   mean_cards(chances=weather(), panel=duel()),
                   chance_if(other="ham", entry="leek", chances=weather(), panel=duel())],
                  [(1, 3), (1, 12), (19, 12), ((0, 1), (2, 3))])


if __name__ == "__main__":
    main()
