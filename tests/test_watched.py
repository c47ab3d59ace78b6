"""[110] to [113]: watched rounds, what is sure by them and what is open."""

from itertools import combinations
from unittest import main

from cardpanel.books import Book, keeps, some_panel, why_none
from cardpanel.errors import Clash, InvalidEntries, InvalidField, InvalidRounds, UnknownEntry
from cardpanel.panels import Panel
from cardpanel.watched import (are_open_panels, book_of_rounds, fits, fitting_panel, is_fitting_panel, least_clashes,
                               open_panels, verdict, why_none_fits, worth_watching)
from support import (ABC, Case, all_panels, big_names, big_panel, fields, odd_objects, shuffled, some_numbers,
                     told_cards)

NAMES = ["ale", "bun", "cob"]
PANELS = all_panels(ABC, 6)


def seen():
    return [(["ale", "bun"], ["ale"]), (["bun", "cob"], ["bun", "cob"])]


def wrong():
    return seen() + [(["ale", "bun", "cob"], ["bun"])]


def told_fits(panel, rounds):
    return all(told_cards(panel.rows(), field) == given for field, given in rounds)


def every_round(entries):
    return [(field, given) for field in fields(entries) for given in fields(field)]


def some_rounds(seed, many, most, entries=ABC):
    """Lists of rounds, about half of them such that a panel fits."""
    numbers, every = some_numbers(seed), every_round(entries)
    for at in range(many):
        count = next(numbers) % (most + 1)
        if at % 2:
            yield [every[next(numbers) % len(every)] for _ in range(count)]
        else:
            rows = [shuffled(numbers, entries) for _ in range(1 + next(numbers) % 3)]
            chosen = [fields(entries)[next(numbers) % (2 ** len(entries) - 1)] for _ in range(count)]
            yield [(field, told_cards(rows, field)) for field in chosen]


class Document(Case):
    def test_first_examples(self):
        self.same([fits(NAMES, seen()), verdict(NAMES, seen(), ["ale", "bun", "cob"]),
                   verdict(NAMES, seen(), ["ale", "cob"])],
                  [True, {"ale": "card", "bun": "none", "cob": "open"}, {"ale": "card", "cob": "open"}])

    def test_second_examples(self):
        self.same(
            [is_fitting_panel(NAMES, seen(), fitting_panel(NAMES, seen())),
             are_open_panels(NAMES, seen(), NAMES, "cob", open_panels(NAMES, seen(), NAMES, "cob")),
             open_panels(NAMES, seen(), NAMES, "ale"),
             worth_watching(NAMES, seen(), [["ale"], ["ale", "cob"], NAMES])], [True, True, None, [1, 2]])

    def test_third_examples(self):
        self.same(
            [fits(NAMES, wrong()), least_clashes(NAMES, wrong()), fitting_panel(NAMES, wrong()),
             why_none_fits(NAMES, seen()), book_of_rounds(NAMES, seen()).lines()],
            [False, [[0, 2], [1, 2]], None, None,
             [("call", ["ale", "bun"], "ale"), ("call", ["bun", "cob"], "bun"), ("call", ["bun", "cob"], "cob"),
              ("off", ["ale"], "bun")]])


class Fitting(Case):
    def test_all_panels(self):
        for rounds in some_rounds(1, 120, 5):
            told = [told_fits(panel, rounds) for panel in PANELS]
            book = book_of_rounds(["b", "a", "c"], rounds)
            lines = [("off", given, name) for field, given in rounds for name in field if name not in given]
            lines += [("call", field, name) for field, given in rounds for name in given]
            self.assertTrue(book == Book(ABC, lines))
            self.same([keeps(book, panel) for panel in PANELS], told)
            self.same([is_fitting_panel(["c", "a", "b"], rounds, panel) for panel in PANELS], told)
            found = fitting_panel(ABC, rounds)
            self.same([fits(ABC, rounds), found is not None], [any(told)] * 2)
            self.same(why_none_fits(ABC, rounds), why_none(book))
            if found is not None:
                self.same(told_fits(found, rounds), True)

    def test_least_clashes(self):
        for rounds in some_rounds(2, 120, 5):
            clashing = [frozenset(some) for many in range(1, len(rounds) + 1)
                        for some in combinations(range(len(rounds)), many)
                        if not any(told_fits(panel, [rounds[at] for at in some]) for panel in PANELS)]
            least = [sorted(some) for some in clashing if not any(other < some for other in clashing)]
            self.same(least_clashes(ABC, rounds), sorted(least))

    def test_no_rounds_and_one_entry(self):
        self.same([fits(["a"], []), fitting_panel(["a"], []).rows(), least_clashes(["a"], []),
                   why_none_fits(["a"], []), book_of_rounds(["a"], []).lines(), verdict(["a"], [], ["a"]),
                   open_panels(["a"], [], ["a"], "a"), worth_watching(["a"], [], [["a"], ["a"]]),
                   worth_watching(["a"], [(["a"], ["a"])], [])],
                  [True, [["a"]], [], None, [], {"a": "card"}, None, [], []])
        self.same(verdict(ABC, [], ["a", "b"]), {"a": "open", "b": "open"})

    def test_a_round_twice_and_rounds_that_clash(self):
        twice = [(["a", "b"], ["a"]), (["a", "b"], ["b"]), (["a", "b"], ["a"])]
        self.same([least_clashes(ABC, twice), least_clashes(ABC, twice[::2]), fits(ABC, twice)],
                  [[[0, 1], [1, 2]], [], False])
        self.same(book_of_rounds(ABC, twice[::2]).lines(), [("call", ["a", "b"], "a"), ("off", ["a"], "b")])

    def test_clashes_ascend_whatever_their_lengths(self):
        ring = [(["a", "b"], ["a"]), (["b", "c"], ["b"]), (["a", "c"], ["c"])]
        rounds = [ring[0], (["b", "d"], ["b"]), (["b", "d"], ["d"]), ring[1], ring[2]]
        self.same(least_clashes(["a", "b", "c", "d"], rounds), [[0, 3, 4], [1, 2]])
        self.same(least_clashes(["d", "c", "b", "a"], rounds[::-1]), [[0, 1, 4], [2, 3]])

    def test_panels_of_other_entries_do_not_fit(self):
        for panel in [Panel(["ale", "bun"], [["ale", "bun"]]), Panel(["x"], [["x"]]), Panel(
                ["ale", "bun", "cob", "dip"], [["ale", "bun", "cob", "dip"]])]:
            for rounds in [[], [(["ale", "bun"], ["ale"])]]:
                self.same(is_fitting_panel(NAMES, rounds, panel), False)
        self.same(is_fitting_panel(NAMES, [], Panel(NAMES, [NAMES])), True)

    def test_any_object(self):
        for value in odd_objects() + [[["ale", "bun", "cob"]], Panel(["ale", "bun"], [["ale", "bun"]]),
                                      (fitting_panel(NAMES, seen()),)]:
            self.same(is_fitting_panel(NAMES, seen(), value), False)


class Verdicts(Case):
    def test_all_panels(self):
        for rounds in some_rounds(3, 120, 4):
            fitting = [panel for panel in PANELS if told_fits(panel, rounds)]
            if not fitting:
                self.raises(Clash, rounds, verdict, ABC, rounds, None)
                self.raises(Clash, rounds, open_panels, ABC, rounds, None, None)
                self.raises(Clash, rounds, are_open_panels, ABC, rounds, None, None, None)
                self.raises(Clash, rounds, worth_watching, ABC, rounds, None)
                continue
            watch = []
            for at, field in enumerate(fields(ABC)):
                told = {}
                for name in field:
                    given = {name in told_cards(panel.rows(), field) for panel in fitting}
                    told[name] = "open" if len(given) == 2 else "card" if True in given else "none"
                self.same(verdict(["b", "c", "a"], rounds, field), told)
                if "open" in told.values():
                    watch.append(at)
                for name in field:
                    found = open_panels(ABC, rounds, field, name)
                    if told[name] == "open":
                        self.same([told_fits(panel, rounds) for panel in found], [True, True])
                        self.same([name in told_cards(panel.rows(), field) for panel in found], [True, False])
                        self.same(are_open_panels(ABC, rounds, field, name, found), True)
                        self.same(are_open_panels(ABC, rounds, field, name, found[::-1]), False)
                    else:
                        self.same(found, None)
            self.same(worth_watching(ABC, rounds, fields(ABC)), watch)

    def test_all_pairs_of_panels(self):
        for rounds in [[], seen_abc(), [(["a", "b", "c"], ["a", "b"])]]:
            for field, name in [(["a", "b", "c"], "c"), (["a", "c"], "a"), (["b", "c"], "b")]:
                gives = [name in told_cards(panel.rows(), field) for panel in PANELS]
                good = [told_fits(panel, rounds) for panel in PANELS]
                for at, one in enumerate(PANELS[:41]):
                    for place, other in enumerate(PANELS[:41]):
                        self.same(are_open_panels(ABC, rounds, field, name, (one, other)),
                                  good[at] and good[place] and gives[at] and not gives[place])

    def test_any_object_may_be_no_open_panels(self):
        one, other = open_panels(NAMES, seen(), NAMES, "cob")
        for value in odd_objects() + [[one, other], (one,), (one, other, one), (other, one), (one, one), (one, None),
                                      (one, other.rows()), (Panel(["ale"], [["ale"]]), other), (None, other),
                                      (one.with_row(["bun", "ale", "cob"]), other)]:
            self.same(are_open_panels(NAMES, seen(), NAMES, "cob", value), False)

    def test_wrong_fields_and_entries(self):
        for field in odd_objects() + [["ale", "rye"], ["bun", "ale"], ("ale",), "ale", ["ale", "ale"]]:
            self.raises(InvalidField, field, verdict, NAMES, seen(), field)
            self.raises(InvalidField, field, open_panels, NAMES, seen(), field, None)
            self.raises(InvalidField, field, are_open_panels, NAMES, seen(), field, None, None)
            some = [["ale"], field]
            self.raises(InvalidField, some, worth_watching, NAMES, seen(), some)
        for entry in odd_objects() + ["cob", "rye", ["ale"]]:
            self.raises(UnknownEntry, entry, open_panels, NAMES, seen(), ["ale", "bun"], entry)
            self.raises(UnknownEntry, entry, are_open_panels, NAMES, seen(), ["ale", "bun"], entry, None)
        for some in [None, True, "ale", ("ale",), (["ale"],), {"a": ["ale"]}, Panel(["ale"], [["ale"]])]:
            self.raises(InvalidField, some, worth_watching, NAMES, seen(), some)

    def test_by_name(self):
        rounds = seen()
        self.same(
            [fits(rounds=rounds, entries=NAMES), verdict(field=["ale"], rounds=rounds, entries=NAMES),
             open_panels(entry="ale", field=NAMES, rounds=rounds, entries=NAMES),
             are_open_panels(value=None, entry="ale", field=NAMES, rounds=rounds, entries=NAMES),
             worth_watching(fields=[NAMES], rounds=rounds, entries=NAMES),
             is_fitting_panel(value=fitting_panel(rounds=rounds, entries=NAMES), rounds=rounds, entries=NAMES),
             why_none_fits(rounds=rounds, entries=NAMES), least_clashes(rounds=rounds, entries=NAMES),
             len(book_of_rounds(rounds=rounds, entries=NAMES).lines())],
            [True, {"ale": "card"}, None, False, [0], True, None, [], 4])


def seen_abc():
    return [(["a", "b"], ["a"]), (["b", "c"], ["b", "c"])]


CALLS = [(book_of_rounds, 0), (fits, 0), (fitting_panel, 0), (is_fitting_panel, 1), (why_none_fits, 0),
         (least_clashes, 0), (verdict, 1), (open_panels, 2), (are_open_panels, 3), (worth_watching, 1)]


class WrongRounds(Case):
    def test_wrong_entries(self):
        for entries in [None, [], ("a",), ["a", "a"], ["A"], "abc", {"a": 1}, [1], [["a"]], True]:
            for call, more in CALLS:
                self.raises(InvalidEntries, entries, call, entries, None, *[None] * more)

    def test_wrong_rounds(self):
        good = (["a", "b"], ["a"])
        wrong_ones = [(), (["a"],), (["a", "b"], ["c"]), (["a", "b"], []), ([], []), (["b", "a"], ["a"]),
                      (["a", "b"], ["b", "a"]), (["a", "b"], ["a", "a"]), (("a", "b"), ["a"]), (["a", "b"], ("a",)),
                      [["a", "b"], ["a"]], (["a", "b"], ["a"], None), (["a", "d"], ["a"]), (["a", 1], ["a"]), None,
                      (["a", "b"], "a"), ("a", "a"), (["a", "b"], None), (["a", "b"], [True]), {"a": ["a"]},
                      ([["a"]], [["a"]]), (["a"], ["a", "b"])]
        lists = [[good, each] for each in wrong_ones] + odd_objects() + [(good,), {"a": good}, good, [good, good, []]]
        for rounds in lists:
            if rounds != []:
                for call, more in CALLS:
                    self.raises(InvalidRounds, rounds, call, ABC, rounds, *[None] * more)


class Limits(Case):
    def rounds(self, seed, many, most):
        numbers, panel = some_numbers(seed), big_panel(seed, 12, 6)
        chosen = [sorted(shuffled(numbers, panel.entries())[:2 + next(numbers) % most]) for _ in range(many)]
        return panel, [(field, told_cards(panel.rows(), field)) for field in chosen]

    def test_twelve_rounds_of_twelve_entries(self):
        for seed, most in [(1, 3), (2, 7), (3, 11)]:
            panel, rounds = self.rounds(seed, 12, most)
            names = panel.entries()
            self.same(self.at_once(is_fitting_panel, names, rounds, self.at_once(fitting_panel, names, rounds)), True)
            told = self.at_once(verdict, names, rounds, names)
            given = told_cards(panel.rows(), names)
            self.assertTrue(all(word != ("none" if name in given else "card") for name, word in told.items()))
            for name in names:
                found = self.at_once(open_panels, names, rounds, names, name)
                self.same(found is not None, told[name] == "open")
                if found is not None:
                    self.same(self.at_once(are_open_panels, names, rounds, names, name, found), True)
            some = [field for field, _ in rounds] + fields(names[:6])
            watch = self.at_once(worth_watching, names, rounds, some)
            self.same(watch[:12], [at for at in watch if at >= 12][:12])
            self.same(watch, [at for at, field in enumerate(some) if "open" in verdict(names, rounds, field).values()])

    def test_eight_rounds_that_clash_all_together(self):
        names = big_names(12)
        rest = names[8:]
        rounds = [(sorted([names[at], names[(at + 1) % 8]] + rest), sorted([names[at]] + rest)) for at in range(8)]
        self.same(self.at_once(least_clashes, names, rounds), [list(range(8))])
        self.same([self.at_once(fits, names, rounds[1:]), some_panel(book_of_rounds(names, rounds))], [True, None])


if __name__ == "__main__":
    main()
