"""What the tests share: wrong arguments, plain answers by going through everything, and big panels."""

import sys
from itertools import chain, combinations, permutations
from unittest import TestCase

from cardpanel.panels import Panel

ABC = ["a", "b", "c"]


def odd_objects():
    """Objects that are no entry, no field, no family and no panel of any entries that the tests use."""
    return [None, True, False, -1, 10 ** 30, "", "A", "a b", "a1", "abcdefghi", (), ("a",), [], [1], [["a"]], [None],
            ["a", "a"], ["b", "a"], {}, {"a": 1}, {1: []}, {(): ()}, Panel(["zz"], [["zz"]])]


class Case(TestCase):
    """Tests with errors that hold the very argument."""

    def raises(self, error, value, call, *passed, **named):
        with self.assertRaises(error) as caught:
            call(*passed, **named)
        self.assertIs(type(caught.exception), error)
        self.assertIs(caught.exception.value, value)

    def at_once(self, call, *passed):
        """What a call returns, if it does so within some two million lines of code.

        Going through the fields of 40 entries takes 2 ** 40. A count is the same on a busy machine, unlike a clock.
        """
        return within_lines(2 * 10 ** 6, call, *passed)

    def same(self, found, expected):
        """Equal, and of the same kinds all the way down, dictionaries in the same order, too."""
        self.assertEqual(found, expected)
        self.assertEqual(repr(found), repr(expected))


def within_lines(most, call, *passed):
    """What a call returns, if it carries out no more than so many lines of code; each turn of a loop counts."""
    counted, before = 0, sys.gettrace()

    def trace(frame, event, passed_on):
        nonlocal counted
        counted += event == "line"
        if counted > most:
            raise AssertionError(f"more than {most} lines of code")
        return trace

    sys.settrace(trace)
    try:
        return call(*passed)
    finally:
        sys.settrace(before)


def fields(entries):
    """All fields of some entries, the short ones first."""
    names = sorted(entries)
    return [list(field) for field in chain.from_iterable(combinations(names, n) for n in range(1, len(names) + 1))]


def lots(entries):
    """All lots of some entries."""
    return [[]] + fields(entries)


def told_cards(rows, field):
    """The cards of a field, by the word of the document."""
    return sorted({min(field, key=row.index) for row in rows})


def told_table(panel):
    """The cards of all fields of a panel."""
    return [told_cards(panel.rows(), field) for field in fields(panel.entries())]


def all_rows(entries):
    """All rows of some entries."""
    return [list(row) for row in permutations(entries)]


def all_panels(entries, most):
    """All panels of some entries with unlike rows in ascending order, of so many stewards at most."""
    rows = all_rows(entries)
    return [Panel(entries, list(some)) for many in range(1, most + 1) for some in combinations(rows, many)]


def some_numbers(seed):
    """An endless row of numbers that is the same each time."""
    state = seed
    while True:
        state = (state * 6364136223846793005 + 1442695040888963407) % 2 ** 64
        yield state >> 33


def shuffled(numbers, names):
    """Some names in an order that the numbers tell."""
    left, row = list(names), []
    while left:
        row.append(left.pop(next(numbers) % len(left)))
    return row


def big_names(many):
    """Ascending names, so many."""
    return ["n" + chr(97 + at // 26) + chr(97 + at % 26) for at in range(many)]


def big_panel(seed, entries, stewards):
    """A panel of so many entries and stewards."""
    numbers, names = some_numbers(seed), big_names(entries)
    return Panel(names, [shuffled(numbers, names) for _ in range(stewards)])


def calls_about(entries):
    """All calls about some entries, as lines of books."""
    return [("call", field, name) for field in fields(entries) for name in field]


def offs_about(entries):
    """All keep-offs about some entries, as lines of books."""
    return [("off", lot, name) for lot in fields(entries) for name in entries if name not in lot]


def row_keeps(row, line):
    """Whether a row meets a call, or keeps a keep-off."""
    word, lot, name = line
    ahead = row[:row.index(name)]
    return not any(other in ahead for other in lot) if word == "call" else any(other in ahead for other in lot)


def panel_keeps(rows, line):
    """Whether a panel keeps a line, by what the document says of cards."""
    word, lot, name = line
    if word == "call":
        return name in told_cards(rows, lot)
    others = [other for other in rows[0] if other not in lot and other != name]
    return not any(name in told_cards(rows, sorted(lot + [name] + more)) for more in lots(others))


def some_lines(numbers, entries, many):
    """A list of so many lines about some entries, perhaps with one twice."""
    every = calls_about(entries) + offs_about(entries) * 2
    return [every[next(numbers) % len(every)] for _ in range(many)]


def odd_lines():
    """What is no line about the entries a, b and c."""
    return odd_objects() + [("call", ["a", "b"], "c"), ("off", ["a", "b"], "a"), ("off", [], "a"), ("call", [], "a"),
                            ["call", ["a"], "a"], ("call", ("a",), "a"), ("Call", ["a"], "a"), ("call", ["a"]),
                            ("call", ["b", "a"], "a"), ("call", ["a", "a"], "a"), ("off", ["d"], "a"),
                            ("off", ["a"], "d"), ("call", ["a"], "a", None), ("off", "a", "b"), ("off", ["a"], ["b"]),
                            ("off", ["a"], True), (None, ["a"], "a"), ("call", ["a", 1], "a"), ("off", None, "a"),
                            ("call", {"a": 1}, "a"), (["call"], ["a"], "a"), ("call", [["a"]], "a")]


def big_book(seed, many, calls):
    """A book of 40 entries and so many lines, of which so many are calls, that a panel of six stewards keeps."""
    numbers, panel = some_numbers(seed), big_panel(seed, 40, 6)
    names, lines = panel.entries(), []
    while len(lines) < many:
        field = sorted(shuffled(numbers, names)[:2 + next(numbers) % 5])
        name = field[next(numbers) % len(field)]
        others = [other for other in field if other != name]
        line = ("call", field, name) if len(lines) < calls else ("off", others, name)
        met = [row_keeps(row, line) for row in panel.rows()]
        if (any(met) if line[0] == "call" else all(met)) and line not in lines:
            lines.append(line)
    return names, lines, panel
