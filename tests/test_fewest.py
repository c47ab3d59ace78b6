"""[75] to [79]: the fewest stewards, chains of heads and heads apart, stewards nobody needs, and ladders."""

from itertools import combinations, product
from unittest import main

from cardpanel.alike import alike, within
from cardpanel.errors import InvalidCount, InvalidLots, InvalidPanel, InvalidRows, LastRow, Unlike
from cardpanel.fewest import (apart_heads, are_chains, chain_row, chains, fewest_rows, is_apart, is_fewest, is_ladder,
                              is_rows_more, ladder, lean_stewards, missing_heads, needless_stewards, own_heads,
                              rows_more, worth)
from cardpanel.heads import heads, lots_of, panel_of, stewards_of
from cardpanel.panels import Panel
from support import (ABC, Case, all_panels, all_rows, big_names, big_panel, fields, odd_objects, shuffled,
                     some_numbers, told_cards, told_table, within_lines)

NAMES, UP, DOWN = ["a", "b", "c"], ["a", "b", "c"], ["c", "b", "a"]
FOUR = ["a", "b", "c", "d"]


def both():
    return Panel(NAMES, [UP, DOWN])


def three():
    return Panel(NAMES, [UP, DOWN, ["a", "c", "b"]])


def twice():
    return Panel(["a", "b"], [["a", "b"], ["a", "b"]])


def only_up():
    return Panel(NAMES, [UP])


def told_within(head, other):
    """Whether a head lies within another one, by the word of the document."""
    return {*head[0], head[1]} <= set(other[0])


def told_apart(found):
    """Whether no one of some heads lies within another one."""
    return not any(told_within(one, other) for one in found for other in found)


def fewest_by_table(entries, most):
    """A dictionary from tables to the fewest rows, up to so many, that give them."""
    found = {}
    for panel in all_panels(entries, most):
        found.setdefault(repr(told_table(panel)), len(panel))
    return found


def takeable(rows):
    """All takeable lots of some rows: whatever is put together of beginnings."""
    found = {frozenset()}
    for row in rows:
        found = {lot | set(row[:many]) for lot in found for many in range(len(row) + 1)}
    return found


def all_lists(things, most):
    """All lists of so many things at most."""
    return [list(chosen) for many in range(most + 1) for chosen in product(things, repeat=many)]


class Document(Case):
    def test_first_example(self):
        self.same(
            [sorted(fewest_rows(three())), is_fewest(both(), [DOWN, UP]), is_fewest(both(), [UP, DOWN, UP]),
             len(apart_heads(both())), is_apart(both(), [([], "a"), ([], "c")]),
             is_apart(both(), [([], "a"), (["a"], "b")])],
            [[["a", "b", "c"], ["c", "b", "a"]], True, False, 2, True, False])

    def test_second_example(self):
        self.same(
            [sorted(chains(both())), chain_row(both(), [([], "a"), (["a"], "b")]),
             are_chains(both(), [[([], "a"), (["a"], "b")], [([], "c")], [(["c"], "b")]])],
            [[[([], "a"), (["a"], "b")], [([], "c"), (["c"], "b")]], ["a", "b", "c"], False])

    def test_third_example(self):
        self.same(
            [missing_heads(both(), [["a", "c", "b"]]), len(rows_more(both(), [["a", "c", "b"]])),
             rows_more(both(), [UP]), is_rows_more(both(), [UP, DOWN], [])],
            [[([], "c"), (["a"], "b"), (["c"], "b")], 2, [["c", "b", "a"]], True])

    def test_fourth_example(self):
        self.same(
            [own_heads(three(), 0), own_heads(three(), 1), worth(both(), 0), worth(three(), 2),
             needless_stewards(three()), needless_stewards(twice()), lean_stewards(twice())],
            [[(["a"], "b")], [([], "c"), (["c"], "b")], 4, 0, [2], [0, 1], [0]])

    def test_fifth_example(self):
        self.same(
            [len(ladder(only_up(), both())), is_ladder(only_up(), both(), [["a", "c", "b"], ["c", "a", "b"], DOWN]),
             is_ladder(only_up(), both(), [DOWN]), ladder(both(), three())], [3, True, False, []])


class Fewest(Case):
    def check(self, panel, many):
        rows, apart = fewest_rows(panel), apart_heads(panel)
        self.same([len(rows), len(apart), is_fewest(panel, rows), is_apart(panel, apart)], [many, many, True, True])
        self.assertEqual(told_table(Panel(panel.entries(), rows)), told_table(panel))
        self.assertTrue(told_apart(apart))
        self.same(apart, sorted(apart))
        self.assertTrue(all(head in heads(panel) for head in apart))
        found = chains(panel)
        self.same([len(found), are_chains(panel, found)], [many, True])
        self.assertEqual(sorted(head for chain in found for head in chain), heads(panel))
        self.assertTrue(all(told_within(one, other) for chain in found for one, other in zip(chain, chain[1:])))
        made = [chain_row(panel, chain) for chain in found]
        self.same(is_fewest(panel, made), True)
        self.same([is_fewest(panel, rows + rows[:1]), is_fewest(panel, rows[1:]), is_apart(panel, apart[1:]),
                   are_chains(panel, found[1:]), are_chains(panel, found + found[:1])], [False] * 5)

    def test_small_panels(self):
        told = fewest_by_table(ABC, 6)
        for panel in all_panels(ABC, 6):
            self.check(panel, told[repr(told_table(panel))])

    def test_panels_of_four_entries(self):
        told = fewest_by_table(FOUR, 2)
        numbers, rows = some_numbers(8), all_rows(FOUR)
        for many in [1, 2, 3, 3, 3] * 12:
            panel = Panel(FOUR, shuffled(numbers, rows)[:many])
            self.check(panel, told.get(repr(told_table(panel)), 3))

    def test_greater_panels_by_as_many_apart_as_rows(self):
        for seed in range(20):
            panel = big_panel(seed, 5 + seed % 3, 1 + seed % 7)
            self.check(panel, len(apart_heads(panel)))

    def test_one_entry_and_one_steward(self):
        self.check(Panel(["a"], [["a"], ["a"], ["a"]]), 1)
        self.check(Panel(FOUR, [["c", "a", "d", "b"]]), 1)

    def test_more_apart_heads_than_cards_on_any_field(self):
        found = [panel for panel in all_panels(FOUR, 3)[::7]
                 if len(fewest_rows(panel)) > max(map(len, told_table(panel)))]
        self.assertTrue(found)

    def test_every_list_of_rows(self):
        told = fewest_by_table(ABC, 3)
        rows = all_rows(ABC)
        tables = {repr(value): repr(told_table(Panel(ABC, value))) for value in all_lists(rows, 3) if value}
        for panel in all_panels(ABC, 3)[::4]:
            table = repr(told_table(panel))
            for value in all_lists(rows, 3):
                self.same(is_fewest(panel, value), bool(value) and tables[repr(value)] == table
                          and len(value) == told[table])

    def test_any_object_may_be_none(self):
        for value in odd_objects() + [(UP, DOWN), [tuple(UP), DOWN], [UP, ["c", "b"]], [UP, ["c", "b", "b"]],
                                      [UP, ["c", "b", "d"]], [UP, DOWN, UP], [UP], [UP, UP], [UP, None], both(),
                                      {"a": UP, "b": DOWN}, [UP, DOWN + ["a"]], [UP, ["c", "b", 1]], [UP, True]]:
            self.same(is_fewest(both(), value), False)

    def test_big_panels(self):
        names = big_names(40)
        wide = Panel(names, [[names[at]] + names[8:][::1 - at % 2 * 2] + names[:at] + names[at + 1:8]
                             for at in range(8)])
        for panel in [big_panel(1, 40, 8), big_panel(2, 40, 8), wide, Panel(names, wide.rows() + wide.rows()[2:5])]:
            rows, apart = self.at_once(fewest_rows, panel), self.at_once(apart_heads, panel)
            self.same([len(rows), told_apart(apart)], [len(apart), True])
            self.assertTrue(alike(Panel(names, rows), panel))
            found = self.at_once(chains, panel)
            self.same([self.at_once(is_fewest, panel, rows), self.at_once(is_apart, panel, apart),
                       self.at_once(are_chains, panel, found)], [True, True, True])
            self.same(is_fewest(panel, [self.at_once(chain_row, panel, chain) for chain in found]), True)

    def test_fewer_rows_than_stewards_of_whom_none_is_needless(self):
        panel = Panel(FOUR, [["a", "b", "c", "d"], ["a", "c", "d", "b"], ["c", "a", "b", "d"]])
        self.same([needless_stewards(panel), lean_stewards(panel), len(fewest_rows(panel))], [[], [0, 1, 2], 2])
        self.check(panel, 2)

    def test_panels_made_of_lots(self):
        for seed in range(5):
            panel = big_panel(seed, 20, 4)
            made = panel_of(lots_of(panel))
            self.same([is_fewest(made, fewest_rows(panel)), is_fewest(panel, fewest_rows(made))], [True, True])


class Apart(Case):
    def test_every_list_of_heads(self):
        for panel in all_panels(ABC, 3)[::5]:
            every = heads(panel)
            lists = [list(some) for many in range(len(every) + 1) for some in combinations(every, many)]
            most = max(len(some) for some in lists if told_apart(some))
            for some in lists:
                self.same(is_apart(panel, some), told_apart(some) and len(some) == most)
                self.same(is_apart(panel, some[::-1]), told_apart(some) and len(some) == most and most == 1)

    def test_any_object(self):
        a, c = ([], "a"), ([], "c")
        for value in odd_objects() + [(a, c), [c, a], [a, a], [a, c, c], [list(a), c], [((), "a"), c], [a, ([], "d")],
                                      [a, ([], "c", 1)], [a, ("c", [])], [a, (["a"], "c")], [a, None], [a, ([], True)],
                                      [a, ([], ["c"])], {a[1]: c}, [a, (None, "c")], [a, ([], both())], [a], "ac"]:
            self.same(is_apart(both(), value), False)


class Chains(Case):
    def test_every_way_to_part_the_heads(self):
        for panel in [both(), three(), Panel(ABC, [ABC, ["b", "c", "a"], ["c", "a", "b"]]), only_up()]:
            every, many = heads(panel), len(fewest_rows(panel))
            for places in product(range(3), repeat=len(every)):
                parts = [[head for head, place in zip(every, places) if place == at] for at in range(3)]
                parts = [sorted(part, key=lambda head: len(head[0])) for part in parts if part]
                good = all(told_within(one, other) for part in parts for one, other in zip(part, part[1:]))
                self.same(are_chains(panel, parts), good and len(parts) == many)

    def test_any_object(self):
        a, b, c, d = ([], "a"), (["a"], "b"), ([], "c"), (["c"], "b")
        self.same(are_chains(both(), [[c, d], [a, b]]), True)
        for value in odd_objects() + [([a, b], [c, d]), [(a, b), [c, d]], [[b, a], [c, d]], [[a, b], [c, d], []],
                                      [[a, b, b], [c, d]], [[a, b], [c]], [[a, d], [c, b]], [[a, b], [c, d], [a]],
                                      [[a], [b], [c, d]], [[list(a), b], [c, d]], [[a, b], [c, (["c"], "a")]],
                                      [[a, b], [c, (["c"], "d")]], [[a, b], None], [[a, b], [c, d], True], [a, b, c, d],
                                      [[a, b], [c, (("c",), "b")]], [[]], [[a, b], {"c": d}]]:
            self.same(are_chains(both(), value), False)

    def test_rows_of_all_chains(self):
        for panel in all_panels(ABC, 3) + [big_panel(seed, 6, 4) for seed in range(10)]:
            every = heads(panel)
            found = [[head] for head in every] + [[one, other] for one in every for other in every
                                                  if told_within(one, other)]
            found += [[one, other, last] for one, other in found[len(every):][:40] for last in every
                      if told_within(other, last)]
            for chain in found:
                row, rest = [], None
                for lot, entry in chain:
                    rest = panel.rows()[stewards_of(panel, lot, entry)[0]]
                    row += [name for name in rest if name in lot and name not in row] + [entry]
                self.same(chain_row(panel, chain), row + [name for name in rest if name not in row])

    def test_a_row_follows_the_first_steward_who_has_the_head(self):
        panel = Panel(FOUR, [["d", "c", "b", "a"], ["b", "c", "d", "a"], ["c", "d", "b", "a"]])
        self.same(chain_row(panel, [([], "b"), (["b", "c", "d"], "a")]), ["b", "d", "c", "a"])
        self.same(chain_row(panel, [([], "c")]), ["c", "d", "b", "a"])
        self.same(chain_row(panel, [([], "d"), (["b", "c", "d"], "a")]), ["d", "c", "b", "a"])

    def test_wrong_chains(self):
        a, b, c, d = ([], "a"), (["a"], "b"), ([], "c"), (["c"], "b")
        for chain in odd_objects() + [(a, b), [b, a], [a, a], [a, c], [a, d], [list(a)], [a, (["a"], "c")], [a, None],
                                      [a, ([], "b")], [a, (("a",), "b")], [a, (["a"], "b", 0)], {"a": a}, [[a, b]],
                                      [(["a", "b"], "c")], [(None, None)], [([], "z")], [([], 1)], [([], True)]]:
            self.raises(InvalidLots, chain, chain_row, both(), chain)


class RowsMore(Case):
    def takings(self, panel):
        """All rows of takings: those that add no card on any field."""
        return [row for row in all_rows(panel.entries()) if alike(panel.with_row(row), panel)]

    def test_small_panels(self):
        for panel in all_panels(ABC, 3)[::5]:
            rows = self.takings(panel)
            for kept in all_lists(rows, 2):
                told = [(lot, entry) for lot, entry in heads(panel)
                        if not any(sorted(row[:row.index(entry)]) == lot for row in kept)]
                self.same(missing_heads(panel, kept), told)
                good = [value for value in all_lists(rows, 3)
                        if kept + value and told_table(Panel(ABC, kept + value)) == told_table(panel)]
                least = min(map(len, good))
                found = rows_more(panel, kept)
                self.assertEqual(len(found), least)
                self.same(is_rows_more(panel, kept, found), True)
                self.same([is_rows_more(panel, kept, value) for value in good], [len(each) == least for each in good])
                for value in all_lists(all_rows(ABC), 1):
                    self.same(is_rows_more(panel, kept, value), value in good and len(value) == least)

    def test_wrong_kept_rows(self):
        wrong = [None, True, "abc", (), (UP,), [tuple(UP)], [["b", "a", "c"]], [["a", "b"]], [UP, ["a", "b", "d"]],
                 [UP, None], {"a": UP}, both(), [["a", "b", "b"]], [[1, 2, 3]], [UP, []]]
        for kept in wrong:
            self.raises(InvalidRows, kept, missing_heads, both(), kept)
            self.raises(InvalidRows, kept, rows_more, both(), kept)
            self.raises(InvalidRows, kept, is_rows_more, both(), kept, None)

    def test_any_object(self):
        for value in odd_objects() + [(DOWN,), [tuple(DOWN)], [DOWN, DOWN], [UP], [DOWN[:2]], None, {"a": DOWN},
                                      [None], [["c", "b", 1]], both()]:
            self.same(is_rows_more(both(), [UP], value), False)
        self.same([is_rows_more(both(), [UP], [DOWN]), is_rows_more(both(), [], []), is_rows_more(both(), [], [UP])],
                  [True, False, False])
        self.same([is_rows_more(both(), [UP, DOWN], ()), is_rows_more(both(), [UP, DOWN], [UP])], [False, False])

    def test_big_panels_and_sixty_kept_rows(self):
        panel = big_panel(4, 40, 8)
        every = fewest_rows(panel)
        kept = (every[:3] + panel.rows()[2:4]) * 12
        missing = self.at_once(missing_heads, panel, kept)
        found = self.at_once(rows_more, panel, kept)
        self.same([self.at_once(is_rows_more, panel, kept, found), is_rows_more(panel, kept, found[1:]),
                   is_rows_more(panel, kept, found + found[:1])], [True, False, False])
        self.assertTrue(alike(Panel(panel.entries(), kept + found), panel))
        self.assertTrue(0 < len(missing) < len(heads(panel)))
        self.same([rows_more(panel, panel.rows()), missing_heads(panel, panel.rows())], [[], []])
        self.same(len(rows_more(panel, [])), len(every))


def forty(seed, kind):
    """A panel of 40 entries and 8 stewards: rows drawn, or ones that share a long beginning, or a long end."""
    numbers, names = some_numbers(seed), ["wxyz"[at // 10] + "abcdefghij"[at % 10] for at in range(40)]
    rows = [names if kind != "drawn" else shuffled(numbers, names)]
    for at in range(7):
        many = 0 if kind == "drawn" else 2 + 2 * at
        rows.append(rows[0][:many] + shuffled(numbers, rows[0][many:]))
    return Panel(names, [row[::-1] for row in rows] if kind == "end" else rows)


def big_ones():
    return [forty(seed, kind) for kind in ("drawn", "beginning", "end") for seed in (1, 2)]


class Forty(Case):
    """Panels of 40 entries and 8 stewards, with some 200 heads."""

    def test_rows_apart_heads_and_chains(self):
        for panel in big_ones():
            every = heads(panel)
            rows, apart, found = fewest_rows(panel), apart_heads(panel), chains(panel)
            self.same([len(rows), len(found), told_apart(apart), apart == sorted(apart)], [len(apart)] * 2 + [True] * 2)
            self.assertTrue(alike(Panel(panel.entries(), rows), panel))
            self.assertTrue(all(head in every for head in apart))
            self.assertEqual(sorted(head for chain in found for head in chain), every)
            self.assertTrue(all(told_within(one, other) for chain in found for one, other in zip(chain, chain[1:])))
            self.same([is_fewest(panel, rows), is_fewest(panel, rows[::-1]), is_apart(panel, apart),
                       are_chains(panel, found), are_chains(panel, found[::-1]),
                       is_fewest(panel, [chain_row(panel, chain) for chain in found])], [True] * 6)

    def test_own_heads(self):
        for panel in big_ones():
            every = heads(panel)
            for at in range(8):
                self.same(own_heads(panel, at), [head for head in every if stewards_of(panel, *head) == [at]])
            self.same(needless_stewards(panel), [at for at in range(8) if own_heads(panel, at) == []])

    def test_bent_rows(self):
        for panel in big_ones():
            rows = fewest_rows(panel)
            turned = rows[:-1] + [rows[-1][::-1]]
            exchanged = [rows[0][1:2] + rows[0][:1] + rows[0][2:]] + rows[1:]
            told = alike(Panel(panel.entries(), exchanged), panel)
            for value, good in [(rows + rows[:1], False), (rows[:-1] + rows[:1], False), (rows[1:], False),
                                (rows + [panel.entries()], False), (turned, False), (exchanged, told),
                                ([tuple(row) for row in rows], False), (rows[:-1] + [rows[-1][:-1]], False)]:
                self.same(is_fewest(panel, value), good)

    def test_bent_apart_heads(self):
        for panel in big_ones():
            apart, every = apart_heads(panel), heads(panel)
            wrong = [apart[1:], apart[:-1], apart + apart[-1:], apart[::-1], every, apart[:-1] + apart[-2:-1],
                     [tuple(head) + (None,) for head in apart], [list(head) for head in apart],
                     [(tuple(lot), entry) for lot, entry in apart]]
            for value in wrong:
                self.same(is_apart(panel, value), False)
            for head in every[::9]:
                value = sorted(apart[1:] + [head])
                self.same(is_apart(panel, value), told_apart(value) and head not in apart[1:])

    def test_bent_chains(self):
        for panel in big_ones():
            found = chains(panel)
            long = max(found, key=len)
            rest = [chain for chain in found if chain != long]
            head = long[0]
            moved = [[head] + chain if told_within(head, chain[0]) else chain for chain in rest]
            self.same(are_chains(panel, moved + [long]), moved == rest)
            for value in [rest, found + [long], found + [long[:1]], rest + [long[:1] + long[2:]],
                          rest + [long[1:2] + long[:1] + long[2:]], rest + [long[:2] + long[1:]],
                          rest + [long[:3], long[3:]], rest + [long[::-1]], found[:-1] + [[]], found + [[]],
                          rest + [tuple(long)], rest + [long[:-1] + [list(long[-1])]],
                          rest + [long[:1] + [(long[1][0], "zz")] + long[2:]], [found]]:
                self.same(are_chains(panel, value), False)

    def test_each_of_them_within_few_lines(self):
        # A count of lines, not a time: going through all pairs of 200 heads takes more than all of these.
        for panel in big_ones():
            rows, apart, found = fewest_rows(panel), apart_heads(panel), chains(panel)
            for call, after in [(fewest_rows, []), (apart_heads, []), (chains, []), (is_fewest, [rows]),
                                (is_apart, [apart]), (are_chains, [found]), (own_heads, [3]), (rows_more, [rows[:2]]),
                                (is_rows_more, [rows[:2], rows[2:]]), (is_apart, [heads(panel)]),
                                (chain_row, [found[0]]), (missing_heads, [rows[:2]]), (needless_stewards, [])]:
                within_lines(32000, call, panel, *after)


class Stewards(Case):
    def told_worth(self, panel, at):
        left = panel.without_row(at).rows()
        return sum(told_cards(left, field) != told_cards(panel.rows(), field) for field in fields(panel.entries()))

    def check(self, panel):
        positions = range(len(panel))
        for at in positions:
            told = [(lot, entry) for lot, entry in heads(panel) if stewards_of(panel, lot, entry) == [at]]
            self.same(own_heads(panel, at), told)
        if len(panel) == 1:
            self.same([needless_stewards(panel), lean_stewards(panel)], [[], [0]])
            return
        told = [self.told_worth(panel, at) for at in positions]
        self.same([worth(panel, at) for at in positions], told)
        self.same(needless_stewards(panel), [at for at in positions if told[at] == 0])
        staying, left = [], list(positions)
        for at in reversed(positions):
            rows = [panel.rows()[place] for place in left if place != at]
            if rows and told_table(Panel(panel.entries(), rows)) == told_table(panel):
                left.remove(at)
            else:
                staying.append(at)
        self.same(lean_stewards(panel), sorted(staying))

    def test_small_panels(self):
        for panel in all_panels(ABC, 4):
            self.check(panel)

    def test_rows_that_stand_there_often(self):
        rows = all_rows(ABC)
        for places in product([0, 1, 3, 5], repeat=4):
            self.check(Panel(ABC, [rows[place] for place in places]))
        self.check(Panel(["a"], [["a"], ["a"]]))

    def test_greater_panels(self):
        for seed in range(12):
            self.check(big_panel(seed, 6, 1 + seed % 9))

    def test_worth_among_nine_stewards_of_forty_entries(self):
        names = big_names(40)
        rows = [names[at:] + names[:at] for at in range(0, 36, 4)]
        panel = Panel(names, rows)
        told = [self.at_once(worth, panel, at) for at in range(9)]
        # By the last entries of the blocks: only who stands between two first ones needs the row of the first.
        field_counts = [self.told_worth(panel.struck(names[10:]), at) for at in range(3)]
        self.same(field_counts, [worth(panel.struck(names[10:]), at) for at in range(3)])
        self.assertTrue(all(0 < each < 2 ** 40 for each in told))
        self.same(self.at_once(worth, Panel(names, rows[:8] + rows[:1]), 0), 0)
        alone = Panel(names, [names, names[::-1]])
        self.same([worth(alone, 0), worth(alone, 1)], [2 ** 40 - 41, 2 ** 40 - 41])

    def test_wrong(self):
        for at in [3, -1, True, False, None, "0", [0], 10 ** 30, (), three()]:
            self.raises(InvalidCount, at, own_heads, three(), at)
            self.raises(InvalidCount, at, worth, three(), at)
        self.raises(LastRow, 0, worth, only_up(), 0)
        self.raises(InvalidCount, 1, worth, only_up(), 1)
        self.same(own_heads(only_up(), 0), heads(only_up()))


class Ladders(Case):
    def told_ladder(self, low, high, value):
        rows, many = low.rows(), len(takeable(low.rows()))
        for row in value:
            rows = rows + [row]
            if len(takeable(rows)) != many + 1:
                return False
            many += 1
        return takeable(rows) == takeable(high.rows())

    def check(self, low, high):
        found = ladder(low, high)
        self.assertEqual(len(found), len(takeable(high.rows())) - len(takeable(low.rows())))
        self.assertTrue(self.told_ladder(low, high, found))
        self.same([is_ladder(low, high, found), is_ladder(low, high, found + low.rows()[:1])], [True, False])
        if found:
            self.same(is_ladder(low, high, found[:-1]), False)

    def test_all_small_panels(self):
        panels = all_panels(ABC, 3)
        for low in panels:
            for high in panels:
                if within(low, high):
                    self.check(low, high)
                else:
                    self.raises(InvalidPanel, low, ladder, low, high)
                    self.raises(InvalidPanel, low, is_ladder, low, high, None)

    def test_every_list_of_rows(self):
        rows = all_rows(ABC)
        more = both().with_row(["b", "a", "c"])
        for low, high in [(only_up(), both()), (both(), both()), (both(), three()), (only_up(), Panel(ABC, rows[:3])),
                          (Panel(ABC, rows[2:4]), Panel(ABC, rows[1:4])), (both(), more)]:
            for value in all_lists(rows, 4):
                self.same(is_ladder(low, high, value), self.told_ladder(low, high, value))

    def test_greater_panels(self):
        for seed in range(10):
            high = big_panel(seed, 5 + seed % 4, 2 + seed % 3)
            self.check(high.without_row(len(high) - 1), high)
            self.check(Panel(high.entries(), high.rows()[:1]), high.without_row(0).with_row(high.rows()[0]))

    def test_twelve_entries(self):
        high = big_panel(5, 12, 4)
        names = high.entries()
        row = high.rows()[0]
        low, high = high, high.with_row(row[:5] + row[5:][::-1])
        found = self.at_once(ladder, low, high)
        self.assertTrue(20 < len(found) <= 100)
        self.same([self.at_once(is_ladder, low, high, found), is_ladder(low, high, found[1:]),
                   is_ladder(low, high, found + [names])], [True, False, False])

    def test_one_entry(self):
        self.same(ladder(Panel(["a"], [["a"]]), Panel(["a"], [["a"], ["a"]])), [])

    def test_any_object(self):
        good = [["a", "c", "b"], ["c", "a", "b"], DOWN]
        for value in odd_objects() + [tuple(good), [tuple(row) for row in good], good + [UP], good[:2], good[::-1],
                                      [good[0]] * 3, good[:2] + [["c", "b"]], good[:2] + [None], {"a": good}, both(),
                                      good[:2] + [["c", "b", True]]]:
            self.same(is_ladder(only_up(), both(), value), False)
        self.same([is_ladder(both(), both(), []), is_ladder(both(), both(), ())], [True, False])

    def test_wrong(self):
        for wrong in [None, True, "abc", [["a"]], both().rows()]:
            self.raises(InvalidPanel, wrong, ladder, wrong, None)
            self.raises(InvalidPanel, wrong, ladder, both(), wrong)
            self.raises(InvalidPanel, wrong, is_ladder, wrong, None, None)
            self.raises(InvalidPanel, wrong, is_ladder, both(), wrong, None)
        for other in [twice(), Panel(["a", "b", "d"], [["a", "b", "d"]])]:
            self.raises(Unlike, other, ladder, both(), other)
            self.raises(Unlike, other, is_ladder, both(), other, None)
        low = both()
        self.raises(InvalidPanel, low, ladder, low, only_up())
        self.raises(InvalidPanel, low, is_ladder, low, only_up(), [])


class Arguments(Case):
    def test_panels(self):
        for wrong in [None, True, "abc", [["a"]], both().rows()]:
            for call in (fewest_rows, apart_heads, chains, needless_stewards, lean_stewards):
                self.raises(InvalidPanel, wrong, call, wrong)
            for call in (is_fewest, is_apart, are_chains, chain_row, missing_heads, rows_more, own_heads, worth):
                self.raises(InvalidPanel, wrong, call, wrong, None)
            self.raises(InvalidPanel, wrong, is_rows_more, wrong, None, None)

    def test_by_name(self):
        chain = [([], "a"), (["a"], "b")]
        self.same(
            [fewest_rows(panel=three()), is_fewest(value=[UP, DOWN], panel=both()), apart_heads(panel=both()),
             is_apart(value=[([], "a"), ([], "c")], panel=both()), chains(panel=both()),
             are_chains(value=chains(both()), panel=both()), chain_row(chain=chain, panel=both()),
             missing_heads(kept=[UP], panel=both()), rows_more(kept=[UP], panel=both()),
             is_rows_more(value=[DOWN], kept=[UP], panel=both()), own_heads(at=1, panel=three()),
             worth(at=0, panel=both()), needless_stewards(panel=three()), lean_stewards(panel=twice()),
             len(ladder(high=both(), low=only_up())), is_ladder(value=[], high=both(), low=both())],
            [fewest_rows(three()), True, apart_heads(both()), True, chains(both()), True, UP,
             [([], "c"), (["c"], "b")], [DOWN], True, [([], "c"), (["c"], "b")], 4, [2], [0], 3, True])


if __name__ == "__main__":
    main()
