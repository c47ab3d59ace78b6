"""[45] to [47]: whole tables, their flaws, and the panels that keep them."""

from itertools import product
from unittest import main

from cardpanel.errors import InvalidEntries, InvalidField, InvalidLot, InvalidPanel, InvalidTable
from cardpanel.fewest import is_fewest
from cardpanel.panels import Panel
from cardpanel.tables import (changed, flaw, is_flaw, is_odd_fields, is_table, odd_fields, panel_for, table_of)
from support import ABC, Case, all_panels, all_rows, big_panel, fields, odd_objects, told_cards, within_lines


def pair():
    return Panel(["jam", "pie", "tea"], [["jam", "pie", "tea"], ["tea", "pie", "jam"]])


def bent():
    return changed(table_of(pair()), ["jam", "tea"], ["jam"])


def told_table_of(rows):
    return [(field, told_cards(rows, field)) for field in sorted(fields(rows[0]))]


def all_tables(entries):
    """All tables of some entries."""
    every = sorted(fields(entries))
    return [list(zip(every, chosen)) for chosen in product(*[fields(field) for field in every])]


def told_flaws(table):
    """All flaws of a table, by the word of the document."""
    found = []
    for field, ours in table:
        for other, theirs in table:
            if set(other) <= set(field):
                found += [("lost", field, other, name) for name in ours if name in other and name not in theirs]
                if set(ours) <= set(other) and ours != theirs:
                    found.append(("moved", field, other))
    return found


def told_odd_fields(table):
    """All pairs of fields of which the cards of all are not those of the cards of both."""
    cards = {tuple(field): given for field, given in table}
    return [(one, other) for one, ours in table for other, theirs in table
            if cards[tuple(sorted({*one, *other}))] != cards[tuple(sorted({*ours, *theirs}))]]


def candidates(entries):
    """What could be a flaw of a table of some entries, and what could be odd fields of it."""
    every = fields(entries)
    moved = [("moved", one, other) for one in every for other in every]
    lost = [("lost", one, other, name) for one in every for other in every for name in entries]
    return moved + lost, [(one, other) for one in every for other in every]


class Document(Case):
    def test_first_examples(self):
        sheet = table_of(pair())
        self.same(sheet[:3], [(["jam"], ["jam"]), (["jam", "pie"], ["jam", "pie"]),
                              (["jam", "pie", "tea"], ["jam", "tea"])])
        self.same([is_table(["jam", "pie", "tea"], sheet), flaw(sheet), table_of(panel_for(sheet)) == sheet,
                   len(panel_for(sheet).rows()), odd_fields(sheet)], [True, None, True, 2, None])

    def test_bent_examples(self):
        self.same(
            [bent()[3], panel_for(bent()),
             is_flaw(bent(), ("lost", ["jam", "pie", "tea"], ["jam", "tea"], "tea")),
             is_flaw(bent(), ("moved", ["jam", "pie", "tea"], ["jam", "tea"])),
             is_odd_fields(bent(), (["jam", "pie"], ["tea"]))],
            [(["jam", "tea"], ["jam"]), None, True, True, False])
        self.same([is_odd_fields(bent(), (["jam", "pie", "tea"], ["jam"])),
                   is_flaw(bent(), ("lost", ["jam", "tea"], ["jam", "pie", "tea"], "tea"))], [True, False])


class TableOf(Case):
    def test_small_panels(self):
        for panel in all_panels(ABC, 3):
            self.same(table_of(panel), told_table_of(panel.rows()))

    def test_five_entries(self):
        for seed in range(6):
            panel = big_panel(seed, 5, 1 + seed)
            table = table_of(panel)
            self.same(table, told_table_of(panel.rows()))
            self.same(len(table), 31)
            self.same(is_table(panel.entries()[::-1], table), True)

    def test_one_entry(self):
        table = table_of(Panel(["jam"], [["jam"], ["jam"]]))
        self.same(table, [(["jam"], ["jam"])])
        self.same([is_table(["jam"], table), flaw(table), odd_fields(table)], [True, None, None])
        self.assertEqual(panel_for(table), Panel(["jam"], [["jam"]]))
        self.same(changed(table, ["jam"], ["jam"]), table)
        self.same(is_flaw(table, ("moved", ["jam"], ["jam"])), False)

    def test_wrong(self):
        for panel in odd_objects()[:-1]:
            self.raises(InvalidPanel, panel, table_of, panel)


def wrong_tables():
    """What is no table of the entries a, b and c, though some of it is nearly one."""
    table = table_of(Panel(ABC, [ABC, ["c", "b", "a"]]))
    wrong = [tuple(table), [list(line) for line in table], table[::-1], table[1:], table[:-1], table + table[-1:],
             table[:1] + table, [(tuple(field), given) for field, given in table],
             [(field, tuple(given)) for field, given in table], [line + (None,) for line in table],
             [line[:1] for line in table], {at: line for at, line in enumerate(table)}, table + [None]]
    for at, line in [(0, (["a"], ["b"])), (0, (["a"], [])), (0, ([], [])), (1, (["a", "b"], ["b", "a"])),
                     (1, (["b", "a"], ["a"])), (1, (["a", "b"], ["a", "a"])), (2, (["a", "b", "c"], ["a", "d"])),
                     (6, (["d"], ["d"])), (6, (["A"], ["A"])), (6, ([3], [3])), (6, ([["c"]], [["c"]])), (6, None),
                     (6, ("c", "c")), (1, (["a", "b"], "a")), (1, (["a", "b"], {"a": 1})), (1, (["a", "b"], None)),
                     (1, (["a", "c"], ["a"]))]:
        wrong.append(table[:at] + [line] + table[at + 1:])
    return wrong


class IsTable(Case):
    def test_all_tables_of_three(self):
        for table in all_tables(ABC):
            self.same([is_table(ABC, table), is_table(["c", "a", "b"], table)], [True, True])

    def test_other_entries(self):
        table = table_of(pair())
        self.same([is_table(["jam", "pie"], table), is_table(["jam", "pie", "tea", "rye"], table),
                   is_table(["jam", "pie", "rye"], table), is_table(["tea", "jam", "pie"], table)],
                  [False, False, False, True])
        self.same(is_table(value=table, entries=["tea", "jam", "pie"]), True)

    def test_any_object(self):
        for value in odd_objects() + wrong_tables():
            self.same(is_table(ABC, value), False)
        self.same(is_table(["a"], [(["a"], [True])]), False)

    def test_wrong_entries(self):
        for entries in [None, [], ("a",), ["a", "a"], ["A"], "abc", {"a": 1}, [1], [["a"]], True]:
            self.raises(InvalidEntries, entries, is_table, entries, table_of(pair()))


def five():
    """The table of a panel of five entries."""
    return table_of(Panel(["ale", "bun", "cob", "egg", "jam"], [
        ["ale", "bun", "cob", "egg", "jam"], ["jam", "egg", "ale", "cob", "bun"],
        ["cob", "jam", "bun", "ale", "egg"]]))


def wrong_tables_of_five():
    """What is nearly a table of five entries, with something wrong, most of it near the end."""
    table = five()
    wrong = [table[:-2] + [table[-1], table[-2]], table[:-1] + table[-2:-1], table + table[-1:], table + table[:1],
             table[1:], table[:-1], table[:20] + table[21:], table[:1] + table, table[:-1] + [list(table[-1])],
             table[:-1] + [table[-1] + (None,)], table[:-1] + [table[-1][:1]], tuple(table), table[1:] + table[:1],
             table + [(["rye"], ["rye"])], table[:-1] + [(["rye"], ["rye"])], table[:-1] + [None], [table]]
    for at in [0, 3, 4, 15, 17, 27, 28, 30]:
        field, given = table[at]
        for line in [(tuple(field), given), (field, tuple(given)), (field, given + ["jam"]), (field, []), ([], given),
                     (field, given + given),
                     (field[::-1], given) if len(field) > 1 else ([[name] for name in field], given),
                     (field, given[::-1]) if len(given) > 1 else (field, ["zz"]), (field, ["jam", "ale"]),
                     (field + ["A"], given), (field, ["A"]), (field, [None]), (field, None), (None, given),
                     (field, "".join(given)), (field, {name: 1 for name in given}), (field, [True]), (field, [given]),
                     (field[:-1] + ["rye"], given), (field, [field[-1], field[0]])]:
            wrong.append(table[:at] + [line] + table[at + 1:])
    for line in [(), (5, ["ale"]), (True, ["ale"]), ("abcde", ["a"]), ({"ale": 1}, ["ale"]), ((), []), (None, None)]:
        wrong.append(table[:4] + [line] + table[5:])
    for old, new in [("ale", "Ale"), ("jam", "jamjamjam"), ("jam", "jam1"), ("ale", "")]:
        wrong.append([tuple([new if name == old else name for name in part] for part in line) for line in table])
    return wrong


class Five(Case):
    """Tables of five entries: every pair of fields, and everything that is nearly such a table."""

    def check(self, table):
        fields_of, cards = [field for field, _ in table], {tuple(field): given for field, given in table}
        flaws, odd = told_flaws(table), told_odd_fields(table)
        told_moved = [(one, other) for one in fields_of for other in fields_of if is_flaw(table, ("moved", one, other))]
        self.same(told_moved, [flaw_found[1:] for flaw_found in flaws if flaw_found[0] == "moved"])
        self.same([(one, other) for one in fields_of for other in fields_of if is_odd_fields(table, (one, other))], odd)
        lost = [("lost", one, other, name) for one in fields_of for other in fields_of for name in cards[tuple(one)]]
        self.same([value for value in lost if is_flaw(table, value)],
                  [flaw_found for flaw_found in flaws if flaw_found[0] == "lost"])
        none = [("lost", one, other, name) for one in fields_of[::3] for other in fields_of[::2]
                for name in fields_of[4] if name not in cards[tuple(one)]]
        self.same([value for value in none if is_flaw(table, value)], [])
        found, pair_found = flaw(table), odd_fields(table)
        self.same([found is None, pair_found is None, panel_for(table) is None],
                  [flaws == [], flaws == [], flaws != []])
        if flaws:
            self.assertTrue(found in flaws and pair_found in odd)
        else:
            self.same([table_of(panel_for(table)) == table, odd], [True, []])

    def test_every_pair_of_fields(self):
        table = five()
        self.check(table)
        for field, given in [(["egg", "jam"], ["egg"]), (["ale", "jam"], ["jam"]), (["bun", "cob", "egg"], ["egg"]),
                             (["ale", "bun", "cob", "egg", "jam"], ["bun"]), (["jam"], ["jam"])]:
            self.check(changed(table, field, given))

    def test_one_cell_changed(self):
        table = five()
        for field, given in table:
            for cards in fields(field)[::3]:
                other = changed(table, field, cards)
                self.same(is_table(["jam", "egg", "cob", "bun", "ale"], other), True)
                self.same([flaw(other) is None, odd_fields(other) is None],
                          [told_flaws(other) == [], told_odd_fields(other) == []])

    def test_wrong_tables(self):
        for table in wrong_tables_of_five():
            self.same(is_table(["ale", "bun", "cob", "egg", "jam"], table), False)
            for call, after in [(changed, [["ale"], ["ale"]]), (flaw, []), (is_flaw, [("moved", ["ale"], ["ale"])]),
                                (panel_for, []), (odd_fields, []), (is_odd_fields, [(["ale"], ["bun"])])]:
                self.raises(InvalidTable, table, call, table, *after)

    def test_a_table_is_answered_as_it_stands(self):
        table, value = five(), ("moved", ["ale", "bun", "cob", "egg", "jam"], ["ale", "jam"])
        first = [is_flaw(table, value), flaw(table)]
        table[4][1].pop()
        again = [is_flaw(table, value), flaw(table) is None]
        self.assertEqual([first[1] is None, again[1]], [True, False])
        table[-1][1].append("ale")
        self.raises(InvalidTable, table, is_flaw, table, value)
        self.raises(InvalidTable, table, odd_fields, table)

    def test_each_call_looks_at_the_table_once(self):
        # A count of lines, not a time: as much for each call as the whole table takes a few times over.
        table = five()
        entries = table[4][0]
        bent_late = table[:-2] + [table[-1], table[-2]]
        within_lines(450, is_table, entries, table)
        for call, after in [(is_flaw, [("lost", entries, ["ale"], "ale")]), (is_odd_fields, [(["ale"], entries)]),
                            (changed, [["ale", "jam"], ["jam"]])]:
            within_lines(700, call, table, *after)
        for call in (flaw, odd_fields):
            within_lines(1300, call, table)
        within_lines(4000, panel_for, table)
        with self.assertRaises(InvalidTable):
            within_lines(500, flaw, bent_late)


class Changed(Case):
    def test_each_cell(self):
        for table in [table_of(pair()), bent()]:
            for at, (field, given) in enumerate(table):
                for cards in fields(field):
                    found = changed(table, field, cards)
                    self.same(found, table[:at] + [(field, cards)] + table[at + 1:])
                    self.same(is_table(["jam", "pie", "tea"], found), True)

    def test_lists_are_new(self):
        table, field, cards = table_of(pair()), ["jam", "tea"], ["tea"]
        kept = table_of(pair())
        found = changed(table, field, cards)
        for told, given in found:
            told.append("zz")
            given.append("zz")
        self.same([table, field, cards], [kept, ["jam", "tea"], ["tea"]])
        found = changed(table, field, cards)
        cards.append("zz")
        field.append("zz")
        for told, given in table:
            told.clear()
            given.clear()
        self.same(found[3], (["jam", "tea"], ["tea"]))
        self.same(found[:3] + found[4:], kept[:3] + kept[4:])

    def test_by_name(self):
        self.same(changed(cards=["jam"], field=["jam", "tea"], table=table_of(pair())), bent())

    def test_wrong(self):
        table = table_of(pair())
        for field in odd_objects() + [["jam", "rye"], ["tea", "jam"], ("jam", "tea"), "jam", ["jam", "jam"]]:
            self.raises(InvalidField, field, changed, table, field, None)
        for cards in odd_objects() + [["pie"], ["tea", "jam"], ["jam", "jam"], ("jam",), "jam", ["jam", "pie", "tea"]]:
            self.raises(InvalidLot, cards, changed, table, ["jam", "tea"], cards)


class WrongTables(Case):
    def test_each_function_refuses_them(self):
        for table in wrong_tables() + odd_objects():
            self.raises(InvalidTable, table, changed, table, None, None)
            self.raises(InvalidTable, table, flaw, table)
            self.raises(InvalidTable, table, is_flaw, table, None)
            self.raises(InvalidTable, table, panel_for, table)
            self.raises(InvalidTable, table, odd_fields, table)
            self.raises(InvalidTable, table, is_odd_fields, table, None)

    def test_a_table_of_other_names_is_one(self):
        table = [(["a"], ["a"]), (["a", "zz"], ["zz"]), (["zz"], ["zz"])]
        self.same([flaw(table), panel_for(table).rows()], [None, [["zz", "a"]]])


class Flaws(Case):
    def check(self, table, panels):
        entries = table[-1][0] if len(table) == 1 else max([field for field, _ in table], key=len)
        flaws, odd = told_flaws(table), told_odd_fields(table)
        kept = panels.get(repr(table))
        self.assertEqual([flaws == [], odd == []], [kept is not None] * 2)
        found, pair_found, panel = flaw(table), odd_fields(table), panel_for(table)
        if kept is None:
            self.assertIn(found, flaws)
            self.assertIn(pair_found, odd)
            self.same([is_flaw(table, found), is_odd_fields(table, pair_found), panel], [True, True, None])
        else:
            self.same([found, pair_found, table_of(panel), len(panel)], [None, None, table, kept])
            self.same([panel.entries(), is_fewest(panel, panel.rows())], [entries, True])

    def panels_by_table(self, entries, most):
        found = {}
        for panel in all_panels(entries, most):
            found.setdefault(repr(told_table_of(panel.rows())), len(panel))
        return found

    def test_all_tables_of_two_and_three(self):
        for entries, most in [(["x", "y"], 2), (ABC, 6)]:
            panels = self.panels_by_table(entries, most)
            for table in all_tables(entries):
                self.check(table, panels)

    def test_any_tuple_of_three(self):
        told, pairs = candidates(ABC)
        for table in all_tables(ABC)[::5]:
            flaws, odd = told_flaws(table), told_odd_fields(table)
            self.same([is_flaw(table, value) for value in told], [value in flaws for value in told])
            self.same([is_odd_fields(table, value) for value in pairs], [value in odd for value in pairs])

    def test_one_cell_changed_in_tables_of_four(self):
        names = ["a", "b", "c", "d"]
        for rows in [[names], [names, names[::-1]], [["b", "d", "a", "c"], ["c", "d", "b", "a"], names]]:
            table = told_table_of(rows)
            for field, given in table:
                for cards in fields(field):
                    other = changed(table, field, cards)
                    flaws, odd = told_flaws(other), told_odd_fields(other)
                    self.assertEqual(flaws == [], odd == [])
                    self.assertEqual(flaw(other) is None, flaws == [])
                    self.assertEqual(odd_fields(other) is None, flaws == [])
                    if flaws:
                        self.assertTrue(flaw(other) in flaws and odd_fields(other) in odd)
                        self.assertIsNone(panel_for(other))
                    else:
                        self.same(table_of(panel_for(other)), other)
                        self.same(is_fewest(panel_for(other), panel_for(other).rows()), True)

    def test_five_entries(self):
        for seed in range(8):
            table = table_of(big_panel(seed, 5, 1 + seed))
            panel = panel_for(table)
            self.same([flaw(table), odd_fields(table), table_of(panel)], [None, None, table])
            self.same(is_fewest(big_panel(seed, 5, 1 + seed), panel.rows()), True)
            field, given = table[4]
            other = changed(table, field, [name for name in field if name not in given][:1] or ["naa"])
            self.same(is_flaw(other, flaw(other)), flaw(other) is not None)
            self.same(is_odd_fields(other, odd_fields(other)), odd_fields(other) is not None)

    def test_all_cards_on_all_fields_need_a_row_each(self):
        names = ["a", "b", "c", "d", "e"]
        table = [(field, field) for field in sorted(fields(names))]
        panel = panel_for(table)
        self.same([len(panel), table_of(panel) == table], [5, True])

    def test_any_object_may_be_no_flaw_and_no_odd_fields(self):
        whole, part = ["jam", "pie", "tea"], ["jam", "tea"]
        for value in odd_objects() + [
                ["moved", whole, part], ("moved", whole, part, "tea"), ("lost", whole, part),
                ("lost", whole, part, "jam"),
                ("lost", whole, part, True), ("lost", whole, part, ["tea"]), ("lost", tuple(whole), part, "tea"),
                ("lost", whole, part[::-1], "tea"), ("Lost", whole, part, "tea"), ("moved", part, whole),
                ("moved", whole, ["jam", "rye"]), ("moved", whole, []), ("lost", whole, part, "tea", None),
                (True, whole, part), (None, whole, part, "tea"), ("moved", whole), ("lost", whole, part, None),
                ("moved", whole, None), ("moved", {"jam": 1}, part), ("moved",), (whole, part, "tea"), ("moved", 1, 2)]:
            self.same(is_flaw(bent(), value), False)
        for value in odd_objects() + [
                [whole, ["jam"]], (whole, "jam"), (whole,), (whole, ["jam"], ["jam"]), (whole, ["rye"]), (whole, []),
                (tuple(whole), ["jam"]), (whole[::-1], ["jam"]), (whole, {"jam": 1}), (None, None), (whole, [["jam"]])]:
            self.same(is_odd_fields(bent(), value), False)
        self.same([is_flaw(value=flaw(bent()), table=bent()), is_odd_fields(value=odd_fields(bent()), table=bent())],
                  [True, True])
        self.same([is_flaw(table_of(pair()), None), is_odd_fields(table_of(pair()), None)], [False, False])


if __name__ == "__main__":
    main()
