"""[80] to [84]: panels put together."""

from itertools import product
from unittest import main

from cardpanel.alike import alike, within
from cardpanel.errors import (InvalidEntry, InvalidLot, InvalidPanel, TakenEntry, Unlike, UnknownEntry)
from cardpanel.fewest import fewest_rows
from cardpanel.heads import are_lots, least_lots, lots_of, panel_of
from cardpanel.panels import Panel, cards
from cardpanel.together import (as_one, behind, greatest_within, instead, is_as_one, is_stuck_field, joint,
                                side_by_side, stuck_field)
from support import ABC, Case, all_panels, all_rows, big_names, big_panel, fields, odd_objects, told_cards, told_table


def east():
    return Panel(["a", "b", "c"], [["a", "b", "c"]])


def west():
    return Panel(["a", "b", "c"], [["b", "a", "c"]])


def inn():
    return Panel(["d", "e"], [["d", "e"], ["e", "d"]])


def both():
    return joint(east(), west())


def with_sign(panel, sign):
    """A panel whose entries have another first sign."""
    return panel.renamed({name: sign + name[1:] for name in panel.entries()})


class Document(Case):
    def test_first_example(self):
        self.same(
            [cards(both(), ["a", "b", "c"]), greatest_within(east(), west()),
             is_stuck_field(east(), west(), ["a", "b"]), is_stuck_field(east(), west(), ["a", "c"]),
             greatest_within(both(), west())],
            [["a", "b"], None, True, False, {"a": [["b"]], "b": [[]], "c": [["a", "b"]]}])

    def test_second_example(self):
        self.same(side_by_side(east(), inn()).rows(), [
            ["a", "b", "c", "d", "e"], ["d", "e", "a", "b", "c"], ["e", "d", "a", "b", "c"]])
        self.same([behind(east(), inn()).rows(), instead(west(), "a", inn()).rows()], [
            [["a", "b", "c", "d", "e"], ["a", "b", "c", "e", "d"]], [["b", "d", "e", "c"], ["b", "e", "d", "c"]]])

    def test_third_example(self):
        self.same(
            [is_as_one(instead(west(), "a", inn()), ["d", "e"], "a", (west(), inn())),
             as_one(both(), ["a", "c"], "z"), as_one(both(), ["a", "b"], "z")[1].entries()], [True, None, ["a", "b"]])


class Joint(Case):
    def test_all_small_panels(self):
        panels = all_panels(ABC, 2)
        for one in panels:
            for other in panels:
                found = joint(one, other)
                self.same([found.entries(), found.rows()], [ABC, one.rows() + other.rows()])
                for field in fields(ABC):
                    told = sorted({*cards(one, field), *cards(other, field)})
                    self.same(cards(found, field), told)

    def test_least_lots_are_the_least_ones_of_both(self):
        for seed in range(6):
            one, other = big_panel(seed, 9, 3), big_panel(seed + 40, 9, 2)
            for name in one.entries():
                every = least_lots(one, name) + least_lots(other, name)
                least = [lot for lot in every if not any(set(less) < set(lot) for less in every)]
                self.same(least_lots(joint(one, other), name), sorted(map(list, {tuple(lot) for lot in least})))
            self.same([within(one, joint(one, other)), within(other, joint(one, other))], [True, True])


class GreatestWithin(Case):
    def check(self, one, other, within_both):
        """`within_both` are the tables of all panels, of up to six rows, that are within both."""
        stuck = [field for field in fields(one.entries()) if not set(cards(one, field)) & set(cards(other, field))]
        self.same([is_stuck_field(one, other, field) for field in fields(one.entries())],
                  [field in stuck for field in fields(one.entries())])
        found, lots = stuck_field(one, other), greatest_within(one, other)
        if stuck:
            self.assertIn(found, stuck)
            self.same([is_stuck_field(one, other, found), lots, within_both], [True, None, []])
            return
        self.assertIsNone(found)
        self.assertTrue(are_lots(lots))
        greatest = panel_of(lots)
        self.same(lots, lots_of(greatest))
        self.same([within(greatest, one), within(greatest, other)], [True, True])
        self.assertTrue(within_both)
        for panel in within_both:
            self.assertTrue(within(panel, greatest))

    def test_all_small_panels(self):
        panels, rows = all_panels(ABC, 3), all_panels(ABC, 1)
        for one in panels:
            for other in panels:
                self.check(one, other, [panel for panel in rows if within(panel, one) and within(panel, other)])

    def test_panels_of_five_entries(self):
        names = big_names(5)
        rows = [Panel(names, [row]) for row in all_rows(names)]
        for seed in range(12):
            one = big_panel(seed, 5, 2 + seed % 4)
            other = joint(big_panel(seed + 30, 5, 1 + seed % 3), Panel(names, one.rows()[:1 + seed % 2]))
            for pair in [(one, other), (big_panel(seed + 60, 5, 2), other)]:
                inside = [panel for panel in rows if within(panel, pair[0]) and within(panel, pair[1])]
                self.check(*pair, inside)
                if inside:
                    every = Panel(names, [panel.rows()[0] for panel in inside])
                    self.same(greatest_within(*pair), lots_of(every))

    def test_one_entry_and_panels_within_one_another(self):
        self.same(greatest_within(Panel(["a"], [["a"]]), Panel(["a"], [["a"], ["a"]])), {"a": [[]]})
        for seed in range(4):
            high = big_panel(seed, 12, 8)
            low = Panel(high.entries(), high.rows()[2:])
            self.same([self.at_once(greatest_within, high, low), greatest_within(low, high)], [lots_of(low)] * 2)
            self.same(self.at_once(greatest_within, high, high), lots_of(high))
        names = big_names(12)
        every = Panel(names, [names[at:] + names[:at] for at in range(12)])
        self.same(self.at_once(greatest_within, every, joint(every, east_of(names))), lots_of(every))

    def test_stuck_fields_of_forty_entries(self):
        found = []
        for seed in range(6):
            one, other = big_panel(seed, 20, 4), big_panel(seed + 50, 20, 4)
            one = behind(one, with_sign(big_panel(7, 20, 2), "o"))
            other = behind(other, with_sign(big_panel(7, 20, 2), "o"))
            stuck = self.at_once(stuck_field, one, other)
            found.append(stuck)
            if stuck is not None:
                self.same(self.at_once(is_stuck_field, one, other, stuck), True)
                self.assertFalse(set(cards(one, stuck)) & set(cards(other, stuck)))
        self.assertTrue([each for each in found if each is not None])
        one = big_panel(1, 40, 8)
        self.same(self.at_once(stuck_field, one, joint(one, big_panel(2, 40, 8))), None)

    def test_any_object_may_be_no_stuck_field(self):
        for value in odd_objects() + [("a", "b"), ["b", "a"], "ab", ["a", "b", "d"], {"a": 1, "b": 2}, east(),
                                      ["a", "b", None], [["a", "b"]]]:
            self.same(is_stuck_field(east(), west(), value), False)


def east_of(names):
    return Panel(names, [names])


class SideBySide(Case):
    def check(self, one, other):
        beside, after = side_by_side(one, other), behind(one, other)
        ours, theirs = one.rows(), other.rows()
        self.same(beside.rows(), [row + theirs[0] for row in ours] + [row + ours[0] for row in theirs])
        many = max(len(one), len(other))
        ours, theirs = ours + ours[-1:] * many, theirs + theirs[-1:] * many
        self.same(after.rows(), [mine + yours for mine, yours in zip(ours[:many], theirs)])
        self.same([beside.entries(), after.entries()], [sorted(one.entries() + other.entries())] * 2)
        for field in fields(beside.entries()):
            mine = told_cards(one.rows(), [name for name in field if name in one.entries()] or one.entries())
            yours = told_cards(other.rows(), [name for name in field if name in other.entries()] or other.entries())
            told = [name for name in field if name in mine + yours]
            self.same(cards(beside, field), told)
            first = [name for name in field if name in mine]
            self.same(cards(after, field), first or told)
        few = [len(fewest_rows(one)), len(fewest_rows(other))]
        self.same([len(fewest_rows(beside)), len(fewest_rows(after))], [sum(few), max(few)])

    def test_small_panels(self):
        others = [inn(), Panel(["aa"], [["aa"]]), Panel(["cc", "x", "y"], [["y", "x", "cc"], ["x", "cc", "y"]]),
                  Panel(["d", "e"], [["d", "e"], ["d", "e"], ["e", "d"]])]
        for one in all_panels(ABC, 2)[::3]:
            for other in others:
                self.check(one, other)
                self.check(other, one)

    def test_forty_entries_in_all(self):
        one, other = big_panel(1, 25, 8), with_sign(big_panel(2, 15, 5), "m")
        self.same([len(self.at_once(side_by_side, one, other)), len(self.at_once(behind, one, other))], [13, 8])
        self.same(len(self.at_once(fewest_rows, side_by_side(one, other))),
                  len(fewest_rows(one)) + len(fewest_rows(other)))

    def test_common_entries(self):
        for other in [east(), Panel(["c"], [["c"]]), Panel(["c", "d"], [["d", "c"]])]:
            self.raises(InvalidPanel, other, side_by_side, east(), other)
            self.raises(InvalidPanel, other, behind, east(), other)


class Instead(Case):
    def told(self, panel, entry, inner, field):
        """The cards, by the word of the document."""
        inside = [name for name in field if name in inner.entries()]
        outside = [name for name in field if name not in inner.entries()] + ([entry] if inside else [])
        given = told_cards(panel.rows(), sorted(outside))
        if entry not in given or not inside:
            return given
        return sorted([name for name in given if name != entry] + told_cards(inner.rows(), inside))

    def check(self, panel, entry, inner):
        found = instead(panel, entry, inner)
        rows = [row[:row.index(entry)] + other + row[row.index(entry) + 1:]
                for row in panel.rows() for other in inner.rows()]
        self.same(found.rows(), rows)
        for field in fields(found.entries()):
            self.same(cards(found, field), self.told(panel, entry, inner, field))
        self.same(is_as_one(found, inner.entries(), entry, (panel, inner)), True)
        outer, inside = as_one(found, inner.entries(), entry)
        self.assertTrue(alike(instead(outer, entry, inside), found))
        self.same([inside.entries(), outer.entries()], [inner.entries(), panel.entries()])
        self.same(is_as_one(found, inner.entries(), entry, (outer, inside)), True)

    def test_small_panels(self):
        inners = [inn(), Panel(["aa"], [["aa"]]), Panel(["b"], [["b"]]), Panel(["b", "bb", "d"], [
            ["d", "b", "bb"], ["b", "bb", "d"]])]
        for panel in all_panels(ABC, 2):
            for inner in inners:
                self.check(panel, "b", inner)
        for entry in ABC:
            self.check(Panel(ABC, all_rows(ABC)[1:4]), entry, inn())
        self.check(Panel(["a"], [["a"]]), "a", Panel(["a", "b"], [["b", "a"]]))
        self.check(Panel(["a"], [["a"]]), "a", Panel(["a"], [["a"], ["a"]]))

    def test_forty_entries_and_thirty_two_stewards(self):
        panel, inner = big_panel(4, 20, 4), with_sign(big_panel(5, 21, 8), "m")
        found = self.at_once(instead, panel, "nac", inner)
        self.same([len(found), len(found.entries())], [32, 40])
        pair = self.at_once(as_one, found, inner.entries(), "nac")
        self.same([self.at_once(is_as_one, found, inner.entries(), "nac", pair),
                   self.at_once(is_as_one, found, inner.entries(), "nac", (panel, inner))], [True, True])
        self.assertTrue(alike(self.at_once(instead, pair[0], "nac", pair[1]), found))

    def test_wrong(self):
        for entry in odd_objects() + ["d", "z"]:
            self.raises(UnknownEntry, entry, instead, east(), entry, None)
        for inner in odd_objects()[:-1] + [east(), Panel(["b", "d"], [["b", "d"]]), inn().rows(), [inn()], (inn(),)]:
            self.raises(InvalidPanel, inner, instead, east(), "a", inner)
        self.same(instead(east(), "a", Panel(["a", "d"], [["d", "a"]])).rows(), [["d", "a", "b", "c"]])


class AsOne(Case):
    def check(self, panel):
        names = panel.entries()
        for lot in fields(names):
            outside = [name for name in names if name not in lot]
            inside = [Panel(lot, rows.rows()) for rows in all_panels(lot, 2 if len(lot) < 4 else 1)]
            outer = [each for each in all_panels(sorted(outside + ["z"]), 2 if len(outside) < 3 else 1)]
            table = told_table(panel)
            good = any(told_table(instead(one, "z", other)) == table for one in outer for other in inside)
            found = as_one(panel, lot, "z")
            if good:
                self.assertIsNotNone(found)
            self.same(is_as_one(panel, lot, "z", found), found is not None)
            if found is not None:
                self.assertEqual(told_table(instead(found[0], "z", found[1])), table)
                self.same([found[0].entries(), found[1].entries(), isinstance(found, tuple)],
                          [sorted(outside + ["z"]), lot, True])
            elif len(panel) <= 2:
                self.assertFalse(good)

    def test_small_panels(self):
        for panel in all_panels(ABC, 2):
            self.check(panel)
        for seed in range(6):
            self.check(big_panel(seed, 4, 1 + seed % 3))

    def test_lots_say_whether_there_is_one(self):
        for seed in range(40):
            panel = big_panel(seed, 5, 1 + seed % 4)
            family = lots_of(panel)
            for lot in fields(panel.entries()):
                told = [(set(each) & set(lot), set(each) - set(lot)) for name in lot for each in family[name]]
                whole = all(not set(each) & set(lot) or set(each) >= set(lot)
                            for name in family if name not in lot for each in family[name])
                outer = sorted({tuple(sorted(part)) for _, part in told})
                parted = all(sorted(family[name]) == sorted(
                    sorted({*one, *other}) for one in outer
                    for other in {tuple(sorted(set(each) & set(lot))) for each in family[name]}) for name in lot)
                self.same(as_one(panel, lot, "zz") is not None, whole and parted)

    def test_every_pair_of_small_panels(self):
        panel = Panel(ABC, [["a", "b", "c"], ["b", "a", "c"]])
        for lot in fields(ABC):
            outside = sorted([name for name in ABC if name not in lot] + ["z"])
            for outer, inner in product(all_panels(outside, 2), all_panels(lot, 2)):
                told = told_table(instead(outer, "z", inner)) == told_table(panel)
                self.same(is_as_one(panel, lot, "z", (outer, inner)), told)

    def test_the_name_may_be_one_of_the_lot(self):
        for entry in ["a", "b", "q"]:
            outer, inner = as_one(both(), ["a", "b"], entry)
            self.same([outer.entries(), inner.entries()], [sorted([entry, "c"]), ["a", "b"]])
            self.same(is_as_one(both(), ["a", "b"], entry, (outer, inner)), True)

    def test_lots_of_one_and_of_all(self):
        outer, inner = as_one(both(), ["b"], "zz")
        self.assertEqual(inner, Panel(["b"], [["b"]]))
        self.assertTrue(alike(outer, both().renamed({"a": "a", "b": "zz", "c": "c"})))
        outer, inner = as_one(both(), ABC, "zz")
        self.assertTrue(outer == Panel(["zz"], [["zz"]]) and alike(inner, both()))

    def test_any_object(self):
        outer, inner = as_one(both(), ["a", "b"], "z")
        for value in odd_objects() + [[outer, inner], (inner, outer), (outer,), (outer, inner, inner), (outer, None),
                                      (None, inner), (outer.rows(), inner.rows()), outer, (outer, outer),
                                      (outer, inner.rows()), {"outer": outer, "inner": inner},
                                      (outer, inner.renamed({"a": "a", "b": "d"})),
                                      (outer.renamed({"z": "y", "c": "c"}), inner),
                                      (outer, Panel(["a", "b"], [["a", "b"]])),
                                      (both(), inner), (Panel(["c", "z"], [["c", "z"]]), inner)]:
            self.same(is_as_one(both(), ["a", "b"], "z", value), False)
        self.same(is_as_one(both(), ["a", "c"], "z", None), False)

    def test_wrong(self):
        for lot in [None, True, "a", ("a",), [], (), {"a": 1}, ["b", "a"], ["a", "a"], ["d"], [1], [["a"]], east()]:
            self.raises(InvalidLot, lot, as_one, east(), lot, None)
            self.raises(InvalidLot, lot, is_as_one, east(), lot, None, None)
        for entry in [None, True, 1, "", "A", "a b", "abcdefghi", ["z"], ("z",), {}, east(), "z1"]:
            self.raises(InvalidEntry, entry, as_one, east(), ["a"], entry)
            self.raises(InvalidEntry, entry, is_as_one, east(), ["a"], entry, None)
        self.raises(TakenEntry, "c", as_one, east(), ["a", "b"], "c")
        self.raises(TakenEntry, "c", is_as_one, east(), ["a", "b"], "c", None)


class Arguments(Case):
    def test_panels(self):
        for wrong in [None, True, "abc", [["a"]], east().rows()]:
            for call in (joint, greatest_within, stuck_field):
                self.raises(InvalidPanel, wrong, call, wrong, None)
                self.raises(InvalidPanel, wrong, call, east(), wrong)
            self.raises(InvalidPanel, wrong, is_stuck_field, wrong, None, None)
            self.raises(InvalidPanel, wrong, is_stuck_field, east(), wrong, None)
            for call in (side_by_side, behind):
                self.raises(InvalidPanel, wrong, call, wrong, None)
                self.raises(InvalidPanel, wrong, call, east(), wrong)
            self.raises(InvalidPanel, wrong, instead, wrong, None, None)
            self.raises(InvalidPanel, wrong, as_one, wrong, None, None)
            self.raises(InvalidPanel, wrong, is_as_one, wrong, None, None, None)

    def test_unlike(self):
        for other in [inn(), Panel(["a", "b"], [["a", "b"]]), Panel(["a", "b", "d"], [["a", "b", "d"]])]:
            for call in (joint, greatest_within, stuck_field):
                self.raises(Unlike, other, call, east(), other)
            self.raises(Unlike, other, is_stuck_field, east(), other, None)

    def test_by_name(self):
        self.assertEqual(joint(other=west(), one=east()), both())
        self.same([greatest_within(other=west(), one=both()), stuck_field(other=east(), one=both()),
                   is_stuck_field(value=["a", "b"], other=west(), one=east())],
                  [greatest_within(both(), west()), None, True])
        self.assertEqual(side_by_side(other=inn(), one=east()), side_by_side(east(), inn()))
        self.assertEqual(behind(other=inn(), one=east()), behind(east(), inn()))
        self.assertEqual(instead(inner=inn(), entry="a", panel=west()), instead(west(), "a", inn()))
        pair = as_one(entry="z", lot=["a", "b"], panel=both())
        self.same(is_as_one(value=pair, entry="z", lot=["a", "b"], panel=both()), True)


if __name__ == "__main__":
    main()
