"""[35] to [38]: least ahead lots, heads and families."""

from itertools import combinations, product
from unittest import main

from cardpanel.errors import InvalidField, InvalidLot, InvalidLots, InvalidPanel, UnknownEntry
from cardpanel.heads import (are_lots, cards_by, heads, is_panel_of, least_lots, lots_of, panel_of, stewards_of,
                             unbuilt)
from cardpanel.panels import Panel, cards
from support import (ABC, Case, all_panels, all_rows, big_names, big_panel, fields, lots, odd_objects, shuffled,
                     some_numbers, told_cards, within_lines)


def garden():
    return Panel(["jam", "leek", "rose"], [["jam", "leek", "rose"], ["rose", "jam", "leek"]])


def told_lots(panel, entry):
    """The least ahead lots of an entry, by the word of the document."""
    ahead = [set(row[:row.index(entry)]) for row in panel.rows()]
    least = [lot for lot in ahead if not any(other < lot for other in ahead)]
    return sorted({tuple(sorted(lot)) for lot in least})


def families(entries):
    """All families of some entries."""
    choices = []
    for name in entries:
        of_others = lots([other for other in entries if other != name])
        apart = []
        for many in range(1, len(of_others) + 1):
            for some in combinations(sorted(of_others), many):
                if not any(set(one) < set(other) for one in some for other in some):
                    apart.append([list(lot) for lot in some])
        choices.append(apart)
    return [dict(zip(entries, chosen)) for chosen in product(*choices)]


def can_be_built(family, lot):
    """Whether some order of the entries of a lot takes each behind one of its lots."""
    return any(
        all(any(set(one) <= set(order[:at]) for one in family[name]) for at, name in enumerate(order))
        for order in all_rows(lot))


WRONG_FAMILIES = [
    None, 1, True, "a", [], (), {}, ["a"], [[]], {"a": []}, {"a": [[]], "b": []}, {"a": None}, {"a": {}},
    {"a": "x"}, {"a": ()}, {"a": ([],)}, {"a": [()]}, {"a": [["a"]]}, {"a": [["b"]]}, {"a": [[], []]},
    {"a": [[]], "b": [[], ["a"]]}, {"a": [[]], "b": [["a"], []]}, {"A": [[]]}, {1: [[]]}, {(): [[]]}, {None: [[]]},
    {"": [[]]}, {"abcdefghi": [[]]}, {"a": [[]], "b": [("a",)]}, {"a": [[]], "b": ["a"]}, {"a": [[]], "b": [[1]]},
    {"a": [[]], "b": [[]], "c": [["b"], ["a"]]}, {"a": [[]], "b": [[]], "c": [["b", "a"]]},
    {"a": [[]], "b": [[]], "c": [["a"], ["a", "b"]]}, {"a": [[]], "b": [[]], "c": [["a"], ["a"]]},
    {"a": [[]], "b": [[]], "c": [["a", "a"]]}, {"a": [[]], "b": [["a"]], "c": [["d"]]}, {"a": [[]], 1: [["a"]]},
    {"a": [[]], "b": [[]], "c": [["a"], ["d"]]}, {"a": [[]], "b": [[]], "c": [["a"], 1]},
    {"a": [[]], "b": [[]], "c": [["a"], ["b", "c"]]}, {"a": [[]], "b": [[["a"]]]}, {"a": [[]], "b": [None]},
    Panel(["a"], [["a"]]), {"a": Panel(["a"], [["a"]])},
]
RINGS = [
    {"a": [["b"]], "b": [["a"]]},
    {"a": [["c"]], "b": [["a"]], "c": [["b"]]},
    {"a": [[]], "b": [["a"]], "c": [["b"]]},
    {"a": [[]], "b": [["c"]], "c": [["b"]]},
    {"a": [[]], "b": [["c"]], "c": [["a"], ["b"]]},
]


class Document(Case):
    def test_first_example(self):
        self.same(
            [least_lots(garden(), "leek"), lots_of(garden()), heads(garden())],
            [[["jam"]], {"jam": [[]], "leek": [["jam"]], "rose": [[]]},
             [([], "jam"), ([], "rose"), (["jam"], "leek")]])

    def test_second_example(self):
        self.same(
            [stewards_of(garden(), [], "rose"), stewards_of(garden(), ["jam"], "leek"),
             stewards_of(garden(), ["leek"], "jam"), cards_by(lots_of(garden()), ["leek", "rose"])],
            [[1], [0], [], ["leek", "rose"]])

    def test_third_example(self):
        some = {"a": [[]], "b": [["a"]], "c": [["a", "b"]]}
        others = {"a": [[]], "b": [["a"]], "c": [["b"]]}
        self.same(
            [are_lots(some), are_lots(others), unbuilt(others),
             is_panel_of(some, Panel(["a", "b", "c"], [["a", "b", "c"]])),
             is_panel_of(lots_of(garden()), panel_of(lots_of(garden())))],
            [True, False, [(["b"], "c")], True, True])


class LeastLots(Case):
    def test_all_small_panels(self):
        for panel in all_panels(ABC, 3):
            told = {entry: [list(lot) for lot in told_lots(panel, entry)] for entry in ABC}
            self.same(lots_of(panel), told)
            self.same([least_lots(panel, entry) for entry in ABC], list(told.values()))
            self.same(heads(panel), sorted((lot, entry) for entry in ABC for lot in told[entry]))

    def test_big_panel(self):
        panel = big_panel(7, 40, 8)
        for entry in panel.entries():
            self.same(least_lots(panel, entry), [list(lot) for lot in told_lots(panel, entry)])

    def test_one_entry(self):
        panel = Panel(["a"], [["a"], ["a"]])
        self.same([lots_of(panel), least_lots(panel, "a"), heads(panel)], [{"a": [[]]}, [[]], [([], "a")]])

    def test_one_steward(self):
        panel = Panel(["c", "b", "a"], [["c", "a", "b"]])
        self.same(lots_of(panel), {"a": [["c"]], "b": [["a", "c"]], "c": [[]]})
        self.same(heads(panel), [([], "c"), (["a", "c"], "b"), (["c"], "a")])

    def test_the_last_of_a_row_and_equal_lots_in_another_order(self):
        panel = Panel(ABC, [["a", "b", "c"], ["b", "a", "c"]])
        self.same(lots_of(panel), {"a": [[]], "b": [[]], "c": [["a", "b"]]})

    def test_a_lot_that_holds_another_one_is_left_out(self):
        panel = Panel(["a", "b", "c", "d"], [["a", "b", "c", "d"], ["a", "d", "c", "b"], ["b", "a", "c", "d"]])
        self.same(least_lots(panel, "d"), [["a"]])
        self.same(least_lots(panel, "c"), [["a", "b"], ["a", "d"]])

    def test_lots_are_ordered_as_lists_are(self):
        panel = Panel(["a", "b", "c", "d"], [["b", "d", "a", "c"], ["a", "c", "d", "b"], ["c", "d", "b", "a"]])
        self.same(least_lots(panel, "d"), [["a", "c"], ["b"], ["c"]][1:])
        panel = Panel(["a", "b", "c", "d"], [["b", "d", "a", "c"], ["a", "c", "d", "b"]])
        self.same(least_lots(panel, "d"), [["a", "c"], ["b"]])

    def test_dictionary_ascends(self):
        self.same(list(lots_of(Panel(["c", "a", "b"], [["c", "b", "a"]]))), ABC)

    def test_they_tell_all_cards(self):
        for panel in all_panels(ABC, 3):
            family = lots_of(panel)
            for field in fields(ABC):
                self.same(cards_by(family, field), cards(panel, field))

    def test_every_head_shows(self):
        for panel in all_panels(ABC, 2):
            for lot, entry in heads(panel):
                field = [name for name in ABC if name not in lot]
                self.assertIn(entry, cards(panel, field))

    def test_calls_by_name(self):
        self.same(least_lots(entry="leek", panel=garden()), [["jam"]])
        self.same(lots_of(panel=garden()), lots_of(garden()))
        self.same(heads(panel=garden()), heads(garden()))
        self.same(stewards_of(entry="rose", lot=[], panel=garden()), [1])
        self.same(cards_by(field=["leek", "rose"], lots=lots_of(garden())), ["leek", "rose"])
        self.same(unbuilt(lots=lots_of(garden())), [])
        self.same(are_lots(value=lots_of(garden())), True)
        self.assertIsInstance(panel_of(lots=lots_of(garden())), Panel)
        self.same(is_panel_of(value=garden(), lots=lots_of(garden())), True)

    def test_wrong(self):
        for panel in [None, 1, {"a": [[]]}, [["a"]], "a"]:
            self.raises(InvalidPanel, panel, least_lots, panel, None)
            self.raises(InvalidPanel, panel, lots_of, panel)
            self.raises(InvalidPanel, panel, heads, panel)
            self.raises(InvalidPanel, panel, stewards_of, panel, None, None)
        for entry in odd_objects() + ["rye"]:
            self.raises(UnknownEntry, entry, least_lots, garden(), entry)


class StewardsOf(Case):
    def test_all_small_panels(self):
        for panel in all_panels(ABC, 2):
            for entry in ABC:
                for lot in lots(ABC):
                    told = [at for at, row in enumerate(panel.rows()) if sorted(row[:row.index(entry)]) == lot]
                    self.same(stewards_of(panel, lot, entry), told)

    def test_rows_that_stand_there_twice(self):
        panel = Panel(ABC, [["a", "b", "c"], ["b", "a", "c"], ["a", "c", "b"], ["a", "b", "c"]])
        self.same(stewards_of(panel, ["a", "b"], "c"), [0, 1, 3])
        self.same(stewards_of(panel, [], "c"), [])

    def test_lots_that_are_no_least_ones(self):
        panel = Panel(ABC, [["a", "b", "c"], ["b", "c", "a"]])
        self.same(stewards_of(panel, ["a", "b"], "c"), [0])

    def test_a_lot_with_the_entry_and_one_of_all(self):
        self.same(stewards_of(garden(), ["jam", "leek"], "leek"), [])
        self.same(stewards_of(garden(), ["jam", "leek", "rose"], "leek"), [])

    def test_wrong(self):
        for lot in [None, "jam", ("jam",), ["leek", "jam"], ["jam", "jam"], ["rye"], [1], [["jam"]], {"jam": 1}, {},
                    True, garden()]:
            self.raises(InvalidLot, lot, stewards_of, garden(), lot, None)
        for entry in odd_objects() + ["rye"]:
            self.raises(UnknownEntry, entry, stewards_of, garden(), ["jam"], entry)


class Families(Case):
    def test_cards_by_goes_by_the_lots_alone(self):
        family = {"b": [["a"]], "a": [["b"]]}
        self.same(cards_by(family, ["a", "b"]), [])
        self.same(cards_by(family, ["b"]), ["b"])
        self.same(cards_by({"a": [[]]}, ["a"]), ["a"])
        self.same(cards_by({"a": [[]], "b": [["a"]], "c": [["a"], ["b"]]}, ["a", "c"]), ["a", "c"])
        self.same(cards_by({"a": [[]], "b": [["a"]], "c": [["a"], ["b"]]}, ["b", "c"]), ["b", "c"])
        self.same(cards_by({"a": [[]], "b": [["a"]], "c": [["a", "b"]]}, ["b", "c"]), ["b"])

    def test_order_of_keys_means_nothing(self):
        family = {"c": [["a", "b"]], "a": [[]], "b": [["a"]]}
        self.same(cards_by(family, ["b", "c"]), ["b"])
        self.same(unbuilt(family), [])
        self.same(are_lots(family), True)
        self.same(is_panel_of(family, Panel(ABC, [ABC])), True)
        self.same(is_panel_of(family, panel_of(family)), True)

    def test_built_lots(self):
        for family in families(ABC):
            told = sorted((lot, name) for name in ABC for lot in family[name] if not can_be_built(family, lot))
            self.same(unbuilt(family), told)

    def test_rings(self):
        self.same([unbuilt(family) for family in RINGS], [
            [(["a"], "b"), (["b"], "a")],
            [(["a"], "b"), (["b"], "c"), (["c"], "a")],
            [(["b"], "c")],
            [(["b"], "c"), (["c"], "b")],
            [(["b"], "c"), (["c"], "b")],
        ])
        self.same([are_lots(family) for family in RINGS], [False] * len(RINGS))

    def test_a_lot_is_built_of_its_own_entries_alone(self):
        family = {"a": [[]], "b": [["a"]], "c": [["a"]], "d": [["b", "c"]]}
        self.same(unbuilt(family), [(["b", "c"], "d")])

    def test_just_the_lots_of_panels_are_lots(self):
        rows = all_rows(ABC)
        real = [lots_of(Panel(ABC, list(some))) for many in range(1, 7) for some in combinations(rows, many)]
        for family in families(ABC):
            self.same(are_lots(family), family in real)
            self.assertEqual(unbuilt(family) == [], family in real)

    def test_one_entry(self):
        self.same([are_lots({"jam": [[]]}), unbuilt({"jam": [[]]})], [True, []])
        self.assertEqual(panel_of({"jam": [[]]}), Panel(["jam"], [["jam"]]))
        self.same(is_panel_of({"jam": [[]]}, Panel(["jam"], [["jam"], ["jam"]])), True)

    def test_wrong_families(self):
        for family in WRONG_FAMILIES:
            self.same(are_lots(family), False)
            self.raises(InvalidLots, family, cards_by, family, None)
            self.raises(InvalidLots, family, unbuilt, family)
            self.raises(InvalidLots, family, panel_of, family)
            self.raises(InvalidLots, family, is_panel_of, family, None)

    def test_wrong_fields(self):
        family = {"a": [[]], "b": [["a"]]}
        for field in [[], ["b", "a"], ["a", "a"], ["a", "c"], ("a",), "a", None, {"a": 1}, [1], [["a"]], True,
                      garden()]:
            self.raises(InvalidField, field, cards_by, family, field)

    def test_any_object_may_be_no_lots(self):
        for value in odd_objects():
            self.same(are_lots(value), False)


class PanelOf(Case):
    def check(self, family):
        panel = panel_of(family)
        self.assertEqual(lots_of(panel), family)
        self.assertEqual(panel.entries(), sorted(family))
        self.assertLessEqual(len(panel), sum(len(each) for each in family.values()))
        self.same(is_panel_of(family, panel), True)
        self.same(is_panel_of(family, panel.with_row(panel.rows()[0])), True)

    def test_all_small_families(self):
        for family in families(ABC):
            if are_lots(family):
                self.check(family)

    def test_greater_families(self):
        for seed in range(20):
            self.check(lots_of(big_panel(seed, 4 + seed % 8, 2 + seed % 5)))
        self.check(lots_of(big_panel(21, 40, 1)))

    def test_sixty_lots(self):
        family = lots_of(big_panel(9, 20, 5))
        self.assertEqual(sum(len(each) for each in family.values()), 60)
        self.check(family)

    def test_rings_have_no_panel(self):
        for family in RINGS:
            self.raises(InvalidLots, family, panel_of, family)
            self.raises(InvalidLots, family, is_panel_of, family, None)

    def test_is_panel_of_all_small_panels(self):
        panels = all_panels(ABC, 3)
        for one in panels[:20]:
            family = lots_of(one)
            for other in panels:
                self.same(is_panel_of(family, other), lots_of(other) == family)

    def test_is_panel_of_any_object(self):
        family = lots_of(garden())
        for value in odd_objects() + [garden().rows(), family, garden().struck(["jam"]), InvalidPanel(garden())]:
            self.same(is_panel_of(family, value), False)
        other = garden().renamed({"jam": "jam", "leek": "leek", "rose": "rye"})
        self.same(is_panel_of(family, other), False)


FORTY = [row.split() for row in """
wi zg we xg wh zb yi za ye yf wg wd xf wa xc xd xj yg xe zj zf xi zd xa yc yh yb zi ya ze yj xh wj wf zc zh wb xb wc yd
yc xe zi yj xi wb yg wg xb ya yd yh wj wd zg xa yf zj xg xd yb zc yi xh xf za wi zf xj wa wh zd xc zh wf ze wc zb we ye
yi zc wg xa zd yf yd zb wb xf zi wj yc xj xi ze xc ya wf yb xg wh wa zh ye yg wi yh zj zf za we xh wd zg xd yj wc xb xe
wd za yd zg zf xc zc yg zb zd xb xd yj wa xh yf xj zh xa xe yc zi wh wf xg yi wb ze wi we xi ya yh wg wj zj xf ye yb wc
wh xb yc xi we xa ze xg zd yb wi ya zh wj xe yh zb xf ye wd wa yg xc yd xd xh yi zf wb yf yj za wg zj xj zi wf zc zg wc
xa yi zc yh ze xe zd zi zf xg ya wa xc yb xi zj yg yj xd wb wj we wg yc xj za yd zb yf xb wc xh ye zg zh wh wf xf wd wi
xa zc wc ye xc yc wg xd yh xi zd xf wd yb zf wj xg yi wa zj xj yf zg yg wf zb zi ze xh zh za yj xe ya xb yd wh wi wb we
ze xf we wc wf wi xa zd xd zj ye zc xj xg za xb yi yd wd wj wh zi zh yb yc wa wg wb zb zg xi zf xc xh yj yg xe ya yf yh
""".split("\n") if row]


def not_walked(family):
    """The lots, with their entries, that can't be taken one by one, each of the entries behind one of its lots."""
    sets = {name: [frozenset(lot) for lot in family[name]] for name in family}
    found = []
    for name in family:
        for lot in family[name]:
            taken, ready = set(), True
            while ready:
                ready = [each for each in lot if each not in taken and any(one <= taken for one in sets[each])]
                taken.update(ready)
            if len(taken) < len(lot):
                found.append((lot, name))
    return sorted(found)


class GreatFamilies(Case):
    """Families of 40 entries and up to 320 lots, judged by walking the rows and the lots."""

    def panels(self):
        names = big_names(40)
        first, rest, numbers = names[:10], names[10:], some_numbers(4)
        wide = [[first[at]] + rest + first[:at] + first[at + 1:] for at in range(10)]
        other = [[name] + shuffled(numbers, rest) + [each for each in first if each != name] for name in first[:8]]
        return [Panel(FORTY[0], FORTY), Panel(names, wide), Panel(names, other), big_panel(8, 40, 16),
                Panel(names, [names])]

    def check_family(self, family):
        """What all functions but `is_panel_of` tell of a family."""
        told = not_walked(family)
        self.same([unbuilt(family), are_lots(family)], [told, told == []])
        names = sorted(family)
        for field in [names, names[::2], names[3:9], names[17:18]]:
            given = [name for name in field if any(not set(lot) & set(field) for lot in family[name])]
            self.same(cards_by(family, field), given)
        if told:
            self.raises(InvalidLots, family, panel_of, family)
            self.raises(InvalidLots, family, is_panel_of, family, None)
        return told == []

    def test_lots_of_panels(self):
        for panel in self.panels():
            family = lots_of(panel)
            self.same(family, {name: [list(lot) for lot in told_lots(panel, name)] for name in panel.entries()})
            self.assertLessEqual(sum(map(len, family.values())), 320)
            self.same(self.check_family(family), True)
            for field in [panel.entries()[::3], panel.entries()[5:25]]:
                self.same(cards_by(family, field), told_cards(panel.rows(), field))
            self.same([is_panel_of(family, panel), is_panel_of(family, panel.rows())], [True, False])
            self.same(is_panel_of(family, panel.with_row(panel.rows()[0])), True)
            self.same([heads(panel), stewards_of(panel, *heads(panel)[-1]) != []], [
                sorted((lot, name) for name in family for lot in family[name]), True])
        self.assertEqual(max(sum(map(len, lots_of(panel).values())) for panel in self.panels()), 310)

    def test_panel_of_great_families(self):
        for panel in self.panels()[::2]:
            family = lots_of(panel)
            made = panel_of(family)
            self.same([lots_of(made), is_panel_of(family, made)], [family, True])
            self.assertLessEqual(len(made), sum(map(len, family.values())))

    def changed(self, panel, change):
        """Families of a panel in which the lots of one entry are changed, for entries of all kinds."""
        for name in panel.entries()[3::9]:
            family = lots_of(panel)
            found = change(family, name)
            if found is not None:
                family[name] = found
                yield family

    def check_changed(self, change):
        """Whether families that are changed so are lots of some panel still, as a list: some may be and some not."""
        found = []
        for panel in self.panels():
            for family in self.changed(panel, change):
                found.append(self.check_family(family))
                if found[-1]:
                    self.same(is_panel_of(family, panel), False)
        return sorted(set(found))

    def test_a_lot_taken_out(self):
        self.same(self.check_changed(lambda family, name: family[name][1:] or None), [False, True])
        self.same(self.check_changed(lambda family, name: family[name][:-1] or None), [False, True])

    def test_a_lot_put_in(self):
        def one_more(family, name, some):
            for lot in some:
                if name not in lot and not any(set(one) <= set(lot) or set(lot) <= set(one) for one in family[name]):
                    return sorted(family[name] + [lot])
            return None
        names = [big_names(40), sorted(FORTY[0])]
        loose = [sorted(each[at:at + 9]) for each in names for at in range(0, 30, 4)]
        self.same(self.check_changed(lambda family, name: one_more(
            family, name, [lot for lot in loose if lot[0] in family])), [False, True])
        for panel in self.panels():
            begun = [sorted(row[:many]) for row in panel.rows() for many in range(2, 30)]
            for family in self.changed(panel, lambda family, name: one_more(family, name, begun)):
                self.same([self.check_family(family), is_panel_of(family, panel)], [True, False])

    def test_a_lot_made_greater_by_an_entry(self):
        def greater(family, name, more):
            lot = sorted({*family[name][0], more})
            others = family[name][1:]
            return sorted(others + [lot]) if more != name and more not in family[name][0] and not any(
                set(one) <= set(lot) for one in others) else None
        for at in (1, 20, 38):
            found = self.check_changed(lambda family, name: greater(family, name, sorted(family)[at]))
            self.assertIn(False, found)

    def test_a_lot_may_be_built_by_lots_that_are_not(self):
        family = {"a": [[]], "b": [["a"]], "c": [["b"]], "d": [["a", "b", "c"]], "e": [["b", "c"]]}
        self.same(unbuilt(family), [(["b"], "c"), (["b", "c"], "e")])
        names = big_names(40)
        chain = {name: [[names[at - 1]]] if at else [[]] for at, name in enumerate(names)}
        chain[names[39]] = [names[:39]]
        self.same(unbuilt(chain), [([names[at]], names[at + 1]) for at in range(1, 38)])

    def test_wrong_families_are_refused(self):
        panel = Panel(FORTY[0], FORTY)
        names = panel.entries()
        last = max(names, key=lambda name: len(lots_of(panel)[name]))
        many = lots_of(panel)[last]
        other = next(name for name in names if name != last and name not in many[0])
        for wrong in [many[::-1], many + many[-1:], many + [sorted({*many[-1], other, *many[0]})],
                      sorted(many + [many[0][:-1]]), tuple(many), [tuple(lot) for lot in many],
                      [many[0][::-1]] + many[1:], sorted(many[1:] + [sorted(many[0] + [last])]),
                      many[:-1] + [many[-1] + ["zz"]], [], None,
                      [many[0] + many[0][-1:]] + many[1:], {last: many}, [None] + many, many + [True], [[1]] + many]:
            family = lots_of(panel)
            family[last] = wrong
            self.refused(family)
        for key in ["A", "", "abcdefghi", 1, True, None, ("a",)]:
            family = lots_of(panel)
            family[key] = [[]]
            self.refused(family)
            family[key] = family.pop("yd")
            self.refused(family)
        family = lots_of(panel)
        del family["yd"]
        self.refused(family)
        self.refused(list(lots_of(panel).items()))

    def refused(self, family):
        self.same(are_lots(family), False)
        self.raises(InvalidLots, family, cards_by, family, None)
        self.raises(InvalidLots, family, unbuilt, family)
        self.raises(InvalidLots, family, panel_of, family)
        self.raises(InvalidLots, family, is_panel_of, family, None)

    def test_a_family_that_is_changed_is_answered_as_it_stands_then(self):
        panel = Panel(FORTY[0], FORTY)
        family = lots_of(panel)
        last = max(family, key=lambda name: len(family[name]))
        self.same([are_lots(family), unbuilt(family), is_panel_of(family, panel)], [True, [], True])
        gone = family[last].pop(0)
        self.same([unbuilt(family), are_lots(family)], [not_walked(family), not_walked(family) == []])
        family[last].insert(0, gone)
        self.same([are_lots(family), unbuilt(family), is_panel_of(family, panel)], [True, [], True])
        family[last][0].append("zz")
        self.same(are_lots(family), False)
        family[last][0].pop()
        self.same([are_lots(family), is_panel_of(family, panel)], [True, True])

    def test_few_lines_of_code_are_carried_out(self):
        panel = Panel(FORTY[0], FORTY)
        family = lots_of(panel)
        self.assertEqual(sum(map(len, family.values())), 205)
        for call, passed in [(unbuilt, [family]), (are_lots, [family]), (is_panel_of, [family, panel]),
                             (cards_by, [family, panel.entries()])]:
            within_lines(120000, call, *passed)


if __name__ == "__main__":
    main()
