"""[65] to [68]: who comes in when somebody goes, ways in, and layers."""

from unittest import main

from cardpanel.errors import InvalidField, InvalidPanel, TakenEntry, UnknownEntry
from cardpanel.leaving import (comes_in, fallers, fewest_out, field_where, idle, is_field_where, layer_of, layers,
                               risers, ways_in)
from cardpanel.panels import Panel, cards
from support import ABC, Case, all_panels, big_panel, fields, lots, odd_objects, told_cards


def facing():
    return Panel(["ale", "bun", "cob"], [["ale", "bun", "cob"], ["cob", "bun", "ale"]])


def pairs_ahead():
    return Panel(["ale", "bun", "cob", "dip"], [["ale", "bun", "cob", "dip"], ["bun", "ale", "dip", "cob"]])


class Document(Case):
    def test_first_example(self):
        self.same(
            [comes_in(facing(), "ale"), comes_in(facing(), "bun"), field_where(facing(), "ale", "bun"),
             field_where(facing(), "bun", "ale"), is_field_where(facing(), "ale", "bun", ["ale", "bun"])],
            [["bun"], [], ["ale", "bun", "cob"], None, False])

    def test_second_example(self):
        self.same(
            [risers(facing(), ["ale", "bun", "cob"], "cob"), risers(facing(), ["ale", "bun", "cob"], "bun"),
             fallers(facing(), ["ale", "bun"], "cob"), fallers(facing(), ["ale", "cob"], "bun")],
            [["bun"], [], ["bun"], []])
        self.same([ways_in(facing(), ["ale", "bun", "cob"], "bun"), ways_in(facing(), ["ale", "bun"], "bun"),
                   fewest_out(facing(), ["ale", "bun", "cob"], "bun")], [[["ale"], ["cob"]], [[]], 1])

    def test_third_example(self):
        self.same(
            [layers(pairs_ahead(), ["ale", "bun", "cob", "dip"]), layers(pairs_ahead(), ["bun", "cob", "dip"]),
             layer_of(pairs_ahead(), ["ale", "dip"], "dip"), idle(pairs_ahead()), idle(facing())],
            [[["ale", "bun"], ["cob", "dip"]], [["bun"], ["cob", "dip"]], 1, ["cob", "dip"], ["bun"]])


def less(field, away):
    return [name for name in field if name not in away]


class ByAllFields(Case):
    def check(self, panel):
        every, names = fields(panel.entries()), panel.entries()
        told = {tuple(field): told_cards(panel.rows(), field) for field in every}
        busy = set()
        for gone in names:
            coming = []
            for entry in less(names, [gone]):
                where = [field for field in every if gone in field and entry in field
                         and entry not in told[tuple(field)] and entry in told[tuple(less(field, [gone]))]]
                found = field_where(panel, gone, entry)
                self.assertTrue(found in where if where else found is None)
                self.same([is_field_where(panel, gone, entry, field) for field in every],
                          [field in where for field in every])
                coming += [entry] if where else []
            self.same(comes_in(panel, gone), coming)
            busy.update([gone] if coming else [])
        self.same(idle(panel), less(names, busy))
        for field in every:
            self.check_field(panel, field, told)

    def check_field(self, panel, field, told):
        given = told[tuple(field)]
        for name in panel.entries():
            if name in field and len(field) > 1:
                self.same(risers(panel, field, name), less(told[tuple(less(field, [name]))], given))
            if name not in field:
                self.same(fallers(panel, field, name), less(given, told[tuple(sorted(field + [name]))]))
        left, layered = field, []
        while left:
            layered.append(told[tuple(left)])
            left = less(left, layered[-1])
        self.same(layers(panel, field), layered)
        for entry in field:
            at = [entry in layer for layer in layered].index(True)
            self.same(layer_of(panel, field, entry), at)
            ways = [lot for lot in lots(less(field, [entry])) if entry in told[tuple(less(field, lot))]]
            least = [lot for lot in ways if not any(set(other) < set(lot) for other in ways)]
            self.same(ways_in(panel, field, entry), sorted(least, key=lambda lot: (len(lot), lot)))
            self.same(fewest_out(panel, field, entry), min(map(len, ways)))
            where = {name: number for number, layer in enumerate(layered) for name in layer}
            deepest = [max([where[name] for name in way], default=-1) for way in ways_in(panel, field, entry)]
            self.assertEqual(at, 1 + min(deepest))

    def test_small_panels(self):
        for panel in all_panels(ABC, 3):
            self.check(panel)

    def test_panels_of_five_entries(self):
        for seed in range(10):
            self.check(big_panel(seed, 5, 1 + seed % 5))

    def test_one_entry_and_one_steward(self):
        self.check(Panel(["a"], [["a"], ["a"]]))
        self.check(Panel(["a", "b", "c", "d"], [["d", "b", "a", "c"]]))
        self.same([comes_in(Panel(["a"], [["a"]]), "a"), idle(Panel(["a"], [["a"]]))], [[], ["a"]])

    def test_ways_are_ordered_by_length_first(self):
        panel = Panel(["a", "b", "c", "d", "e"], [["a", "b", "e", "c", "d"], ["d", "e", "a", "b", "c"],
                                                 ["b", "c", "e", "a", "d"]])
        self.same(ways_in(panel, ["a", "b", "c", "d", "e"], "e"), [["d"], ["a", "b"], ["b", "c"]])
        self.same(ways_in(panel, ["a", "c", "d", "e"], "e"), [["a"], ["c"], ["d"]])


class Limits(Case):
    def test_forty_entries(self):
        for seed in range(2):
            panel = big_panel(seed, 40, 8)
            names = panel.entries()
            left = names
            for layer in self.at_once(layers, panel, names):
                self.assertEqual(layer, cards(panel, left))
                left = less(left, layer)
            self.assertEqual(left, [])
            quiet = self.at_once(idle, panel)
            for gone in names[::4]:
                coming = self.at_once(comes_in, panel, gone)
                self.assertEqual(gone in quiet, coming == [])
                for entry in names[::7]:
                    if entry != gone:
                        found = self.at_once(field_where, panel, gone, entry)
                        self.same([found is not None, self.at_once(is_field_where, panel, gone, entry, found)],
                                  [entry in coming] * 2)
                for way in self.at_once(ways_in, panel, names, gone):
                    self.assertIn(gone, cards(panel, less(names, way)))
                    for name in way:
                        self.assertNotIn(gone, cards(panel, less(names, less(way, [name]))))


class Wrong(Case):
    def test_panels(self):
        for wrong in [None, True, "abc", [["a"]], facing().rows()]:
            self.raises(InvalidPanel, wrong, idle, wrong)
            for call in (comes_in, layers):
                self.raises(InvalidPanel, wrong, call, wrong, None)
            for call in (field_where, risers, fallers, ways_in, fewest_out, layer_of):
                self.raises(InvalidPanel, wrong, call, wrong, None, None)
            self.raises(InvalidPanel, wrong, is_field_where, wrong, None, None, None)

    def test_fields(self):
        for field in odd_objects() + [["bun", "ale"], ("ale",), "ale", ["ale", "rye"], {"ale": 1}, ["ale", None]]:
            self.raises(InvalidField, field, layers, facing(), field)
            for call in (risers, fallers, ways_in, fewest_out, layer_of):
                self.raises(InvalidField, field, call, facing(), field, None)

    def test_entries(self):
        for entry in odd_objects() + ["rye", "aleale"]:
            self.raises(UnknownEntry, entry, comes_in, facing(), entry)
            self.raises(UnknownEntry, entry, field_where, facing(), entry, None)
            self.raises(UnknownEntry, entry, field_where, facing(), "ale", entry)
            self.raises(UnknownEntry, entry, is_field_where, facing(), entry, None, None)
            self.raises(UnknownEntry, entry, is_field_where, facing(), "ale", entry, None)
            for call in (risers, fallers, ways_in, fewest_out, layer_of):
                self.raises(UnknownEntry, entry, call, facing(), ["ale", "bun"], entry)
        for call in (risers, ways_in, fewest_out, layer_of):
            self.raises(UnknownEntry, "cob", call, facing(), ["ale", "bun"], "cob")
        self.raises(UnknownEntry, "ale", field_where, facing(), "ale", "ale")
        self.raises(UnknownEntry, "ale", is_field_where, facing(), "ale", "ale", None)
        self.raises(TakenEntry, "ale", fallers, facing(), ["ale", "bun"], "ale")

    def test_a_field_of_one_entry_has_to_keep_it(self):
        field = ["ale"]
        self.raises(InvalidField, field, risers, facing(), field, "ale")
        self.raises(UnknownEntry, "bun", risers, facing(), field, "bun")

    def test_any_object_may_be_no_field(self):
        for value in odd_objects() + [("ale", "bun", "cob"), ["cob", "bun", "ale"], ["ale", "cob"], ["bun", "cob"],
                                      ["ale", "bun", "cob", "rye"], {"ale": 1, "bun": 2, "cob": 3}, facing(),
                                      ["ale", "bun", None], "alebuncob", ["ale", "bun", ["cob"]]]:
            self.same(is_field_where(facing(), "ale", "bun", value), False)
        self.same(is_field_where(facing(), "ale", "bun", ["ale", "bun", "cob"]), True)

    def test_by_name(self):
        field = ["ale", "bun", "cob"]
        self.same(
            [comes_in(gone="ale", panel=facing()), field_where(entry="bun", gone="ale", panel=facing()),
             is_field_where(value=field, entry="bun", gone="ale", panel=facing()),
             risers(gone="cob", field=field, panel=facing()), fallers(come="cob", field=["ale", "bun"], panel=facing()),
             ways_in(entry="bun", field=field, panel=facing()), fewest_out(entry="bun", field=field, panel=facing()),
             layers(field=field, panel=facing()), layer_of(entry="bun", field=field, panel=facing()),
             idle(panel=facing())],
            [["bun"], field, True, ["bun"], ["bun"], [["ale"], ["cob"]], 1, [["ale", "cob"], ["bun"]], 1, ["bun"]])


if __name__ == "__main__":
    main()
