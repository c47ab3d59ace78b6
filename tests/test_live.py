"""[120] to [126]: live shows, taking back and making again, blocks, and what tells two shows apart."""

from itertools import product
from unittest import main

from cardpanel.errors import (InvalidCount, InvalidLive, InvalidLog, InvalidPanel, InvalidRow, LastRow, NothingToRedo,
                              NothingToUndo, ShowError, TakenEntry, UnknownEntry)
from cardpanel.live import (LiveShow, alike_shows, check_parting, parting_changes, parting_puts, replayed, same_shown)
from cardpanel.panels import Panel
from support import (ABC, Case, all_panels, all_rows, big_names, big_panel, fields, lots, odd_objects, shuffled,
                     some_numbers, told_cards, told_table)

OATS, UP, DOWN = ["oat", "pea", "rye"], ["oat", "pea", "rye"], ["rye", "pea", "oat"]


def facing():
    return LiveShow(Panel(OATS, [UP, DOWN]))


def told_of(show):
    """All that can be asked of a show without changing it."""
    return [show.panel().entries(), show.panel().rows(), show.table(), show.cards(), len(show), show.log()]


def undone_of(show):
    """What a show tells behind each further time that something is taken back, and what then is made again."""
    found, copy = [], show.copy()
    for step in (copy.undo, copy.redo):
        while True:
            try:
                step()
            except (NothingToUndo, NothingToRedo):
                break
            found.append(told_of(copy))
    return found


class Model:
    """A show by the word of the document: all states so far, and where in them it stands."""

    def __init__(self, rows):
        self.states, self.at = [(None, [list(row) for row in rows], [])], 0

    def change(self, change):
        _, rows, there = self.states[self.at]
        rows, there, names = [list(row) for row in rows], list(there), sorted(rows[0])
        word, things = change[0], change[1:]
        if word == "put":
            if things[0] not in names:
                return UnknownEntry
            if things[0] in there:
                return TakenEntry
            there = sorted(there + [things[0]])
        elif word == "take":
            if things[0] not in there:
                return UnknownEntry
            there.remove(things[0])
        elif word == "sit":
            if sorted(things[0]) != names:
                return InvalidRow
            rows.append(list(things[0]))
        elif word == "leave":
            if things[0] >= len(rows):
                return InvalidCount
            if len(rows) == 1:
                return LastRow
            del rows[things[0]]
        else:
            if things[0] >= len(rows) or things[1] + 1 >= len(names):
                return InvalidCount
            row, k = rows[things[0]], things[1]
            row[k], row[k + 1] = row[k + 1], row[k]
        self.states = self.states[:self.at + 1] + [(change, rows, there)]
        self.at += 1

    def undo(self):
        if not self.at:
            return NothingToUndo
        self.at -= 1

    def redo(self):
        if self.at + 1 == len(self.states):
            return NothingToRedo
        self.at += 1

    def told(self):
        _, rows, there = self.states[self.at]
        log = [change for change, _, _ in self.states[1:self.at + 1]]
        return [sorted(rows[0]), rows, there, told_cards(rows, there) if there else [], len(there), log]


def call(show, command):
    """Calls the method that a command tells; returns the class of the error."""
    try:
        assert getattr(show, command[0])(*command[1:]) is None
    except ShowError as error:
        return type(error)


def some_commands(numbers, names, many):
    rows = [shuffled(numbers, names) for _ in range(6)]
    for _ in range(many):
        kind = next(numbers) % 12
        name = (names + ["zz"])[next(numbers) % (len(names) + 1)]
        if kind < 3:
            yield ("put", name)
        elif kind < 5:
            yield ("take", name)
        elif kind < 6:
            yield ("sit", rows[next(numbers) % 6])
        elif kind < 7:
            yield ("leave", next(numbers) % 4)
        elif kind < 9:
            yield ("exchange", next(numbers) % 4, next(numbers) % len(names))
        else:
            yield ("undo",) if kind < 11 else ("redo",)


def every_change(names):
    """All changes of some entries that have few stewards, also such as can't be made."""
    found = [(word, name) for word in ("put", "take") for name in names + ["zz"]]
    found += [("sit", row) for row in all_rows(names)] + [("leave", at) for at in range(4)]
    return found + [("exchange", at, place) for at in range(4) for place in range(len(names))]


class Document(Case):
    def test_first_examples(self):
        show = facing()
        opening = [show.put("oat"), show.put("pea"), show.cards(), show.put("rye"), show.cards(), show.take("oat"),
                   show.cards()]
        self.same(opening, [None, None, ["oat", "pea"], None, ["oat", "rye"], None, ["pea", "rye"]])
        later = [show.undo(), show.leave(1), show.cards(), show.log()[-1],
                 show.attempt(lambda same: [same.exchange(0, 0), same.cards()]), show.table()]
        self.same(later, [None, None, ["oat"], ("leave", 1), [None, ["pea"]], ["oat", "pea", "rye"]])

    def test_second_examples(self):
        wide, long = [LiveShow(Panel(OATS, rows)) for rows in [[UP, DOWN], [UP, DOWN, UP]]]
        self.same([alike_shows(wide, long), same_shown(wide, long), parting_puts(wide, long),
                   check_parting(wide, long, [("leave", 0), ("leave", 0)]),
                   check_parting(wide, long, [("leave", 0)])], [False, True, None, True, False])
        calm = LiveShow(Panel(OATS, [UP, ["oat", "rye", "pea"], ["pea", "oat", "rye"]]))
        self.same([calm.is_calm(0, 1), wide.is_calm(0, 0),
                   check_parting(wide, calm, [("put", "oat"), ("put", "pea"), ("put", "rye")])], [True, False, True])


class Changes(Case):
    def test_drawn_lists_of_commands(self):
        for seed in range(40):
            numbers = some_numbers(seed)
            panel = big_panel(seed, 1 + seed % 5, 1 + seed % 3)
            show, model = LiveShow(panel), Model(panel.rows())
            for command in some_commands(numbers, panel.entries(), 60):
                wanted = model.change(command) if len(command) > 1 else getattr(model, command[0])()
                self.assertEqual(call(show, command), wanted)
                self.same(told_of(show), model.told())
                self.assertEqual(show.panel(), Panel(panel.entries(), model.told()[1]))

    def test_undo_and_redo_to_both_ends_and_beyond(self):
        show = facing()
        changes = [("put", "pea"), ("sit", UP), ("exchange", 2, 1), ("leave", 0), ("take", "pea"), ("put", "rye")]
        told = [told_of(show)]
        for change in changes:
            call(show, change)
            told.append(told_of(show))
        for _ in range(2):
            for at in reversed(range(6)):
                show.undo()
                self.same(told_of(show), told[at])
            self.assertRaises(NothingToUndo, show.undo)
            for at in range(1, 7):
                show.redo()
                self.same(told_of(show), told[at])
            self.assertRaises(NothingToRedo, show.redo)
        self.same(show.log(), changes)

    def test_a_change_behind_an_undo(self):
        show = facing()
        show.put("pea")
        show.put("oat")
        show.undo()
        self.raises(TakenEntry, "pea", show.put, "pea")
        show.redo()
        self.same(show.log(), [("put", "pea"), ("put", "oat")])
        show.undo()
        show.put("rye")
        self.assertRaises(NothingToRedo, show.redo)
        self.same(show.log(), [("put", "pea"), ("put", "rye")])

    def test_wrong(self):
        show = facing()
        show.put("pea")
        kept = told_of(show)
        for value in odd_objects():
            self.raises(InvalidPanel, value, LiveShow, value) if not isinstance(value, Panel) else None
            self.raises(UnknownEntry, value, show.put, value)
            self.raises(UnknownEntry, value, show.take, value)
            self.raises(InvalidRow, value, show.sit, value)
            self.raises(InvalidCount, value, show.leave, value)
            self.raises(InvalidCount, value, show.exchange, value, None)
            self.raises(InvalidCount, value, show.exchange, 1, value)
            self.raises(InvalidCount, value, show.is_calm, value, None)
            self.raises(InvalidCount, value, show.is_calm, 1, value)
        self.raises(TakenEntry, "pea", show.put, "pea")
        self.raises(UnknownEntry, "oat", show.take, "oat")
        for row in [tuple(UP), UP[:2], UP + ["oat"], ["oat", "pea", "pea"], ["oat", "pea", "zz"], "oat"]:
            self.raises(InvalidRow, row, show.sit, row)
        for at, place, wrong in [(2, 0, 2), (0, 2, 2), (0, -1, -1), (-1, 9, -1), (0, True, True), (False, 0, False)]:
            self.raises(InvalidCount, wrong, show.exchange, at, place)
            self.raises(InvalidCount, wrong, show.is_calm, at, place)
        self.same(told_of(show), kept)
        alone = LiveShow(Panel(["a"], [["a"]]))
        self.raises(LastRow, 0, alone.leave, 0)
        self.raises(InvalidCount, 1, alone.leave, 1)
        self.raises(InvalidCount, 0, alone.exchange, 0, 0)
        self.raises(InvalidCount, 0, alone.is_calm, 0, 0)
        self.same([alone.cards(), alone.put("a"), alone.cards(), len(alone), alone.take("a"), len(alone)],
                  [[], None, ["a"], 1, None, 0])

    def test_by_name(self):
        show = LiveShow(panel=Panel(OATS, [UP, DOWN]))
        self.same([show.put(entry="oat"), show.take(entry="oat"), show.sit(row=UP), show.leave(at=0),
                   show.exchange(place=1, at=0), show.is_calm(place=0, at=0), show.attempt(action=len)],
                  [None, None, None, None, None, False, 0])
        self.same(show.log(), [("put", "oat"), ("take", "oat"), ("sit", UP), ("leave", 0), ("exchange", 0, 1)])

    def test_lists_may_be_changed(self):
        row, rows = ["pea", "oat", "rye"], [list(UP)]
        show = LiveShow(Panel(OATS, rows))
        show.sit(row)
        show.put("pea")
        show.put("oat")
        kept, before = told_of(show), undone_of(show)
        for _ in range(2):
            for each in (row, rows, rows[0], show.log(), show.log()[0][1], show.table(), show.cards(),
                         show.panel().rows(), show.panel().rows()[1], show.panel().entries()):
                each.append("zz")
            self.same([told_of(show), undone_of(show)], [kept, before])
        self.assertFalse(show.table() is show.table() or show.log() is show.log())

    def test_a_show_equals_itself_and_no_other_kind(self):
        show = facing()
        self.assertTrue(show == show and not show != show)
        self.assertFalse(show == show.panel() or show == None or Panel(OATS, [UP, DOWN]) == show)  # noqa: E711


class Blocks(Case):
    def test_all_is_as_it_was(self):
        for seed in range(30):
            numbers = some_numbers(seed)
            panel = big_panel(seed, 2 + seed % 3, 1 + seed % 3)
            show = LiveShow(panel)
            for command in some_commands(numbers, panel.entries(), 20):
                call(show, command)
            kept, later = told_of(show), undone_of(show)
            with show.trial() as same:
                self.assertIs(same, show)
                for command in some_commands(numbers, panel.entries(), 15):
                    call(show, command)
                inner, further = told_of(show), undone_of(show)
                with show.trial():
                    for command in [("undo",)] * 9 + list(some_commands(numbers, panel.entries(), 9)):
                        call(show, command)
                self.same([told_of(show), undone_of(show)], [inner, further])
            self.same([told_of(show), undone_of(show)], [kept, later])

    def test_what_was_made_ahead_is_taken_back_within(self):
        show = facing()
        show.put("pea")
        show.put("oat")
        show.undo()
        with show.trial():
            show.redo()
            show.undo()
            show.undo()
            self.assertRaises(NothingToUndo, show.undo)
            show.put("rye")
            self.assertRaises(NothingToRedo, show.redo)
        self.same(show.log(), [("put", "pea")])
        show.redo()
        self.same(show.log(), [("put", "pea"), ("put", "oat")])

    def test_an_error_goes_on(self):
        show = facing()
        with self.assertRaises(KeyError) as caught:
            with show.trial():
                with show.trial():
                    show.put("pea")
                    raise KeyError("here")
        self.assertEqual(caught.exception.args, ("here",))
        self.raises(UnknownEntry, "zz", show.attempt, lambda same: [same.put("oat"), same.put("zz")])
        self.same([show.table(), show.log()], [[], []])

    def test_one_block_entered_often(self):
        show = facing()
        block = show.trial()
        show.put("pea")
        for _ in range(2):
            with block:
                show.put("rye")
                with block:
                    show.take("pea")
                self.same(show.table(), ["pea", "rye"])
            self.same(show.table(), ["pea"])

    def test_ten_deep(self):
        show = facing()

        def deeper(same):
            same.sit(UP)
            return len(same.panel()) if len(same.panel()) == 12 else same.attempt(deeper)
        self.same([show.attempt(deeper), len(show.panel())], [12, 2])

    def test_attempts_return_the_very_object(self):
        show, found, seen = facing(), object(), []
        self.assertIs(show.attempt(lambda same: found), found)
        show.attempt(seen.append)
        self.assertEqual(len(seen), 1)
        self.assertIs(seen[0], show)
        self.same(show.attempt(lambda same: same.put("oat")), None)
        self.same(show.table(), [])

    def test_copies(self):
        show = facing()
        show.put("pea")
        show.sit(UP)
        show.undo()
        with show.trial():
            show.put("oat")
            copy = show.copy()
            show.take("pea")
        self.same(copy.log(), [("put", "pea"), ("put", "oat")])
        self.same(show.log(), [("put", "pea")])
        other = show.copy()
        self.same([told_of(other), undone_of(other)], [told_of(show), undone_of(show)])
        other.redo()
        other.take("pea")
        self.same([show.log(), other.log()], [[("put", "pea")], [("put", "pea"), ("sit", UP), ("take", "pea")]])
        show.redo()
        self.same(show.log(), [("put", "pea"), ("sit", UP)])


class Replayed(Case):
    def test_logs(self):
        for seed in range(20):
            panel = big_panel(seed, 1 + seed % 4, 1 + seed % 3)
            show = LiveShow(panel)
            for command in some_commands(some_numbers(seed), panel.entries(), 40):
                call(show, command)
            made = replayed(panel, show.log())
            self.same(told_of(made), told_of(show))
            self.same(told_of(replayed(log=[], panel=panel)), told_of(LiveShow(panel)))

    def test_wrong(self):
        panel = Panel(OATS, [UP, DOWN])
        wrong = odd_objects() + [(("put", "oat"),), [["put", "oat"]], [("put",)], [("put", "oat", "pea")], [("undo",)],
                                 [("leave",)], [("exchange", 0)], [("exchange", 0, 0, 0)], [()], [("Put", "oat")],
                                 [(None, "oat")], [(["put"], "oat")], ["put"], [("put", "oat"), None], [(True, 1)],
                                 {"put": "oat"}, [("sit", UP, UP)], [("cards",)], [("try", [])]]
        for log in wrong:
            if log != []:
                self.raises(InvalidLog, log, replayed, panel, log)
        for value in odd_objects()[:-1]:
            self.raises(InvalidPanel, value, replayed, value, None)
        row = ["oat"]
        for log, error, value in [([("put", "zz")], UnknownEntry, "zz"), ([("sit", row)], InvalidRow, row),
                                  ([("put", "oat"), ("put", "oat")], TakenEntry, "oat"),
                                  ([("take", None)], UnknownEntry, None), ([("leave", True)], InvalidCount, True),
                                  ([("leave", 0), ("leave", 0)], LastRow, 0), ([("exchange", 5, 9)], InvalidCount, 5),
                                  ([("exchange", 1, 2), ("put", "zz")], InvalidCount, 2)]:
            self.raises(error, value, replayed, panel, log)


class Calm(Case):
    def test_all_small_panels(self):
        panels = all_panels(ABC, 3) + [Panel(ABC, rows) for rows in
                                       [[ABC, ABC], [ABC, ["a", "c", "b"], ABC], [ABC] * 3]]
        for panel in panels + all_panels(["a", "b"], 2) + [big_panel(seed, 4, 5) for seed in range(20)]:
            show = LiveShow(panel)
            table = told_table(panel)
            for at in range(len(panel)):
                for place in range(len(panel.entries()) - 1):
                    told = show.is_calm(at, place)
                    self.same(told, show.attempt(
                        lambda same: (same.exchange(at, place), told_table(same.panel()) == table)[1]))


def apart_by(one, other, changes):
    """Whether a list of changes is a parting, by the word of the document."""
    ours, theirs = one.copy(), other.copy()
    for at, change in enumerate(changes):
        made = [call(show, change) is None for show in (ours, theirs)]
        if made == [False, False] or made[0] != made[1]:
            return made[0] != made[1] and at == len(changes) - 1
    return ours.cards() != theirs.cards()


def some_shows():
    """Shows of two and three entries, with whatever is on the table."""
    found = []
    for rows in [[ABC], [ABC, ABC], [ABC, ["c", "b", "a"]], [["c", "b", "a"], ABC], [ABC, ["c", "b", "a"], ABC],
                 [ABC, ["a", "c", "b"], ["c", "b", "a"]], [["b", "a", "c"], ["c", "a", "b"]]]:
        for there in [[], ["b"], ["a", "c"]]:
            found.append(LiveShow(Panel(ABC, rows)))
            for name in there:
                found[-1].put(name)
    for rows, there in [([["a", "b"]], []), ([["a", "b"], ["b", "a"]], ["b"]), ([["a", "d"]], [])]:
        found.append(LiveShow(Panel(sorted(rows[0]), rows)))
        for name in there:
            found[-1].put(name)
    return found


class Parting(Case):
    def test_pairs_of_small_shows(self):
        for one, other in product(some_shows(), some_shows()):
            same_entries = one.panel().entries() == other.panel().entries() and one.table() == other.table()
            self.same(alike_shows(one, other), same_entries and one.panel() == other.panel())
            told = same_entries and told_table(one.panel()) == told_table(other.panel())
            self.same(same_shown(one, other), told)
            changes, puts = parting_changes(one, other), parting_puts(one, other)
            self.same([changes is None, puts is None], [alike_shows(one, other), told])
            if changes is not None:
                self.same([apart_by(one, other, changes), check_parting(one, other, changes)], [True, True])
            if puts is not None:
                self.same([apart_by(one, other, puts), check_parting(one, other, puts)], [True, True])
                self.assertTrue(all(change[0] in ("put", "take") for change in puts))

    def test_all_short_lists_of_changes(self):
        shows = some_shows()
        changes = every_change(ABC)
        for one, other in [(shows[0], shows[3]), (shows[6], shows[9]), (shows[7], shows[13]), (shows[5], shows[5]),
                           (shows[2], shows[21]), (shows[3], shows[4])]:
            for many in [0, 1, 2]:
                for some in product(changes, repeat=many):
                    self.same(check_parting(one, other, list(some)), apart_by(one, other, list(some)))

    def test_nothing_is_changed(self):
        one, other = some_shows()[7], some_shows()[13]
        kept = [told_of(one), told_of(other), undone_of(one)]
        for call_it in (parting_changes, parting_puts, alike_shows, same_shown):
            call_it(one, other)
        check_parting(one, other, [("leave", 0), ("put", "a")])
        self.same([told_of(one), told_of(other), undone_of(one)], kept)

    def test_undone_changes_mean_nothing(self):
        one, other = facing(), facing()
        one.put("oat")
        one.undo()
        self.same([alike_shows(one, other), parting_changes(one, other), parting_puts(one, other)], [True, None, None])
        one.put("oat")
        self.same([alike_shows(one, other), same_shown(one, other), check_parting(one, other, [])],
                  [False, False, True])
        other.sit(UP)
        other.leave(2)
        other.put("oat")
        self.same([alike_shows(one, other), check_parting(one, other, [])], [True, False])

    def test_any_object(self):
        one, other = facing(), LiveShow(Panel(OATS, [UP]))
        self.same(check_parting(value=[("leave", 1)], other=other, one=one), True)
        for value in odd_objects() + [(("leave", 1),), [["leave", 1]], [("leave", 1), ("leave", 1)], [("leave", True)],
                                      [("leave",)], [("leave", 1, 1)], [("undo",)], [()], [("leave", [1])],
                                      ("leave", 1),
                                      [("put", ["oat"])], [("sit", tuple(UP))], [("put", "oat"), None], [None],
                                      [("leave", "1")], {0: ("leave", 1)}, [("take", "oat")], one]:
            self.same(check_parting(one, other, value), False)

    def test_wrong(self):
        for value in odd_objects():
            for function, more in [(alike_shows, 0), (same_shown, 0), (parting_changes, 0), (parting_puts, 0),
                                   (check_parting, 1)]:
                self.raises(InvalidLive, value, function, value, None, *[None] * more)
                self.raises(InvalidLive, value, function, facing(), value, *[None] * more)
        self.same([alike_shows(other=facing(), one=facing()), same_shown(other=facing(), one=facing()),
                   parting_changes(other=facing(), one=facing()), parting_puts(other=facing(), one=facing())],
                  [True, True, None, None])


class Limits(Case):
    def big_show(self):
        names, numbers = big_names(40), some_numbers(3)
        show = LiveShow(big_panel(3, 40, 8))
        for _ in range(80):
            show.sit(shuffled(numbers, names))
        for name in names[::2]:
            show.put(name)
        return show

    def test_a_hundred_changes(self):
        show = self.at_once(self.big_show)
        self.same([len(show.log()), len(show.panel()), len(show)], [100, 88, 20])
        self.same(show.cards(), told_cards(show.panel().rows(), show.table()))
        other = self.at_once(replayed, big_panel(3, 40, 8), show.log())
        self.same([self.at_once(alike_shows, show, other), self.at_once(same_shown, show, other)], [True, True])
        other.exchange(60, 20)
        changes = self.at_once(parting_changes, show, other)
        self.same([self.at_once(check_parting, show, other, changes), apart_by(show, other, changes)], [True, True])
        other.exchange(0, 0)
        self.same(self.at_once(show.is_calm, 0, 0), show.is_calm(0, 0))
        puts = self.at_once(parting_puts, show, other)
        self.same(puts is None, self.at_once(same_shown, show, other))

    def test_puts_of_forty_entries(self):
        show, other = LiveShow(big_panel(5, 40, 8)), LiveShow(big_panel(6, 40, 8))
        for name in big_names(40)[::3]:
            show.put(name)
            other.put(name)
        puts = self.at_once(parting_puts, show, other)
        self.same([self.at_once(check_parting, show, other, puts), apart_by(show, other, puts)], [True, True])

    def test_all_tables(self):
        panel = big_panel(8, 5, 3)
        for there in lots(panel.entries()):
            show = LiveShow(panel)
            for name in there[::-1]:
                show.put(name)
            self.same([show.table(), show.cards()], [there, told_cards(panel.rows(), there) if there else []])
        self.same(len(fields(panel.entries())), 31)


if __name__ == "__main__":
    main()
