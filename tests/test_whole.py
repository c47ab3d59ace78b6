"""The whole program: what one module tells of a panel agrees with what the others tell of it."""

from unittest import main

from cardpanel.alike import alike, parting_field, within
from cardpanel.books import Book, count_rows, keeps, some_panel
from cardpanel.chances import chance_of_card, chance_of_cards, count_cards, count_naming, counts_by_size, mean_cards
from cardpanel.fewest import fewest_rows, is_fewest, worth
from cardpanel.heads import are_lots, cards_by, heads, lots_of, panel_of
from cardpanel.heats import finals_table, heats
from cardpanel.implied import book_of, follows, greatest_lots, least_book, same_book
from cardpanel.keepoffs import keeps_off
from cardpanel.leaving import idle, layers, ways_in
from cardpanel.live import LiveShow, alike_shows, parting_puts, replayed, same_shown
from cardpanel.panels import Panel, cards, who
from cardpanel.scripts import play, read_script, same_cards_behind, script_text
from cardpanel.several import alike_stewards, plain_panel, several_cards, several_lots
from cardpanel.spans import can_be_cards, hull, lots_of_cards, span_of, tally
from cardpanel.tables import flaw, panel_for, table_of
from cardpanel.takings import count_takings, is_taking
from cardpanel.texts import book_text, panel_text, read_book, read_panel, read_rounds, rounds_text
from cardpanel.together import joint
from cardpanel.watched import fits, fitting_panel, is_fitting_panel, verdict
from support import ABC, Case, all_panels, all_rows, big_panel, fields, lots, told_cards
import test_general


def panels():
    return all_panels(ABC, 3) + all_panels(["a", "b"], 2) + [big_panel(seed, 4, 1 + seed % 5) for seed in range(10)]


class AskedMuch(Case):
    def test_a_panel_that_was_asked_much_answers_as_a_new_one(self):
        """All calls of the general tests with one panel, one book and one show each, once forwards and once back."""
        kept = {}

        def shared(each):
            if not isinstance(each, (Panel, Book, LiveShow)):
                return each
            told = repr(test_general.compared([each])) if isinstance(each, LiveShow) else repr(
                [each.entries(), each.rows() if isinstance(each, Panel) else each.lines()])
            return kept.setdefault(told, each)

        calls = [(function, [shared(each) for each in passed]) for function, passed in test_general.calls()]
        first = [function(*passed) for function, passed in calls]
        again = [function(*passed) for function, passed in reversed(calls)][::-1]
        fresh = [function(*passed) for function, passed in test_general.calls()]
        self.assertEqual(first, again)
        self.assertEqual(first, fresh)
        self.assertLess(len(kept), len(calls) // 3)


class OnFields(Case):
    def check(self, panel):
        names, family, table = panel.entries(), lots_of(panel), dict((tuple(a), b) for a, b in table_of(panel))
        stewards, show = [(1, row) for row in panel.rows()], LiveShow(panel)
        for field in fields(names):
            told = told_cards(panel.rows(), field)
            for found in [cards(panel, field), cards_by(family, field), table[tuple(field)], heats(panel, field),
                          several_cards(names, stewards, field), layers(panel, field)[0], span_of(panel, field)[0],
                          [name for name in field if who(panel, field, name)],
                          [name for name in field if ways_in(panel, field, name) == [[]]],
                          show.attempt(lambda same: ([same.put(name) for name in field], same.cards())[1])]:
                self.same(found, told)
            script = [("put", name) for name in field] + [("cards",)]
            self.same(play(show, [("try", script)])[0][1][-1], ("cards", told))
            self.same(can_be_cards(panel, field), told == field)

    def test_cards_of_all_fields(self):
        for panel in panels():
            self.check(panel)

    def test_counts(self):
        for panel in panels():
            names, table = panel.entries(), table_of(panel)
            for name in names:
                many = sum(name in given for _, given in table)
                self.same([count_naming(panel, name), sum(counts_by_size(panel, name))], [many, many])
            self.same(sum(count_cards(panel, many) for many in range(len(names) + 1)),
                      sum(len(given) for _, given in table))
            self.same([sum(tally(panel)), sum(at * many for at, many in enumerate(tally(panel), 1))],
                      [len(table), sum(len(given) for _, given in table)])
            even, all_fields = {name: (1, 2) for name in names}, 2 ** len(names)
            number, of = mean_cards(panel, even)
            self.same(number * all_fields, sum(len(given) for _, given in table) * of)
            for lot in lots_of_cards(panel):
                number, of = chance_of_cards(panel, even, lot)
                self.same(number * all_fields, sum(given == lot for _, given in table) * of)
            number, of = chance_of_card(panel, even, names[0])
            self.same(number * all_fields, count_naming(panel, names[0]) * of)


class OnPanels(Case):
    def test_panels_made_of_all_that_is_told(self):
        for panel in panels():
            names, table, family = panel.entries(), table_of(panel), lots_of(panel)
            made = [panel_of(family), panel_for(table), some_panel(book_of(panel)), some_panel(least_book(panel)),
                    fitting_panel(names, table), plain_panel(names, [(1, row) for row in panel.rows()]),
                    Panel(names, fewest_rows(panel)), read_panel(panel_text(panel)), joint(panel, panel),
                    replayed(panel, [("sit", panel.rows()[0])]).panel(),
                    fitting_panel(names, read_rounds(rounds_text(table)))]
            for other in made:
                self.same([alike(panel, other), table_of(other) == table, lots_of(other) == family,
                           same_shown(LiveShow(panel), LiveShow(other)), keeps(book_of(panel), other),
                           is_fitting_panel(names, table, other), is_fewest(other, fewest_rows(panel))], [True] * 7)
            self.same([flaw(table), are_lots(family), greatest_lots(book_of(panel)) == family], [None, True, True])
            self.same({name: several_lots(names, [(1, row) for row in panel.rows()], name) for name in names}, family)
            self.same(read_book(book_text(least_book(panel))) == least_book(panel), True)

    def test_pairs(self):
        some = all_panels(ABC, 2)
        for one in some:
            for other in some:
                same = alike(one, other)
                self.same([table_of(one) == table_of(other), heads(one) == heads(other),
                           same_book(book_of(one), book_of(other)), keeps(book_of(one), other),
                           least_book(one) == least_book(other), parting_field(one, other) is None,
                           same_shown(LiveShow(one), LiveShow(other)),
                           parting_puts(LiveShow(one), LiveShow(other)) is None,
                           alike_stewards(ABC, [(1, row) for row in one.rows()], [(1, row) for row in other.rows()])],
                          [same] * 9)
                self.same(within(one, other), alike(joint(one, other), other))
                self.same(alike_shows(LiveShow(one), LiveShow(other)), one == other)
                if within(one, other):
                    self.same(finals_table(other, one), table_of(one))

    def test_keepoffs_books_and_rounds(self):
        for panel in panels()[::2]:
            names, table, book = panel.entries(), table_of(panel), book_of(panel)
            self.same([count_rows(book), fits(names, table)], [count_takings(panel), True])
            for field, given in table:
                self.same(verdict(names, table, field),
                          {name: "card" if name in given else "none" for name in field})
                for name in field:
                    self.same(follows(book, ("call", field, name)), name in given)
            for lot in lots(names)[1:]:
                self.same([follows(book, ("off", lot, name)) for name in names if name not in lot],
                          [keeps_off(panel, name, lot) for name in names if name not in lot])
                self.same(hull(panel, lot), sorted(lot + [name for name in names if name not in lot
                                                          and keeps_off(panel, name, lot)]))

    def test_stewards_who_come_and_go(self):
        for panel in panels():
            names = panel.entries()
            for row in all_rows(names)[::3]:
                show = LiveShow(panel)
                show.sit(row)
                more = [("sit", row)]
                self.same([is_taking(panel, row), same_cards_behind(panel, more, [])], [alike(show.panel(), panel)] * 2)
                self.same(worth(show.panel(), len(panel)) == 0, alike(show.panel(), panel))
                self.same(read_script(script_text(show.log())), more)
            for name in idle(panel):
                self.same([entry for entry in names if any(name in lot for lot in lots_of(panel)[entry])], [])


if __name__ == "__main__":
    main()
