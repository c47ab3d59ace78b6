"""[1] to [3]: the rules that hold everywhere, and that the greatest arguments are answered at once."""

import inspect
from copy import deepcopy
from unittest import main

from cardpanel import (alike, books, chances, errors, fewest, heads, heats, implied, keepoffs, leaving, live, panels,
                       scripts, several, spans, tables, takings, texts, together, watched)
from cardpanel.books import Book
from cardpanel.errors import (Clash, InvalidBook, InvalidChances, InvalidCount, InvalidEntries, InvalidEntry,
                              InvalidField, InvalidLine, InvalidLive, InvalidLog, InvalidLot, InvalidLots, InvalidPanel,
                              InvalidRounds, InvalidRow, InvalidRows, InvalidScript, InvalidStewards, InvalidTable,
                              InvalidText, InvalidTree, Unlike, UnknownEntry)
from cardpanel.live import LiveShow
from cardpanel.panels import Panel
from support import Case, big_names, big_panel

INTERFACE = {
    panels: ["named(panel, at, field)", "cards(panel, field)", "who(panel, field, entry)", "ahead(panel, at, entry)",
             "places(panel, entry)", "turned(panel)", "equal_rows(panel)", "plain(panel)"],
    heads: ["least_lots(panel, entry)", "lots_of(panel)", "heads(panel)", "stewards_of(panel, lot, entry)",
            "cards_by(lots, field)", "unbuilt(lots)", "are_lots(value)", "panel_of(lots)",
            "is_panel_of(lots, value)"],
    alike: ["within(one, other)", "alike(one, other)", "beyond(one, other)", "bad_row(one, other)",
            "parting_field(one, other)", "is_parting_field(one, other, value)", "parting_size(one, other)",
            "parting_pairs(one, other)"],
    tables: ["table_of(panel)", "is_table(entries, value)", "changed(table, field, cards)", "flaw(table)",
             "is_flaw(table, value)", "panel_for(table)", "odd_fields(table)", "is_odd_fields(table, value)"],
    heats: ["field_of(panel, tree)", "heats(panel, tree)", "each_heat(panel, tree)", "widest(panel, tree)",
            "finals(first, second, field)", "may_sift(first, second)", "bad_field(first, second)",
            "is_bad_field(first, second, value)", "finals_table(first, second)"],
    spans: ["hull(panel, lot)", "can_be_cards(panel, lot)", "span_of(panel, field)", "fields_with(panel, lot)",
            "field_at(panel, lot, number)", "field_number(panel, field)", "lots_of_cards(panel)", "tally(panel)",
            "most_cards(panel)", "is_most_cards(panel, value)"],
    fewest: ["fewest_rows(panel)", "is_fewest(panel, value)", "apart_heads(panel)", "is_apart(panel, value)",
             "chains(panel)", "are_chains(panel, value)", "chain_row(panel, chain)", "missing_heads(panel, kept)",
             "rows_more(panel, kept)", "is_rows_more(panel, kept, value)", "own_heads(panel, at)", "worth(panel, at)",
             "needless_stewards(panel)", "lean_stewards(panel)", "ladder(low, high)", "is_ladder(low, high, value)"],
    keepoffs: ["keeps_off(panel, entry, lot)", "for_good(panel)", "least_keepoffs(panel, entry)",
               "least_meeting(lots)", "why_kept_off(panel, entry, field)",
               "is_why_kept_off(panel, entry, field, value)", "shortest_keepoff(panel, entry)",
               "is_shortest_keepoff(panel, entry, value)", "surely_named(panel, entry, many)"],
    leaving: ["comes_in(panel, gone)", "field_where(panel, gone, entry)", "is_field_where(panel, gone, entry, value)",
              "risers(panel, field, gone)", "fallers(panel, field, come)", "ways_in(panel, field, entry)",
              "fewest_out(panel, field, entry)", "layers(panel, field)", "layer_of(panel, field, entry)",
              "idle(panel)"],
    takings: ["next_takings(panel, lot)", "taking_of(panel, lot)", "is_takeable(panel, value)",
              "is_taking(panel, value)", "count_takings(panel)", "count_takeable(panel)", "taking_at(panel, number)",
              "taking_number(panel, row)", "steps_between(panel, one, other)", "are_steps(panel, one, other, value)",
              "places_of(panel, entry)", "taking_with(panel, entry, place)", "held_by(panel, entry)"],
    together: ["joint(one, other)", "greatest_within(one, other)", "stuck_field(one, other)",
               "is_stuck_field(one, other, value)", "side_by_side(one, other)", "behind(one, other)",
               "instead(panel, entry, inner)", "as_one(panel, lot, entry)", "is_as_one(panel, lot, entry, value)"],
    chances: ["count_naming(panel, entry)", "count_both(panel, one, other)", "count_first(panel, one, other)",
              "counts_by_size(panel, entry)", "count_cards(panel, many)", "chance_of_card(panel, chances, entry)",
              "chance_of_cards(panel, chances, lot)", "mean_cards(panel, chances)",
              "chance_if(panel, chances, entry, other)"],
    several: ["several_cards(entries, stewards, field)", "several_lots(entries, stewards, entry)",
              "plain_panel(entries, stewards)", "is_plain(entries, stewards, value)",
              "alike_stewards(entries, one, other)", "parting_several(entries, one, other)", "one_steward(panel)"],
    books: ["keeps(book, panel)", "why_broken(book, panel)", "row_with(book, wishes)",
            "is_row_with(book, wishes, value)", "stuck(book, wishes)", "is_stuck(book, wishes, value)",
            "some_panel(book)", "why_none(book)", "is_bar(book, value)", "count_rows(book)"],
    implied: ["contrary(line)", "follows(book, line)", "reasons(book, line)", "is_reasons(book, line, value)",
              "all_follow(one, other)", "same_book(one, other)", "parting_panel(one, other)",
              "check_parting_panel(one, other, value)", "needless_lines(book)", "lean_book(book)", "book_of(panel)",
              "greatest_lots(book)", "least_book(panel)"],
    watched: ["book_of_rounds(entries, rounds)", "fits(entries, rounds)", "fitting_panel(entries, rounds)",
              "is_fitting_panel(entries, rounds, value)", "why_none_fits(entries, rounds)",
              "least_clashes(entries, rounds)", "verdict(entries, rounds, field)",
              "open_panels(entries, rounds, field, entry)", "are_open_panels(entries, rounds, field, entry, value)",
              "worth_watching(entries, rounds, fields)"],
    live: ["replayed(panel, log)", "alike_shows(one, other)", "same_shown(one, other)", "parting_changes(one, other)",
           "parting_puts(one, other)", "check_parting(one, other, value)"],
    scripts: ["play(show, script)", "script_text(script)", "read_script(text)", "said_text(said)",
              "refused(panel, script)", "same_end(panel, one, other)", "same_cards_behind(panel, one, other)",
              "trimmed(panel, script)"],
    texts: ["names_text(names)", "panel_text(panel)", "line_text(line)", "book_text(book)", "rounds_text(rounds)",
            "read_names(text)", "read_panel(text)", "read_line(text)", "read_book(text)", "read_rounds(text)"],
}
METHODS = {
    Panel: ["entries(self)", "rows(self)", "__len__(self)", "with_row(self, row)", "without_row(self, at)",
            "struck(self, lot)", "renamed(self, names)", "__eq__(self, other)", "__init__(self, entries, rows)"],
    Book: ["entries(self)", "lines(self)", "with_line(self, line)", "without_line(self, line)", "__eq__(self, other)",
           "__init__(self, entries, lines)"],
    LiveShow: ["panel(self)", "table(self)", "__len__(self)", "cards(self)", "put(self, entry)", "take(self, entry)",
               "sit(self, row)", "leave(self, at)", "exchange(self, at, place)", "log(self)", "undo(self)",
               "redo(self)", "trial(self)", "attempt(self, action)", "copy(self)", "is_calm(self, at, place)",
               "__init__(self, panel)"],
}


def show():
    return Panel(["a", "b", "c", "d"], [["a", "b", "c", "d"], ["d", "b", "a", "c"], ["a", "b", "c", "d"]])


def late():
    return Panel(["a", "b", "c", "d"], [["b", "a", "c", "d"], ["d", "b", "a", "c"]])


def calls():
    """Calls of everything that returns lists or dictionaries, each with new arguments: a function and these."""
    family = {"a": [[]], "b": [["a"]], "c": [["a"]], "d": [["b"], ["c"]]}
    broken = {"a": [[]], "b": [["a"]], "c": [["b"]], "d": [["b", "c"]]}
    return [
        (panels.cards, [show(), ["a", "b", "d"]]), (panels.who, [show(), ["a", "b"], "a"]),
        (panels.named, [show(), 1, ["a", "b"]]), (panels.ahead, [show(), 1, "c"]), (panels.places, [show(), "c"]),
        (panels.turned, [show()]), (panels.equal_rows, [show()]), (panels.plain, [show()]),
        (heads.least_lots, [show(), "c"]), (heads.lots_of, [show()]), (heads.heads, [show()]),
        (heads.stewards_of, [show(), ["a", "b", "c"], "d"]), (heads.cards_by, [family, ["b", "c", "d"]]),
        (heads.unbuilt, [broken]), (heads.are_lots, [family]), (heads.panel_of, [heads.lots_of(show())]),
        (heads.is_panel_of, [heads.lots_of(show()), show()]), (alike.within, [show(), late()]),
        (alike.alike, [show(), late()]), (alike.beyond, [show(), late()]), (alike.bad_row, [show(), late()]),
        (alike.parting_field, [show(), late()]), (alike.is_parting_field, [show(), late(), ["a", "b"]]),
        (alike.parting_size, [show(), late()]), (alike.parting_pairs, [show(), late()]),
    ] + calls_of_tables_and_heats() + calls_of_spans_and_fewest() + calls_of_keepoffs_and_leaving() + [
        (takings.next_takings, [show(), ["a"]]), (takings.taking_of, [show(), ["a", "d"]]),
        (takings.is_takeable, [show(), ["a"]]), (takings.is_taking, [show(), ["d", "a", "b", "c"]]),
        (takings.count_takings, [show()]), (takings.count_takeable, [show()]), (takings.taking_at, [show(), 2]),
        (takings.taking_number, [show(), ["d", "a", "b", "c"]]),
        (takings.steps_between, [show(), ["a", "b", "c", "d"], ["d", "a", "b", "c"]]),
        (takings.are_steps, [show(), ["a", "b", "c", "d"], ["a", "b", "c", "d"], [["a", "b", "c", "d"]]]),
        (takings.places_of, [show(), "c"]), (takings.taking_with, [show(), "b", 2]), (takings.held_by, [show(), "a"]),
        (together.joint, [show(), late()]), (together.greatest_within, [show(), show().without_row(0)]),
        (together.stuck_field, [show(), Panel(["a", "b", "c", "d"], [["c", "b", "d", "a"]])]),
        (together.is_stuck_field, [show(), late(), ["a", "b"]]), (together.side_by_side, [show(), inn()]),
        (together.behind, [show(), inn()]), (together.instead, [show(), "b", inn()]),
        (together.as_one, [together.instead(show(), "b", inn()), ["x", "y"], "b"]),
        (together.is_as_one, [together.instead(show(), "b", inn()), ["x", "y"], "b", (show(), inn())]),
    ] + calls_of_chances_and_several() + calls_of_books() + calls_of_watched_and_live() + calls_of_scripts_and_texts()


def rounds():
    return [(["a", "b"], ["a"]), (["b", "c", "d"], ["b", "d"]), (["a", "b"], ["a"])]


def clash():
    return [(["a", "b"], ["b"]), (["a", "b"], ["a"])]


def changes():
    return [("put", "b"), ("sit", ["d", "a", "b", "c"]), ("put", "a"), ("exchange", 0, 1), ("leave", 2), ("take", "b")]


def on_stage(many=6):
    return live.replayed(show(), changes()[:many])


def calls_of_watched_and_live():
    names, field = ["d", "a", "b", "c"], ["a", "c", "d"]
    return [
        (watched.book_of_rounds, [names[:], rounds()]), (watched.fits, [names[:], rounds()]),
        (watched.fitting_panel, [names[:], rounds()]), (watched.is_fitting_panel, [names[:], rounds(), show()]),
        (watched.why_none_fits, [names[:], clash()]), (watched.least_clashes, [names[:], clash()]),
        (watched.verdict, [names[:], rounds(), field[:]]), (watched.open_panels, [names[:], rounds(), field[:], "c"]),
        (watched.are_open_panels, [names[:], rounds(), field[:], "c", (show(), late())]),
        (watched.worth_watching, [names[:], rounds(), [field[:], ["a", "b"], field[:]]]),
        (LiveShow.panel, [on_stage()]), (LiveShow.table, [on_stage()]), (LiveShow.cards, [on_stage()]),
        (LiveShow.log, [on_stage()]), (LiveShow.is_calm, [on_stage(), 0, 1]),
        (LiveShow.attempt, [on_stage(), LiveShow.log]), (live.alike_shows, [on_stage(), on_stage(5)]),
        (live.same_shown, [on_stage(), on_stage(5)]), (live.parting_changes, [on_stage(3), on_stage(4)]),
        (live.parting_changes, [on_stage(1), on_stage(2)]), (live.parting_puts, [on_stage(3), on_stage(4)]),
        (live.check_parting, [on_stage(3), on_stage(4), [("put", "d"), ("take", "a"), ("put", "c")]]),
    ]


def script():
    return [("put", "b"), ("sit", ["d", "a", "b", "c"]), ("try", [("sit", ["b"]), ("undo",)]), ("cards",), ("leave", 0)]


def calls_of_scripts_and_texts():
    said = [("done",), ("cards", ["a", "b"]), ("tried", [("refused", "LastRow"), ("table", [])])]
    return [
        (scripts.script_text, [script()]), (scripts.read_script, [scripts.script_text(script())]),
        (scripts.said_text, [said]), (scripts.refused, [show(), script()]),
        (scripts.same_end, [show(), script(), script()[:2]]),
        (scripts.same_cards_behind, [show(), script(), script()[:2]]), (scripts.trimmed, [show(), script()]),
        (texts.names_text, [["b", "a", "b"]]), (texts.panel_text, [show()]), (texts.line_text, [lines_of_book()[1]]),
        (texts.book_text, [book()]), (texts.rounds_text, [rounds()]), (texts.read_names, ["b, a, b"]),
        (texts.read_panel, [texts.panel_text(show())]), (texts.read_line, ["off a by b, c"]),
        (texts.read_book, [texts.book_text(book())]), (texts.read_rounds, [texts.rounds_text(rounds())]),
    ]


def weather():
    return {"a": (1, 2), "b": (2, 3), "c": (6, 8), "d": (0, 5)}


def pair_of_stewards():
    return [(2, ["a", "b", "c"]), (1, ["c", "b", "a"])]


def calls_of_chances_and_several():
    return [
        (chances.count_naming, [show(), "c"]), (chances.count_both, [show(), "b", "c"]),
        (chances.count_first, [show(), "a", "b"]), (chances.counts_by_size, [show(), "c"]),
        (chances.count_cards, [show(), 2]), (chances.chance_of_card, [show(), weather(), "b"]),
        (chances.chance_of_cards, [show(), weather(), ["a"]]), (chances.mean_cards, [show(), weather()]),
        (chances.chance_if, [show(), weather(), "b", "a"]),
        (several.several_cards, [["b", "a", "c"], pair_of_stewards(), ["a", "b"]]),
        (several.several_lots, [["b", "a", "c"], pair_of_stewards(), "c"]),
        (several.plain_panel, [["b", "a", "c"], pair_of_stewards()]),
        (several.is_plain, [["b", "a", "c"], pair_of_stewards(), show()]),
        (several.alike_stewards, [["b", "a", "c"], pair_of_stewards(), pair_of_stewards()[::-1]]),
        (several.parting_several, [["b", "a", "c"], pair_of_stewards(), pair_of_stewards()[1:]]),
        (several.one_steward, [Panel(["a", "b", "c"], [["a", "b", "c"], ["c", "b", "a"]])]),
    ]


def book():
    return Book(["d", "a", "b", "c"], [("off", ["a", "b"], "c"), ("call", ["a", "d"], "d"), ("call", ["b", "c"], "b")])


def lines_of_book():
    return [("call", ["a", "d"], "d"), ("off", ["a"], "c"), ("off", ["c"], "a")]


def calls_of_books():
    stuck = Book(["a", "b", "c", "d"], lines_of_book())
    return [
        (Book, [["d", "b", "a", "c"], lines_of_book()]), (Book.with_line, [book(), ("off", ["d"], "b")]),
        (Book.without_line, [book(), ("off", ["a", "b"], "c")]), (Book.lines, [book()]), (Book.entries, [book()]),
        (books.keeps, [book(), show()]),
        (books.why_broken, [book(), Panel(["a", "b", "c", "d"], [["c", "a", "b", "d"]])]),
        (books.row_with, [book(), [(["a", "b"], "b")]]),
        (books.is_row_with, [book(), [(["a", "b"], "b")], ["b", "a", "c", "d"]]),
        (books.stuck, [stuck, [(["a", "b"], "b")]]), (books.is_stuck, [stuck, [(["a", "b"], "b")], ["a", "c"]]),
        (books.some_panel, [book()]), (books.why_none, [stuck]), (books.is_bar, [stuck, (None, ["a", "c"])]),
        (books.count_rows, [book()]), (implied.contrary, [("off", ["a", "c"], "b")]),
        (implied.follows, [book(), ("off", ["a", "b", "d"], "c")]), (implied.reasons, [book(), ("off", ["a"], "c")]),
        (implied.reasons, [book(), ("off", ["a", "b", "d"], "c")]),
        (implied.is_reasons, [book(), ("off", ["a"], "c"), ("parts", show())]),
        (implied.all_follow, [book(), stuck]), (implied.same_book, [book(), stuck]),
        (implied.parting_panel, [book(), stuck]), (implied.check_parting_panel, [book(), stuck, show()]),
        (implied.needless_lines, [book().with_line(("off", ["a", "b", "d"], "c"))]),
        (implied.lean_book, [book().with_line(("off", ["a", "b", "d"], "c"))]), (implied.book_of, [show()]),
        (implied.greatest_lots, [book()]), (implied.least_book, [show()]),
    ]


def inn():
    return Panel(["x", "y"], [["y", "x"], ["x", "y"]])


def calls_of_keepoffs_and_leaving():
    field = ["a", "b", "c"]
    return [
        (keepoffs.keeps_off, [show(), "c", ["a"]]), (keepoffs.for_good, [show()]),
        (keepoffs.least_keepoffs, [show(), "c"]), (keepoffs.least_meeting, [[["b", "c"], ["a", "b"]]]),
        (keepoffs.why_kept_off, [show(), "c", field[:]]), (keepoffs.is_why_kept_off, [show(), "c", field[:], ["a"]]),
        (keepoffs.shortest_keepoff, [show(), "c"]), (keepoffs.is_shortest_keepoff, [show(), "c", ["b"]]),
        (keepoffs.surely_named, [show(), "c", 2]), (leaving.comes_in, [show(), "a"]),
        (leaving.field_where, [show(), "a", "c"]), (leaving.is_field_where, [show(), "a", "c", ["a", "c"]]),
        (leaving.risers, [show(), field[:], "a"]), (leaving.fallers, [show(), field[:], "d"]),
        (leaving.ways_in, [show(), field[:], "c"]), (leaving.fewest_out, [show(), field[:], "c"]),
        (leaving.layers, [show(), field[:]]), (leaving.layer_of, [show(), field[:], "c"]), (leaving.idle, [show()]),
    ]


def bent():
    return tables.changed(tables.table_of(show()), ["a", "b", "d"], ["b"])


def tree():
    return [["a", ["b"]], "b", ["c", ["d", "c"]]]


def calls_of_tables_and_heats():
    return [
        (tables.table_of, [show()]), (tables.is_table, [["b", "a", "c", "d"], tables.table_of(show())]),
        (tables.changed, [tables.table_of(show()), ["a", "b"], ["b"]]), (tables.flaw, [bent()]),
        (tables.is_flaw, [bent(), tables.flaw(bent())]), (tables.panel_for, [tables.table_of(show())]),
        (tables.odd_fields, [bent()]), (tables.is_odd_fields, [bent(), tables.odd_fields(bent())]),
        (heats.field_of, [show(), tree()]), (heats.heats, [show(), tree()]), (heats.each_heat, [show(), tree()]),
        (heats.widest, [show(), tree()]), (heats.finals, [show(), late(), ["a", "b", "d"]]),
        (heats.may_sift, [show(), late()]), (heats.bad_field, [show(), late()]),
        (heats.is_bad_field, [show(), late(), ["a", "b", "d"]]), (heats.finals_table, [show(), late()]),
    ]


def calls_of_spans_and_fewest():
    high = show().with_row(["d", "c", "b", "a"])
    return [
        (spans.hull, [show(), ["a"]]), (spans.can_be_cards, [show(), ["a", "d"]]),
        (spans.span_of, [show(), ["a", "c"]]), (spans.fields_with, [show(), ["a"]]),
        (spans.field_at, [show(), ["a"], 1]),
        (spans.field_number, [show(), ["a", "c"]]), (spans.lots_of_cards, [show()]), (spans.tally, [show()]),
        (spans.most_cards, [show()]), (spans.is_most_cards, [show(), ["a", "d"]]),
        (fewest.fewest_rows, [show()]), (fewest.is_fewest, [show(), fewest.fewest_rows(show())]),
        (fewest.apart_heads, [show()]), (fewest.is_apart, [show(), fewest.apart_heads(show())]),
        (fewest.chains, [show()]), (fewest.are_chains, [show(), fewest.chains(show())]),
        (fewest.chain_row, [show(), fewest.chains(show())[1]]),
        (fewest.missing_heads, [show(), [["a", "b", "c", "d"]]]),
        (fewest.rows_more, [show(), [["a", "b", "c", "d"]]]),
        (fewest.is_rows_more, [show(), [["a", "b", "c", "d"]], [["d", "b", "a", "c"]]]),
        (fewest.own_heads, [show(), 1]), (fewest.worth, [show(), 1]), (fewest.needless_stewards, [show()]),
        (fewest.lean_stewards, [show()]), (fewest.ladder, [show(), high]),
        (fewest.is_ladder, [show(), high, fewest.ladder(show(), high)]),
    ]


def compared(passed):
    """Arguments such that they can be compared, also live shows."""
    return [[each.log(), each.table(), each.panel()] if isinstance(each, LiveShow) else each for each in passed]


def spoil(value):
    """Changes all lists and dictionaries in a value, however deep they are in it."""
    inner = list(value.values()) if isinstance(value, dict) else value
    if isinstance(value, (list, tuple, dict)):
        for each in inner:
            spoil(each)
    if isinstance(value, dict):
        value.clear()
    if isinstance(value, list):
        value.clear()
        value.append("zz")


class Interface(Case):
    def test_functions_have_the_arguments_and_stand_in_their_files(self):
        for module, told in INTERFACE.items():
            for line in told:
                function = getattr(module, line.split("(")[0])
                self.assertEqual(function.__name__ + str(inspect.signature(function)), line)
                self.assertEqual(function.__module__, module.__name__)

    def test_methods_have_the_arguments_and_stand_in_the_class(self):
        self.assertEqual([Panel.__module__, Book.__module__, LiveShow.__module__],
                         ["cardpanel.panels", "cardpanel.books", "cardpanel.live"])
        for each, lines in METHODS.items():
            for line in lines:
                method = vars(each)[line.split("(")[0]]
                self.assertEqual(method.__name__ + str(inspect.signature(method)), line)

    def test_every_error_class_is_a_class(self):
        self.assertEqual(len([each for each in vars(errors).values() if isinstance(each, type)]), 28)


class SameAnswers(Case):
    def test_equal_calls_return_equal_results(self):
        for (function, passed), (_, again) in zip(calls(), calls()):
            found = function(*passed)
            self.assertEqual(function(*again), found)
            self.assertEqual(function(*passed), found)
            if isinstance(found, dict):
                self.assertEqual(list(function(*again)), list(found))

    def test_arguments_are_not_changed(self):
        for (function, passed), (_, again) in zip(calls(), calls()):
            function(*passed)
            self.assertEqual(compared(passed), compared(again))

    def test_returned_lists_may_be_changed(self):
        for function, passed in calls():
            found = function(*passed)
            kept = deepcopy(found)
            spoil(found)
            self.assertEqual(function(*passed), kept)
            for each in passed:
                if isinstance(each, Panel):
                    spoil([each.rows(), each.entries()])
                if isinstance(each, Book):
                    spoil([each.lines(), each.entries()])
                if isinstance(each, LiveShow):
                    spoil([each.log(), each.table(), each.cards(), each.panel().rows()])
            self.assertEqual(function(*passed), kept)

    def test_passed_lists_may_be_changed(self):
        for function, passed in calls():
            found = function(*passed)
            kept = deepcopy(found)
            spoil([each for each in passed if not isinstance(each, (Panel, Book, LiveShow))])
            self.assertEqual(found, kept)

    def test_lists_passed_to_panels_may_be_changed(self):
        entries, rows = ["b", "a"], [["b", "a"], ["a", "b"]]
        panel = Panel(entries, rows)
        spoil(rows)
        spoil(entries)
        self.assertEqual(panel, Panel(["a", "b"], [["b", "a"], ["a", "b"]]))
        row, names = ["a", "b"], {"a": "c", "b": "d"}
        more, other = panel.with_row(row), panel.renamed(names)
        spoil(row)
        spoil(names)
        self.same([more.rows()[2], other.rows()], [["a", "b"], [["d", "c"], ["c", "d"]]])

    def test_panels_made_of_panels_are_independent(self):
        panel = show()
        for made in [panel.with_row(["d", "c", "b", "a"]), panel.without_row(2), panel.struck([]), panels.plain(panel),
                     panels.turned(panel)]:
            kept = made.rows()
            spoil(made.rows())
            spoil(panel.rows())
            self.assertEqual(made.rows(), kept)
            self.assertEqual(panel, show())

    def test_results_are_new_objects_each_time(self):
        panel = show()
        self.assertIsNot(panel.rows(), panel.rows())
        self.assertIsNot(panel.rows()[0], panel.rows()[0])
        self.assertIsNot(panel.entries(), panel.entries())
        self.assertIsNot(heads.lots_of(panel), heads.lots_of(panel))
        self.assertIsNot(heads.least_lots(panel, "c")[0], heads.least_lots(panel, "c")[0])
        family = {"a": [[]], "b": [["a"]], "c": [["b"]]}
        self.assertIsNot(heads.unbuilt(family)[0][0], family["c"][0])


class FirstWrongArgument(Case):
    def test_in_the_order_of_the_parameters(self):
        panel, bad = show(), ["no panel"]
        self.raises(InvalidPanel, bad, panels.named, bad, -1, [])
        self.raises(InvalidCount, True, panels.named, panel, True, [])
        self.raises(InvalidPanel, bad, panels.who, bad, [], 5)
        self.raises(InvalidField, bad, panels.who, panel, bad, 5)
        self.raises(UnknownEntry, bad, panels.who, panel, ["a"], bad)
        self.raises(InvalidCount, 3, panels.ahead, panel, 3, "x")
        self.raises(InvalidLot, bad, heads.stewards_of, panel, bad, "x")
        self.raises(InvalidLots, bad, heads.cards_by, bad, [])
        self.raises(InvalidField, bad, heads.cards_by, {"a": [[]]}, bad)
        self.raises(InvalidPanel, bad, alike.within, bad, 7)
        self.raises(InvalidEntries, bad, Panel, bad, bad)

    def test_in_the_order_of_the_parameters_in_greater_things(self):
        panel, bad, table = show(), ["no panel"], tables.table_of(show())
        self.raises(InvalidTable, bad, tables.changed, bad, bad, bad)
        self.raises(InvalidField, bad, tables.changed, table, bad, bad)
        self.raises(InvalidLot, bad, tables.changed, table, ["a"], bad)
        self.raises(InvalidPanel, bad, heats.heats, bad, None)
        self.raises(InvalidTree, bad, heats.heats, panel, bad)
        self.raises(InvalidPanel, bad, heats.finals, panel, bad, bad)
        self.raises(InvalidField, bad, heats.finals, panel, panel, bad)
        self.raises(InvalidPanel, bad, spans.field_at, bad, bad, bad)
        self.raises(InvalidLot, bad, spans.field_at, panel, bad, bad)
        self.raises(InvalidCount, bad, spans.field_at, panel, ["a"], bad)
        self.raises(InvalidPanel, bad, fewest.is_rows_more, bad, bad, bad)
        self.raises(InvalidRows, bad, fewest.is_rows_more, panel, bad, bad)
        self.raises(InvalidPanel, bad, fewest.ladder, bad, bad)

    def test_in_the_order_of_the_parameters_of_takings_and_panels_together(self):
        panel, bad = show(), ["no panel"]
        self.raises(InvalidPanel, bad, keepoffs.is_why_kept_off, bad, bad, bad, bad)
        self.raises(UnknownEntry, bad, keepoffs.is_why_kept_off, panel, bad, bad, bad)
        self.raises(InvalidField, bad, keepoffs.is_why_kept_off, panel, "a", bad, bad)
        self.raises(InvalidField, bad, leaving.risers, panel, bad, bad)
        self.raises(UnknownEntry, bad, leaving.risers, panel, ["a"], bad)
        self.raises(InvalidRow, bad, takings.are_steps, panel, bad, bad, bad)
        self.raises(UnknownEntry, bad, takings.taking_with, panel, bad, bad)
        self.raises(InvalidCount, bad, takings.taking_with, panel, "a", bad)
        self.raises(UnknownEntry, bad, together.instead, panel, bad, bad)
        self.raises(InvalidLot, bad, together.is_as_one, panel, bad, bad, bad)
        self.raises(InvalidEntry, bad, together.is_as_one, panel, ["a"], bad, bad)

    def test_in_the_order_of_the_parameters_of_chances_several_books_and_what_follows(self):
        panel, bad, names = show(), ["no panel"], ["a", "b", "c"]
        self.raises(UnknownEntry, bad, chances.count_both, panel, bad, 5)
        self.raises(InvalidChances, bad, chances.chance_if, panel, bad, bad, bad)
        self.raises(UnknownEntry, bad, chances.chance_if, panel, weather(), bad, 5)
        self.raises(InvalidEntries, panel, several.several_cards, panel, bad, bad)
        self.raises(InvalidStewards, bad, several.several_cards, names, bad, [])
        self.raises(InvalidStewards, panel, several.alike_stewards, names, panel, bad)
        self.raises(InvalidEntries, bad, Book, bad, 5)
        self.raises(InvalidBook, panel, books.keeps, panel, panel)
        self.raises(InvalidPanel, bad, books.keeps, book(), bad)
        self.raises(InvalidBook, panel, books.is_stuck, panel, 5, [])
        self.raises(InvalidBook, bad, implied.is_reasons, bad, bad, bad)
        self.raises(InvalidLine, bad, implied.is_reasons, book(), bad, bad)
        self.raises(InvalidBook, bad, implied.same_book, bad, 5)
        self.raises(InvalidBook, bad, implied.same_book, book(), bad)
        other = Book(["a"], [])
        self.raises(Unlike, other, implied.check_parting_panel, book(), other, None)

    def test_in_the_order_of_the_parameters_of_rounds_shows_scripts_and_texts(self):
        panel, bad, names, wrong = show(), ["no panel"], ["a", "b", "c"], clash()
        self.raises(InvalidEntries, panel, watched.are_open_panels, panel, bad, bad, bad, bad)
        self.raises(InvalidRounds, bad, watched.are_open_panels, names, bad, [], 5, bad)
        self.raises(Clash, wrong, watched.are_open_panels, names, wrong, [], 5, bad)
        self.raises(InvalidField, bad, watched.are_open_panels, names, rounds()[:1], bad, 5, bad)
        self.raises(UnknownEntry, bad, watched.are_open_panels, names, rounds()[:1], ["a"], bad, None)
        self.raises(Clash, wrong, watched.worth_watching, names, wrong, bad)
        self.raises(InvalidLive, panel, live.check_parting, panel, bad, bad)
        self.raises(InvalidLive, bad, live.check_parting, on_stage(), bad, bad)
        self.raises(InvalidPanel, bad, live.replayed, bad, 5)
        self.raises(InvalidLog, bad, live.replayed, panel, bad)
        self.raises(InvalidLive, panel, scripts.play, panel, bad)
        self.raises(InvalidScript, bad, scripts.play, on_stage(), bad)
        self.raises(InvalidScript, bad, scripts.same_end, panel, bad, panel)
        self.raises(InvalidText, bad, texts.read_book, bad)

    def test_also_when_passed_by_name(self):
        self.raises(InvalidCount, -1, panels.named, field=[], at=-1, panel=show())
        self.raises(InvalidLot, None, heads.stewards_of, entry=None, lot=None, panel=show())

    def test_tuples_are_no_lists_and_lists_no_tuples(self):
        self.raises(InvalidField, ("a",), panels.cards, show(), ("a",))
        self.raises(InvalidLot, ("a",), show().struck, ("a",))
        self.assertFalse(heads.are_lots({"a": ([],)}))
        self.assertFalse(alike.is_parting_field(show(), late(), ("a", "b")))
        self.assertTrue(alike.is_parting_field(show(), late(), ["a", "b"]))

    def test_true_is_no_position(self):
        self.raises(InvalidCount, True, panels.named, show(), True, ["a"])
        self.raises(InvalidCount, False, panels.ahead, show(), False, "a")
        self.raises(InvalidCount, True, show().without_row, True)
        self.same(panels.named(show(), 1, ["a", "b"]), "b")


class Limits(Case):
    """Panels of 40 entries, 8 stewards and some 260 heads, and families of 320 lots."""

    def wide_panel(self, turn=1):
        """A panel in which each entry but the first 8 of the rows has 8 least ahead lots."""
        names = big_names(40)
        first, rest = names[:8], names[8:]
        rows = [[first[at]] + rest[::turn] + first[:at] + first[at + 1:] for at in range(8)]
        return Panel(names, rows)

    def wide_family(self):
        """A family of 40 entries and 320 lots, one of which is not built for each of the last 24 entries."""
        names = big_names(40)
        pairs = sorted([low, high] for at, low in enumerate(names[:8]) for high in names[at + 1:8])
        family = {name: [[]] for name in names[:8]}
        for at, name in enumerate(names[8:16]):
            family[name] = pairs[at:at + 9]
        for name in names[16:]:
            family[name] = sorted(pairs[:9] + [[names[8], names[9]]])
        return family

    def test_heads_of_a_wide_panel(self):
        panel = self.wide_panel()
        found = self.at_once(heads.heads, panel)
        self.assertGreater(len(found), 250)
        for lot, entry in found[::9]:
            self.assertIn(entry, panels.cards(panel, [name for name in panel.entries() if name not in lot]))

    def test_wide_panels_against_each_other(self):
        one, other = self.wide_panel(), self.wide_panel(-1)
        more = one.with_row(other.rows()[3])
        self.same([self.at_once(alike.within, one, more), self.at_once(alike.within, more, one)], [True, False])
        self.same([self.at_once(alike.alike, one, one), self.at_once(alike.alike, one, other)], [True, False])
        for passed in [(one, other), (one, more), (more, other)]:
            size = self.at_once(alike.parting_size, *passed)
            field = self.at_once(alike.parting_field, *passed)
            self.assertTrue(alike.is_parting_field(*passed, field))
            self.assertLessEqual(size, len(field))
            pairs = self.at_once(alike.parting_pairs, *passed)
            self.assertEqual(size == 2, pairs != [])
        self.assertIsNone(self.at_once(alike.parting_size, one, Panel(one.entries(), one.rows()[::-1])))

    def test_random_panels(self):
        for seed in range(4):
            one, other = big_panel(seed, 40, 8), big_panel(seed + 90, 40, 8)
            self.same(self.at_once(alike.parting_size, one, other), 2)
            self.assertEqual(self.at_once(alike.beyond, one, other), sorted(set(
                entry for lot, entry in heads.heads(one)
                if entry not in panels.cards(other, [name for name in one.entries() if name not in lot]))))

    def test_wide_families(self):
        family = self.wide_family()
        names = sorted(family)
        self.assertEqual(sum(len(each) for each in family.values()), 320)
        self.same(self.at_once(heads.cards_by, family, names), names[:8])
        self.same(self.at_once(heads.unbuilt, family), [([names[8], names[9]], name) for name in names[16:]])
        self.same(self.at_once(heads.are_lots, family), False)
        self.same(self.at_once(heads.are_lots, heads.lots_of(self.wide_panel())), True)

    def test_long_chain_taken_from_the_last_entry_on(self):
        names = big_names(40)
        family = {name: [names[at + 1:]] for at, name in enumerate(names)}
        self.same(self.at_once(heads.unbuilt, family), [])
        self.assertEqual(self.at_once(heads.panel_of, family), Panel(names, [names[::-1]]))

    def test_panels_that_functions_return_may_be_passed_again(self):
        family = heads.lots_of(big_panel(9, 20, 5))
        made = heads.panel_of(family)
        self.same(alike.parting_size(made, big_panel(9, 20, 5)), None)
        self.same(heads.is_panel_of(heads.lots_of(made), panels.plain(made)), True)
        self.same(heads.is_panel_of(family, heads.panel_of(heads.lots_of(made))), True)


if __name__ == "__main__":
    main()
