"""Watched rounds: which panels fit what was seen, what is sure then, and what is still open."""

from itertools import combinations

from cardpanel.basics import bits_of
from cardpanel.basics import check_entries
from cardpanel.basics import check_entry
from cardpanel.basics import check_field
from cardpanel.basics import is_field
from cardpanel.basics import is_name
from cardpanel.basics import is_within
from cardpanel.basics import mask_of
from cardpanel.basics import number_of_lot
from cardpanel.books import Book
from cardpanel.books import rows_by
from cardpanel.books import some_panel
from cardpanel.books import why_none
from cardpanel.errors import Clash
from cardpanel.errors import InvalidField
from cardpanel.errors import InvalidRounds
from cardpanel.panels import Panel
from cardpanel.panels import cards_on
from cardpanel.rules import Rules
from cardpanel.rules import can_be_called
from cardpanel.rules import can_be_kept
from cardpanel.rules import sure_lots


def is_round(bits, value):
    """Returns whether any object is a watched round of the entries that have bits."""
    if not isinstance(value, tuple) or len(value) != 2:
        return False
    field, given = [number_of_lot(bits, part) for part in value]
    return bool(field) and bool(given) and is_within(given, field)


def are_rounds(bits, value):
    """Returns whether any object is a list, perhaps empty, of watched rounds of the entries that have bits."""
    return isinstance(value, list) and all([is_round(bits, each) for each in value])


def are_some_rounds(value):
    """Returns whether any object is a list, perhaps empty, of watched rounds of some entries."""
    if not isinstance(value, list) or not all([isinstance(each, tuple) and len(each) == 2 for each in value]):
        return False
    names = [name for field, _ in value if isinstance(field, list) for name in field]
    return all([is_name(name) for name in names]) and are_rounds(bits_of(sorted(set(names))), value)


def check_rounds(entries, rounds):
    """Raises an error unless it is passed entries and watched rounds of them."""
    check_entries(entries)
    if not are_rounds(bits_of(sorted(entries)), rounds):
        raise InvalidRounds(rounds)


def lines_of_round(field, given):
    """Returns the lines that a panel keeps if it gives just these cards on a field."""
    offs = [("off", list(given), name) for name in field if name not in given]
    return [("call", list(field), name) for name in given] + offs


def lines_of(rounds):
    """Returns the lines of all of some rounds, those of equal rounds once."""
    unlike = [each for at, each in enumerate(rounds) if each not in rounds[:at]]
    return [line for field, given in unlike for line in lines_of_round(field, given)]


def book_of_rounds(entries, rounds):
    """Returns the book that just those panels keep that fit some rounds."""
    check_rounds(entries, rounds)
    return Book(entries, lines_of(rounds))


def rules_of_rounds(entries, rounds):
    """Returns the lines of some rounds as numbers."""
    return Rules(bits_of(sorted(entries)), lines_of(rounds))


def fits(entries, rounds):
    """Returns whether some panel fits."""
    check_rounds(entries, rounds)
    return can_be_kept(rules_of_rounds(entries, rounds))


def fitting_panel(entries, rounds):
    """Returns a panel that fits, None if there is none."""
    return some_panel(book_of_rounds(entries, rounds))


def is_fitting(entries, rounds, value):
    """Returns whether any object is a panel of some entries that fits rounds."""
    if not isinstance(value, Panel) or value.entries() != sorted(entries):
        return False
    rows = value.rows()
    return all([cards_on(rows, field) == given for field, given in rounds])


def is_fitting_panel(entries, rounds, value):
    """Returns whether any object is a panel that fits."""
    check_rounds(entries, rounds)
    return is_fitting(entries, rounds, value)


def why_none_fits(entries, rounds):
    """Returns None if some panel fits, otherwise a bar of the book of the rounds."""
    return why_none(book_of_rounds(entries, rounds))


def least_clashes(entries, rounds):
    """Returns the ascending list of the least lists of positions of rounds that no panel fits together."""
    if fits(entries, rounds):
        return []
    found, many = [], len(rounds)
    for size in range(1, many + 1):
        for chosen in combinations(range(many), size):
            # What holds a clash clashes, too, but is no least one.
            if not any([all([at in chosen for at in clash]) for clash in found]):
                if not can_be_kept(rules_of_rounds(entries, [rounds[at] for at in chosen])):
                    found.append(list(chosen))
    return sorted(found)


def rules_that_fit(entries, rounds):
    """Returns the lines of some rounds as numbers; raises Clash if no panel fits."""
    check_rounds(entries, rounds)
    rules = rules_of_rounds(entries, rounds)
    if not can_be_kept(rules):
        raise Clash(rounds)
    return rules


def said_of(rules, sure, field, name):
    """Returns what is sure of an entry on a field, by the lots that are sure for it."""
    bit = rules.bits[name]
    others = mask_of(rules.bits, field) ^ bit
    if not can_be_called(rules, (others, bit)):
        return "none"
    # It may also get none if, wherever it is sure that nobody but a lot is ahead of it, some of the lot can be there.
    return "open" if all([lot & others for _, lot in sure]) else "card"


def verdict(entries, rounds, field):
    """Returns a dictionary from the entries of a field to what is sure of them: a card, none, or nothing."""
    rules = rules_that_fit(entries, rounds)
    check_field(sorted(entries), field)
    return {name: said_of(rules, sure_lots(rules, rules.bits[name]), field, name) for name in field}


def check_open(entries, rounds, field, entry):
    """Raises an error unless it is passed rounds that some panel fits, a field, and an entry of it."""
    rules_that_fit(entries, rounds)
    check_field(sorted(entries), field)
    check_entry(field, entry)


def panel_with(entries, rounds, line):
    """Returns a panel that fits and keeps one line more, None if there is none."""
    rows = rows_by(Rules(bits_of(sorted(entries)), lines_of(rounds) + [line]))
    return None if rows is None else Panel(entries, rows)


def open_panels(entries, rounds, field, entry):
    """Returns two panels that fit, of which just the first one gives an entry a card on a field, None if none do."""
    check_open(entries, rounds, field, entry)
    others = [name for name in field if name != entry]
    if not others:
        return None
    one = panel_with(entries, rounds, ("call", field, entry))
    other = panel_with(entries, rounds, ("off", others, entry))
    return None if one is None or other is None else (one, other)


def are_open_panels(entries, rounds, field, entry, value):
    """Returns whether any object is what `open_panels` may return for an entry that is open."""
    check_open(entries, rounds, field, entry)
    if not isinstance(value, tuple) or len(value) != 2:
        return False
    if not all([is_fitting(entries, rounds, each) for each in value]):
        return False
    return [entry in cards_on(each.rows(), field) for each in value] == [True, False]


def worth_watching(entries, rounds, fields):
    """Returns the ascending list of the positions of those of some fields on which some entry is open."""
    rules = rules_that_fit(entries, rounds)
    names = sorted(entries)
    if not isinstance(fields, list) or not all([is_field(names, field) for field in fields]):
        raise InvalidField(fields)
    sure = {name: sure_lots(rules, rules.bits[name]) for name in names}
    return [
        at for at, field in enumerate(fields)
        if any([said_of(rules, sure[name], field, name) == "open" for name in field])
    ]
