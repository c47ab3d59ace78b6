"""Whole tables of the cards of all fields, and whether some panel keeps them."""

from cardpanel.basics import bits_in
from cardpanel.basics import bits_of
from cardpanel.basics import check_entries
from cardpanel.basics import is_lot_of_names
from cardpanel.basics import is_within
from cardpanel.basics import least_masks
from cardpanel.basics import lot_of
from cardpanel.errors import InvalidField
from cardpanel.errors import InvalidLot
from cardpanel.errors import InvalidTable
from cardpanel.families import fewest_rows_of
from cardpanel.panels import Panel
from cardpanel.panels import cards_on
from cardpanel.panels import check_panel


def all_fields(entries):
    """Returns the ascending list of all fields of some entries."""
    fields = []
    for name in reversed(entries):
        fields = [[name]] + [[name] + field for field in fields] + fields
    return fields


def table_of(panel):
    """Returns the table of a panel: each field with its cards."""
    check_panel(panel)
    rows = panel.rows()
    return [(field, cards_on(rows, field)) for field in all_fields(panel.entries())]


def are_some_of(field, value):
    """Returns whether any object is an ascending list, not empty, of entries of a field."""
    if not isinstance(value, list) or not value:
        return False
    return value == field or value == [name for name in field if name in value]


def is_whole(entries, value):
    """Returns whether any object is a table of some entries, in ascending order."""
    if not isinstance(value, list) or len(value) != (1 << len(entries)) - 1:
        return False
    for field, line in zip(all_fields(entries), value):
        if not isinstance(line, tuple) or len(line) != 2 or line[0] != field or not are_some_of(field, line[1]):
            return False
    return True


def is_table(entries, value):
    """Returns whether any object is a table of some entries, in any order."""
    check_entries(entries)
    return is_whole(sorted(entries), value)


def greatest_field(value):
    """Returns the field of all entries that stand in a table, an empty list for what can't be one."""
    if not isinstance(value, list) or not value:
        return []
    # The fields that begin the ascending list are the first entry, the first two, and so on, up to all of them.
    line = value[len(value).bit_length() - 1]
    return line[0] if isinstance(line, tuple) and line and is_lot_of_names(line[0]) else []


def checked_names(table):
    """Returns the entries that stand in a table, one at least; raises InvalidTable for any other object."""
    names = greatest_field(table)
    if not names or not is_whole(names, table):
        raise InvalidTable(table)
    return names


def cards_in(table, value):
    """Returns the cards that a table has for any object that is one of its fields, None for any other object."""
    for field, given in table:
        if field == value:
            return given
    return None


def changed(table, field, cards):
    """Returns the table in which a field has other cards."""
    checked_names(table)
    if cards_in(table, field) is None:
        raise InvalidField(field)
    if not are_some_of(field, cards):
        raise InvalidLot(cards)
    return [(list(told), list(cards if told == field else given)) for told, given in table]


def fields_of_bits(bits):
    """Returns the numbers of all fields of some entries, in the ascending order of the fields."""
    fields = []
    for bit in reversed(list(bits.values())):
        fields = [bit] + [bit | field for field in fields] + fields
    return fields


def cards_told(table, bits):
    """Returns a dictionary from the fields of a table to their cards, all as numbers."""
    fields = fields_of_bits(bits)
    numbers = {tuple(field): number for (field, _), number in zip(table, fields)}
    return {number: numbers[tuple(given)] for (_, given), number in zip(table, fields)}


def is_flawed(told):
    """Returns whether a table has a flaw: whether one between a field and what is left of it without one entry."""
    for field, given in told.items():
        for bit in bits_in(field):
            # Whoever has a card must keep it without the other one, and without one who has none all is the same.
            kept = told.get(field ^ bit, 0)
            if bit & given and given & ~bit & ~kept or not bit & given and kept != given:
                return True
    return False


def lost_cards(told, field, other):
    """Returns the lot of those who get a card on a field and none on another one within it, as they would have to."""
    return told[field] & other & ~told[other]


def is_moved(told, field, other):
    """Returns whether another field, that has all cards of one that it is within, has not the same cards."""
    return is_within(told[field], other) and told[field] != told[other]


def first_flaw(bits, told):
    """Returns the first flaw of a table that has one, field by field."""
    for field in told:
        for other in [lesser for lesser in told if not lesser & ~field]:
            lost = lot_of(bits, lost_cards(told, field, other))
            if lost:
                return "lost", lot_of(bits, field), lot_of(bits, other), lost[0]
            if is_moved(told, field, other):
                return "moved", lot_of(bits, field), lot_of(bits, other)
    return None


def flaw(table):
    """Returns None if some panel keeps a table, otherwise two fields whose cards no panel gives."""
    bits = bits_of(checked_names(table))
    told = cards_told(table, bits)
    return first_flaw(bits, told) if is_flawed(told) else None


def is_flaw(table, value):
    """Returns whether any object is what `flaw` may return for a table with a flaw."""
    checked_names(table)
    if not isinstance(value, tuple) or len(value) not in (3, 4):
        return False
    word, field, other = value[:3]
    ours, theirs = cards_in(table, field), cards_in(table, other)
    if ours is None or theirs is None or not all([name in field for name in other]):
        return False
    if len(value) == 3:
        return word == "moved" and ours != theirs and all([name in other for name in ours])
    entry = value[3]
    return word == "lost" and entry in ours and entry in other and entry not in theirs


def panel_for(table):
    """Returns a panel with as few stewards as can be that keeps a table, None if there is none."""
    bits = bits_of(checked_names(table))
    told = cards_told(table, bits)
    if is_flawed(told):
        return None
    every, lots = sum(list(bits.values())), {}
    for name, bit in bits.items():
        lots[name] = least_masks([every ^ field for field, given in told.items() if given & bit])
    return Panel(list(bits), fewest_rows_of(lots))


def are_odd(told, one, other):
    """Returns whether the cards of two fields together are not those of the cards of both, all as numbers."""
    return told[one | other] != told[told[one] | told[other]]


def first_odd(bits, told):
    """Returns the first two fields that `odd_fields` may return for a table that has such, field by field."""
    for field in told:
        for other in told:
            if are_odd(told, field, other):
                return lot_of(bits, field), lot_of(bits, other)
    return None


def odd_fields(table):
    """Returns two fields such that the cards of both together are not those of the cards of both, None if none are."""
    bits = bits_of(checked_names(table))
    told = cards_told(table, bits)
    # Without a flaw there are none, so no pair has to be looked at.
    return first_odd(bits, told) if is_flawed(told) else None


def is_odd_fields(table, value):
    """Returns whether any object is what `odd_fields` may return for a table with a flaw."""
    checked_names(table)
    if not isinstance(value, tuple) or len(value) != 2:
        return False
    ours, theirs = [cards_in(table, part) for part in value]
    if ours is None or theirs is None:
        return False
    one, other = value
    return cards_in(table, sorted(set(one + other))) != cards_in(table, sorted(set(ours + theirs)))
