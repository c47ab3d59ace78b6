"""Whole tables of the cards of all fields, and whether some panel keeps them."""

from cardpanel.basics import bits_of
from cardpanel.basics import check_entries
from cardpanel.basics import is_ascending
from cardpanel.basics import is_field
from cardpanel.basics import is_name
from cardpanel.basics import is_within
from cardpanel.basics import least_masks
from cardpanel.basics import lot_of
from cardpanel.basics import mask_of
from cardpanel.errors import InvalidField
from cardpanel.errors import InvalidLot
from cardpanel.errors import InvalidTable
from cardpanel.fewest import fewest_rows
from cardpanel.heads import panel_of
from cardpanel.heads import sorted_lots
from cardpanel.panels import Panel
from cardpanel.panels import cards_on
from cardpanel.panels import check_panel


def all_fields(entries):
    """Returns the ascending list of all fields of some entries."""
    fields = []
    for name in reversed(entries):
        fields = [[name]] + [[name] + field for field in fields] + fields
    return fields


def table_of(panel):
    """Returns the table of a panel: each field with its cards."""
    check_panel(panel)
    rows = panel.rows()
    return [(field, cards_on(rows, field)) for field in all_fields(panel.entries())]


def is_line(entries, value):
    """Returns whether any object may stand in a table of some entries."""
    if not isinstance(value, tuple) or len(value) != 2:
        return False
    field, given = value
    return is_field(entries, field) and is_field(field, given)


def is_whole(entries, value):
    """Returns whether any object is a table of some entries, in ascending order."""
    # There are that many fields, so as many unlike ones are all of them.
    if not isinstance(value, list) or len(value) != (1 << len(entries)) - 1:
        return False
    return all([is_line(entries, line) for line in value]) and is_ascending([field for field, _ in value])


def is_table(entries, value):
    """Returns whether any object is a table of some entries, in any order."""
    check_entries(entries)
    return is_whole(sorted(entries), value)


def names_in_fields(value):
    """Returns the ascending list of the names that stand in the fields of what may be a table."""
    fields = [line[0] for line in value if isinstance(line, tuple) and len(line) == 2]
    names = [name for field in fields if isinstance(field, list) for name in field if is_name(name)]
    return sorted(set(names))


def check_table(table):
    """Raises InvalidTable unless it is passed a table of the entries that stand in it, one at least."""
    if not isinstance(table, list) or not table or not is_whole(names_in_fields(table), table):
        raise InvalidTable(table)


def changed(table, field, cards):
    """Returns the table in which a field has other cards."""
    check_table(table)
    if not is_field(names_in_fields(table), field):
        raise InvalidField(field)
    if not is_field(field, cards):
        raise InvalidLot(cards)
    return [(list(told), list(cards if told == field else given)) for told, given in table]


def table_bits(table):
    """Returns a dictionary from the entries of a table to their bits."""
    return bits_of(names_in_fields(table))


def cards_told(table):
    """Returns a dictionary from the fields of a table to their cards, all as numbers."""
    bits = table_bits(table)
    return {mask_of(bits, field): mask_of(bits, given) for field, given in table}


def lost_cards(told, field, other):
    """Returns the lot of those who get a card on a field and none on another one within it, as they would have to."""
    return told[field] & other & ~told[other]


def is_moved(told, field, other):
    """Returns whether another field, that has all cards of one that it is within, has not the same cards."""
    return is_within(told[field], other) and told[field] != told[other]


def flaw(table):
    """Returns None if some panel keeps a table, otherwise two fields whose cards no panel gives."""
    check_table(table)
    bits, told = table_bits(table), cards_told(table)
    for field in told:
        for other in [lesser for lesser in told if is_within(lesser, field)]:
            lost = lot_of(bits, lost_cards(told, field, other))
            if lost:
                return "lost", lot_of(bits, field), lot_of(bits, other), lost[0]
            if is_moved(told, field, other):
                return "moved", lot_of(bits, field), lot_of(bits, other)
    return None


def is_flaw(table, value):
    """Returns whether any object is what `flaw` may return for a table with a flaw."""
    check_table(table)
    bits, told = table_bits(table), cards_told(table)
    if not isinstance(value, tuple) or len(value) < 3 or not all([is_field(list(bits), part) for part in value[1:3]]):
        return False
    field, other = mask_of(bits, value[1]), mask_of(bits, value[2])
    if not is_within(other, field):
        return False
    if len(value) == 3:
        return value[0] == "moved" and is_moved(told, field, other)
    lost = lot_of(bits, lost_cards(told, field, other))
    return len(value) == 4 and value[0] == "lost" and value[3] in lost


def panel_for(table):
    """Returns a panel with as few stewards as can be that keeps a table, None if there is none."""
    if flaw(table) is not None:
        return None
    bits, told = table_bits(table), cards_told(table)
    every = mask_of(bits, bits)
    lots = {}
    for name, bit in bits.items():
        away = [every & ~field for field, given in told.items() if given & bit]
        lots[name] = sorted_lots(bits, least_masks(away))
    return Panel(list(bits), fewest_rows(panel_of(lots)))


def are_odd(told, one, other):
    """Returns whether the cards of two fields together are not those of the cards of both, all as numbers."""
    return told[one | other] != told[told[one] | told[other]]


def odd_fields(table):
    """Returns two fields such that the cards of both together are not those of the cards of both, None if none are."""
    check_table(table)
    bits, told = table_bits(table), cards_told(table)
    for field in told:
        for other in told:
            if are_odd(told, field, other):
                return lot_of(bits, field), lot_of(bits, other)
    return None


def is_odd_fields(table, value):
    """Returns whether any object is what `odd_fields` may return for a table with a flaw."""
    check_table(table)
    bits, told = table_bits(table), cards_told(table)
    if not isinstance(value, tuple) or len(value) != 2 or not all([is_field(list(bits), part) for part in value]):
        return False
    return are_odd(told, mask_of(bits, value[0]), mask_of(bits, value[1]))
