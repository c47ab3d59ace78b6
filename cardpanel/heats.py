"""Heats, of which those with a card go on, and panels that sift for other ones."""

from cardpanel.alike import bad_row
from cardpanel.alike import field_beyond
from cardpanel.alike import within
from cardpanel.basics import is_field
from cardpanel.errors import InvalidTree
from cardpanel.panels import cards
from cardpanel.panels import cards_on
from cardpanel.panels import check_panel
from cardpanel.panels import check_panels
from cardpanel.tables import all_fields


def is_tree(entries, value):
    """Returns whether any object is a tree of heats of some entries."""
    if isinstance(value, list):
        return len(value) > 0 and all([is_tree(entries, part) for part in value])
    return value in entries


def check_tree(panel, tree):
    """Raises an error unless it is passed a panel and a tree of heats of its entries."""
    check_panel(panel)
    if not is_tree(panel.entries(), tree):
        raise InvalidTree(tree)


def entries_in(tree):
    """Returns the list of the entries that stand in a tree of heats, as often as they do."""
    if not isinstance(tree, list):
        return [tree]
    found = []
    for part in tree:
        found = found + entries_in(part)
    return found


def field_of(panel, tree):
    """Returns the field of all entries that stand in a tree of heats."""
    check_tree(panel, tree)
    return sorted(set(entries_in(tree)))


def heats(panel, tree):
    """Returns the ascending list of those that go on from a whole tree of heats."""
    return cards(panel, field_of(panel, tree))


def played(rows, tree):
    """Returns the fields and cards of all lists in a tree, in the order in which they end, and who goes on."""
    if not isinstance(tree, list):
        return [], [tree]
    told, there = [], []
    for part in tree:
        told_of_part, going_on = played(rows, part)
        told = told + told_of_part
        there = there + going_on
    field = sorted(set(there))
    given = cards_on(rows, field)
    return told + [(field, given)], given


def each_heat(panel, tree):
    """Returns the list of the fields and cards of all lists in a tree of heats, in the order in which they end."""
    check_tree(panel, tree)
    return played(panel.rows(), tree)[0]


def widest(panel, tree):
    """Returns the greatest number of entries on the table in one heat, 0 if there is no heat."""
    return max([len(field) for field, _ in each_heat(panel, tree)], default=0)


def finals(first, second, field):
    """Returns the cards of the second panel among the cards of the first one on a field."""
    check_panels(first, second)
    return cards(second, cards(first, field))


def may_sift(first, second):
    """Returns whether the finals are the cards of the second panel on all fields."""
    check_panels(first, second)
    return within(second, first)


def bad_field(first, second):
    """Returns a field on which the finals are not the cards of the second panel, None if there is none."""
    check_panels(first, second)
    bad = bad_row(second, first)
    if bad is None:
        return None
    at, entry = bad
    return field_beyond(second, first, at, entry)


def is_bad_field(first, second, value):
    """Returns whether any object is a field on which the finals are not the cards of the second panel."""
    check_panels(first, second)
    return is_field(first.entries(), value) and finals(first, second, value) != cards(second, value)


def finals_table(first, second):
    """Returns the table of the finals on all fields."""
    check_panels(first, second)
    return [(field, finals(first, second, field)) for field in all_fields(first.entries())]
