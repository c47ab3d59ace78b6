"""Stewards of several cards, each of whom names the first so many of a row that are on the field."""

from itertools import combinations

from cardpanel.basics import bits_in
from cardpanel.basics import bits_of
from cardpanel.basics import check_entries
from cardpanel.basics import check_entry
from cardpanel.basics import check_field
from cardpanel.basics import is_count
from cardpanel.basics import is_row
from cardpanel.basics import is_within
from cardpanel.basics import lot_of
from cardpanel.basics import masks_ahead
from cardpanel.basics import size_of
from cardpanel.errors import InvalidStewards
from cardpanel.families import fewest_rows_of
from cardpanel.heads import sorted_lots
from cardpanel.panels import Panel
from cardpanel.panels import ahead_masks
from cardpanel.panels import cards
from cardpanel.panels import check_panel
from cardpanel.panels import places


def is_steward(entries, value):
    """Returns whether any object is a tuple of a count of at least 1 and a row of the entries."""
    if not isinstance(value, tuple) or len(value) != 2:
        return False
    many, row = value
    return is_count(many) and many >= 1 and is_row(entries, row)


def check_stewards(entries, stewards):
    """Raises InvalidStewards unless it is passed a list, not empty, of stewards of several cards."""
    names = sorted(entries)
    if not isinstance(stewards, list) or not stewards or not all([is_steward(names, each) for each in stewards]):
        raise InvalidStewards(stewards)


def check_several(entries, stewards):
    """Raises an error unless it is passed entries and stewards of several cards."""
    check_entries(entries)
    check_stewards(entries, stewards)


def several_cards(entries, stewards, field):
    """Returns the ascending list of all who are named on a field by stewards of several cards."""
    check_several(entries, stewards)
    check_field(sorted(entries), field)
    given = [name for many, row in stewards for name in [other for other in row if other in field][:many]]
    return sorted(set(given))


def needs_of(entries, stewards):
    """Returns a dictionary from the entries, ascending, to what they need: for each steward a tuple `(mask, many)`.

    An entry is named by a steward just if at least so many of the lot ahead of it in the row are not there.
    """
    bits = bits_of(sorted(entries))
    found = {name: [] for name in bits}
    for many, row in stewards:
        masks = masks_ahead(bits, row)
        for place, name in enumerate(row):
            found[name].append((masks[name], max(place - many + 1, 0)))
    return found


def is_enough(needs, lot):
    """Returns whether an entry with some needs is named when just a lot is not there."""
    return any([size_of(mask & lot) >= many for mask, many in needs])


def is_least(needs, lot):
    """Returns whether an entry that is named when just a lot is not there is not named when less of it is away."""
    away = [(mask, many, size_of(mask & lot)) for mask, many in needs]
    return all([there < many or there == many and is_within(lot, mask) for mask, many, there in away])


def lots_of_size(mask, many):
    """Returns the list of all lots of so many entries of a lot, all as numbers."""
    bits = bits_in(mask)
    return [sum(chosen) for chosen in combinations(bits, many)]


def least_of_needs(needs):
    """Returns the list of the least ahead lots, as numbers, of an entry with some needs."""
    if 0 in [many for _, many in needs]:
        return [0]
    found = {lot: True for mask, many in needs for lot in lots_of_size(mask, many)}
    return [lot for lot in found if is_least(needs, lot)]


def several_lots(entries, stewards, entry):
    """Returns the ascending list of the least ahead lots of an entry by stewards of several cards."""
    check_several(entries, stewards)
    check_entry(entries, entry)
    return sorted_lots(bits_of(sorted(entries)), least_of_needs(needs_of(entries, stewards)[entry]))


def rows_with_last(row, many):
    """Returns the rows in which so many entries, other than the last one, stand behind all others."""
    return [[name for name in row if name not in away] + list(away) for away in combinations(row[:-1], many)]


def rows_of_one(many, row):
    """Returns as few rows as can be that give the cards of a single steward of several cards."""
    if many >= len(row):
        return [[name] + [other for other in row if other != name] for name in row]
    return rows_with_last(row, many - 1)


def plain_panel(entries, stewards):
    """Returns a panel with as few stewards as can be that gives the cards of stewards of several cards."""
    check_several(entries, stewards)
    if len(stewards) == 1:
        many, row = stewards[0]
        return Panel(entries, rows_of_one(many, row))
    masks = {name: least_of_needs(needs) for name, needs in needs_of(entries, stewards).items()}
    return Panel(entries, fewest_rows_of(masks))


def gives_the_cards(needs, panel):
    """Returns whether a panel gives the cards of stewards, by what they need of its entries."""
    shown = {name: {} for name in needs}
    for masks in ahead_masks(panel):
        for name, mask in masks.items():
            shown[name][mask] = True
    for name, seen in shown.items():
        if not all([is_enough(needs[name], mask) for mask in seen]):
            return False
    return all([lot in shown[name] for name in needs for lot in least_of_needs(needs[name])])


def is_plain(entries, stewards, value):
    """Returns whether any object is a panel that gives the cards of stewards of several cards on all fields."""
    check_several(entries, stewards)
    if not isinstance(value, Panel) or value.entries() != sorted(entries):
        return False
    return gives_the_cards(needs_of(entries, stewards), value)


def check_both(entries, one, other):
    """Raises an error unless it is passed entries and two lists of stewards of several cards."""
    check_several(entries, one)
    check_stewards(entries, other)


def alike_stewards(entries, one, other):
    """Returns whether two lists of stewards of several cards give the same cards on all fields."""
    check_both(entries, one, other)
    return parting_several(entries, one, other) is None


def parting_several(entries, one, other):
    """Returns None if two lists of stewards give the same cards, otherwise a field on which they do not."""
    check_both(entries, one, other)
    names, ours, theirs = sorted(entries), needs_of(entries, one), needs_of(entries, other)
    for giver, keeper in [(ours, theirs), (theirs, ours)]:
        for name in names:
            for lot in least_of_needs(giver[name]):
                if not is_enough(keeper[name], lot):
                    return lot_of(bits_of(names), ~lot)
    return None


def one_steward(panel):
    """Returns the single steward of several cards who gives the cards of a panel, None if there is none."""
    check_panel(panel)
    names = panel.entries()
    many = len(cards(panel, names))
    # Whoever has a card on the field of all is first in some row; each of the others has lots of a size of their own.
    sizes = {name: min(places(panel, name)) for name in names}
    row = sorted(names, key=lambda name: sizes[name])
    if not gives_the_cards(needs_of(names, [(many, row)]), panel):
        return None
    return many, row
