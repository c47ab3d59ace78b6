"""The fields with the same cards, which lie between the cards and their hull, and the lots that can be cards."""

from cardpanel.basics import bits_of
from cardpanel.basics import check_lot
from cardpanel.basics import is_count
from cardpanel.basics import is_field
from cardpanel.basics import lot_of
from cardpanel.basics import mask_of
from cardpanel.basics import size_of
from cardpanel.errors import InvalidCount
from cardpanel.heads import least_ahead
from cardpanel.panels import cards
from cardpanel.panels import cards_on
from cardpanel.panels import check_panel


def check_panel_and_lot(panel, lot):
    """Raises an error unless it is passed a panel and a lot, perhaps empty, of its entries."""
    check_panel(panel)
    check_lot(panel.entries(), lot)


def kept_off(least, lot):
    """Returns the list of the entries each least ahead lot of which has an entry of a lot, all as numbers."""
    return [name for name, masks in least.items() if all([mask & lot for mask in masks])]


def hull(panel, lot):
    """Returns the ascending list of the entries of a lot and all that it keeps off."""
    check_panel_and_lot(panel, lot)
    away = kept_off(least_ahead(panel), mask_of(bits_of(panel.entries()), lot))
    return sorted(set(lot + away))


def can_be_cards(panel, lot):
    """Returns whether there is a field whose cards are just a lot."""
    check_panel_and_lot(panel, lot)
    return len(lot) > 0 and cards(panel, lot) == lot


def span_of(panel, field):
    """Returns the least and the greatest field with the same cards as a field."""
    given = cards(panel, field)
    return given, hull(panel, given)


def free_in_span(panel, lot):
    """Returns the list of the entries that the hull of a lot has more."""
    return [name for name in hull(panel, lot) if name not in lot]


def fields_with(panel, lot):
    """Returns the number of fields whose cards are just a lot."""
    if not can_be_cards(panel, lot):
        return 0
    return 1 << len(free_in_span(panel, lot))


def field_at(panel, lot, number):
    """Returns the field with a number among those whose cards are just a lot."""
    after = fields_with(panel, lot)
    if not is_count(number) or number >= after:
        raise InvalidCount(number)
    field, left = [], number
    for name in hull(panel, lot):
        if name in lot:
            field.append(name)
        else:
            # First of all stands the field that ends here, if it may, then those with this entry, then the others.
            after = after // 2
            ends = 1 if lot[-1] in field else 0
            if left < ends:
                return field
            if left < ends + after:
                field.append(name)
                left = left - ends
            else:
                left = left - after
    return field


def field_number(panel, field):
    """Returns the number of a field among those with the same cards."""
    least, greatest = span_of(panel, field)
    free = [name for name in greatest if name not in least]
    number, after = 0, 1 << len(free)
    for name in free:
        after = after // 2
        if name in field and name > least[-1]:
            number = number + 1
        if name not in field and name < field[-1]:
            number = number + after
    return number


def are_cards(least, lot):
    """Returns whether each entry of a lot, as a number, gets a card when nobody else is there.

    The least ahead lots, as numbers, are a list, for the entries in ascending order.
    """
    return all([any([not mask & lot for mask in masks]) for at, masks in enumerate(least) if lot & 1 << at])


def lots_that_can_be(panel):
    """Returns the list of all lots that can be cards, as numbers, in the order of the ascending lists."""
    least = list(least_ahead(panel).values())
    found, waiting = [], [(0, 0)]
    while waiting:
        lot, start = waiting.pop()
        found.append(lot)
        # What can't be cards is in nothing that can be; the last one that waits is the next one in order.
        for at in reversed(range(start, len(least))):
            longer = lot | 1 << at
            if are_cards(least, longer):
                waiting.append((longer, at + 1))
    return found[1:]


def lots_of_cards(panel):
    """Returns the ascending list of all lots that can be cards."""
    check_panel(panel)
    bits = bits_of(panel.entries())
    return [lot_of(bits, lot) for lot in lots_that_can_be(panel)]


def greatest_size(lots):
    """Returns the number of entries of a greatest one of some lots, as numbers."""
    return max([size_of(lot) for lot in lots])


def tally(panel):
    """Returns the list of how many fields have one card, two cards and so on."""
    check_panel(panel)
    least, lots = least_ahead(panel), lots_that_can_be(panel)
    many = [0] * greatest_size(lots)
    for lot in lots:
        many[size_of(lot) - 1] += 1 << len(kept_off(least, lot))
    return many


def most_cards(panel):
    """Returns a field with the greatest number of cards."""
    check_panel(panel)
    lots = lots_that_can_be(panel)
    return lot_of(bits_of(panel.entries()), max(lots, key=size_of))


def is_most_cards(panel, value):
    """Returns whether any object is a field with the greatest number of cards."""
    check_panel(panel)
    if not is_field(panel.entries(), value):
        return False
    return len(cards_on(panel.rows(), value)) == greatest_size(lots_that_can_be(panel))
