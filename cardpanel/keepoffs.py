"""Lots that keep an entry off: it gets no card wherever all of the lot is there."""

from cardpanel.basics import bits_of
from cardpanel.basics import is_count
from cardpanel.basics import is_field
from cardpanel.basics import is_lot
from cardpanel.basics import is_lot_of_names
from cardpanel.basics import mask_of
from cardpanel.errors import InvalidCount
from cardpanel.errors import InvalidField
from cardpanel.errors import InvalidLot
from cardpanel.errors import InvalidLots
from cardpanel.heads import least_lots
from cardpanel.heads import sorted_lots
from cardpanel.meeting import least_meetings
from cardpanel.meeting import lots_met
from cardpanel.meeting import shortest_meeting
from cardpanel.panels import ahead_masks
from cardpanel.panels import check_panel
from cardpanel.panels import check_panel_and_entry


def others_of(panel, entry):
    """Returns the ascending list of the other entries of a panel."""
    return [name for name in panel.entries() if name != entry]


def meets_all(least, lot):
    """Returns whether a lot has an entry of each of some lots."""
    return all([any([name in lot for name in each]) for each in least])


def keeps_off(panel, entry, lot):
    """Returns whether an entry gets no card in any field that holds it and all of a lot."""
    check_panel_and_entry(panel, entry)
    if not is_lot(others_of(panel, entry), lot):
        raise InvalidLot(lot)
    return meets_all(least_lots(panel, entry), lot)


def for_good(panel):
    """Returns the ascending list of the tuples of two entries the first of which alone keeps the second one off."""
    check_panel(panel)
    bits, stewards = bits_of(panel.entries()), ahead_masks(panel)
    return [
        (one, other) for one, bit in bits.items() for other in bits
        if all([masks[other] & bit for masks in stewards])
    ]


def least_keepoffs(panel, entry):
    """Returns the ascending list of the lots that keep an entry off, while no lot with less of their entries does."""
    check_panel_and_entry(panel, entry)
    return least_meeting(least_lots(panel, entry))


def least_meeting(lots):
    """Returns the ascending list of all least lots that have an entry of each of some lots."""
    if not isinstance(lots, list) or not all([is_lot_of_names(lot) for lot in lots]):
        raise InvalidLots(lots)
    bits = bits_of(sorted(set([name for lot in lots for name in lot])))
    return sorted_lots(bits, least_meetings([mask_of(bits, lot) for lot in lots]))


def check_field_with(panel, entry, field):
    """Raises InvalidField unless it is passed a field that holds an entry."""
    if not is_field(panel.entries(), field) or entry not in field:
        raise InvalidField(field)


def why_kept_off(panel, entry, field):
    """Returns None if an entry gets a card in a field, otherwise a least lot within the field that keeps it off."""
    check_panel_and_entry(panel, entry)
    check_field_with(panel, entry, field)
    least = least_lots(panel, entry)
    lot = [name for name in field if name != entry]
    if not meets_all(least, lot):
        return None
    for name in list(lot):
        fewer = [other for other in lot if other != name]
        if meets_all(least, fewer):
            lot = fewer
    return lot


def is_why_kept_off(panel, entry, field, value):
    """Returns whether any object is a least lot within a field that keeps an entry off."""
    check_panel_and_entry(panel, entry)
    check_field_with(panel, entry, field)
    least = least_lots(panel, entry)
    if not is_lot([name for name in field if name != entry], value) or not meets_all(least, value):
        return False
    return not any([meets_all(least, [other for other in value if other != name]) for name in value])


def shortest_keepoff(panel, entry):
    """Returns a lot with the fewest entries that keeps an entry off, None if none does."""
    check_panel_and_entry(panel, entry)
    bits, least = bits_of(panel.entries()), least_lots(panel, entry)
    met = lots_met(bits, [mask_of(bits, lot) for lot in least])
    chosen = shortest_meeting({choice: name for name, choice in met.items()}, len(least))
    if chosen is None:
        return None
    return sorted(chosen)


def is_shortest_keepoff(panel, entry, value):
    """Returns whether any object is a lot with the fewest entries that keeps an entry off."""
    shortest = shortest_keepoff(panel, entry)
    if shortest is None or not is_lot(others_of(panel, entry), value):
        return False
    return len(value) == len(shortest) and keeps_off(panel, entry, value)


def surely_named(panel, entry, many):
    """Returns whether an entry gets a card in all fields of at most so many entries that hold it."""
    check_panel_and_entry(panel, entry)
    if not is_count(many) or many == 0:
        raise InvalidCount(many)
    shortest = shortest_keepoff(panel, entry)
    return shortest is None or len(shortest) >= many
