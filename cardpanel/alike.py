"""Panels that never differ, and the fields on which others do."""

from cardpanel.basics import bits_of
from cardpanel.basics import holds_one
from cardpanel.basics import is_field
from cardpanel.heads import least_ahead
from cardpanel.heads import least_lots
from cardpanel.meeting import lots_met
from cardpanel.meeting import shortest_meeting
from cardpanel.panels import ahead
from cardpanel.panels import ahead_masks
from cardpanel.panels import cards
from cardpanel.panels import check_panels


def within(one, other):
    """Returns whether whoever gets a card by the one gets one by the other, too."""
    return bad_row(one, other) is None


def alike(one, other):
    """Returns whether two panels give the same cards on all fields."""
    check_panels(one, other)
    return least_ahead(one) == least_ahead(other)


def beyond(one, other):
    """Returns the ascending list of the entries that somewhere get a card by the one alone."""
    check_panels(one, other)
    ours, theirs = least_ahead(one), least_ahead(other)
    return [name for name in ours if not all([holds_one(mask, theirs[name]) for mask in ours[name]])]


def bad_row(one, other):
    """Returns the first position of the one, and the first entry of its row, that the other has not."""
    check_panels(one, other)
    theirs = least_ahead(other)
    for at, masks in enumerate(ahead_masks(one)):
        for name, mask in masks.items():
            if not holds_one(mask, theirs[name]):
                return at, name
    return None


def field_beyond(one, other, at, entry):
    """Returns a field on which an entry gets a card by a steward of the one, and none by the other."""
    passed = ahead(one, at, entry)
    field = [entry]
    for lot in least_lots(other, entry):
        if not any([name in field for name in lot]):
            field = field + [name for name in lot if name not in passed][:1]
    return sorted(field)


def parting_field(one, other):
    """Returns None if two panels are alike, otherwise a field on which their cards are unlike."""
    check_panels(one, other)
    for giver, keeper in [(one, other), (other, one)]:
        bad = bad_row(giver, keeper)
        if bad is not None:
            at, entry = bad
            return field_beyond(giver, keeper, at, entry)
    return None


def is_parting_field(one, other, value):
    """Returns whether any object is a field on which two panels give unlike cards."""
    check_panels(one, other)
    return is_field(one.entries(), value) and cards(one, value) != cards(other, value)


def sizes_beyond(one, other):
    """Returns the least sizes of fields that show least ahead lots of the one not to be the other's."""
    bits = bits_of(one.entries())
    ours, theirs = least_ahead(one), least_ahead(other)
    sizes = []
    for entry in bits:
        met = lots_met(bits, theirs[entry])
        for mask in ours[entry]:
            outside = {met[name]: name for name in bits if not bits[name] & mask}
            chosen = shortest_meeting(outside, len(theirs[entry]))
            if chosen is not None:
                sizes.append(len(chosen) + 1)
    return sizes


def parting_size(one, other):
    """Returns the least number of entries of a field with unlike cards, None if there is none."""
    check_panels(one, other)
    return min(sizes_beyond(one, other) + sizes_beyond(other, one), default=None)


def once_ahead(panel):
    """Returns a dictionary from the entries to the lots, as numbers, of who is ahead in some row."""
    found = {name: 0 for name in panel.entries()}
    for masks in ahead_masks(panel):
        for name, mask in masks.items():
            found[name] = found[name] | mask
    return found


def parting_pairs(one, other):
    """Returns the ascending list of the fields of two entries on which two panels give unlike cards."""
    check_panels(one, other)
    names, bits = one.entries(), bits_of(one.entries())
    ours, theirs = once_ahead(one), once_ahead(other)
    changed = {name: ours[name] ^ theirs[name] for name in names}
    return [
        [low, high] for at, low in enumerate(names) for high in names[at + 1:]
        if changed[low] & bits[high] or changed[high] & bits[low]
    ]
