"""The least lots ahead of entries, which tell all that a panel does, and families of lots."""

from cardpanel.basics import bits_of
from cardpanel.basics import check_entry
from cardpanel.basics import check_field
from cardpanel.basics import check_lot
from cardpanel.basics import holds_one
from cardpanel.basics import is_ascending
from cardpanel.basics import is_lot
from cardpanel.basics import is_name
from cardpanel.basics import least_masks
from cardpanel.basics import lot_of
from cardpanel.basics import mask_of
from cardpanel.basics import masks_ahead
from cardpanel.errors import InvalidLots
from cardpanel.panels import Panel
from cardpanel.panels import ahead
from cardpanel.panels import ahead_masks
from cardpanel.panels import check_panel


def least_ahead(panel):
    """Returns a dictionary from the entries, ascending, to their least ahead lots as numbers."""
    stewards = ahead_masks(panel)
    return {name: least_masks([masks[name] for masks in stewards]) for name in panel.entries()}


def sorted_lots(bits, masks):
    """Returns the ascending list of the lots that some numbers stand for."""
    return sorted([lot_of(bits, mask) for mask in masks])


def least_lots(panel, entry):
    """Returns the ascending list of the least ahead lots of an entry."""
    check_panel(panel)
    check_entry(panel.entries(), entry)
    masks = least_masks([steward[entry] for steward in ahead_masks(panel)])
    return sorted_lots(bits_of(panel.entries()), masks)


def lots_of(panel):
    """Returns a dictionary from the entries, ascending, to their least ahead lots."""
    check_panel(panel)
    bits = bits_of(panel.entries())
    return {name: sorted_lots(bits, masks) for name, masks in least_ahead(panel).items()}


def heads(panel):
    """Returns the ascending list of all heads of a panel."""
    return heads_in(lots_of(panel))


def heads_in(lots):
    """Returns the ascending list of the tuples of a lot of a family and its entry."""
    return sorted([(list(lot), name) for name in lots for lot in lots[name]])


def stewards_of(panel, lot, entry):
    """Returns the positions of the rows that have just the entries of a lot ahead of an entry."""
    check_panel(panel)
    check_lot(panel.entries(), lot)
    check_entry(panel.entries(), entry)
    return [at for at in range(len(panel)) if ahead(panel, at, entry) == lot]


def is_family(value):
    """Returns whether any object is a family of its keys, one at least, all of them names."""
    if not isinstance(value, dict) or not value or not all([is_name(name) for name in value]):
        return False
    return all([are_family_lots(sorted(value), name, value[name]) for name in value])


def are_family_lots(entries, entry, value):
    """Returns whether any object is what a family of entries may lead one of them to."""
    others = [name for name in entries if name != entry]
    if not isinstance(value, list) or not value or not all([is_lot(others, lot) for lot in value]):
        return False
    bits = bits_of(others)
    masks = [mask_of(bits, lot) for lot in value]
    return is_ascending(value) and len(least_masks(masks)) == len(masks)


def check_family(lots):
    """Raises InvalidLots unless it is passed a family of its keys."""
    if not is_family(lots):
        raise InvalidLots(lots)


def family_masks(lots):
    """Returns a dictionary from the entries of a family, ascending, to their lots as numbers."""
    bits = bits_of(sorted(lots))
    return {name: [mask_of(bits, lot) for lot in lots[name]] for name in bits}


def cards_by(lots, field):
    """Returns the ascending list of the entries of a field that have a lot without any entry of it."""
    check_family(lots)
    check_field(sorted(lots), field)
    bits = bits_of(sorted(lots))
    there, masks = mask_of(bits, field), family_masks(lots)
    return [name for name in field if any([not mask & there for mask in masks[name]])]


def taken_in_turn(masks, taken, names):
    """Returns those of some entries that can be taken behind the lot `taken`, as a row and as a number.

    Whoever may be taken may be taken later as well, so all of them are taken at once.
    """
    bits = bits_of(list(masks))
    row, left = [], names
    ready = [name for name in left if holds_one(taken, masks[name])]
    while ready:
        row = row + ready
        taken = taken | mask_of(bits, ready)
        left = [name for name in left if not bits[name] & taken]
        ready = [name for name in left if holds_one(taken, masks[name])]
    return row, taken


def unbuilt_in(lots):
    """Returns the ascending list of the tuples of a lot of a family that is not built and its entry."""
    masks = family_masks(lots)
    return [(lot, name) for lot, name in heads_in(lots) if len(taken_in_turn(masks, 0, lot)[0]) < len(lot)]


def unbuilt(lots):
    """Returns the ascending list of the tuples of a lot that is not built and its entry."""
    check_family(lots)
    return unbuilt_in(lots)


def are_lots(value):
    """Returns whether any object is a family that is the least ahead lots of some panel."""
    return is_family(value) and not unbuilt_in(value)


def check_lots(lots):
    """Raises InvalidLots unless it is passed the least ahead lots of some panel."""
    if not are_lots(lots):
        raise InvalidLots(lots)


def row_of_head(masks, lot, entry):
    """Returns a row that has a built lot ahead of its entry, and everyone behind one of their lots."""
    bits = bits_of(list(masks))
    first, passed = taken_in_turn(masks, 0, lot)
    taken = passed | bits[entry]
    rest, _ = taken_in_turn(masks, taken, [name for name in bits if not bits[name] & taken])
    return first + [entry] + rest


def panel_of(lots):
    """Returns a panel that has just these least ahead lots."""
    check_lots(lots)
    bits, masks = bits_of(sorted(lots)), family_masks(lots)
    rows, shown = [], []
    for lot, name in heads_in(lots):
        # A row that was made for another head often has this one as well.
        if mask_of(bits, lot) not in [stand[name] for stand in shown]:
            row = row_of_head(masks, lot, name)
            rows.append(row)
            shown.append(masks_ahead(bits, row))
    return Panel(sorted(lots), rows)


def is_panel_of(lots, value):
    """Returns whether any object is a panel that has just these least ahead lots."""
    check_lots(lots)
    return isinstance(value, Panel) and lots_of(value) == lots
