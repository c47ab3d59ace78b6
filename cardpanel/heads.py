"""The least lots ahead of entries, which tell all that a panel does, and families of lots."""

from cardpanel.basics import bits_of
from cardpanel.basics import check_entry
from cardpanel.basics import check_field
from cardpanel.basics import check_lot
from cardpanel.basics import holds_one
from cardpanel.basics import is_ascending
from cardpanel.basics import is_name
from cardpanel.basics import least_masks
from cardpanel.basics import lot_of
from cardpanel.basics import mask_of
from cardpanel.basics import masks_ahead
from cardpanel.basics import number_of_lot
from cardpanel.basics import united
from cardpanel.errors import InvalidLots
from cardpanel.panels import Panel
from cardpanel.panels import ahead
from cardpanel.panels import ahead_masks
from cardpanel.panels import check_panel


def least_by(stewards):
    """Returns a dictionary from the entries, ascending, to their least ahead lots, as `ahead_masks` tells all lots."""
    return {name: least_masks([masks[name] for masks in stewards]) for name in sorted(stewards[0])}


def least_ahead(panel):
    """Returns a dictionary from the entries, ascending, to their least ahead lots as numbers."""
    return least_by(ahead_masks(panel))


def least_of(panel, entry):
    """Returns the least ahead lots of an entry, ascending, as numbers."""
    return least_masks([steward[entry] for steward in ahead_masks(panel)])


def sorted_lots(bits, masks):
    """Returns the ascending list of the lots that some numbers stand for."""
    return sorted([lot_of(bits, mask) for mask in masks])


def least_lots(panel, entry):
    """Returns the ascending list of the least ahead lots of an entry."""
    check_panel(panel)
    check_entry(panel.entries(), entry)
    return sorted_lots(bits_of(panel.entries()), least_of(panel, entry))


def lots_of(panel):
    """Returns a dictionary from the entries, ascending, to their least ahead lots."""
    check_panel(panel)
    bits = bits_of(panel.entries())
    return {name: sorted_lots(bits, masks) for name, masks in least_ahead(panel).items()}


def heads(panel):
    """Returns the ascending list of all heads of a panel."""
    return heads_in(lots_of(panel))


def heads_in(lots):
    """Returns the ascending list of the tuples of a lot of a family and its entry."""
    return sorted([(list(lot), name) for name in lots for lot in lots[name]])


def stewards_of(panel, lot, entry):
    """Returns the positions of the rows that have just the entries of a lot ahead of an entry."""
    check_panel(panel)
    check_lot(panel.entries(), lot)
    check_entry(panel.entries(), entry)
    return [at for at in range(len(panel)) if ahead(panel, at, entry) == lot]


def numbers_of_lots(bits, entry, value):
    """Returns the numbers of what a family may lead an entry to, None for any other object."""
    if not isinstance(value, list) or not value:
        return None
    masks = [number_of_lot(bits, lot) for lot in value]
    if None in masks or united(masks) & bits[entry]:
        return None
    if not is_ascending(value) or len(least_masks(masks)) < len(masks):
        return None
    return masks


def family_masks(value):
    """Returns a dictionary from the entries of a family, ascending, to their lots as numbers, in their order.

    Returns None for anything but a family of its keys, one at least, all of them names.
    """
    if not isinstance(value, dict) or not value or not all([is_name(name) for name in value]):
        return None
    bits = bits_of(sorted(value))
    found = {}
    for name in bits:
        masks = numbers_of_lots(bits, name, value[name])
        if masks is None:
            return None
        found[name] = masks
    return found


def checked_masks(lots):
    """Returns the lots of a family as numbers, as `family_masks` does; raises InvalidLots where it returns None."""
    masks = family_masks(lots)
    if masks is None:
        raise InvalidLots(lots)
    return masks


def cards_by(lots, field):
    """Returns the ascending list of the entries of a field that have a lot without any entry of it."""
    masks = checked_masks(lots)
    check_field(list(masks), field)
    there = mask_of(bits_of(list(masks)), field)
    return [name for name in field if any([not mask & there for mask in masks[name]])]


def taken_in_turn(masks, taken, names):
    """Returns those of some entries that can be taken behind the lot `taken`, as a row and as a number.

    Whoever may be taken may be taken later as well, so all of them are taken at once.
    """
    bits = bits_of(list(masks))
    row, left = [], names
    ready = [name for name in left if holds_one(taken, masks[name])]
    while ready:
        row = row + ready
        taken = taken | mask_of(bits, ready)
        left = [name for name in left if not bits[name] & taken]
        ready = [name for name in left if holds_one(taken, masks[name])]
    return row, taken


def owners_of(masks):
    """Returns a dictionary from the lots of a family, ascending, to the bits of their entries, all as numbers."""
    bits = bits_of(list(masks))
    every = [each for lots in list(masks.values()) for each in lots]
    found = {each: [] for each in sorted(set(every))}
    for name in masks:
        for lot in masks[name]:
            found[lot].append(bits[name])
    return found


def built_lots(masks):
    """Returns a dictionary that has the built lots of a family as keys, all as numbers."""
    bits, built, steps = bits_of(list(masks)), {}, []
    # A lot within another one has the lesser number, so it comes first here. Each built lot that is in this one with
    # its entry can be taken, entry and all, at once; just what is left then has to be looked at one by one.
    for lot, owners in owners_of(masks).items():
        outside = ~lot
        reached = united([step for step in steps if not step & outside])
        if reached != lot:
            _, reached = taken_in_turn(masks, reached, lot_of(bits, lot & ~reached))
        if reached == lot:
            built[lot] = True
            steps = steps + [lot | bit for bit in owners]
    return built


def unbuilt(lots):
    """Returns the ascending list of the tuples of a lot that is not built and its entry."""
    masks = checked_masks(lots)
    built = built_lots(masks)
    return sorted([
        (list(lot), name) for name in masks for lot, mask in zip(lots[name], masks[name]) if mask not in built
    ])


def are_built(masks):
    """Returns whether all lots of a family are built, all as numbers."""
    return len(built_lots(masks)) == len(owners_of(masks))


def are_lots(value):
    """Returns whether any object is a family that is the least ahead lots of some panel."""
    masks = family_masks(value)
    return masks is not None and are_built(masks)


def masks_of_panel(lots):
    """Returns the least ahead lots of some panel as numbers; raises InvalidLots unless it is passed such."""
    masks = checked_masks(lots)
    if not are_built(masks):
        raise InvalidLots(lots)
    return masks


def row_of_head(masks, lot, entry):
    """Returns a row that has a built lot ahead of its entry, and everyone behind one of their lots."""
    bits = bits_of(list(masks))
    first, passed = taken_in_turn(masks, 0, lot)
    taken = passed | bits[entry]
    rest, _ = taken_in_turn(masks, taken, [name for name in bits if not bits[name] & taken])
    return first + [entry] + rest


def panel_of(lots):
    """Returns a panel that has just these least ahead lots."""
    masks = masks_of_panel(lots)
    bits = bits_of(list(masks))
    rows, shown = [], []
    for lot, name in heads_in(lots):
        # A row that was made for another head often has this one as well.
        if mask_of(bits, lot) not in [stand[name] for stand in shown]:
            row = row_of_head(masks, lot, name)
            rows.append(row)
            shown.append(masks_ahead(bits, row))
    return Panel(list(masks), rows)


def is_panel_of(lots, value):
    """Returns whether any object is a panel that has just these least ahead lots."""
    masks = masks_of_panel(lots)
    return isinstance(value, Panel) and least_ahead(value) == {name: sorted(masks[name]) for name in masks}
