"""Panels put together: side by side, behind one another, and one in the place of an entry of another one."""

from cardpanel.basics import bits_of
from cardpanel.basics import check_entry
from cardpanel.basics import is_field
from cardpanel.basics import is_name
from cardpanel.basics import lot_of
from cardpanel.basics import mask_of
from cardpanel.errors import InvalidEntry
from cardpanel.errors import InvalidLot
from cardpanel.errors import InvalidPanel
from cardpanel.errors import TakenEntry
from cardpanel.fewest import fewest_rows
from cardpanel.heads import least_ahead
from cardpanel.heads import lots_of
from cardpanel.panels import Panel
from cardpanel.panels import cards
from cardpanel.panels import check_panel
from cardpanel.panels import check_panels
from cardpanel.steps import least_behind
from cardpanel.steps import may_be_next
from cardpanel.steps import rows_as_bits
from cardpanel.steps import stages_by


def joint(one, other):
    """Returns the panel with the stewards of both, those of the first one first."""
    check_panels(one, other)
    return Panel(one.entries(), one.rows() + other.rows())


def both_next(ours, theirs, taken):
    """Returns the lot of all whom rows of both panels, of bits, name when the lot `taken` is gone."""
    return may_be_next(ours, taken) & may_be_next(theirs, taken)


def stuck_field(one, other):
    """Returns a field on which no entry gets a card from both panels, None if there is none."""
    check_panels(one, other)
    bits, ours, theirs = bits_of(one.entries()), rows_as_bits(one), rows_as_bits(other)
    taken, following = 0, both_next(ours, theirs, 0)
    while following:
        taken = taken | following
        following = both_next(ours, theirs, taken)
    left = lot_of(bits, ~taken)
    return left if left else None


def is_stuck_field(one, other, value):
    """Returns whether any object is a field on which no entry gets a card from both panels."""
    check_panels(one, other)
    if not is_field(one.entries(), value):
        return False
    given = cards(other, value)
    return not any([name in given for name in cards(one, value)])


def greatest_within(one, other):
    """Returns the least ahead lots of the greatest panel within both panels, None if no panel is."""
    if stuck_field(one, other) is not None:
        return None
    bits, ours, theirs = bits_of(one.entries()), rows_as_bits(one), rows_as_bits(other)
    return least_behind(bits, stages_by(lambda taken: both_next(ours, theirs, taken), len(bits)))


def check_apart(one, other):
    """Raises InvalidPanel unless it is passed two panels without a common entry."""
    check_panel(one)
    if not isinstance(other, Panel) or any([name in one.entries() for name in other.entries()]):
        raise InvalidPanel(other)


def side_by_side(one, other):
    """Returns a panel that gives, on all fields, the cards of two panels among their own entries."""
    check_apart(one, other)
    ours, theirs = one.rows(), other.rows()
    rows = [row + theirs[0] for row in ours] + [row + ours[0] for row in theirs]
    return Panel(one.entries() + other.entries(), rows)


def behind(one, other):
    """Returns a panel that gives the cards of one panel if some entry of it is there, otherwise those of another."""
    check_apart(one, other)
    ours, theirs = one.rows(), other.rows()
    many = max(len(ours), len(theirs))
    rows = [ours[min(at, len(ours) - 1)] + theirs[min(at, len(theirs) - 1)] for at in range(many)]
    return Panel(one.entries() + other.entries(), rows)


def fits_instead(panel, entry, value):
    """Returns whether any object is a panel that has none of the other entries of another panel."""
    if not isinstance(value, Panel):
        return False
    return not any([name != entry and name in panel.entries() for name in value.entries()])


def put_in(row, entry, inner):
    """Returns a row in which another one stands in the place of an entry."""
    at = row.index(entry)
    return row[:at] + inner + row[at + 1:]


def instead(panel, entry, inner):
    """Returns the panel in which a whole other one stands in the place of an entry."""
    check_panel(panel)
    check_entry(panel.entries(), entry)
    if not fits_instead(panel, entry, inner):
        raise InvalidPanel(inner)
    rows = [put_in(row, entry, inside) for row in panel.rows() for inside in inner.rows()]
    return Panel(put_in(panel.entries(), entry, inner.entries()), rows)


def check_as_one(panel, lot, entry):
    """Raises an error unless it is passed a panel, a lot of it, not empty, and a name for all of this lot."""
    check_panel(panel)
    if not is_field(panel.entries(), lot):
        raise InvalidLot(lot)
    if not is_name(entry):
        raise InvalidEntry(entry)
    if entry in panel.entries() and entry not in lot:
        raise TakenEntry(entry)


def with_whole(bits, lot, entry, whole):
    """Returns a lot as a number, in which a whole lot stands in the place of an entry."""
    rest = mask_of(bits, [name for name in lot if name != entry])
    return rest | whole if entry in lot else rest


def lots_instead(bits, outer, entry, inner):
    """Returns the least ahead lots, as numbers, of the panel in which one stands in the place of an entry."""
    whole, found = mask_of(bits, inner.entries()), {}
    for name, lots in lots_of(outer).items():
        found[name] = sorted([with_whole(bits, lot, entry, whole) for lot in lots])
    outside = found.pop(entry)
    for name, lots in lots_of(inner).items():
        found[name] = sorted([mask | mask_of(bits, lot) for mask in outside for lot in lots])
    return found


def stands_for(panel, outer, entry, inner):
    """Returns whether a panel with another one in the place of an entry gives the cards of a third one."""
    return lots_instead(bits_of(panel.entries()), outer, entry, inner) == least_ahead(panel)


def lean(panel):
    """Returns a panel with the fewest stewards that give the same cards."""
    return Panel(panel.entries(), fewest_rows(panel))


def as_one(panel, lot, entry):
    """Returns two panels, of which the second in the place of an entry of the first gives the same cards, or None."""
    check_as_one(panel, lot, entry)
    # If there are such panels, one entry of the lot alone does outside what the entry does, and the lot alone shows
    # what is inside.
    outside = [name for name in panel.entries() if name not in lot]
    names = {name: name for name in outside}
    names[lot[0]] = entry
    outer, inner = panel.struck(lot[1:]).renamed(names), panel.struck(outside)
    if not stands_for(panel, outer, entry, inner):
        return None
    return lean(outer), lean(inner)


def is_as_one(panel, lot, entry, value):
    """Returns whether any object is what `as_one` may return for a panel, a lot and an entry."""
    check_as_one(panel, lot, entry)
    if not isinstance(value, tuple) or len(value) != 2 or not all([isinstance(part, Panel) for part in value]):
        return False
    outer, inner = value
    outside = [name for name in panel.entries() if name not in lot]
    if inner.entries() != lot or outer.entries() != sorted(outside + [entry]):
        return False
    return stands_for(panel, outer, entry, inner)
