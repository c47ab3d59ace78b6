"""Who gets a card when somebody goes, who loses one when somebody comes, and the layers of a field."""

from cardpanel.basics import bits_of
from cardpanel.basics import check_entry
from cardpanel.basics import check_field
from cardpanel.basics import is_field
from cardpanel.basics import least_masks
from cardpanel.basics import mask_of
from cardpanel.errors import InvalidField
from cardpanel.errors import TakenEntry
from cardpanel.errors import UnknownEntry
from cardpanel.heads import least_lots
from cardpanel.heads import lots_of
from cardpanel.heads import sorted_lots
from cardpanel.panels import ahead_masks
from cardpanel.panels import cards
from cardpanel.panels import check_panel
from cardpanel.panels import check_panel_and_entry


def check_two_entries(panel, gone, entry):
    """Raises an error unless it is passed a panel and two unlike entries of it."""
    check_panel_and_entry(panel, gone)
    if entry not in panel.entries() or entry == gone:
        raise UnknownEntry(entry)


def check_panel_and_field(panel, field):
    """Raises an error unless it is passed a panel and a field of its entries."""
    check_panel(panel)
    check_field(panel.entries(), field)


def without(field, name):
    """Returns a field without one of its entries."""
    return [other for other in field if other != name]


def comes_in(panel, gone):
    """Returns the ascending list of the entries that somewhere get a card just when one goes."""
    check_panel_and_entry(panel, gone)
    return [name for name, least in lots_of(panel).items() if any([gone in lot for lot in least])]


def field_where(panel, gone, entry):
    """Returns a field in which an entry gets a card just when another one goes, None if there is none."""
    check_two_entries(panel, gone, entry)
    for lot in least_lots(panel, entry):
        if gone in lot:
            return [name for name in panel.entries() if name == gone or name not in lot]
    return None


def is_field_where(panel, gone, entry, value):
    """Returns whether any object is a field in which an entry gets a card just when another one goes."""
    check_two_entries(panel, gone, entry)
    if not is_field(panel.entries(), value) or gone not in value or entry not in value:
        return False
    return entry not in cards(panel, value) and entry in cards(panel, without(value, gone))


def risers(panel, field, gone):
    """Returns the ascending list of the entries that have no card in a field, and get one when one goes."""
    check_panel_and_field(panel, field)
    check_entry(field, gone)
    if len(field) == 1:
        raise InvalidField(field)
    given = cards(panel, field)
    return [name for name in cards(panel, without(field, gone)) if name not in given]


def fallers(panel, field, come):
    """Returns the ascending list of the entries that lose their card when one comes."""
    check_panel_and_field(panel, field)
    check_entry(panel.entries(), come)
    if come in field:
        raise TakenEntry(come)
    given = cards(panel, sorted(field + [come]))
    return [name for name in cards(panel, field) if name not in given]


def ways_in(panel, field, entry):
    """Returns the list of the least lots of others that have to go so that an entry gets a card, the shorter first."""
    check_panel_and_field(panel, field)
    check_entry(field, entry)
    bits = bits_of(panel.entries())
    there = mask_of(bits, field)
    ways = least_masks([masks[entry] & there for masks in ahead_masks(panel)])
    return sorted(sorted_lots(bits, ways), key=len)


def fewest_out(panel, field, entry):
    """Returns the number of the fewest others that have to go so that an entry gets a card."""
    return len(ways_in(panel, field, entry)[0])


def layers(panel, field):
    """Returns the list of the cards of a field, of what is left without them, and so on."""
    check_panel_and_field(panel, field)
    found, left = [], field
    while left:
        given = cards(panel, left)
        found.append(given)
        left = [name for name in left if name not in given]
    return found


def layer_of(panel, field, entry):
    """Returns the position of the layer in which an entry of a field stands."""
    check_panel_and_field(panel, field)
    check_entry(field, entry)
    return [entry in layer for layer in layers(panel, field)].index(True)


def idle(panel):
    """Returns the ascending list of the entries that can come and go without anybody else's cards changing."""
    check_panel(panel)
    lots = lots_of(panel)
    busy = sorted(set([name for least in list(lots.values()) for lot in least for name in lot]))
    return [name for name in lots if name not in busy]
