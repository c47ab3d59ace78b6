"""What names, lots, fields, rows and positions are, and lots as whole numbers.

Here `entries` is always the ascending list of the entries that are spoken of.
A lot as a number has the bit of each of its entries, and no other one, so
that a lot is within another one if no bit of it is outside of that one.
"""

from cardpanel.errors import InvalidCount
from cardpanel.errors import InvalidEntries
from cardpanel.errors import InvalidField
from cardpanel.errors import InvalidLot
from cardpanel.errors import InvalidRow
from cardpanel.errors import InvalidRows
from cardpanel.errors import UnknownEntry

LONGEST_NAME = 8


def is_name(value):
    """Returns whether any object is a name."""
    if not isinstance(value, str):
        return False
    return 1 <= len(value) <= LONGEST_NAME and all(["a" <= sign <= "z" for sign in value])


def is_count(value):
    """Returns whether any object is a count."""
    return isinstance(value, int) and not isinstance(value, bool) and value >= 0


def is_ascending(values):
    """Returns whether a list of things that can be ordered is ascending, without doubles."""
    return all([low < high for low, high in zip(values, values[1:])])


def are_unlike_names(value):
    """Returns whether any object is a list, not empty, of unlike names."""
    if not isinstance(value, list) or not value:
        return False
    return all([is_name(name) for name in value]) and len(set(value)) == len(value)


def is_lot_of_names(value):
    """Returns whether any object is an ascending list of names."""
    return isinstance(value, list) and all([is_name(name) for name in value]) and is_ascending(value)


def is_lot(entries, value):
    """Returns whether any object is an ascending list, perhaps empty, of entries."""
    if not isinstance(value, list):
        return False
    return all([name in entries for name in value]) and is_ascending(value)


def is_field(entries, value):
    """Returns whether any object is an ascending list, not empty, of entries."""
    return is_lot(entries, value) and len(value) > 0


def is_row(entries, value):
    """Returns whether any object is a list that has each entry once."""
    if not isinstance(value, list) or not all([isinstance(name, str) for name in value]):
        return False
    return sorted(value) == entries


def are_rows(entries, value):
    """Returns whether any object is a list, perhaps empty, of rows of all entries."""
    return isinstance(value, list) and all([is_row(entries, row) for row in value])


def check_entries(entries):
    """Raises InvalidEntries unless it is passed a list, not empty, of unlike names."""
    if not are_unlike_names(entries):
        raise InvalidEntries(entries)


def check_row(entries, row):
    """Raises InvalidRow unless it is passed a row of all entries."""
    if not is_row(entries, row):
        raise InvalidRow(row)


def check_rows(entries, rows):
    """Raises InvalidRows unless it is passed a list, not empty, of rows of all entries."""
    if not are_rows(entries, rows) or not rows:
        raise InvalidRows(rows)


def check_entry(entries, entry):
    """Raises UnknownEntry unless it is passed one of the entries."""
    if entry not in entries:
        raise UnknownEntry(entry)


def check_position(many, at):
    """Raises InvalidCount unless it is passed the position of one of so many."""
    if not is_count(at) or at >= many:
        raise InvalidCount(at)


def check_lot(entries, lot):
    """Raises InvalidLot unless it is passed a lot, perhaps empty, of entries."""
    if not is_lot(entries, lot):
        raise InvalidLot(lot)


def check_field(entries, field):
    """Raises InvalidField unless it is passed a field of entries."""
    if not is_field(entries, field):
        raise InvalidField(field)


def bits_of(entries):
    """Returns a dictionary from each entry, in their order, to its bit."""
    return {name: 1 << at for at, name in enumerate(entries)}


def mask_of(bits, lot):
    """Returns the number of a lot."""
    return sum([bits[name] for name in lot])


def number_of_lot(bits, value):
    """Returns the number of an ascending list of entries that have bits, None for any other object."""
    if not isinstance(value, list):
        return None
    mask = 0
    for name in value:
        bit = bits.get(name, 0) if isinstance(name, str) else 0
        # The bits ascend as the entries do, so one that is to come is greater than all that came together.
        if bit <= mask:
            return None
        mask = mask | bit
    return mask


def lot_of(bits, mask):
    """Returns the lot that a number stands for."""
    return [name for name, bit in bits.items() if bit & mask]


def bits_in(mask):
    """Returns the ascending list of the bits of a number."""
    found = []
    while mask:
        lowest = mask & -mask
        found.append(lowest)
        mask = mask ^ lowest
    return found


def size_of(mask):
    """Returns how many entries a lot has, as a number."""
    digits = f"{mask:b}"
    return digits.count("1")


def united(masks):
    """Returns the lot of all entries of some lots, all as numbers."""
    found = 0
    for mask in masks:
        found = found | mask
    return found


def masks_ahead(bits, row):
    """Returns a dictionary from the entries of a row, in its order, to the numbers of the lots ahead of them."""
    masks, passed = {}, 0
    for name in row:
        masks[name] = passed
        passed = passed | bits[name]
    return masks


def is_within(lesser, mask):
    """Returns whether all of a lot is in another one, both as numbers."""
    return lesser & mask == lesser


def holds_one(mask, masks):
    """Returns whether a lot holds one of some lots, all as numbers."""
    outside = ~mask
    return any([not lesser & outside for lesser in masks])


def least_masks(masks):
    """Returns, ascending, those of some lots that hold no other one of them, all as numbers."""
    least = []
    # A lot within another one has the lesser number, so it has come ahead of it.
    for mask in sorted(set(masks)):
        outside = ~mask
        for lesser in least:
            if not lesser & outside:
                break
        else:
            least.append(mask)
    return least
