"""What may be taken from the table, one entry after the other, with lots as numbers."""

from cardpanel.basics import bits_in
from cardpanel.basics import bits_of
from cardpanel.basics import is_row
from cardpanel.basics import masks_ahead
from cardpanel.panels import ahead_masks


def rows_as_bits(panel):
    """Returns the rows of a panel, with the bits of the entries in their places."""
    bits = bits_of(panel.entries())
    return [[bits[name] for name in row] for row in panel.rows()]


def first_left(row, taken):
    """Returns the bit of the first one of a row that is not in the lot `taken`, 0 if all are."""
    for bit in row:
        if not bit & taken:
            return bit
    return 0


def may_be_next(rows, taken):
    """Returns the lot of all whom some row, of bits, names when the lot `taken` is gone."""
    found = 0
    for row in rows:
        found = found | first_left(row, taken)
    return found


def stages_of_takings(rows):
    """Returns, for each number of entries, a dictionary from the takeable lots of so many to who may be next."""
    stages, lots = [], [0]
    for _ in range(len(rows[0]) + 1):
        stage = {lot: may_be_next(rows, lot) for lot in lots}
        stages.append(stage)
        after = {lot | bit: True for lot, following in stage.items() for bit in bits_in(following)}
        lots = list(after)
    return stages


def takeable_lots(panel):
    """Returns a dictionary that has each takeable lot of a panel as a key."""
    return {lot: True for stage in stages_of_takings(rows_as_bits(panel)) for lot in stage}


def may_follow(stewards, name, passed):
    """Returns whether an entry may be taken when just the lot `passed` has been."""
    return any([not masks[name] & ~passed for masks in stewards])


def are_takings(stewards, masks):
    """Returns whether each entry of a row may be taken when just the lot that it leads to has been."""
    return all([may_follow(stewards, name, passed) for name, passed in masks.items()])


def is_row_of_takings(panel, value):
    """Returns whether any object is a row of takings of a panel."""
    if not is_row(panel.entries(), value):
        return False
    return are_takings(ahead_masks(panel), masks_ahead(bits_of(panel.entries()), value))
