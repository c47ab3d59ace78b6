"""What may be taken from the table, one entry after the other, with lots as numbers."""

from cardpanel.basics import bits_in
from cardpanel.basics import bits_of
from cardpanel.basics import is_row
from cardpanel.basics import masks_ahead
from cardpanel.heads import sorted_lots
from cardpanel.panels import ahead_masks


def rows_as_bits(panel):
    """Returns the rows of a panel, with the bits of the entries in their places."""
    bits = bits_of(panel.entries())
    return [[bits[name] for name in row] for row in panel.rows()]


def first_left(row, taken):
    """Returns the bit of the first one of a row that is not in the lot `taken`, 0 if all are."""
    for bit in row:
        if not bit & taken:
            return bit
    return 0


def may_be_next(rows, taken):
    """Returns the lot of all whom some row, of bits, names when the lot `taken` is gone."""
    found = 0
    for row in rows:
        found = found | first_left(row, taken)
    return found


def stages_by(next_of, many):
    """Returns, for each number of so many entries, a dictionary from the lots that can be taken to who may be next.

    Who may be next behind a lot is what the function `next_of` returns for it; in time all of them may be taken.
    """
    stages, lots = [], [0]
    for _ in range(many + 1):
        stage = {lot: next_of(lot) for lot in lots}
        stages.append(stage)
        after = {lot | bit: True for lot, following in stage.items() for bit in bits_in(following)}
        lots = list(after)
    return stages


def stages_of_takings(rows):
    """Returns the stages of the rows of takings of a panel with these rows, of bits."""
    return stages_by(lambda taken: may_be_next(rows, taken), len(rows[0]))


def ways_on(stages):
    """Returns a dictionary from the lots of some stages to how many rows go on from them."""
    ways = {}
    for stage in reversed(stages):
        for lot, following in stage.items():
            # Behind all entries just one row goes on: nothing more is taken.
            ways[lot] = sum([ways[lot | bit] for bit in bits_in(following)]) if following else 1
    return ways


def least_behind(bits, stages):
    """Returns a dictionary from the entries to the least lots behind which they may be next, as lists."""
    least, before = {bit: [] for bit in list(bits.values())}, {0: 0}
    for stage in stages:
        after = {}
        for lot, following in stage.items():
            # Whoever might be taken with one entry less taken has a lesser lot.
            for bit in bits_in(following & ~before[lot]):
                least[bit].append(lot)
            for bit in bits_in(following):
                after[lot | bit] = after.get(lot | bit, 0) | following
        before = after
    return {name: sorted_lots(bits, least[bit]) for name, bit in bits.items()}


def takeable_lots(panel):
    """Returns a dictionary that has each takeable lot of a panel as a key."""
    return {lot: True for stage in stages_of_takings(rows_as_bits(panel)) for lot in stage}


def may_follow(stewards, name, passed):
    """Returns whether an entry may be taken when just the lot `passed` has been."""
    return any([not masks[name] & ~passed for masks in stewards])


def are_takings(stewards, masks):
    """Returns whether each entry of a row may be taken when just the lot that it leads to has been."""
    return all([may_follow(stewards, name, passed) for name, passed in masks.items()])


def is_row_of_takings(panel, value):
    """Returns whether any object is a row of takings of a panel."""
    if not is_row(panel.entries(), value):
        return False
    return are_takings(ahead_masks(panel), masks_ahead(bits_of(panel.entries()), value))
