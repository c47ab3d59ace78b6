"""The fewest rows that have just the lots of a family, without a panel that has them."""

from cardpanel.basics import bits_of
from cardpanel.basics import lot_of
from cardpanel.chaining import fewest_chains
from cardpanel.chaining import first_pairs
from cardpanel.chaining import numbers_above
from cardpanel.heads import taken_in_turn


def row_of_chain(masks, chain):
    """Returns a row that has all heads of a chain of a family, and everyone behind one of their lots."""
    bits = bits_of(list(masks))
    row, taken = [], 0
    for lot, bit in chain:
        more, taken = taken_in_turn(masks, taken, lot_of(bits, lot & ~taken))
        row = row + more + lot_of(bits, bit)
        taken = taken | bit
    rest, _ = taken_in_turn(masks, taken, lot_of(bits, ~taken))
    return row + rest


def fewest_rows_of(masks):
    """Returns as few rows as can be with just these least ahead lots, which are numbers and all built."""
    bits = bits_of(list(masks))
    found = sorted([(lot, bits[name]) for name, lots in masks.items() for lot in lots])
    above = numbers_above(found)
    chains = fewest_chains(above, first_pairs(above))
    return [row_of_chain(masks, [found[at] for at in chain]) for chain in chains]
