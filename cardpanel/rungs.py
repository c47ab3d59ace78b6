"""Stewards who join a panel one by one, and the takeable lots that they add, with lots as numbers."""

from cardpanel.basics import bits_in
from cardpanel.basics import bits_of
from cardpanel.basics import holds_one
from cardpanel.basics import least_masks
from cardpanel.basics import lot_of
from cardpanel.basics import mask_of
from cardpanel.basics import masks_ahead
from cardpanel.basics import size_of
from cardpanel.heads import least_ahead


def next_rung(known, wanted):
    """Returns a wanted lot that can be known next, alone: a greatest one of a known lot and one entry more."""
    near = [lot for lot in wanted if any([lot ^ bit in known for bit in bits_in(lot)])]
    return max(near, key=size_of)


def row_through(bits, known, lot):
    """Returns a row all beginnings of which are known lots but for this one."""
    every = mask_of(bits, bits)
    taken, row = lot, []
    while taken:
        bit = [each for each in bits_in(taken) if taken ^ each in known][0]
        row = lot_of(bits, bit) + row
        taken = taken ^ bit
    taken = lot
    while taken != every:
        bit = [each for each in bits_in(every & ~taken) if taken | each in known][0]
        row = row + lot_of(bits, bit)
        taken = taken | bit
    return row


def each_adds(panel, rows):
    """Returns whether each of some rows changes some cards when a steward with it joins the panel and those before."""
    bits, least = bits_of(panel.entries()), least_ahead(panel)
    for row in rows:
        masks = masks_ahead(bits, row)
        if all([holds_one(mask, least[name]) for name, mask in masks.items()]):
            return False
        least = {name: least_masks(least[name] + [mask]) for name, mask in masks.items()}
    return True
