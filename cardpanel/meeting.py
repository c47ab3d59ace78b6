"""Lots that meet others, that is, have an entry of each of them, with lots as numbers."""

from cardpanel.basics import bits_in
from cardpanel.basics import least_masks
from cardpanel.basics import size_of
from cardpanel.basics import united


def lots_met(bits, masks):
    """Returns a dictionary from each entry to a number whose bit k tells whether it is in the k-th of some lots."""
    return {name: sum([1 << at for at, mask in enumerate(masks) if mask & bit]) for name, bit in bits.items()}


def shortest_meeting(choices, many):
    """Returns the fewest entries that meet all of so many lots together, None if all of them do not.

    The choices are a dictionary from numbers, whose bits stand for the lots that are met, to an entry that meets these.
    """
    every = (1 << many) - 1
    if united(list(choices)) != every:
        return None
    stage = {0: []}
    while every not in stage:
        stage = one_more(stage, choices)
    return stage[every]


def one_more(stage, choices):
    """Returns which lots may be met with one entry more, where the first lot left is met next, and by whom."""
    found = {}
    for met, chosen in stage.items():
        first_left = ~met & (met + 1)
        for choice, name in choices.items():
            if choice & first_left and met | choice not in found:
                found[met | choice] = chosen + [name]
    return found


def least_meetings(masks):
    """Returns, ascending, the least lots that meet each of some lots."""
    found, passed = [0], []
    for mask in sorted(least_masks(masks), key=size_of):
        passed.append(mask)
        longer = {lot | bit: True for lot in found if not lot & mask for bit in bits_in(mask)}
        found = [lot for lot in found if lot & mask] + [lot for lot in longer if is_all_needed(lot, passed)]
    return sorted(found)


def is_all_needed(lot, masks):
    """Returns whether each entry of a lot that meets some lots is the only one that meets one of them."""
    needed = 0
    for mask in masks:
        met = lot & mask
        if not met & (met - 1):
            needed = needed | met
    return needed == lot


def signed_unions(start, masks):
    """Returns the sums of signs by unions: of a lot and some of others, plus for an even number of these, else minus.

    The sums are a dictionary from the unions, as numbers, so that what comes of several choices is counted at once.
    """
    found = {start: 1}
    for mask in masks:
        longer = dict(found)
        for union, sign in found.items():
            longer[union | mask] = longer.get(union | mask, 0) - sign
        found = longer
    return found
