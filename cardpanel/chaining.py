"""Heads that lie within one another: chains of them, and heads apart.

Here a head is a tuple of a lot, as a number, and the bit of its entry. Heads
stand in ascending order, so that each one lies within later ones only.

Each head stands twice, as one that lies within another one and as one within
which another one lies, and as many of the first as can be are paired with
unlike ones of the second. Whatever is paired follows one another in a chain.
"""

from cardpanel.basics import bits_in
from cardpanel.basics import is_within


def lies_within(head, other):
    """Returns whether a head lies within another one."""
    lot, bit = head
    return is_within(lot | bit, other[0])


def numbers_above(found):
    """Returns, for each head, a number whose bits tell the positions of those that it lies within."""
    lots = [lot for lot, _ in found]
    whole = [lot | bit for lot, bit in found]
    return [sum([1 << at for at, lot in enumerate(lots) if not step & ~lot]) for step in whole]


def reached_from(above, below, starts):
    """Returns the upper heads that some lower ones reach, each with the lower one that it is reached from.

    A lower head reaches those that it lies within, and what is reached by those that are paired with these.
    """
    came, seen, stage = {}, 0, starts
    while stage:
        coming = []
        for low in stage:
            for bit in bits_in(above[low] & ~seen):
                high = bit.bit_length() - 1
                came[high] = low
                if high in below:
                    coming.append(below[high])
            seen = seen | above[low]
        stage = coming
    return came


def first_pairs(above):
    """Returns pairs, perhaps too few, as two dictionaries, from lower heads to upper ones and back."""
    after, below = {}, {}
    free = (1 << len(above)) - 1
    for low, highs in enumerate(above):
        if highs & free:
            bit = bits_in(highs & free)[0]
            after[low] = bit.bit_length() - 1
            below[after[low]] = low
            free = free ^ bit
    return after, below


def add_pair(after, below, came, high):
    """Pairs one more upper head, by giving each lower head on the way to it the next one on the way."""
    while high is not None:
        low = came[high]
        left = after.get(low)
        after[low] = high
        below[high] = low
        high = left


def paired(found):
    """Returns as many pairs as can be, both ways, and whom the lower heads that have no pair reach then."""
    above = numbers_above(found)
    after, below = first_pairs(above)
    while True:
        came = reached_from(above, below, [low for low in range(len(found)) if low not in after])
        free = [high for high in came if high not in below]
        if not free:
            return after, below, came
        add_pair(after, below, came, free[0])


def fewest_chains(found):
    """Returns the fewest lists of heads, each within the next one, such that each head stands in just one."""
    after, below, _ = paired(found)
    chains = []
    for first in [at for at in range(len(found)) if at not in below]:
        chain = [first]
        while chain[-1] in after:
            chain.append(after[chain[-1]])
        chains.append([found[at] for at in chain])
    return chains


def most_apart(found):
    """Returns as many heads as can be none of which lies within another one."""
    after, _, came = paired(found)
    # What is reached as a lower head lies within nothing but what is reached as an upper one, and each chain has
    # just one head that is reached as a lower one alone: the first of those that are reached as lower ones.
    reached = [at for at in range(len(found)) if at not in after or after[at] in came]
    return [found[at] for at in reached if at not in came]
