"""Heads that lie within one another: chains of them, and heads apart.

Here heads are told by their positions in a list, and what they lie within by
numbers: for each head one whose bits are the positions of the heads that it
lies within.

Each head stands twice, as one that lies within another one and as one within
which another one lies, and as many of the first as can be are paired with
unlike ones of the second. Whatever is paired follows one another in a chain.
"""

from cardpanel.basics import bits_in
from cardpanel.basics import is_within


def lies_within(head, other):
    """Returns whether a head lies within another one, both told by the numbers of the lot and of the entry."""
    lot, bit = head
    return is_within(lot | bit, other[0])


def numbers_above(found):
    """Returns, for each of some heads, told by the numbers of lot and entry, what it lies within."""
    holding = {}
    for at, (lot, _) in enumerate(found):
        for bit in bits_in(lot):
            holding[bit] = holding.get(bit, 0) | 1 << at
    above = []
    for lot, entry in found:
        common = holding.get(entry, 0)
        for bit in bits_in(lot):
            common = common & holding[bit]
        above.append(common)
    return above


def first_pairs(above):
    """Returns some pairs, perhaps too few: a dictionary from lower heads to upper ones."""
    after, free = {}, (1 << len(above)) - 1
    for low, highs in enumerate(above):
        if highs & free:
            bit = bits_in(highs & free)[0]
            after[low] = bit.bit_length() - 1
            free = free ^ bit
    return after


def reached_from(above, below, starts):
    """Returns the upper heads that some lower ones reach, each with the lower one that it is reached from.

    A lower head reaches those that it lies within, and what is reached by those that are paired with these.
    """
    came, seen, stage = {}, 0, starts
    while stage:
        coming = []
        for low in stage:
            for bit in bits_in(above[low] & ~seen):
                high = bit.bit_length() - 1
                came[high] = low
                if high in below:
                    coming.append(below[high])
            seen = seen | above[low]
        stage = coming
    return came


def add_pair(after, below, came, high):
    """Pairs one more upper head, by giving each lower head on the way to it the next one on the way."""
    while high is not None:
        low = came[high]
        left = after.get(low)
        after[low] = high
        below[high] = low
        high = left


def paired(above, pairs):
    """Returns as many pairs as can be, made out of some, both ways, and whom lower heads without a pair reach then."""
    after, below = dict(pairs), {high: low for low, high in pairs.items()}
    while True:
        came = reached_from(above, below, [low for low in range(len(above)) if low not in after])
        free = [high for high in came if high not in below]
        if not free:
            return after, below, came
        add_pair(after, below, came, free[0])


def fewest_chains(above, pairs):
    """Returns the fewest lists of heads, each within the next one, such that each head stands in just one.

    The pairs are some that are known, as `first_pairs` tells them.
    """
    after, below, _ = paired(above, pairs)
    chains = []
    for first in [at for at in range(len(above)) if at not in below]:
        chain = [first]
        while chain[-1] in after:
            chain.append(after[chain[-1]])
        chains.append(chain)
    return chains


def most_apart(above, pairs):
    """Returns as many heads as can be none of which lies within another one."""
    after, _, came = paired(above, pairs)
    # What is reached as a lower head lies within nothing but what is reached as an upper one, and each chain has
    # just one head that is reached as a lower one alone: the first of those that are reached as lower ones.
    reached = [at for at in range(len(above)) if at not in after or after[at] in came]
    return [at for at in reached if at not in came]
