"""Lines of books as numbers: what may be taken from the table while all keep-offs are kept.

A row keeps a keep-off if its entry is taken behind some entry of the lot, so
keep-offs tell which entries may be taken when. Whoever may be taken may be
taken later as well, so it means nothing in which order entries are taken.
"""

from cardpanel.basics import bits_in
from cardpanel.basics import lot_of
from cardpanel.basics import mask_of
from cardpanel.steps import stages_by


class Rules:
    """Lines as numbers: `offs` leads the bits of entries to the lots that keep them off.

    Each one of `calls` is a tuple of the bits of the others of a field and of the entry that it calls.
    """

    def __init__(self, entries_bits, lines):
        self.bits = entries_bits
        self.every = (1 << len(entries_bits)) - 1
        self.offs = {}
        self.calls = []
        for word, lot, name in lines:
            mask, bit = mask_of(entries_bits, lot), entries_bits[name]
            if word == "call":
                self.calls.append((mask ^ bit, bit))
            else:
                self.offs.setdefault(bit, []).append(mask)


def taken_within(offs, lot):
    """Returns what of a lot can be taken without anybody else, and the order in which those with keep-offs are."""
    waiting, order = [bit for bit in offs if bit & lot], []
    taken = lot ^ sum(waiting)
    while True:
        held = []
        for bit in waiting:
            for mask in offs[bit]:
                if not mask & taken:
                    held.append(bit)
                    break
            else:
                taken = taken | bit
                order.append(bit)
        if len(held) == len(waiting):
            return taken, order
        waiting = held


def offs_with(offs, calls):
    """Returns keep-offs with those that some calls are in a row: who is called keeps off each of the others."""
    found = {bit: list(masks) for bit, masks in offs.items()}
    for others, called in calls:
        for bit in bits_in(others):
            found.setdefault(bit, []).append(called)
    return found


def left_over(every, offs):
    """Returns the lot of all that can never be taken."""
    taken, _ = taken_within(offs, every)
    return every ^ taken


def row_in_order(bits, offs):
    """Returns a row in which everyone is taken as keep-offs let them, those without any keep-off first."""
    taken, order = taken_within(offs, mask_of(bits, bits))
    free = taken ^ sum(order)
    return lot_of(bits, free) + [name for bit in order for name in lot_of(bits, bit)]


def can_be_called(rules, call):
    """Returns whether the entry of a call can be taken ahead of the others of its field."""
    others, bit = call
    taken, _ = taken_within(rules.offs, rules.every ^ others)
    return bool(taken & bit)


def can_be_kept(rules):
    """Returns whether some panel keeps all lines."""
    if left_over(rules.every, rules.offs):
        return False
    return all([can_be_called(rules, call) for call in rules.calls])


def sure_lots(rules, bit):
    """Returns lots each of which, in some row of each panel that keeps all lines, has all that is ahead of an entry.

    They are told by tuples of the position of the call that makes it sure, None for any row, and the lot. Some panel
    has to keep all lines. Another keep-off of this entry can be kept, too, just if it has an entry of each such lot.
    """
    found = []
    for at, (others, called) in [(None, (0, bit))] + list(enumerate(rules.calls)):
        if not others & bit:
            # Without this entry no more can be taken; so it is next where the one who is called has not come yet.
            lot, _ = taken_within(rules.offs, rules.every & ~others & ~bit)
            if not lot & called:
                found.append((at, lot))
    return found


def may_be_taken(offs, every, taken):
    """Returns the lot of all that may be taken next behind the lot `taken`."""
    found = every & ~taken
    for bit, masks in offs.items():
        if bit & found and not all([mask & taken for mask in masks]):
            found = found ^ bit
    return found


def stages_of_rows(rules):
    """Returns the stages of the rows that keep all keep-offs, as `stages_by` tells them."""
    return stages_by(lambda taken: may_be_taken(rules.offs, rules.every, taken), len(rules.bits))
