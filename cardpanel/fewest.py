"""The fewest stewards that give the same cards, the heads that need them, and stewards who join one by one."""

from cardpanel.alike import alike
from cardpanel.alike import within
from cardpanel.basics import are_rows
from cardpanel.basics import bits_of
from cardpanel.basics import check_position
from cardpanel.basics import is_ascending
from cardpanel.basics import least_masks
from cardpanel.basics import lot_of
from cardpanel.basics import mask_of
from cardpanel.basics import masks_ahead
from cardpanel.basics import size_of
from cardpanel.chaining import fewest_chains
from cardpanel.chaining import lies_within
from cardpanel.chaining import most_apart
from cardpanel.errors import InvalidLots
from cardpanel.errors import InvalidPanel
from cardpanel.errors import InvalidRows
from cardpanel.errors import LastRow
from cardpanel.heads import heads
from cardpanel.heads import lots_of
from cardpanel.meeting import signed_unions
from cardpanel.panels import Panel
from cardpanel.panels import ahead_masks
from cardpanel.panels import check_panel
from cardpanel.panels import check_panels
from cardpanel.rungs import each_adds
from cardpanel.rungs import next_rung
from cardpanel.rungs import row_through
from cardpanel.steps import is_row_of_takings
from cardpanel.steps import takeable_lots


def number_of(bits, head):
    """Returns a head as the numbers of its lot and of its entry."""
    lot, name = head
    return mask_of(bits, lot), bits[name]


def head_of(bits, number):
    """Returns the head that is told by the numbers of its lot and of its entry."""
    lot, bit = number
    return lot_of(bits, lot), lot_of(bits, bit)[0]


def numbers_of(panel, given):
    """Returns some heads of a panel as numbers, in the ascending order of these."""
    bits = bits_of(panel.entries())
    return sorted([number_of(bits, head) for head in given])


def as_heads(panel, numbers):
    """Returns the list of the heads of a panel that some numbers tell."""
    bits = bits_of(panel.entries())
    return [head_of(bits, number) for number in numbers]


def are_heads(lots, value):
    """Returns whether any object is a list, perhaps empty, of heads of a panel with these least ahead lots."""
    return isinstance(value, list) and all([is_head(lots, head) for head in value])


def is_head(lots, value):
    """Returns whether any object is a head of a panel with these least ahead lots."""
    if not isinstance(value, tuple) or len(value) != 2 or not isinstance(value[1], str):
        return False
    return value[1] in lots and value[0] in lots[value[1]]


def rows_along(panel, many):
    """Returns the rows of some chains of heads of a panel."""
    bits, rows, stewards = bits_of(panel.entries()), panel.rows(), ahead_masks(panel)
    return [row_along(bits, rows, stewards, chain) for chain in many]


def row_along(bits, rows, stewards, chain):
    """Returns the row of a chain of heads, where each follows the first steward who has the next head."""
    found, taken, giver = [], 0, []
    for lot, name in chain:
        mask = mask_of(bits, lot)
        giver = [row for row, masks in zip(rows, stewards) if masks[name] == mask][0]
        found = found + [other for other in giver if bits[other] & mask & ~taken] + [name]
        taken = mask | bits[name]
    return found + [other for other in giver if not bits[other] & taken]


def fewest_rows(panel):
    """Returns as few rows as can be that give the cards of a panel on all fields."""
    return rows_along(panel, chains(panel))


def fewest_for(panel, given):
    """Returns how many rows it takes, at least, to have some heads of a panel."""
    return len(fewest_chains(numbers_of(panel, given)))


def gives_the_cards(panel, rows):
    """Returns whether some rows, one at least, give the cards of a panel on all fields."""
    return len(rows) > 0 and alike(Panel(panel.entries(), rows), panel)


def is_fewest(panel, value):
    """Returns whether any object is a list of rows, as few as can be, that give the cards of a panel."""
    check_panel(panel)
    if not are_rows(panel.entries(), value) or not gives_the_cards(panel, value):
        return False
    return len(value) == fewest_for(panel, heads(panel))


def apart_heads(panel):
    """Returns an ascending list of as many heads as can be none of which lies within another one."""
    check_panel(panel)
    return sorted(as_heads(panel, most_apart(numbers_of(panel, heads(panel)))))


def is_apart(panel, value):
    """Returns whether any object is an ascending list of as many heads as can be, none within another one."""
    check_panel(panel)
    if not are_heads(lots_of(panel), value) or not is_ascending(value):
        return False
    numbers = numbers_of(panel, value)
    if len(numbers) != fewest_for(panel, heads(panel)):
        return False
    return not any([lies_within(one, other) for one in numbers for other in numbers])


def chains(panel):
    """Returns a list of chains, as few as can be, such that each head of a panel stands in just one of them."""
    check_panel(panel)
    return [as_heads(panel, chain) for chain in fewest_chains(numbers_of(panel, heads(panel)))]


def is_chain(lots, value):
    """Returns whether any object is a list, not empty, of heads, each of which lies within the next one."""
    if not are_heads(lots, value) or not value:
        return False
    bits = bits_of(list(lots))
    numbers = [number_of(bits, head) for head in value]
    return all([lies_within(low, high) for low, high in zip(numbers, numbers[1:])])


def are_chains(panel, value):
    """Returns whether any object is a list of chains, as few as can be, with each head of a panel in just one."""
    check_panel(panel)
    lots = lots_of(panel)
    if not isinstance(value, list) or not all([is_chain(lots, chain) for chain in value]):
        return False
    every = heads(panel)
    return sorted([head for chain in value for head in chain]) == every and len(value) == fewest_for(panel, every)


def chain_row(panel, chain):
    """Returns the row of a chain, which has all heads of it and adds no card on any field."""
    check_panel(panel)
    if not is_chain(lots_of(panel), chain):
        raise InvalidLots(chain)
    return rows_along(panel, [chain])[0]


def check_kept(panel, kept):
    """Raises an error unless it is passed a panel and a list, perhaps empty, of rows of takings of it."""
    check_panel(panel)
    if not isinstance(kept, list) or not all([is_row_of_takings(panel, row) for row in kept]):
        raise InvalidRows(kept)


def missing_heads(panel, kept):
    """Returns the ascending list of the heads of a panel that no one of some rows has."""
    check_kept(panel, kept)
    bits = bits_of(panel.entries())
    shown = [masks_ahead(bits, row) for row in kept]
    had = {name: [masks[name] for masks in shown] for name in bits}
    return [(lot, name) for lot, name in heads(panel) if mask_of(bits, lot) not in had[name]]


def rows_more(panel, kept):
    """Returns as few rows as can be that give, with the kept ones, the cards of a panel on all fields."""
    missing = missing_heads(panel, kept)
    return rows_along(panel, [as_heads(panel, chain) for chain in fewest_chains(numbers_of(panel, missing))])


def is_rows_more(panel, kept, value):
    """Returns whether any object is a list of as few rows as can be that give the cards with the kept ones."""
    missing = missing_heads(panel, kept)
    if not are_rows(panel.entries(), value) or not gives_the_cards(panel, kept + value):
        return False
    return len(value) == fewest_for(panel, missing)


def holders(panel):
    """Returns, for each head of a panel in ascending order, the list of the positions of the stewards who have it."""
    bits, stewards = bits_of(panel.entries()), ahead_masks(panel)
    numbers = [(mask_of(bits, lot), name) for lot, name in heads(panel)]
    return [[at for at, masks in enumerate(stewards) if masks[name] == lot] for lot, name in numbers]


def own_heads(panel, at):
    """Returns the ascending list of the heads that, of all stewards, just the one at a position has."""
    check_panel(panel)
    check_position(len(panel), at)
    return [head for head, having in zip(heads(panel), holders(panel)) if having == [at]]


def fields_alone(stewards, at, name):
    """Returns the number of the fields on which just the steward at a position names an entry."""
    ours = stewards[at][name]
    # Nobody ahead of the entry in this row is there, so each other row needs somebody else ahead of it who is.
    theirs = [masks[name] & ~ours for place, masks in enumerate(stewards) if place != at]
    others = len(stewards[at]) - 1
    unions = signed_unions(ours, least_masks(theirs))
    return sum([sign * (1 << (others - size_of(union))) for union, sign in unions.items()])


def worth(panel, at):
    """Returns the number of the fields whose cards change if the steward at a position leaves."""
    check_panel(panel)
    check_position(len(panel), at)
    if len(panel) == 1:
        raise LastRow(at)
    stewards = ahead_masks(panel)
    return sum([fields_alone(stewards, at, name) for name in panel.entries()])


def needless_stewards(panel):
    """Returns the ascending list of the positions of those who can leave, alone, without changing any cards."""
    check_panel(panel)
    having = holders(panel)
    return [at for at in range(len(panel)) if [at] not in having]


def lean_stewards(panel):
    """Returns the ascending list of the positions of those who stay if from the last one on the needless ones leave."""
    check_panel(panel)
    having, staying = holders(panel), []
    for at in reversed(range(len(panel))):
        if [at] in having:
            staying.append(at)
        else:
            having = [[other for other in each if other != at] for each in having]
    return sorted(staying)


def check_ladder(low, high):
    """Raises an error unless it is passed two panels of the same entries, the first within the second one."""
    check_panels(low, high)
    if not within(low, high):
        raise InvalidPanel(low)


def ladder(low, high):
    """Returns rows with which stewards can join one by one, each for one takeable lot more, from low to high."""
    check_ladder(low, high)
    bits, known, rows = bits_of(low.entries()), takeable_lots(low), []
    wanted = [lot for lot in takeable_lots(high) if lot not in known]
    while wanted:
        # A greater lot of the same kind could be the union of this one and a known lot, so it has to come ahead.
        lot = next_rung(known, wanted)
        rows.append(row_through(bits, known, lot))
        known[lot] = True
        wanted = [other for other in wanted if other != lot]
    return rows


def is_ladder(low, high, value):
    """Returns whether any object is a list of rows that `ladder` may return for two panels."""
    check_ladder(low, high)
    if not are_rows(low.entries(), value) or not each_adds(low, value):
        return False
    if not gives_the_cards(high, low.rows() + value):
        return False
    # Each row adds at least one lot, so each adds just one if there are no more lots than rows.
    return len(value) == len(takeable_lots(high)) - len(takeable_lots(low))
