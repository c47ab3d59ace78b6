"""The fewest stewards that give the same cards, the heads that need them, and stewards who join one by one."""

from cardpanel.alike import alike
from cardpanel.alike import within
from cardpanel.basics import are_rows
from cardpanel.basics import bits_of
from cardpanel.basics import check_position
from cardpanel.basics import is_ascending
from cardpanel.basics import least_masks
from cardpanel.basics import lot_of
from cardpanel.basics import masks_ahead
from cardpanel.basics import number_of_lot
from cardpanel.basics import size_of
from cardpanel.chaining import fewest_chains
from cardpanel.chaining import lies_within
from cardpanel.chaining import most_apart
from cardpanel.errors import InvalidLots
from cardpanel.errors import InvalidPanel
from cardpanel.errors import InvalidRows
from cardpanel.errors import LastRow
from cardpanel.heads import least_ahead
from cardpanel.heads import least_by
from cardpanel.meeting import signed_unions
from cardpanel.panels import Panel
from cardpanel.panels import ahead_masks
from cardpanel.panels import check_panel
from cardpanel.panels import check_panels
from cardpanel.rungs import each_adds
from cardpanel.rungs import next_rung
from cardpanel.rungs import row_through
from cardpanel.seats import Seats
from cardpanel.steps import is_row_of_takings
from cardpanel.steps import takeable_lots


def number_of_head(bits, least, value):
    """Returns a head, of a panel with these least ahead lots, as the numbers of its lot and its entry.

    Returns None for any other object.
    """
    if not isinstance(value, tuple) or len(value) != 2:
        return None
    lot, name = value
    if not isinstance(name, str) or name not in least:
        return None
    mask = number_of_lot(bits, lot)
    return (mask, bits[name]) if mask in least[name] else None


def numbers_of_heads(bits, least, value):
    """Returns a list, perhaps empty, of heads of a panel as numbers, None for any other object."""
    if not isinstance(value, list):
        return None
    numbers = [number_of_head(bits, least, head) for head in value]
    return None if None in numbers else numbers


def seats_in(panel):
    """Returns the heads of a panel where they stand in the rows."""
    stewards = ahead_masks(panel)
    return Seats(stewards, least_by(stewards))


def as_heads(panel, found):
    """Returns the list of some heads of a panel that are told by the number of the lot and the entry."""
    bits = bits_of(panel.entries())
    return [(lot_of(bits, mask), name) for mask, name in found]


def chains_in(seats):
    """Returns as few chains as can be of the heads in some rows, each head told by the number of its lot."""
    return [[seats.found[at] for at in chain] for chain in fewest_chains(seats.above, seats.after)]


def rows_along(panel, many):
    """Returns the rows of some chains of heads of a panel, each head told by the number of its lot."""
    bits, rows, stewards = bits_of(panel.entries()), panel.rows(), ahead_masks(panel)
    return [row_along(bits, rows, stewards, chain) for chain in many]


def row_along(bits, rows, stewards, chain):
    """Returns the row of a chain of heads, where each follows the first steward who has the next head."""
    found, taken, giver = [], 0, []
    for mask, name in chain:
        at = 0
        while stewards[at][name] != mask:
            at = at + 1
        giver = rows[at]
        if mask & ~taken:
            found = found + [other for other in giver[:giver.index(name)] if not bits[other] & taken]
        found.append(name)
        taken = mask | bits[name]
    return found + [other for other in giver if not bits[other] & taken]


def fewest_rows(panel):
    """Returns as few rows as can be that give the cards of a panel on all fields."""
    check_panel(panel)
    return rows_along(panel, chains_in(seats_in(panel)))


def fewest_for(seats):
    """Returns how many rows it takes, at least, to have the heads in some rows."""
    return len(fewest_chains(seats.above, seats.after))


def gives_the_cards(panel, rows):
    """Returns whether some rows, one at least, give the cards of a panel on all fields."""
    return len(rows) > 0 and alike(Panel(panel.entries(), rows), panel)


def is_fewest(panel, value):
    """Returns whether any object is a list of rows, as few as can be, that give the cards of a panel."""
    check_panel(panel)
    if not are_rows(panel.entries(), value) or not gives_the_cards(panel, value):
        return False
    return len(value) == fewest_for(seats_in(panel))


def apart_heads(panel):
    """Returns an ascending list of as many heads as can be none of which lies within another one."""
    check_panel(panel)
    seats = seats_in(panel)
    return sorted(as_heads(panel, [seats.found[at] for at in most_apart(seats.above, seats.after)]))


def is_apart(panel, value):
    """Returns whether any object is an ascending list of as many heads as can be, none within another one."""
    check_panel(panel)
    numbers = numbers_of_heads(bits_of(panel.entries()), least_ahead(panel), value)
    if numbers is None or not is_ascending(value) or len(numbers) != fewest_for(seats_in(panel)):
        return False
    return not any([lies_within(one, other) for one in numbers for other in numbers])


def chains(panel):
    """Returns a list of chains, as few as can be, such that each head of a panel stands in just one of them."""
    check_panel(panel)
    return [as_heads(panel, chain) for chain in chains_in(seats_in(panel))]


def number_of_chain(bits, least, value):
    """Returns a chain of heads of a panel with these least ahead lots as numbers, None for any other object."""
    numbers = numbers_of_heads(bits, least, value)
    if not numbers or not all([lies_within(low, high) for low, high in zip(numbers, numbers[1:])]):
        return None
    return numbers


def are_chains(panel, value):
    """Returns whether any object is a list of chains, as few as can be, with each head of a panel in just one."""
    check_panel(panel)
    if not isinstance(value, list):
        return False
    bits, least = bits_of(panel.entries()), least_ahead(panel)
    numbers = [number_of_chain(bits, least, chain) for chain in value]
    if None in numbers:
        return False
    heads_told = sorted([head for chain in numbers for head in chain])
    every = sorted([(mask, bits[name]) for name, masks in least.items() for mask in masks])
    return heads_told == every and len(value) == fewest_for(seats_in(panel))


def chain_row(panel, chain):
    """Returns the row of a chain, which has all heads of it and adds no card on any field."""
    check_panel(panel)
    bits = bits_of(panel.entries())
    numbers = number_of_chain(bits, least_ahead(panel), chain)
    if numbers is None:
        raise InvalidLots(chain)
    return rows_along(panel, [[(mask, name) for (mask, _), (_, name) in zip(numbers, chain)]])[0]


def check_kept(panel, kept):
    """Raises an error unless it is passed a panel and a list, perhaps empty, of rows of takings of it."""
    check_panel(panel)
    if not isinstance(kept, list) or not all([is_row_of_takings(panel, row) for row in kept]):
        raise InvalidRows(kept)


def missing_lots(panel, kept):
    """Returns a dictionary from the entries to those of their least ahead lots, as numbers, that no one of rows has."""
    bits = bits_of(panel.entries())
    shown = [masks_ahead(bits, row) for row in kept]
    found = {}
    for name, masks in least_ahead(panel).items():
        had = [told[name] for told in shown]
        found[name] = [mask for mask in masks if mask not in had]
    return found


def missing_heads(panel, kept):
    """Returns the ascending list of the heads of a panel that no one of some rows has."""
    check_kept(panel, kept)
    missing = missing_lots(panel, kept)
    return sorted(as_heads(panel, [(mask, name) for name, masks in missing.items() for mask in masks]))


def rows_more(panel, kept):
    """Returns as few rows as can be that give, with the kept ones, the cards of a panel on all fields."""
    check_kept(panel, kept)
    return rows_along(panel, chains_in(Seats(ahead_masks(panel), missing_lots(panel, kept))))


def is_rows_more(panel, kept, value):
    """Returns whether any object is a list of as few rows as can be that give the cards with the kept ones."""
    check_kept(panel, kept)
    if not are_rows(panel.entries(), value) or not gives_the_cards(panel, kept + value):
        return False
    return len(value) == fewest_for(Seats(ahead_masks(panel), missing_lots(panel, kept)))


def holders(panel):
    """Returns, for each head of a panel, the list of the positions of the stewards who have it."""
    stewards = ahead_masks(panel)
    having = []
    for name, least in least_by(stewards).items():
        masks = [told[name] for told in stewards]
        having = having + [[at for at, mask in enumerate(masks) if mask == lot] for lot in least]
    return having


def own_heads(panel, at):
    """Returns the ascending list of the heads that, of all stewards, just the one at a position has."""
    check_panel(panel)
    check_position(len(panel), at)
    stewards, own = ahead_masks(panel), []
    for name, least in least_by(stewards).items():
        mask = stewards[at][name]
        if mask in least and [told[name] for told in stewards].count(mask) == 1:
            own.append((mask, name))
    return sorted(as_heads(panel, own))


def fields_alone(stewards, at, name):
    """Returns the number of the fields on which just the steward at a position names an entry."""
    ours = stewards[at][name]
    # Nobody ahead of the entry in this row is there, so each other row needs somebody else ahead of it who is.
    theirs = [masks[name] & ~ours for place, masks in enumerate(stewards) if place != at]
    others = len(stewards[at]) - 1
    unions = signed_unions(ours, least_masks(theirs))
    return sum([sign * (1 << (others - size_of(union))) for union, sign in unions.items()])


def worth(panel, at):
    """Returns the number of the fields whose cards change if the steward at a position leaves."""
    check_panel(panel)
    check_position(len(panel), at)
    if len(panel) == 1:
        raise LastRow(at)
    stewards = ahead_masks(panel)
    return sum([fields_alone(stewards, at, name) for name in panel.entries()])


def needless_stewards(panel):
    """Returns the ascending list of the positions of those who can leave, alone, without changing any cards."""
    check_panel(panel)
    having = holders(panel)
    return [at for at in range(len(panel)) if [at] not in having]


def lean_stewards(panel):
    """Returns the ascending list of the positions of those who stay if from the last one on the needless ones leave."""
    check_panel(panel)
    having, staying = holders(panel), []
    for at in reversed(range(len(panel))):
        if [at] in having:
            staying.append(at)
        else:
            having = [[other for other in each if other != at] for each in having]
    return sorted(staying)


def check_ladder(low, high):
    """Raises an error unless it is passed two panels of the same entries, the first within the second one."""
    check_panels(low, high)
    if not within(low, high):
        raise InvalidPanel(low)


def ladder(low, high):
    """Returns rows with which stewards can join one by one, each for one takeable lot more, from low to high."""
    check_ladder(low, high)
    bits, known, rows = bits_of(low.entries()), takeable_lots(low), []
    wanted = [lot for lot in takeable_lots(high) if lot not in known]
    while wanted:
        # A greater lot of the same kind could be the union of this one and a known lot, so it has to come ahead.
        lot = next_rung(known, wanted)
        rows.append(row_through(bits, known, lot))
        known[lot] = True
        wanted = [other for other in wanted if other != lot]
    return rows


def is_ladder(low, high, value):
    """Returns whether any object is a list of rows that `ladder` may return for two panels."""
    check_ladder(low, high)
    if not are_rows(low.entries(), value) or not each_adds(low, value):
        return False
    if not gives_the_cards(high, low.rows() + value):
        return False
    # Each row adds at least one lot, so each adds just one if there are no more lots than rows.
    return len(value) == len(takeable_lots(high)) - len(takeable_lots(low))
