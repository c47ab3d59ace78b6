"""Taking entries from the table one after the other, next always somebody who gets a card among those left."""

from cardpanel.basics import are_rows
from cardpanel.basics import bits_in
from cardpanel.basics import bits_of
from cardpanel.basics import check_entry
from cardpanel.basics import is_count
from cardpanel.basics import is_lot
from cardpanel.basics import lot_of
from cardpanel.basics import mask_of
from cardpanel.basics import masks_ahead
from cardpanel.basics import united
from cardpanel.errors import InvalidCount
from cardpanel.errors import InvalidLot
from cardpanel.errors import InvalidRow
from cardpanel.heads import least_ahead
from cardpanel.heads import least_lots
from cardpanel.heads import taken_in_turn
from cardpanel.panels import ahead_masks
from cardpanel.panels import check_panel
from cardpanel.steps import is_row_of_takings
from cardpanel.steps import may_be_next
from cardpanel.steps import may_follow
from cardpanel.steps import rows_as_bits
from cardpanel.steps import stages_of_takings
from cardpanel.steps import ways_on


def beginning_within(row, mask):
    """Returns the greatest beginning of a row, of bits, that lies within a lot, both as numbers."""
    found = 0
    for bit in row:
        if not bit & mask:
            return found
        found = found | bit
    return found


def is_put_together(panel, lot):
    """Returns whether a lot is put together of beginnings of the rows of a panel."""
    mask = mask_of(bits_of(panel.entries()), lot)
    return united([beginning_within(row, mask) for row in rows_as_bits(panel)]) == mask


def is_takeable(panel, value):
    """Returns whether any object is a takeable lot."""
    check_panel(panel)
    return is_lot(panel.entries(), value) and is_put_together(panel, value)


def is_taking(panel, value):
    """Returns whether any object is a row of takings."""
    check_panel(panel)
    return is_row_of_takings(panel, value)


def check_takeable(panel, lot):
    """Raises an error unless it is passed a panel and a takeable lot of it."""
    if not is_takeable(panel, lot):
        raise InvalidLot(lot)


def check_taking(panel, row):
    """Raises an error unless it is passed a panel and a row of takings of it."""
    if not is_taking(panel, row):
        raise InvalidRow(row)


def next_takings(panel, lot):
    """Returns the ascending list of the entries that may be taken next behind a takeable lot."""
    check_takeable(panel, lot)
    bits = bits_of(panel.entries())
    return lot_of(bits, may_be_next(rows_as_bits(panel), mask_of(bits, lot)))


def gone_on(panel, row):
    """Returns a row of takings that begins with some entries that are taken in turn."""
    names = panel.entries()
    mask = mask_of(bits_of(names), row)
    rest, _ = taken_in_turn(least_ahead(panel), mask, [name for name in names if name not in row])
    return row + rest


def taking_of(panel, lot):
    """Returns a row of takings that begins with the entries of a takeable lot."""
    check_takeable(panel, lot)
    first, _ = taken_in_turn(least_ahead(panel), 0, lot)
    return gone_on(panel, first)


def ways_of(panel):
    """Returns a dictionary from the takeable lots, as numbers, to how many rows of takings go on from them."""
    return ways_on(stages_of_takings(rows_as_bits(panel)))


def count_takings(panel):
    """Returns the number of the rows of takings."""
    check_panel(panel)
    return ways_of(panel)[0]


def count_takeable(panel):
    """Returns the number of the takeable lots."""
    check_panel(panel)
    return sum([len(stage) for stage in stages_of_takings(rows_as_bits(panel))])


def taking_at(panel, number):
    """Returns the row of takings with a number, in ascending order."""
    check_panel(panel)
    ways, rows, bits = ways_of(panel), rows_as_bits(panel), bits_of(panel.entries())
    if not is_count(number) or number >= ways[0]:
        raise InvalidCount(number)
    found, taken, left = [], 0, number
    while len(found) < len(bits):
        for bit in bits_in(may_be_next(rows, taken)):
            if left < ways[taken | bit]:
                found = found + lot_of(bits, bit)
                taken = taken | bit
                break
            left = left - ways[taken | bit]
    return found


def taking_number(panel, row):
    """Returns the number of a row of takings, in ascending order."""
    check_taking(panel, row)
    ways, rows, bits = ways_of(panel), rows_as_bits(panel), bits_of(panel.entries())
    number = 0
    for name, taken in masks_ahead(bits, row).items():
        lesser = [bit for bit in bits_in(may_be_next(rows, taken)) if bit < bits[name]]
        number = number + sum([ways[taken | bit] for bit in lesser])
    return number


def moved_ahead(row, at, place):
    """Returns the rows in which the entry at a position comes forward to a place, one exchange after the other."""
    return [row[:to] + [row[at]] + row[to:at] + row[at + 1:] for to in reversed(range(place, at))]


def steps_between(panel, one, other):
    """Returns a shortest list of rows of takings from one to another one, by exchanges of two neighbours."""
    check_taking(panel, one)
    check_taking(panel, other)
    steps = [list(one)]
    for place, name in enumerate(other):
        # Both rows are the same ahead of this place, so the entry may be taken then, and at each moment behind it.
        row = steps[-1]
        steps = steps + moved_ahead(row, row.index(name), place)
    return steps


def unlike_pairs(one, other):
    """Returns how many pairs of entries stand in unlike order in two rows."""
    places = [other.index(name) for name in one]
    return sum([1 for at, place in enumerate(places) for after in places[at + 1:] if after < place])


def is_step(stewards, bits, one, other):
    """Returns whether a row comes of a row of takings by exchanging two neighbours, and is a row of takings itself."""
    unlike = [at for at in range(len(one)) if one[at] != other[at]]
    if len(unlike) != 2 or unlike[1] != unlike[0] + 1:
        return False
    # Just one beginning is new: the one that ends with the entry that came forward.
    at = unlike[0]
    return may_follow(stewards, other[at], mask_of(bits, one[:at]))


def are_steps(panel, one, other, value):
    """Returns whether any object is a list that `steps_between` may return for two rows."""
    check_taking(panel, one)
    check_taking(panel, other)
    names = panel.entries()
    if not are_rows(names, value) or len(value) != unlike_pairs(one, other) + 1:
        return False
    if value[0] != one or value[-1] != other:
        return False
    bits, stewards = bits_of(names), ahead_masks(panel)
    return all([is_step(stewards, bits, row, after) for row, after in zip(value, value[1:])])


def taken_without(panel, entry):
    """Returns, in the order of some row, all entries that can be taken ahead of an entry."""
    others = [name for name in panel.entries() if name != entry]
    found, _ = taken_in_turn(least_ahead(panel), 0, others)
    return found


def places_of(panel, entry):
    """Returns the first and the last place at which an entry stands in a row of takings."""
    least = least_lots(panel, entry)
    return min([len(lot) for lot in least]), len(taken_without(panel, entry))


def taking_with(panel, entry, place):
    """Returns a row of takings in which an entry stands at a place."""
    first, last = places_of(panel, entry)
    if not is_count(place) or place < first or place > last:
        raise InvalidCount(place)
    shortest = min(least_lots(panel, entry), key=len)
    beginning, _ = taken_in_turn(least_ahead(panel), 0, shortest)
    rest = [name for name in taken_without(panel, entry) if name not in shortest]
    return gone_on(panel, beginning + rest[:place - first] + [entry])


def held_by(panel, entry):
    """Returns the ascending list of the entries that stand behind an entry in every row of takings."""
    check_panel(panel)
    check_entry(panel.entries(), entry)
    ahead = taken_without(panel, entry)
    return [name for name in panel.entries() if name != entry and name not in ahead]
