"""Heads of a panel where they stand in the rows, each in the row of the first steward who has it.

The heads of one row lie within one another, those further ahead within those
further behind. So rows tell at once most of what lies within what, and as many
chains as there are stewards.
"""


class Seats:
    """Heads of a panel, in the order of the stewards and of their rows.

    Each one of `found` is a tuple of the number of a lot and an entry. `above` tells, for each of them, a number whose
    bits are the positions of those that it lies within, and `after` leads each one to the next one of the same row.
    """

    def __init__(self, stewards, wanted):
        found, seats = seated(stewards, wanted)
        self.found = found
        self.above = above_in_rows(stewards, seats, len(found))
        self.after = pairs_in_rows(seats)


def seated(stewards, wanted):
    """Returns the wanted heads in their order, and, for each steward, a dictionary from entries to their positions.

    What is wanted is a dictionary from the entries to least ahead lots, as numbers.
    """
    found, seats = [], []
    left = {name: list(masks) for name, masks in wanted.items()}
    for masks in stewards:
        seat = {}
        for name, mask in masks.items():
            if mask in left[name]:
                left[name].remove(mask)
                seat[name] = len(found)
                found.append((mask, name))
        seats.append(seat)
    return found, seats


def heads_holding(stewards, seats):
    """Returns a dictionary from entries to numbers whose bits are the positions of the heads with them in the lot."""
    holding = {name: 0 for name in stewards[0]}
    for masks, seat in zip(stewards, seats):
        behind = 0
        for name in reversed(list(masks)):
            holding[name] = holding[name] | behind
            if name in seat:
                behind = behind | 1 << seat[name]
    return holding


def above_in_rows(stewards, seats, many):
    """Returns, for each of so many heads, a number whose bits are the positions of those that it lies within."""
    holding, above = heads_holding(stewards, seats), [0] * many
    for masks, seat in zip(stewards, seats):
        common = (1 << many) - 1
        # Whoever has all of a row up to an entry in the lot is what the head at this entry lies within.
        for name in masks:
            common = common & holding[name]
            if name in seat:
                above[seat[name]] = common
    return above


def pairs_in_rows(seats):
    """Returns a dictionary from the position of each head to that of the next one of the same row."""
    after = {}
    for seat in seats:
        places = list(seat.values())
        for low, high in zip(places, places[1:]):
            after[low] = high
    return after
