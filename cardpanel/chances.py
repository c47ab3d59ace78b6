"""In how many fields an entry gets a card, and the chance that it gets one where entries come by chance."""

from math import comb
from math import gcd

from cardpanel.basics import bits_of
from cardpanel.basics import check_entry
from cardpanel.basics import is_count
from cardpanel.basics import size_of
from cardpanel.errors import InvalidChances
from cardpanel.errors import InvalidCount
from cardpanel.errors import UnknownEntry
from cardpanel.heads import least_ahead
from cardpanel.heads import least_of
from cardpanel.meeting import signed_unions
from cardpanel.panels import cards
from cardpanel.panels import check_panel
from cardpanel.panels import check_panel_and_entry
from cardpanel.spans import check_panel_and_lot
from cardpanel.spans import hull

# The entries are looked up so many at once, so that no union of lots is gone through entry by entry.
BLOCK = 8


def odd_unions(masks):
    """Returns the sums of signs by unions of one or more of some lots: plus for an odd number of these, else minus."""
    found = signed_unions(0, masks)
    found[0] = found[0] - 1
    return {union: -sign for union, sign in found.items() if sign != 0}


def fields_beside(unions, others):
    """Returns in how many fields, out of so many others, none of one of some lots is, by the unions of these."""
    return sum([sign * (1 << (others - size_of(union))) for union, sign in unions.items()])


def check_panel_and_entries(panel, one, other):
    """Raises an error unless it is passed a panel and two of its entries, perhaps the same one."""
    check_panel_and_entry(panel, one)
    check_entry(panel.entries(), other)


def count_naming(panel, entry):
    """Returns in how many fields an entry gets a card."""
    check_panel_and_entry(panel, entry)
    return fields_beside(odd_unions(least_of(panel, entry)), len(panel.entries()) - 1)


def unions_beside(panel, entry, other):
    """Returns the unions of one or more least ahead lots of an entry that do not hold another one, with their signs."""
    bit = bits_of(panel.entries())[other]
    return odd_unions([mask for mask in least_of(panel, entry) if not mask & bit])


def count_both(panel, one, other):
    """Returns in how many fields two entries both get a card."""
    check_panel_and_entries(panel, one, other)
    if one == other:
        return count_naming(panel, one)
    ours, theirs = unions_beside(panel, one, other), unions_beside(panel, other, one)
    together = {}
    for union, sign in ours.items():
        for more, turn in theirs.items():
            together[union | more] = together.get(union | more, 0) + sign * turn
    return fields_beside(together, len(panel.entries()) - 2)


def count_first(panel, one, other):
    """Returns in how many fields an entry gets a card while another one is on the table and gets none."""
    check_panel_and_entries(panel, one, other)
    if one == other:
        return 0
    return fields_beside(unions_beside(panel, one, other), len(panel.entries()) - 2) - count_both(panel, one, other)


def signs_by_size(masks):
    """Returns the sums of signs by the sizes of the unions of one or more of some lots."""
    found = {}
    for union, sign in odd_unions(masks).items():
        size = size_of(union)
        found[size] = found.get(size, 0) + sign
    return found


def fields_of_size(signs, others, size):
    """Returns how many fields of a size, out of an entry and so many others, name the entry."""
    if size == 0:
        return 0
    return sum([sign * comb(others - away, size - 1) for away, sign in signs.items()])


def counts_by_size(panel, entry):
    """Returns the list, for the sizes from 0 on, of how many fields of so many entries name an entry."""
    check_panel_and_entry(panel, entry)
    many, signs = len(panel.entries()), signs_by_size(least_of(panel, entry))
    return [fields_of_size(signs, many - 1, size) for size in range(many + 1)]


def count_cards(panel, many):
    """Returns how many cards are given in all fields of so many entries together."""
    check_panel(panel)
    if not is_count(many):
        raise InvalidCount(many)
    least = least_ahead(panel)
    if many > len(least):
        return 0
    return sum([fields_of_size(signs_by_size(masks), len(least) - 1, many) for masks in list(least.values())])


def is_chance(value):
    """Returns whether any object is a tuple of two counts that tells a chance."""
    if not isinstance(value, tuple) or len(value) != 2 or not all([is_count(part) for part in value]):
        return False
    number, of = value
    return of >= 1 and number <= of


def are_chances(entries, value):
    """Returns whether any object is a dictionary from just the entries to chances."""
    if not isinstance(value, dict) or len(value) != len(entries):
        return False
    return all([name in value and is_chance(value[name]) for name in entries])


def check_chances(panel, chances):
    """Raises an error unless it is passed a panel and chances of its entries."""
    check_panel(panel)
    if not are_chances(panel.entries(), chances):
        raise InvalidChances(chances)


def in_lowest_terms(number, of):
    """Returns a fraction in lowest terms."""
    divisor = gcd(number, of)
    return number // divisor, of // divisor


def block_of_weights(told):
    """Returns, for each lot of some entries as a number, the weight that just its entries stay away for sure.

    All weights are numbers of the same fractions: what the chances of all of the entries are out of, multiplied.
    """
    weights = [1]
    for number, of in told:
        weights = [weight * of for weight in weights] + [weight * (of - number) for weight in weights]
    return weights


def weights_of(entries, chances):
    """Returns the weights of the lots of some entries, block by block."""
    told = [chances[name] for name in entries]
    return [block_of_weights(told[at:at + BLOCK]) for at in range(0, len(told), BLOCK)]


def weight_of(blocks, mask):
    """Returns the weight that all entries of a lot, as a number, stay away."""
    weight, left = 1, mask
    for weights in blocks:
        weight = weight * weights[left & ((1 << BLOCK) - 1)]
        left = left >> BLOCK
    return weight


def weight_of_card(blocks, masks, chance):
    """Returns the weight that an entry comes, by its chance, and all entries of one of its lots stay away."""
    number, of = chance
    # The entry is in none of its lots, so its own `of` is still in each weight.
    return sum([sign * weight_of(blocks, union) for union, sign in odd_unions(masks).items()]) // of * number


def chance_by(panel, chances, entry):
    """Returns the chance that an entry comes and gets a card."""
    blocks = weights_of(panel.entries(), chances)
    return in_lowest_terms(weight_of_card(blocks, least_of(panel, entry), chances[entry]), weight_of(blocks, 0))


def chance_of_card(panel, chances, entry):
    """Returns the chance that an entry comes and gets a card."""
    check_chances(panel, chances)
    check_entry(panel.entries(), entry)
    return chance_by(panel, chances, entry)


def chance_of_cards(panel, chances, lot):
    """Returns the chance that just the entries of a lot get cards."""
    check_chances(panel, chances)
    check_panel_and_lot(panel, lot)
    if lot and cards(panel, lot) != lot:
        return 0, 1
    number, of, inside = 1, 1, hull(panel, lot)
    for name, (coming, out_of) in chances.items():
        if name in lot:
            number, of = number * coming, of * out_of
        elif name not in inside:
            number, of = number * (out_of - coming), of * out_of
    return in_lowest_terms(number, of)


def mean_cards(panel, chances):
    """Returns the mean number of cards that are given, as a fraction."""
    check_chances(panel, chances)
    blocks = weights_of(panel.entries(), chances)
    weights = [weight_of_card(blocks, masks, chances[name]) for name, masks in least_ahead(panel).items()]
    return in_lowest_terms(sum(weights), weight_of(blocks, 0))


def chance_if(panel, chances, entry, other):
    """Returns the chances that an entry gets a card if another one is sure to come, and if it is sure to stay away."""
    check_chances(panel, chances)
    check_entry(panel.entries(), entry)
    if other not in panel.entries() or other == entry:
        raise UnknownEntry(other)
    surely = {name: (1, 1) if name == other else told for name, told in chances.items()}
    never = {name: (0, 1) if name == other else told for name, told in chances.items()}
    return chance_by(panel, surely, entry), chance_by(panel, never, entry)
