"""Books of calls and keep-offs, the panels that keep them, and what is stuck where none does."""

from cardpanel.basics import bits_in
from cardpanel.basics import bits_of
from cardpanel.basics import check_entries
from cardpanel.basics import holds_one
from cardpanel.basics import is_name
from cardpanel.basics import is_row
from cardpanel.basics import lot_of
from cardpanel.basics import mask_of
from cardpanel.basics import masks_ahead
from cardpanel.basics import number_of_lot
from cardpanel.errors import InvalidBook
from cardpanel.errors import InvalidLine
from cardpanel.errors import Unlike
from cardpanel.panels import Panel
from cardpanel.panels import ahead_masks
from cardpanel.panels import check_panel
from cardpanel.rules import Rules
from cardpanel.rules import can_be_called
from cardpanel.rules import left_over
from cardpanel.rules import offs_with
from cardpanel.rules import row_in_order
from cardpanel.rules import stages_of_rows
from cardpanel.steps import ways_on


def is_line(bits, value):
    """Returns whether any object is a line about the entries that have bits."""
    if not isinstance(value, tuple) or len(value) != 3:
        return False
    word, lot, name = value
    mask = number_of_lot(bits, lot)
    if not mask or not isinstance(name, str) or name not in bits:
        return False
    return word == ("call" if bits[name] & mask else "off")


def is_some_line(value):
    """Returns whether any object is a line about some entries."""
    if not isinstance(value, tuple) or len(value) != 3 or not isinstance(value[1], list):
        return False
    names = value[1] + [value[2]]
    return all([is_name(name) for name in names]) and is_line(bits_of(sorted(set(names))), value)


def are_lines(bits, value):
    """Returns whether any object is a list, perhaps empty, of lines about the entries that have bits."""
    return isinstance(value, list) and all([is_line(bits, line) for line in value])


def in_order(lines):
    """Returns the ascending list of some lines, each of them once."""
    told = sorted([(word, list(lot), name) for word, lot, name in lines])
    return told[:1] + [line for line, before in zip(told[1:], told) if line != before]


class Book:
    """Calls and keep-offs about some entries."""

    def __init__(self, entries, lines):
        check_entries(entries)
        names = sorted(entries)
        if not are_lines(bits_of(names), lines):
            raise InvalidLine(lines)
        self._entries = names
        self._lines = in_order(lines)

    def entries(self):
        """Returns the ascending list of the entries."""
        return list(self._entries)

    def lines(self):
        """Returns the ascending list of the lines."""
        return [(word, list(lot), name) for word, lot, name in self._lines]

    def __eq__(self, other):
        return isinstance(other, Book) and self._entries == other._entries and self._lines == other._lines

    def with_line(self, line):
        """Returns the book with one line more."""
        if not is_line(bits_of(self._entries), line):
            raise InvalidLine(line)
        return Book(self._entries, self._lines + [line])

    def without_line(self, line):
        """Returns the book without one of its lines."""
        if line not in self._lines:
            raise InvalidLine(line)
        return Book(self._entries, [other for other in self._lines if other != line])


def check_book(book):
    """Raises InvalidBook unless it is passed a book."""
    if not isinstance(book, Book):
        raise InvalidBook(book)


def rules_of(book):
    """Returns the lines of a book as numbers."""
    return Rules(bits_of(book.entries()), book.lines())


def keeps(book, panel):
    """Returns whether a panel keeps a book."""
    return why_broken(book, panel) is None


def why_broken(book, panel):
    """Returns None if a panel keeps a book, otherwise the first line that it does not keep, and the row that does not.

    The row is told by the position of the first one that does not keep a keep-off, by None for a call.
    """
    check_book(book)
    check_panel(panel)
    if panel.entries() != book.entries():
        raise Unlike(panel)
    bits, stewards = bits_of(book.entries()), ahead_masks(panel)
    for line in book.lines():
        word, lot, name = line
        mask = mask_of(bits, lot)
        first = [at for at, masks in enumerate(stewards) if not masks[name] & mask][:1]
        if word == "call" and not first:
            return line, None
        if word == "off" and first:
            return line, first[0]
    return None


def are_wishes(bits, value):
    """Returns whether any object is a list, perhaps empty, of tuples of a field and an entry of it."""
    if not isinstance(value, list) or not all([isinstance(wish, tuple) for wish in value]):
        return False
    return all([is_line(bits, ("call",) + wish) for wish in value])


def offs_of(book, wishes):
    """Returns the keep-offs of a book as numbers, and those that wishes are in a row; raises an error for others."""
    check_book(book)
    rules = rules_of(book)
    if not are_wishes(rules.bits, wishes):
        raise InvalidLine(wishes)
    calls = [("call", field, name) for field, name in wishes]
    return offs_with(rules.offs, Rules(rules.bits, calls).calls)


def row_with(book, wishes):
    """Returns a row that keeps all keep-offs of a book and meets all wishes, None if there is none."""
    offs = offs_of(book, wishes)
    bits = bits_of(book.entries())
    if left_over(mask_of(bits, bits), offs):
        return None
    return row_in_order(bits, offs)


def is_row_with(book, wishes, value):
    """Returns whether any object is a row that keeps all keep-offs of a book and meets all wishes."""
    offs = offs_of(book, wishes)
    if not is_row(book.entries(), value):
        return False
    bits = bits_of(book.entries())
    ahead = {bits[name]: mask for name, mask in masks_ahead(bits, value).items()}
    return all([mask & ahead[bit] for bit, masks in offs.items() for mask in masks])


def stuck(book, wishes):
    """Returns None if some row keeps a book and meets wishes, otherwise the greatest lot that is stuck."""
    offs = offs_of(book, wishes)
    bits = bits_of(book.entries())
    left = left_over(mask_of(bits, bits), offs)
    return lot_of(bits, left) if left else None


def is_stuck_by(bits, offs, value):
    """Returns whether any object is a lot, not empty, that keep-offs make stuck."""
    mask = number_of_lot(bits, value)
    if not mask:
        return False
    return all([holds_one(mask, offs.get(bit, [])) for bit in bits_in(mask)])


def is_stuck(book, wishes, value):
    """Returns whether any object is a lot that is stuck by a book and wishes."""
    offs = offs_of(book, wishes)
    return is_stuck_by(bits_of(book.entries()), offs, value)


def rows_by(rules):
    """Returns rows that keep all keep-offs, some of which meet each call, None if there are none such."""
    if left_over(rules.every, rules.offs):
        return None
    rows, shown = [], []
    for others, bit in rules.calls:
        name = lot_of(rules.bits, bit)[0]
        # A row that was made for another call often meets this one as well.
        if all([masks[name] & others for masks in shown]):
            if not can_be_called(rules, (others, bit)):
                return None
            row = row_in_order(rules.bits, offs_with(rules.offs, [(others, bit)]))
            rows.append(row)
            shown.append(masks_ahead(rules.bits, row))
    return rows if rows else [row_in_order(rules.bits, rules.offs)]


def some_panel(book):
    """Returns a panel that keeps a book, None if there is none."""
    check_book(book)
    rows = rows_by(rules_of(book))
    return None if rows is None else Panel(book.entries(), rows)


def why_none(book):
    """Returns None if some panel keeps a book, otherwise a bar: a call, or None, and the lot that is stuck by it."""
    check_book(book)
    rules = rules_of(book)
    left = left_over(rules.every, rules.offs)
    if left:
        return None, lot_of(rules.bits, left)
    for line, call in zip(book.lines(), rules.calls):
        if not can_be_called(rules, call):
            left = left_over(rules.every, offs_with(rules.offs, [call]))
            return line, lot_of(rules.bits, left)
    return None


def is_bar(book, value):
    """Returns whether any object is a bar of a book."""
    check_book(book)
    if not isinstance(value, tuple) or len(value) != 2:
        return False
    line, lot = value
    rules = rules_of(book)
    if line is None:
        return is_stuck_by(rules.bits, rules.offs, lot)
    if line not in book.lines() or line[0] != "call":
        return False
    return is_stuck_by(rules.bits, offs_with(rules.offs, Rules(rules.bits, [line]).calls), lot)


def count_rows(book):
    """Returns the number of the rows that keep all keep-offs of a book."""
    check_book(book)
    rules = rules_of(book)
    if left_over(rules.every, rules.offs):
        return 0
    return ways_on(stages_of_rows(rules))[0]
