"""What follows from books of calls and keep-offs, and the books of panels."""

from cardpanel.basics import bits_of
from cardpanel.basics import mask_of
from cardpanel.books import Book
from cardpanel.books import check_book
from cardpanel.books import is_bar
from cardpanel.books import is_line
from cardpanel.books import is_some_line
from cardpanel.books import keeps
from cardpanel.books import rows_by
from cardpanel.books import rules_of
from cardpanel.books import why_none
from cardpanel.errors import Clash
from cardpanel.errors import InvalidLine
from cardpanel.errors import Unlike
from cardpanel.heads import heads
from cardpanel.keepoffs import least_keepoffs
from cardpanel.panels import Panel
from cardpanel.panels import check_panel
from cardpanel.rules import Rules
from cardpanel.rules import can_be_called
from cardpanel.rules import can_be_kept
from cardpanel.rules import left_over
from cardpanel.rules import stages_of_rows
from cardpanel.rules import sure_lots
from cardpanel.steps import least_behind


def contrary_of(line):
    """Returns the contrary of a line, None if it has none."""
    word, lot, name = line
    if word == "off":
        return "call", sorted(lot + [name]), name
    others = [other for other in lot if other != name]
    return ("off", others, name) if others else None


def contrary(line):
    """Returns the contrary of a line, None if it has none."""
    if not is_some_line(line):
        raise InvalidLine(line)
    return contrary_of(line)


def check_book_and_line(book, line):
    """Raises an error unless it is passed a book and a line about its entries."""
    check_book(book)
    if not is_line(bits_of(book.entries()), line):
        raise InvalidLine(line)


def rules_against(book, line):
    """Returns the lines of a book and the contrary of another line, which has one, as numbers."""
    return Rules(bits_of(book.entries()), book.lines() + [contrary_of(line)])


def follows(book, line):
    """Returns whether every panel that keeps a book keeps a line."""
    check_book_and_line(book, line)
    return contrary_of(line) is None or not can_be_kept(rules_against(book, line))


def reasons(book, line):
    """Returns a panel that keeps a book and not a line, or, if there is none, a bar that tells why."""
    check_book_and_line(book, line)
    against = contrary_of(line)
    if against is None:
        return "follows", None
    more = book.with_line(against)
    bar = why_none(more)
    if bar is None:
        return "parts", panel_by(more)
    return "follows", bar


def panel_by(book):
    """Returns a panel that keeps a book, which some panel does."""
    return Panel(book.entries(), rows_by(rules_of(book)))


def is_reasons(book, line, value):
    """Returns whether any object is what `reasons` may return for a book and a line."""
    check_book_and_line(book, line)
    if not isinstance(value, tuple) or len(value) != 2:
        return False
    word, told = value
    against = contrary_of(line)
    if word == "follows":
        return told is None if against is None else is_bar(book.with_line(against), told)
    if word != "parts" or not isinstance(told, Panel) or told.entries() != book.entries():
        return False
    return against is not None and keeps(book.with_line(against), told)


def check_books(one, other):
    """Raises an error unless it is passed two books of the same entries."""
    check_book(one)
    check_book(other)
    if one.entries() != other.entries():
        raise Unlike(other)


def first_open(rules, lines):
    """Returns the first one of some lines that does not follow from others, which some panel keeps, None if all do."""
    sure = {}
    for line in lines:
        word, lot, name = line
        bit = rules.bits[name]
        others = mask_of(rules.bits, lot) & ~bit
        if word == "off":
            is_open = can_be_called(rules, (others, bit))
        else:
            if name not in sure:
                sure[name] = sure_lots(rules, bit)
            is_open = all([mask & others for _, mask in sure[name]])
        if is_open:
            return line
    return None


def line_apart(one, other):
    """Returns a line of one book that some panel that keeps another one does not keep, None if there is none."""
    rules = rules_of(one)
    return first_open(rules, other.lines()) if can_be_kept(rules) else None


def all_follow(one, other):
    """Returns whether every panel that keeps one book keeps another one."""
    check_books(one, other)
    return line_apart(one, other) is None


def same_book(one, other):
    """Returns whether all panels keep both of two books or neither."""
    check_books(one, other)
    return line_apart(one, other) is None and line_apart(other, one) is None


def parting_panel(one, other):
    """Returns a panel that keeps just one of two books, None if there is none."""
    check_books(one, other)
    for kept, broken in [(one, other), (other, one)]:
        line = line_apart(kept, broken)
        if line is not None:
            return panel_by(kept.with_line(contrary_of(line)))
    return None


def check_parting_panel(one, other, value):
    """Returns whether any object is a panel that keeps just one of two books."""
    check_books(one, other)
    if not isinstance(value, Panel) or value.entries() != one.entries():
        return False
    return keeps(one, value) != keeps(other, value)


def without(lines, line):
    """Returns some lines without one of them."""
    return [other for other in lines if other != line]


def follows_from_others(bits, lines, line):
    """Returns whether a keep-off follows from the other ones of some lines, which some panel keeps."""
    _, lot, name = line
    return not can_be_called(Rules(bits, without(lines, line)), (mask_of(bits, lot), bits[name]))


def is_sure(rules, sure, staying, at):
    """Returns whether the call at a position follows from keep-offs and those calls whose positions stay."""
    others, bit = rules.calls[at]
    lots = [mask for place, mask in sure[bit] if place is None or place in staying and place != at]
    return not all([mask & others for mask in lots])


def sure_of_calls(rules):
    """Returns a dictionary from the bits of those who are called to what `sure_lots` tells of them."""
    called = {bit: True for _, bit in rules.calls}
    return {bit: sure_lots(rules, bit) for bit in called}


def needless_lines(book):
    """Returns the ascending list of the lines each of which follows from a book without it."""
    check_book(book)
    rules, lines = rules_of(book), book.lines()
    if not can_be_kept(rules):
        # What nothing keeps tells no more than without a line that goes just if nothing keeps it then, too.
        return [line for line in lines if not can_be_kept(Rules(rules.bits, without(lines, line)))]
    many, sure = len(rules.calls), sure_of_calls(rules)
    staying = list(range(many))
    calls = [line for at, line in enumerate(lines[:many]) if is_sure(rules, sure, staying, at)]
    return calls + [line for line in lines[many:] if follows_from_others(rules.bits, lines, line)]


def lean_lines(bits, lines):
    """Returns those of some lines, which some panel keeps, that are left if, from the last on, those that follow go."""
    left = lines
    for line in reversed(lines):
        if line[0] == "off" and follows_from_others(bits, left, line):
            left = without(left, line)
    # All calls come ahead of all keep-offs, so the keep-offs that stay are known by now.
    rules = Rules(bits, left)
    sure, staying = sure_of_calls(rules), list(range(len(rules.calls)))
    for at in reversed(range(len(rules.calls))):
        if is_sure(rules, sure, staying, at):
            staying = [place for place in staying if place != at]
    return [left[at] for at in staying] + left[len(rules.calls):]


def lean_book(book):
    """Returns the book that is left if, from the last line on, each goes that follows from those that are left."""
    check_book(book)
    bits, left = bits_of(book.entries()), book.lines()
    if can_be_kept(Rules(bits, left)):
        return Book(book.entries(), lean_lines(bits, left))
    for line in book.lines()[::-1]:
        if not can_be_kept(Rules(bits, without(left, line))):
            left = without(left, line)
    return Book(book.entries(), left)


def book_of(panel):
    """Returns the book of the heads and the least keep-offs of a panel, which just the panels alike to it keep."""
    check_panel(panel)
    names = panel.entries()
    calls = [("call", [other for other in names if other not in lot], name) for lot, name in heads(panel)]
    offs = [("off", lot, name) for name in names for lot in least_keepoffs(panel, name)]
    return Book(names, calls + offs)


def greatest_lots(book):
    """Returns the least ahead lots of the panel of all rows that keep all keep-offs of a book."""
    check_book(book)
    rules = rules_of(book)
    if left_over(rules.every, rules.offs):
        raise Clash(book)
    return least_behind(rules.bits, stages_of_rows(rules))


def least_book(panel):
    """Returns the book of those lines of the book of a panel that do not follow from its other lines."""
    book = book_of(panel)
    needless = needless_lines(book)
    return Book(book.entries(), [line for line in book.lines() if line not in needless])
