"""The texts of names, panels, lines, books and rounds, each on one line, and what has a text."""

from cardpanel.basics import are_rows
from cardpanel.basics import are_unlike_names
from cardpanel.basics import bits_of
from cardpanel.basics import is_ascending
from cardpanel.basics import is_name
from cardpanel.books import Book
from cardpanel.books import are_lines
from cardpanel.books import check_book
from cardpanel.books import is_some_line
from cardpanel.errors import InvalidEntries
from cardpanel.errors import InvalidLine
from cardpanel.errors import InvalidRounds
from cardpanel.errors import InvalidText
from cardpanel.panels import Panel
from cardpanel.panels import check_panel
from cardpanel.watched import are_some_rounds

# What stands between the entry and the names in the text of a line, by the word of the line.
LINKS = {"call": "in", "off": "by"}


def are_names(value):
    """Returns whether any object is a list, perhaps empty, of names, perhaps with one twice."""
    return isinstance(value, list) and all([is_name(name) for name in value])


def text_of_names(names):
    """Returns the text of a list of names."""
    return ", ".join(names) if names else "-"


def names_of(text):
    """Returns the list of names that has a text, None if there is none."""
    names = [] if text == "-" else text.split(", ")
    return names if are_names(names) else None


def check_text(text):
    """Raises InvalidText unless it is passed a text at all."""
    if not isinstance(text, str):
        raise InvalidText(text)


def names_text(names):
    """Returns the text of a list of names."""
    if not are_names(names):
        raise InvalidEntries(names)
    return text_of_names(names)


def read_names(text):
    """Returns the list of names that has a text."""
    check_text(text)
    names = names_of(text)
    if names is None:
        raise InvalidText(text)
    return names


def panel_text(panel):
    """Returns the text of a panel."""
    check_panel(panel)
    return "; ".join([text_of_names(row) for row in panel.rows()])


def read_panel(text):
    """Returns the panel that has a text."""
    check_text(text)
    rows = [names_of(part) for part in text.split("; ")]
    if not are_unlike_names(rows[0]) or not are_rows(sorted(rows[0]), rows):
        raise InvalidText(text)
    return Panel(rows[0], rows)


def text_of_line(line):
    """Returns the text of a line of a book."""
    word, lot, name = line
    return f"{word} {name} {LINKS[word]} {text_of_names(lot)}"


def line_of(text):
    """Returns the line, about some entries, that has a text, None if there is none."""
    word, _, rest = text.partition(" ")
    name, _, told = rest.partition(" ")
    link, _, names = told.partition(" ")
    line = (word, names_of(names), name)
    return line if LINKS.get(word, "") == link and is_some_line(line) else None


def line_text(line):
    """Returns the text of a line of a book."""
    if not is_some_line(line):
        raise InvalidLine(line)
    return text_of_line(line)


def read_line(text):
    """Returns the line that has a text."""
    check_text(text)
    line = line_of(text)
    if line is None:
        raise InvalidText(text)
    return line


def book_text(book):
    """Returns the text of a book."""
    check_book(book)
    return "; ".join([text_of_names(book.entries())] + [text_of_line(line) for line in book.lines()])


def read_book(text):
    """Returns the book that has a text."""
    check_text(text)
    parts = text.split("; ")
    names, lines = names_of(parts[0]), [line_of(part) for part in parts[1:]]
    if not are_unlike_names(names) or not is_ascending(names):
        raise InvalidText(text)
    if not are_lines(bits_of(names), lines) or not is_ascending(lines):
        raise InvalidText(text)
    return Book(names, lines)


def rounds_text(rounds):
    """Returns the text of watched rounds."""
    if not are_some_rounds(rounds):
        raise InvalidRounds(rounds)
    if not rounds:
        return "-"
    return "; ".join([f"{text_of_names(field)}: {text_of_names(given)}" for field, given in rounds])


def round_of(text):
    """Returns what may be the watched round that has a text; where there is none, it is no round."""
    field, _, given = text.partition(": ")
    return names_of(field), names_of(given)


def read_rounds(text):
    """Returns the watched rounds that have a text."""
    check_text(text)
    rounds = [] if text == "-" else [round_of(part) for part in text.split("; ")]
    if not are_some_rounds(rounds):
        raise InvalidText(text)
    return rounds
