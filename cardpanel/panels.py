"""Panels of stewards, and who gets a card on a field."""

from cardpanel.basics import are_unlike_names
from cardpanel.basics import bits_of
from cardpanel.basics import check_entries
from cardpanel.basics import check_entry
from cardpanel.basics import check_field
from cardpanel.basics import check_position
from cardpanel.basics import check_row
from cardpanel.basics import check_rows
from cardpanel.basics import is_lot
from cardpanel.basics import masks_ahead
from cardpanel.errors import InvalidEntries
from cardpanel.errors import InvalidLot
from cardpanel.errors import InvalidPanel
from cardpanel.errors import LastRow
from cardpanel.errors import Unlike


class Panel:
    """Stewards, each with a row of all entries, better ones first."""

    def __init__(self, entries, rows):
        check_entries(entries)
        names = sorted(entries)
        check_rows(names, rows)
        self._entries = names
        self._rows = [list(row) for row in rows]

    def entries(self):
        """Returns the ascending list of the entries."""
        return list(self._entries)

    def rows(self):
        """Returns the list of the stewards' rows, in their order."""
        return [list(row) for row in self._rows]

    def __len__(self):
        return len(self._rows)

    def __eq__(self, other):
        return isinstance(other, Panel) and self._entries == other._entries and self._rows == other._rows

    def with_row(self, row):
        """Returns the panel with one more steward, behind the others."""
        check_row(self._entries, row)
        return Panel(self._entries, self._rows + [row])

    def without_row(self, at):
        """Returns the panel without the steward at a position."""
        check_position(len(self._rows), at)
        if len(self._rows) == 1:
            raise LastRow(at)
        return Panel(self._entries, self._rows[:at] + self._rows[at + 1:])

    def struck(self, lot):
        """Returns the panel without the entries of a lot."""
        if not is_lot(self._entries, lot) or len(lot) == len(self._entries):
            raise InvalidLot(lot)
        left = [name for name in self._entries if name not in lot]
        return Panel(left, [[name for name in row if name not in lot] for row in self._rows])

    def renamed(self, names):
        """Returns the panel whose entries have the names to which a dictionary leads them."""
        if not is_renaming(self._entries, names):
            raise InvalidEntries(names)
        return Panel(list(names.values()), [[names[name] for name in row] for row in self._rows])


def is_renaming(entries, value):
    """Returns whether any object is a dictionary from just the entries to unlike names."""
    if not isinstance(value, dict) or len(value) != len(entries):
        return False
    return all([name in value for name in entries]) and are_unlike_names(list(value.values()))


def check_panel(panel):
    """Raises InvalidPanel unless it is passed a panel."""
    if not isinstance(panel, Panel):
        raise InvalidPanel(panel)


def check_panel_and_entry(panel, entry):
    """Raises an error unless it is passed a panel and one of its entries."""
    check_panel(panel)
    check_entry(panel.entries(), entry)


def check_panels(one, other):
    """Raises InvalidPanel or Unlike unless it is passed two panels of the same entries."""
    check_panel(one)
    check_panel(other)
    if one.entries() != other.entries():
        raise Unlike(other)


def first_there(row, field):
    """Returns the entry of a field that stands first in a row."""
    for name in row:
        if name in field:
            return name
    return None


def cards_on(rows, field):
    """Returns the ascending list of the entries of a field that some rows name."""
    return sorted(set([first_there(row, field) for row in rows]))


def named(panel, at, field):
    """Returns the entry of a field that the steward at a position names."""
    check_panel(panel)
    check_position(len(panel), at)
    check_field(panel.entries(), field)
    return first_there(panel.rows()[at], field)


def cards(panel, field):
    """Returns the ascending list of the entries that get a card on a field."""
    check_panel(panel)
    check_field(panel.entries(), field)
    return cards_on(panel.rows(), field)


def who(panel, field, entry):
    """Returns the ascending list of the positions of the stewards who name an entry on a field."""
    check_panel(panel)
    check_field(panel.entries(), field)
    check_entry(panel.entries(), entry)
    return [at for at, row in enumerate(panel.rows()) if first_there(row, field) == entry]


def ahead(panel, at, entry):
    """Returns the ascending list of the entries ahead of an entry in a steward's row."""
    check_panel(panel)
    check_position(len(panel), at)
    check_entry(panel.entries(), entry)
    row = panel.rows()[at]
    return sorted(row[:row.index(entry)])


def places(panel, entry):
    """Returns the list, for the stewards in order, of how many entries are ahead of an entry."""
    check_panel(panel)
    check_entry(panel.entries(), entry)
    return [row.index(entry) for row in panel.rows()]


def turned(panel):
    """Returns the panel with each row the other way about."""
    check_panel(panel)
    return Panel(panel.entries(), [row[::-1] for row in panel.rows()])


def equal_rows(panel):
    """Returns the ascending lists of positions of stewards with the same row, by their first ones."""
    check_panel(panel)
    rows = panel.rows()
    firsts = [at for at, row in enumerate(rows) if rows.index(row) == at]
    return [[at for at, row in enumerate(rows) if row == rows[first]] for first in firsts]


def plain(panel):
    """Returns the panel in which each row stands once, where it first comes."""
    check_panel(panel)
    rows = panel.rows()
    return Panel(panel.entries(), [row for at, row in enumerate(rows) if rows.index(row) == at])


def ahead_masks(panel):
    """Returns, for each steward, a dictionary from the entries, in the row's order, to the lots ahead of them."""
    bits = bits_of(panel.entries())
    return [masks_ahead(bits, row) for row in panel.rows()]
