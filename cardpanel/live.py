"""Live shows: a panel and a table that change, changes that are taken back, and what tells two shows apart."""

from cardpanel.alike import alike
from cardpanel.alike import parting_field
from cardpanel.basics import check_entry
from cardpanel.basics import check_position
from cardpanel.basics import check_row
from cardpanel.errors import InvalidLive
from cardpanel.errors import InvalidLog
from cardpanel.errors import LastRow
from cardpanel.errors import NothingToRedo
from cardpanel.errors import NothingToUndo
from cardpanel.errors import ShowError
from cardpanel.errors import TakenEntry
from cardpanel.panels import Panel
from cardpanel.panels import cards_on
from cardpanel.panels import check_panel

# How many things a change is told by, its word among them.
THINGS = {"put": 2, "take": 2, "sit": 2, "leave": 2, "exchange": 3}


class Moment:
    """What a show is at one moment, the change that led there, and the moment ahead of it; it never changes."""

    def __init__(self, seated, there, change, before):
        self.seated = seated
        self.there = there
        self.change = change
        self.before = before


class Held:
    """What a show was when a block was entered, and what the block held before."""

    def __init__(self, now, undone, outer):
        self.now = now
        self.undone = undone
        self.outer = outer


class Trial:
    """A block behind which a show is as it was ahead of it."""

    def __init__(self, show):
        self.show = show
        self.held = None

    def __enter__(self):
        self.held = Held(self.show.now, self.show.undone, self.held)
        return self.show

    def __exit__(self, kind, value, trace):
        show = self.show
        show.now = self.held.now
        show.undone = self.held.undone
        self.held = self.held.outer


class LiveShow:
    """A panel and a table with entries, none at the beginning."""

    def __init__(self, panel):
        check_panel(panel)
        self.names = panel.entries()
        self.now = Moment(panel.rows(), [], None, None)
        self.undone = []

    def panel(self):
        """Returns the panel as it is now."""
        return Panel(self.names, self.now.seated)

    def table(self):
        """Returns the ascending list of the entries on the table."""
        return list(self.now.there)

    def __len__(self):
        return len(self.now.there)

    def cards(self):
        """Returns the cards of the table."""
        return cards_on(self.now.seated, self.now.there) if self.now.there else []

    def go_on(self, change, seated, there):
        """Makes a change that leads to these rows and this table; what was taken back is forgotten."""
        self.now = Moment(seated, there, change, self.now)
        self.undone = []

    def put(self, entry):
        """Puts an entry on the table."""
        check_entry(self.names, entry)
        if entry in self.now.there:
            raise TakenEntry(entry)
        self.go_on(("put", entry), self.now.seated, sorted(self.now.there + [entry]))

    def take(self, entry):
        """Takes an entry from the table."""
        check_entry(self.now.there, entry)
        self.go_on(("take", entry), self.now.seated, [name for name in self.now.there if name != entry])

    def sit(self, row):
        """Gives the panel one more steward, behind all others."""
        check_row(self.names, row)
        seat = list(row)
        self.go_on(("sit", seat), self.now.seated + [seat], self.now.there)

    def leave(self, at):
        """Takes out the steward at a position."""
        rows = self.now.seated
        check_position(len(rows), at)
        if len(rows) == 1:
            raise LastRow(at)
        self.go_on(("leave", at), rows[:at] + rows[at + 1:], self.now.there)

    def check_exchange(self, at, place):
        """Raises InvalidCount unless it is passed the position of a steward and a place that has a next one."""
        check_position(len(self.now.seated), at)
        check_position(len(self.names) - 1, place)

    def exchange(self, at, place):
        """Lets the entries at a place and the next one, in the row at a position, change places."""
        self.check_exchange(at, place)
        rows = self.now.seated
        row = rows[at][:place] + [rows[at][place + 1], rows[at][place]] + rows[at][place + 2:]
        self.go_on(("exchange", at, place), rows[:at] + [row] + rows[at + 1:], self.now.there)

    def log(self):
        """Returns the list of the changes that are not taken back."""
        found, moment = [], self.now
        while moment.before is not None:
            found.append(told_again(moment.change))
            moment = moment.before
        return found[::-1]

    def undo(self):
        """Takes back the last change that has not been taken back."""
        if self.now.before is None:
            raise NothingToUndo()
        self.undone = self.undone + [self.now]
        self.now = self.now.before

    def redo(self):
        """Makes again the change that was taken back last."""
        if not self.undone:
            raise NothingToRedo()
        self.now = self.undone[-1]
        self.undone = self.undone[:-1]

    def trial(self):
        """Returns a block behind which the show is as it was ahead of it."""
        return Trial(self)

    def attempt(self, action):
        """Returns what a function returns that is called with the show in a block."""
        with self.trial():
            return action(self)

    def copy(self):
        """Returns an independent show that is the same, and in no block."""
        made = LiveShow(Panel(self.names, [self.names]))
        made.now = self.now
        made.undone = self.undone
        return made

    def is_calm(self, at, place):
        """Returns whether an exchange would leave the cards of all fields as they are."""
        self.check_exchange(at, place)
        rows = self.now.seated
        first, second = rows[at][place], rows[at][place + 1]
        # Both get a card when just those ahead of both are gone, whatever this steward names.
        given = cards_on(rows[:at] + rows[at + 1:], rows[at][place:])
        return first in given and second in given


def told_again(change):
    """Returns a change with a new row, if it has one."""
    word, thing = change[0], change[1]
    return (word, list(thing)) if word == "sit" else change


def make_change(show, change):
    """Makes a change in a show."""
    word = change[0]
    if word == "put":
        show.put(change[1])
    elif word == "take":
        show.take(change[1])
    elif word == "sit":
        show.sit(change[1])
    elif word == "leave":
        show.leave(change[1])
    else:
        show.exchange(change[1], change[2])


def are_changes(value):
    """Returns whether any object is a list of tuples of the word of a change and as many things as it has."""
    if not isinstance(value, list) or not all([isinstance(each, tuple) and len(each) > 0 for each in value]):
        return False
    return all([isinstance(each[0], str) and THINGS.get(each[0], 0) == len(each) for each in value])


def replayed(panel, log):
    """Returns a show of a panel in which the changes of a log were made in order."""
    check_panel(panel)
    if not are_changes(log):
        raise InvalidLog(log)
    show = LiveShow(panel)
    for change in log:
        make_change(show, change)
    return show


def check_live(show):
    """Raises InvalidLive unless it is passed a live show."""
    if not isinstance(show, LiveShow):
        raise InvalidLive(show)


def check_lives(one, other):
    """Raises InvalidLive unless it is passed two live shows."""
    check_live(one)
    check_live(other)


def same_on_table(one, other):
    """Returns whether two shows have the same entries and the same table."""
    return one.names == other.names and one.now.there == other.now.there


def alike_shows(one, other):
    """Returns whether every list of changes can be made in both shows or neither, and leaves the same cards."""
    check_lives(one, other)
    return same_on_table(one, other) and one.now.seated == other.now.seated


def same_shown(one, other):
    """Returns whether this holds for all lists in which entries are put and taken alone."""
    check_lives(one, other)
    return same_on_table(one, other) and alike(one.panel(), other.panel())


def put_or_take(one, other):
    """Returns a change that can be made in just one of two shows with unlike entries or tables."""
    for show, less in [(one, other), (other, one)]:
        for name in show.now.there:
            if name not in less.now.there:
                return "take", name
    # Both have the same table, so nobody of it is known to just one of them.
    unlike = [name for name in one.names if name not in other.names]
    return "put", (unlike + [name for name in other.names if name not in one.names])[0]


def changes_to(show, field):
    """Returns the changes that make a field the table of a show."""
    there = show.now.there
    taken = [("take", name) for name in there if name not in field]
    return taken + [("put", name) for name in field if name not in there]


def parting_of_rows(one, other):
    """Returns a parting of two shows that are the same but for their rows."""
    ours, theirs = one.now.seated, other.now.seated
    if len(ours) != len(theirs):
        return [("leave", min(len(ours), len(theirs)))]
    at = [row == like for row, like in zip(ours, theirs)].index(False)
    place = [name == like for name, like in zip(ours[at], theirs[at])].index(False)
    here, away = ours[at][place], theirs[at][place]
    # When those of one show who put the other entry first have left, nobody there names it, but this steward does
    # in the other show.
    leaving = [k for k, row in enumerate(ours) if row.index(away) < row.index(here)]
    return [("leave", k) for k in reversed(leaving)] + changes_to(one, sorted([here, away]))


def parting_changes(one, other):
    """Returns a parting of two shows, None if they are alike."""
    if alike_shows(one, other):
        return None
    if not same_on_table(one, other):
        return [put_or_take(one, other)]
    return parting_of_rows(one, other)


def parting_puts(one, other):
    """Returns a parting of two shows in which entries are put and taken alone, None if there is none."""
    check_lives(one, other)
    if not same_on_table(one, other):
        return [put_or_take(one, other)]
    field = parting_field(one.panel(), other.panel())
    return None if field is None else changes_to(one, field)


def can_make(show, change):
    """Makes a change in a show, if it can be made; returns whether it can."""
    try:
        make_change(show, change)
    except ShowError:
        return False
    return True


def check_parting(one, other, value):
    """Returns whether any object is a parting of two shows."""
    check_lives(one, other)
    if not are_changes(value):
        return False
    ours, theirs = one.copy(), other.copy()
    for at, change in enumerate(value):
        made, likewise = can_make(ours, change), can_make(theirs, change)
        if made != likewise:
            return at == len(value) - 1
        if not made:
            return False
    return ours.cards() != theirs.cards()
