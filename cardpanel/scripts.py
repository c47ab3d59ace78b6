"""Scripts of commands for live shows, what is said when they are played, and their texts."""

from cardpanel.basics import is_count
from cardpanel.basics import is_name
from cardpanel.errors import InvalidCount
from cardpanel.errors import InvalidRow
from cardpanel.errors import InvalidScript
from cardpanel.errors import InvalidText
from cardpanel.errors import LastRow
from cardpanel.errors import NothingToRedo
from cardpanel.errors import NothingToUndo
from cardpanel.errors import TakenEntry
from cardpanel.errors import UnknownEntry
from cardpanel.live import LiveShow
from cardpanel.live import alike_shows
from cardpanel.live import check_live
from cardpanel.live import make_change
from cardpanel.live import same_shown
from cardpanel.panels import check_panel
from cardpanel.texts import are_names
from cardpanel.texts import names_of
from cardpanel.texts import text_of_names

# How many things stand behind the word of a command.
THINGS = {
    "put": 1, "take": 1, "sit": 1, "leave": 1, "exchange": 2, "undo": 0, "redo": 0, "cards": 0, "table": 0, "try": 1,
}
INDENT = "  "


def is_command(value):
    """Returns whether any object is a command."""
    if not isinstance(value, tuple) or not value or not isinstance(value[0], str):
        return False
    word, things = value[0], value[1:]
    if word not in THINGS or THINGS[word] != len(things):
        return False
    if word == "try":
        return is_script(things[0])
    if word == "sit":
        return are_names(things[0])
    if word in ("put", "take"):
        return is_name(things[0])
    return all([is_count(number) for number in things])


def is_script(value):
    """Returns whether any object is a script."""
    return isinstance(value, list) and all([is_command(command) for command in value])


def check_script(script):
    """Raises InvalidScript unless it is passed a script."""
    if not is_script(script):
        raise InvalidScript(script)


def call_method(show, command):
    """Calls the method of a show that changes it as a command tells."""
    if command[0] == "undo":
        show.undo()
    elif command[0] == "redo":
        show.redo()
    else:
        make_change(show, command)


def refusal(show, command):
    """Carries out a command that changes a show; returns None, or the name of the error that this raises."""
    try:
        call_method(show, command)
    except UnknownEntry:
        return "UnknownEntry"
    except TakenEntry:
        return "TakenEntry"
    except InvalidRow:
        return "InvalidRow"
    except InvalidCount:
        return "InvalidCount"
    except LastRow:
        return "LastRow"
    except NothingToUndo:
        return "NothingToUndo"
    except NothingToRedo:
        return "NothingToRedo"
    return None


def said_of(show, command):
    """Carries out a command on a show, and returns what is said."""
    if command[0] == "cards":
        return "cards", show.cards()
    if command[0] == "table":
        return "table", show.table()
    if command[0] == "try":
        with show.trial():
            return "tried", played(show, command[1])
    word = refusal(show, command)
    return ("done",) if word is None else ("refused", word)


def played(show, script):
    """Carries out a script on a show, and returns what is said."""
    said = []
    for command in script:
        said.append(said_of(show, command))
    return said


def play(show, script):
    """Carries out a script on a live show, which it changes, and returns what is said."""
    check_live(show)
    check_script(script)
    return played(show, script)


def indented(lines):
    """Returns some lines, each behind two blanks more."""
    return [INDENT + line for line in lines]


def lines_of_command(command):
    """Returns the lines of the text of a command."""
    word, things = command[0], command[1:]
    if word == "try":
        return ["try"] + indented(lines_of_script(things[0])) + ["end"]
    if word == "sit":
        return [f"sit {text_of_names(things[0])}"]
    return [" ".join([word] + [str(thing) for thing in things])]


def lines_of_script(script):
    """Returns the lines of the text of a script."""
    return [line for command in script for line in lines_of_command(command)]


def script_text(script):
    """Returns the text of a script."""
    check_script(script)
    return "\n".join(lines_of_script(script))


def count_of(text):
    """Returns the count that has a text in decimal digits without needless noughts, None if there is none."""
    if not text or not all(["0" <= sign <= "9" for sign in text]):
        return None
    return None if text != "0" and text.startswith("0") else int(text)


def command_of(line):
    """Returns the command, no try, that a line is the text of; where there is none, it is no command."""
    word, blank, told = line.partition(" ")
    if word == "sit":
        return word, names_of(told)
    if word in ("leave", "exchange"):
        return tuple([word] + [count_of(part) for part in told.split(" ")])
    return (word, told) if blank else (word,)


def script_of(lines):
    """Returns what some lines are the text of, None if there is a try among them that does not end.

    Where a line is no text of a command, what stands for it is no command.
    """
    script, inner = [], None
    for line in lines:
        if inner is None and line == "try":
            inner = []
        elif inner is None:
            script.append(command_of(line))
        elif line.startswith(INDENT):
            inner.append(line[len(INDENT):])
        else:
            script.append(("try", script_of(inner)) if line == "end" else None)
            inner = None
    return script if inner is None else None


def read_script(text):
    """Returns the script that has a text."""
    if not isinstance(text, str):
        raise InvalidText(text)
    script = script_of(text.split("\n")) if text else []
    if not is_script(script):
        raise InvalidText(text)
    return script


def lines_of_said(said):
    """Returns the lines of the text of what was said."""
    lines = []
    for item in said:
        word = item[0]
        if word == "tried":
            lines = lines + ["tried"] + indented(lines_of_said(item[1]))
        elif word == "refused":
            lines.append(f"refused {item[1]}")
        else:
            lines.append("done" if word == "done" else f"{word} {text_of_names(item[1])}")
    return lines


def said_text(said):
    """Returns the text of what `play` returned."""
    return "\n".join(lines_of_said(said))


def check_panel_and_script(panel, script):
    """Raises an error unless it is passed a panel and a script."""
    check_panel(panel)
    check_script(script)


def check_panel_and_scripts(panel, one, other):
    """Raises an error unless it is passed a panel and two scripts."""
    check_panel_and_script(panel, one)
    check_script(other)


def end_of(panel, script):
    """Returns a new show of a panel on which a script was carried out."""
    show = LiveShow(panel)
    played(show, script)
    return show


def refused(panel, script):
    """Returns the ascending list of the positions of the commands that are refused on a new show."""
    check_panel_and_script(panel, script)
    said = played(LiveShow(panel), script)
    return [at for at, item in enumerate(said) if item[0] == "refused"]


def same_end(panel, one, other):
    """Returns whether new shows behind two scripts are alike."""
    check_panel_and_scripts(panel, one, other)
    return alike_shows(end_of(panel, one), end_of(panel, other))


def same_cards_behind(panel, one, other):
    """Returns whether new shows behind two scripts have the same cards whatever entries come and go then."""
    check_panel_and_scripts(panel, one, other)
    return same_shown(end_of(panel, one), end_of(panel, other))


def copied(command):
    """Returns a command, no try, with a new row, if it has one."""
    return ("sit", list(command[1])) if command[0] == "sit" else command


def trimmed(panel, script):
    """Returns what is left of a script if, from the last command on, each goes without which the end is the same."""
    check_panel_and_script(panel, script)
    end, left = end_of(panel, script), list(range(len(script)))
    for at in reversed(range(len(script))):
        rest = [place for place in left if place != at]
        if alike_shows(end_of(panel, [script[place] for place in rest]), end):
            left = rest
    # All is behind a try as ahead of it, so none is left.
    return [copied(script[place]) for place in left]
