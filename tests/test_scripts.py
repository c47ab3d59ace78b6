"""[130] to [134]: scripts, what is said when they are played, their texts, and what of them is needed."""

from unittest import main

from cardpanel.errors import (InvalidLive, InvalidPanel, InvalidScript, InvalidText, NothingToRedo, NothingToUndo,
                              ShowError)
from cardpanel.live import LiveShow, alike_shows, replayed, same_shown
from cardpanel.panels import Panel
from cardpanel.scripts import (play, read_script, refused, said_text, same_cards_behind, same_end, script_text, trimmed)
from support import Case, big_panel, odd_objects, shuffled, some_numbers

NAMES = ["ale", "bun", "cob"]


def judges():
    return Panel(NAMES, [["ale", "bun", "cob"], ["cob", "ale", "bun"]])


def day():
    return [("put", "bun"), ("put", "ale"), ("cards",), ("exchange", 1, 1), ("cards",),
            ("try", [("take", "ale"), ("table",)]), ("leave", 2)]


def told_said(show, script):
    """What is said, by the word of the document."""
    said = []
    for command in script:
        word = command[0]
        if word in ("cards", "table"):
            said.append((word, getattr(show, word)()))
        elif word == "try":
            with show.trial():
                said.append(("tried", told_said(show, command[1])))
        else:
            try:
                getattr(show, word)(*command[1:])
                said.append(("done",))
            except ShowError as error:
                said.append(("refused", type(error).__name__))
    return said


def told_text(script, indent=""):
    lines = []
    for word, *things in script:
        if word == "try":
            inner = told_text(things[0], indent + "  ")
            lines += [indent + "try"] + ([inner] if things[0] else []) + [indent + "end"]
        elif word == "sit":
            lines.append(indent + "sit " + (", ".join(things[0]) or "-"))
        else:
            lines.append(indent + " ".join([word, *map(str, things)]))
    return "\n".join(lines)


def told_said_text(said, indent=""):
    lines = []
    for word, *things in said:
        if word == "tried":
            inner = told_said_text(things[0], indent + "  ")
            lines += [indent + "tried"] + ([inner] if things[0] else [])
        elif word in ("cards", "table"):
            lines.append(f"{indent}{word} {', '.join(things[0]) or '-'}")
        else:
            lines.append(indent + " ".join([word, *things]))
    return "\n".join(lines)


def some_script(numbers, names, many, deep=0):
    """A script of about so many commands, some of which are refused, with tries up to four deep."""
    found = []
    for _ in range(many):
        kind = next(numbers) % 16
        name = (names + ["zz"])[next(numbers) % (len(names) + 1)]
        if kind < 4:
            found.append(("put", name))
        elif kind < 6:
            found.append(("take", name))
        elif kind < 7:
            found.append(("sit", shuffled(numbers, names)[next(numbers) % 5 // 4:]))
        elif kind < 8:
            found.append(("leave", next(numbers) % 3))
        elif kind < 10:
            found.append(("exchange", next(numbers) % 3, next(numbers) % len(names)))
        elif kind < 14:
            found.append((["undo", "redo", "cards", "table"][kind - 10],))
        elif deep < 4:
            found.append(("try", some_script(numbers, names, next(numbers) % 5, deep + 1)))
    return found


def some_scripts(seed, count, many):
    numbers = some_numbers(seed)
    for at in range(count):
        panel = big_panel(at, 1 + at % 4, 1 + at % 3)
        yield panel, some_script(numbers, panel.entries(), next(numbers) % (many + 1))


class Document(Case):
    def test_first_examples(self):
        self.same(
            [said_text(play(LiveShow(judges()), day())).split(chr(10)), refused(judges(), day()),
             read_script(script_text(day())) == day()],
            [["done", "done", "cards ale", "done", "cards ale, bun", "tried", "  done", "  table bun",
              "refused InvalidCount"], [6], True])

    def test_second_examples(self):
        sat = [("sit", ["ale", "cob", "bun"])]
        self.same([same_end(judges(), sat, []), same_cards_behind(judges(), sat, []),
                   same_cards_behind(judges(), [("exchange", 0, 0)], [])], [False, True, False])
        self.same(trimmed(judges(), [("put", "ale"), ("cards",), ("put", "cob"), ("undo",),
                                     ("sit", ["bun", "ale", "cob"]), ("leave", 2)]),
                  [("put", "ale"), ("put", "cob"), ("undo",), ("leave", 2)])


class Play(Case):
    def test_drawn_scripts(self):
        for panel, script in some_scripts(1, 120, 30):
            show, other = LiveShow(panel), LiveShow(panel)
            said = play(show, script)
            self.same(said, told_said(other, script))
            self.same([show.panel().rows(), show.table(), show.log()],
                      [other.panel().rows(), other.table(), other.log()])
            self.same(said_text(said), told_said_text(said))
            self.same(refused(panel, script), [at for at, item in enumerate(said) if item[0] == "refused"])

    def test_each_error(self):
        show = LiveShow(Panel(["a", "b"], [["a", "b"]]))
        script = [("undo",), ("redo",), ("put", "zz"), ("take", "a"), ("put", "a"), ("put", "a"), ("sit", ["a"]),
                  ("sit", []), ("sit", ["a", "a"]), ("leave", 1), ("leave", 0), ("exchange", 0, 1), ("exchange", 1, 0)]
        self.same([item[1:] for item in play(show, script)],
                  [("NothingToUndo",), ("NothingToRedo",), ("UnknownEntry",), ("UnknownEntry",), (), ("TakenEntry",),
                   ("InvalidRow",), ("InvalidRow",), ("InvalidRow",), ("InvalidCount",), ("LastRow",),
                   ("InvalidCount",), ("InvalidCount",)])
        self.same(show.table(), ["a"])

    def test_all_is_behind_a_try_as_ahead_of_it(self):
        show = LiveShow(judges())
        play(show, [("put", "ale"), ("put", "bun"), ("undo",)])
        self.same(play(show, [("try", [("undo",), ("undo",), ("put", "cob"), ("try", [("leave", 0)]), ("table",)])]),
                  [("tried", [("done",), ("refused", "NothingToUndo"), ("done",), ("tried", [("done",)]),
                              ("table", ["cob"])])])
        self.same([show.table(), show.log(), len(show.panel())], [["ale"], [("put", "ale")], 2])
        self.same(play(show, [("redo",), ("redo",)]), [("done",), ("refused", "NothingToRedo")])
        self.assertRaises(NothingToRedo, show.redo)

    def test_empty_scripts_and_tries(self):
        show = LiveShow(judges())
        self.same([play(show, []), play(show, [("try", [])]), play(show, [("try", [("try", [])])])],
                  [[], [("tried", [])], [("tried", [("tried", [])])]])
        self.assertRaises(NothingToUndo, show.undo)
        self.same([said_text([]), said_text([("tried", [])]), said_text(play(show, [("cards",), ("table",)]))],
                  ["", "tried", "cards -\ntable -"])

    def test_the_log_is_a_script(self):
        for panel, script in some_scripts(2, 40, 25):
            show = LiveShow(panel)
            play(show, script)
            again = LiveShow(panel)
            self.same(play(again, show.log()), [("done",)] * len(show.log()))
            self.same(alike_shows(show, again), True)
            self.same(alike_shows(show, replayed(panel, read_script(script_text(show.log())))), True)

    def test_rows_may_be_changed(self):
        row = ["bun", "cob", "ale"]
        script = [("sit", row), ("try", [("sit", row)])]
        show, left = LiveShow(judges()), trimmed(judges(), script)
        play(show, script)
        row.append("zz")
        self.same([show.log(), left], [[("sit", ["bun", "cob", "ale"])], [("sit", ["bun", "cob", "ale"])]])


class Texts(Case):
    def test_drawn_scripts(self):
        for _, script in some_scripts(3, 200, 30):
            text = script_text(script)
            self.same([text, read_script(text)], [told_text(script), script])

    def test_names_like_words_and_greatest_counts(self):
        script = [("put", "try"), ("take", "end"), ("sit", []), ("sit", ["put", "put"]), ("leave", 0),
                  ("leave", 10 ** 29), ("exchange", 10, 0), ("try", []), ("try", [("try", []), ("undo",)])]
        text = ("put try\ntake end\nsit -\nsit put, put\nleave 0\nleave " + "1" + "0" * 29
                + "\nexchange 10 0\ntry\nend\ntry\n  try\n  end\n  undo\nend")
        self.same([script_text(script), read_script(text)], [text, script])
        self.same([script_text([]), read_script(""), script_text(script=[("undo",)]), read_script(text="redo")],
                  ["", [], "undo", [("redo",)]])

    def test_wrong_texts(self):
        wrong = [None, True, 0, [], ("put a",), b"put a", {}, judges(), " ", "\n", "put", "put ", "put  a", "put a ",
                 " put a", "put A", "put a b", "put abcdefghi", "Put a", "put a\n", "\nput a", "put a\n\nput b",
                 "put a\r\nput b", "put\ta", "sit", "sit ", "sit a,b", "sit a, ", "sit a,  b", "sit -, a", "sit a b",
                 "sit --", "leave", "leave ", "leave -1", "leave 01", "leave 00", "leave 1 ", "leave 1 2", "leave a",
                 "leave +1", "leave 1_0", "leave 1.0", "exchange 1", "exchange 1 2 3", "exchange 1  2", "exchange 1 02",
                 "exchange 1, 2", "undo ", "undo 1", "cards a", "table\n ", "try", "try\n", "try\nend\n", "try\n end",
                 "try\nundo\nend", "try\n undo\nend", "try\n   undo\nend", "try\n  undo", "try\n  undo\n  end", "end",
                 "try\n  try\n  end", "try\n  try\nend", "try \nend", "try a\nend", "try\nend ", "try\n  \nend",
                 "  undo", "try\n\nend", "try\ntry\nend", "try\ntry\nend\nend", "try\n  undo\nend\nend",
                 "leave " + "0" * 9, "try []", "done"]
        for text in wrong:
            self.raises(InvalidText, text, read_script, text)

    def test_any_sign_more_or_less(self):
        for _, script in some_scripts(4, 25, 6):
            text = script_text(script)
            for at in range(len(text) + 1):
                for other in [text[:at] + text[at + 1:], text[:at] + " " + text[at:], text[:at] + "\n" + text[at:]]:
                    try:
                        found = read_script(other)
                    except InvalidText:
                        continue
                    self.same(script_text(found), other)


class WrongScripts(Case):
    def wrong(self):
        one = [("put",), ("put", "A"), ("put", "a", "b"), ("put", ["a"]), ["put", "a"], ("sit", ("a",)), ("sit", "a"),
               ("sit", ["A"]), ("sit", [1]), ("sit", None), ("leave", -1), ("leave", True), ("leave", "1"),
               ("leave",), ("leave", 1, 2), ("exchange", 1), ("exchange", 1, False), ("undo", 1), ("redo", None),
               ("cards", []), ("table", "a"), ("try",), ("try", ()), ("try", [("put",)]), ("try", [("undo",)], None),
               ("try", None), (), ("Put", "a"), (None,), (["put"], "a"), (True,), "undo", None, 1, {}, ("trial", []),
               ("try", [("try", [("leave", None)])]), ("log",), ("copy",)]
        return [[("undo",), each] for each in one] + [each for each in odd_objects() if each != []] + [(("undo",),)]

    def test_each_function(self):
        show = LiveShow(judges())
        for script in self.wrong():
            self.raises(InvalidScript, script, play, show, script)
            self.raises(InvalidScript, script, script_text, script)
            self.raises(InvalidScript, script, refused, judges(), script)
            self.raises(InvalidScript, script, trimmed, judges(), script)
            for call in (same_end, same_cards_behind):
                self.raises(InvalidScript, script, call, judges(), script, None)
                self.raises(InvalidScript, script, call, judges(), [], script)
        self.same(show.log(), [])

    def test_wrong_shows_and_panels(self):
        for value in odd_objects():
            self.raises(InvalidLive, value, play, value, None)
            if not isinstance(value, Panel):
                for call, more in [(refused, 1), (trimmed, 1), (same_end, 2), (same_cards_behind, 2)]:
                    self.raises(InvalidPanel, value, call, value, *[None] * more)

    def test_by_name(self):
        self.same([play(script=[("table",)], show=LiveShow(judges())), refused(script=[("undo",)], panel=judges()),
                   same_end(other=[], one=[], panel=judges()), same_cards_behind(other=[], one=[], panel=judges()),
                   trimmed(script=[("cards",)], panel=judges()), said_text(said=[("done",)])],
                  [[("table", [])], [0], True, True, [], "done"])


class Ends(Case):
    def test_drawn_pairs(self):
        pairs = list(some_scripts(5, 60, 8))
        for (panel, one), (_, other) in zip(pairs, pairs[4:] + pairs[:4]):
            for first, second in [(one, other), (one, one + [("undo",), ("redo",)]), (one, one + [("put", "zz")])]:
                ends = [LiveShow(panel), LiveShow(panel)]
                play(ends[0], first)
                play(ends[1], second)
                self.same(same_end(panel, first, second), alike_shows(*ends))
                self.same(same_cards_behind(panel, first, second), same_shown(*ends))

    def test_trimmed(self):
        for panel, script in some_scripts(6, 80, 8):
            left = list(script)
            for at in reversed(range(len(script))):
                rest = left[:at] + left[at + 1:]
                if same_end(panel, rest, script):
                    left = rest
            kept = script_text(script)
            found = trimmed(panel, script)
            self.same(found, left)
            self.same([same_end(panel, found, script), trimmed(panel, []), script_text(script)], [True, [], kept])


if __name__ == "__main__":
    main()
