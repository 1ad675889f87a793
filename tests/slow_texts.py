"""Texts written and read by the document's words alone, with regular expressions."""

import re

N = "(?:0|[1-9][0-9]{0,19})"
RANK = f"{N}:{N}:{N}"
WORD = "|".join((
    f"join {N}", f"begin {N} {RANK} {N}", f"ask {N} {RANK}", "yes", "no", f"report (?:{RANK}|-)", "turn", "over"))
TIE = f"tie {N} {N} {N}"
EVENT = f"wake {N}|over {N}|take {N} {N} (?:{WORD})"
MOVE = f"wake {N}|take {N} {N}"
BRANCH = f"branch {N} {N}"
HOUSES = f"houses {N}"


def shown(thing):
    """A number as it is, a rank with colons, - for nothing."""
    if thing is None or thing == ():
        return "-"
    return ":".join(map(str, thing)) if isinstance(thing, tuple) else str(thing)


def slow_word_text(word, gap=" "):
    return gap.join([word[0]] + [shown(thing) for thing in word[1:]])


def slow_web_text(web):
    return "".join([f"houses {web.many}\n"] + [f"tie {a} {b} {weight}\n" for a, b, weight in web.ties])


def slow_tree_text(tree):
    return "".join(["tree\n"] + [f"branch {a} {b}\n" for a, b in tree])


def slow_moves_text(moves):
    return "".join(" ".join(map(str, move)) + "\n" for move in moves)


def slow_event_text(event):
    if event[0] == "take":
        return f"take {event[1]} {event[2]} {slow_word_text(event[3])}\n"
    return f"{event[0]} {event[1]}\n"


def slow_record_text(web, events):
    return slow_web_text(web) + "".join(map(slow_event_text, events))


def is_line(form, line):
    return re.fullmatch(form, line) is not None


def form_due(kind, ahead):
    """What form a line has behind those ahead of it."""
    if kind == "moves":
        return MOVE
    if kind == "tree":
        return BRANCH if ahead else "tree"
    if not ahead:
        return HOUSES
    if kind == "web":
        return TIE
    if all(line.startswith(("houses", "tie")) for line in ahead):
        return f"{TIE}|{EVENT}"
    return EVENT


def slow_wrong_line(kind, text):
    """The line that BadText tells of a text, None if it has its form."""
    if not isinstance(text, str):
        return 0
    lines, ahead = text.split("\n"), []
    for line in lines[:-1]:
        if not is_line(form_due(kind, ahead), line):
            return len(ahead) + 1
        ahead.append(line)
    if lines[-1]:
        return text.count("\n") + 1
    return 1 if kind != "moves" and not ahead else None
