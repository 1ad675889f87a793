"""Texts of webs, trees, moves and records, there and back."""

from leastroads.errors import BadText
from leastroads.lines import numbers_behind, word_read, word_text
from leastroads.records import Record
from leastroads.webs import Web


def line_of(name, things):
    """The line of a name and some numbers or texts, closed."""
    return " ".join([name] + [str(thing) for thing in things]) + "\n"


def web_text(web):
    """The text of a web."""
    ties = [line_of("tie", tie) for tie in web.ties]
    return line_of("houses", [web.many]) + "".join(ties)


def tree_text(tree):
    """The text of a list or tuple of pairs."""
    return "tree\n" + "".join([line_of("branch", pair) for pair in tree])


def moves_text(moves):
    """The text of a list or tuple of moves."""
    return "".join([line_of(move[0], move[1:]) for move in moves])


def event_text(event):
    """The line of an event, closed."""
    if event[0] == "take":
        return line_of("take", [event[1], event[2], word_text(event[3])])
    return line_of(event[0], event[1:])


def record_text(record):
    """The text of a record."""
    return web_text(record.web) + "".join([event_text(event) for event in record.events])


def web_line(texts, ahead):
    """What a line of a web tells, behind those ahead of it, None if it has not the form due there."""
    return numbers_behind("tie", 3, texts) if ahead else numbers_behind("houses", 1, texts)


def tree_line(texts, ahead):
    """What a line of a tree tells, None likewise."""
    return numbers_behind("branch", 2, texts) if ahead else numbers_behind("tree", 0, texts)


def wake_line(texts):
    """What a line of a wake tells, None if it is none."""
    return numbers_behind("wake", 1, texts)


def move_line(texts, ahead):
    """What a line of a move tells, None likewise."""
    return wake_line(texts) or numbers_behind("take", 2, texts)


def take_line(texts):
    """What a line of a take with its word tells, None if it is none."""
    take = numbers_behind("take", 2, texts[:3])
    word = word_read(texts[3:])
    return None if take is None or word is None else take + (word,)


def record_line(texts, ahead):
    """What a line of a record tells, None likewise."""
    if not ahead or texts[0] == "tie" and ahead[-1][0] in ("houses", "tie"):
        return web_line(texts, ahead)
    return wake_line(texts) or numbers_behind("over", 1, texts) or take_line(texts)


def lines_read(text, line_read, least):
    """The list of what the lines of a text tell, each as line_read tells it; least lines are due."""
    if not isinstance(text, str):
        raise BadText(0)
    rows = text.split("\n")
    found = []
    for row in rows[:-1]:
        line = line_read(row.split(" "), found)
        if line is None:
            raise BadText(len(found) + 1)
        found.append(line)
    if rows[-1] != "" or len(found) < least:
        raise BadText(len(rows))
    return found


def web_of(lines):
    """The Web of what its lines tell."""
    return Web(lines[0][1], tuple([line[1:] for line in lines[1:]]))


def read_web(text):
    """The Web of a text."""
    return web_of(lines_read(text, web_line, 1))


def read_tree(text):
    """The tuple of the pairs of a text."""
    return tuple([line[1:] for line in lines_read(text, tree_line, 1)[1:]])


def read_moves(text):
    """The tuple of the moves of a text."""
    return tuple(lines_read(text, move_line, 0))


def read_record(text):
    """The Record of a text."""
    lines = lines_read(text, record_line, 1)
    ties = [line for line in lines if line[0] in ("houses", "tie")]
    return Record(web_of(ties), tuple(lines[len(ties):]))
