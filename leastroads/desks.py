"""The desk: webs, moves and records, worked on by lines."""

from leastroads.benches import DONE, MANY_NUMBERS, OF_RECORDS, OF_WEBS, Bench
from leastroads.errors import NoLine, NoName
from leastroads.lines import numbers_read
from leastroads.records import recorded
from leastroads.texts import read_record, read_web

LETTERS = "abcdefghijklmnopqrstuvwxyz"
LONGEST_NAME = 8


def is_name(text):
    """Whether a text is a name."""
    return 1 <= len(text) <= LONGEST_NAME and all([sign in LETTERS for sign in text])


def require_name(text):
    """Raises NoLine unless a text is a name."""
    if not is_name(text):
        raise NoLine()


def numbers_of(texts):
    """The tuple of the numbers that are written so; NoLine if one is none."""
    numbers = numbers_read(texts)
    if numbers is None:
        raise NoLine()
    return numbers


def kept_under(name, shelf):
    """What is kept on a shelf under a name."""
    if name not in shelf:
        raise NoName(name)
    return shelf[name]


class Desk:
    """What is kept under names: webs, each on its bench, and records."""

    def __init__(self):
        self.webs = {}
        self.records = {}

    def tell(self, line):
        """Does what a line says, and returns the answer."""
        if not isinstance(line, str) or "\n" in line:
            raise NoLine()
        texts = line.split(" ")
        if len(texts) < 2:
            raise NoLine()
        require_name(texts[1])
        if texts[0] in ("web", "record"):
            return self.keep_text(line.split(" ", 2))
        if texts[0] == "tell":
            return self.keep_run(texts)
        return self.ask(texts)

    def keep_text(self, texts):
        """Keeps the web or the record of a text."""
        if len(texts) < 3 or texts[2] == "":
            raise NoLine()
        text = texts[2].replace("|", "\n")
        if texts[0] == "web":
            self.webs[texts[1]] = Bench(read_web(text))
        else:
            self.records[texts[1]] = read_record(text)
        return DONE

    def keep_run(self, texts):
        """Keeps the record of a run on a web by choices."""
        if len(texts) < 3:
            raise NoLine()
        require_name(texts[2])
        choices = numbers_of(texts[3:])
        bench = kept_under(texts[2], self.webs)
        self.records[texts[1]] = recorded(bench.web, choices)
        return DONE

    def ask(self, texts):
        """Answers a line of a web or of a record."""
        word, name = texts[:2]
        if word not in OF_WEBS and word not in OF_RECORDS:
            raise NoLine()
        if len(texts) != 2 + MANY_NUMBERS.get(word, 0):
            raise NoLine()
        numbers = numbers_of(texts[2:])
        if word in OF_WEBS:
            bench = kept_under(name, self.webs)
            answer = OF_WEBS[word]
            return answer(bench, numbers)
        record = kept_under(name, self.records)
        answer = OF_RECORDS[word]
        return answer(record, numbers)
