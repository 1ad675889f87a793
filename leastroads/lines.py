"""Numbers, ranks and words, as they are written in lines, and read from them."""

from leastroads.states import PARTS

MOST_FIGURES = 20
# Greater numbers are written part by part, each of so many figures.
FIGURES_OF_PART = 18
PART = 10 ** 18
# What is written for () and None.
NOTHING = "-"


def rank_text(rank):
    """A rank as it is written, also () in its place."""
    if rank == ():
        return NOTHING
    return ":".join([str(number) for number in rank])


def number_text(number):
    """A number as it is written, also None in its place."""
    if number is None:
        return NOTHING
    # The count of a state has no limit, and Python's own str has one.
    parts = []
    while number >= PART:
        number, rest = divmod(number, PART)
        parts.append(str(rest).zfill(FIGURES_OF_PART))
    return "".join([str(number)] + parts[::-1])


def part_text(part, thing):
    """What stands in a word as this part, as it is written."""
    return rank_text(thing) if part in ("core", "found") else number_text(thing)


def word_text(word):
    """A word as it is written."""
    parts = [part_text(part, thing) for part, thing in zip(PARTS[word[0]], word[1:])]
    return " ".join([word[0]] + parts)


def number_read(text):
    """The number that is written so, None if none is."""
    if not text.isascii() or not text.isdigit() or len(text) > MOST_FIGURES:
        return None
    if text[0] == "0" and text != "0":
        return None
    return int(text)


def numbers_read(texts):
    """The tuple of the numbers that are written so, None if one is none."""
    numbers = tuple([number_read(text) for text in texts])
    return None if None in numbers else numbers


def rank_read(text):
    """The rank that is written so, by its form alone, None if none is."""
    texts = text.split(":")
    return numbers_read(texts) if len(texts) == 3 else None


def part_read(part, text):
    """What stands in a word as this part and is written so, None if nothing is."""
    if part == "found" and text == NOTHING:
        return ()
    return rank_read(text) if part in ("core", "found") else number_read(text)


def word_read(texts):
    """The word that is written with these texts, by its form alone, None if none is."""
    if not texts or texts[0] not in PARTS:
        return None
    parts = PARTS[texts[0]]
    if len(texts) != len(parts) + 1:
        return None
    things = tuple([part_read(part, text) for part, text in zip(parts, texts[1:])])
    return None if None in things else (texts[0],) + things


def numbers_behind(name, many, texts):
    """The tuple of a name and so many numbers that is written with these texts, None if none is."""
    if len(texts) != many + 1 or texts[0] != name:
        return None
    numbers = numbers_read(texts[1:])
    return None if numbers is None else (name,) + numbers
