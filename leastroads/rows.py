"""Rows of bytes: parcels written into them and read back, marks, seals."""

from leastroads.errors import BadRow, NoParcel, NoRow
from leastroads.kinds import is_tuple_of_numbers

DEEPEST = 20
LONGEST = 20
# What each sort of parcel has as its first byte; these three are nothing but it.
SIMPLE = (None, False, True)
PLUS = 3
MINUS = 4
TEXT = 5
TUPLE = 6
# The signs from the blank to ~ in their order, but a blank in the place of number 37, which is none.
SIGNS = " !\"#$ &'()*+,-./0123456789:;<=>?@ABCDEFGHIJKLMNOPQRSTUVWXYZ[\\]^_`abcdefghijklmnopqrstuvwxyz{|}~"
FIRST_SIGN = 32
NO_SIGN = 37
FIRST_MARK = 1
MARK_FACTOR = 1000003
MARK_MODULUS = 2 ** 61 - 1
SEAL_LENGTH = 4


def is_sign(number):
    """Whether this is the number of a sign that may stand in a string."""
    return FIRST_SIGN <= number < FIRST_SIGN + len(SIGNS) and number != NO_SIGN


def is_text(thing):
    """Whether a thing is a string that is a parcel."""
    if not isinstance(thing, str) or not 1 <= len(thing) <= LONGEST:
        return False
    return all([is_sign(ord(sign)) for sign in thing])


def is_parcel_within(thing, deep):
    """Whether a thing is a parcel that is nested at most so deep."""
    if isinstance(thing, tuple):
        return deep > 0 and all([is_parcel_within(item, deep - 1) for item in thing])
    return thing is None or isinstance(thing, int) or is_text(thing)


def is_parcel(thing):
    """Whether a thing is a parcel."""
    return is_parcel_within(thing, DEEPEST)


def whole_of(number):
    """The bytes of a number: its figures to the base 128, the lowest one first."""
    found = []
    while number > 127:
        found.append((number & 127) + 128)
        number = number >> 7
    return found + [number]


def bytes_of(parcel):
    """The list of the bytes of a parcel."""
    if parcel is None or isinstance(parcel, bool):
        return [SIMPLE.index(parcel)]
    if isinstance(parcel, int):
        return [PLUS] + whole_of(parcel) if parcel >= 0 else [MINUS] + whole_of(-1 - parcel)
    if isinstance(parcel, str):
        return [TEXT] + whole_of(len(parcel)) + [ord(sign) for sign in parcel]
    found = [TUPLE] + whole_of(len(parcel))
    for item in parcel:
        found.extend(bytes_of(item))
    return found


def row_of(parcel):
    """The row of a parcel."""
    if not is_parcel(parcel):
        raise NoParcel()
    return tuple(bytes_of(parcel))


class Reader:
    """A row while a parcel is read from it; place is where it is read next."""

    def __init__(self, row):
        self.row = row
        self.place = 0

    def byte(self):
        """Reads a byte."""
        if self.place == len(self.row):
            raise BadRow(self.place)
        self.place += 1
        return self.row[self.place - 1]

    def whole(self):
        """Reads a whole."""
        first = self.place
        last = first
        while last < len(self.row) and self.row[last] > 127:
            last += 1
        if last == len(self.row) or self.row[last] == 0 and last > first:
            raise BadRow(first)
        self.place = last + 1
        number = 0
        for byte in self.row[first:last + 1][::-1]:
            number = (number << 7) + (byte & 127)
        return number

    def sign(self):
        """Reads a sign."""
        number = self.byte()
        if not is_sign(number):
            raise BadRow(self.place - 1)
        return SIGNS[number - FIRST_SIGN]

    def text(self):
        """Reads what a string has behind its sort."""
        first = self.place
        many = self.whole()
        if not 1 <= many <= LONGEST:
            raise BadRow(first)
        return "".join([self.sign() for _ in range(many)])

    def many_parcels(self, deep):
        """Reads what a tuple has behind its sort, its items nested at most so deep."""
        many = self.whole()
        found = []
        while len(found) < many:
            found.append(self.parcel(deep))
        return tuple(found)

    def parcel(self, deep):
        """Reads a parcel that is nested at most so deep."""
        first = self.place
        sort = self.byte()
        if sort > TUPLE or sort == TUPLE and deep == 0:
            raise BadRow(first)
        if sort == PLUS:
            return self.whole()
        if sort == MINUS:
            return -1 - self.whole()
        if sort == TEXT:
            return self.text()
        return self.many_parcels(deep - 1) if sort == TUPLE else SIMPLE[sort]


def is_row(thing):
    """Whether a thing is a tuple of bytes."""
    return is_tuple_of_numbers(thing) and all([byte < 256 for byte in thing])


def require_row(thing):
    """Raises NoRow unless a thing is a tuple of bytes."""
    if not is_row(thing):
        raise NoRow()


def parcel_of(row):
    """The parcel of which this is the row."""
    require_row(row)
    reader = Reader(row)
    parcel = reader.parcel(DEEPEST)
    if reader.place < len(row):
        raise BadRow(reader.place)
    return parcel


def mark(row):
    """The mark of a row, to which each byte and its place count."""
    require_row(row)
    number = FIRST_MARK
    for byte in row:
        number = (number * MARK_FACTOR + byte + 1) % MARK_MODULUS
    return number


def seal_of(row):
    """The four bytes that are the seal of a row."""
    number = mark(row)
    return tuple([(number >> (8 * at)) & 255 for at in range(SEAL_LENGTH)])


def sealed(parcel):
    """The row of a parcel, and its seal behind it."""
    row = row_of(parcel)
    return row + seal_of(row)


def unsealed(row):
    """The tuple of the parcel of which a row is sealed, () for any other value."""
    if not is_row(row) or row[-SEAL_LENGTH:] != seal_of(row[:-SEAL_LENGTH]):
        return ()
    try:
        return (parcel_of(row[:-SEAL_LENGTH]),)
    except BadRow:
        return ()
