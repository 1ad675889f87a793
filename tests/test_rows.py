"""Rows: parcels there and back, where a row goes wrong, marks, seals."""

import unittest
from random import Random

from leastroads.errors import BadRow, NoParcel, NoRow
from leastroads.rows import is_parcel, mark, parcel_of, row_of, sealed, unsealed
from leastroads.webs import Web
from tests.things import Exactly, nested, odd_things

SIGNS = [chr(number) for number in range(32, 127) if number != 37]
PLAIN = [
    None, True, False, 0, 1, 127, 128, 129, 255, 256, 300, 16383, 16384, 2 ** 63, 2 ** 64, 10 ** 19, 10 ** 4000,
    -1, -2, -127, -128, -129, -130, -16384, -16385, -2 ** 64, -10 ** 4000, "a", " ", "~", "&", "$", "0", "\\", "\"",
    "x" * 20, "".join(SIGNS[:20]), "".join(SIGNS[-20:]), (), ((),), (None,), (0, -1), ("a", ("b", ("c", ()))),
    tuple(range(-130, 130)), (True,) * 127, (False,) * 128, ((),) * 300,
]
NO_PARCELS = [
    "", "%", "a%", "%" * 20, "x" * 21, "\n", "a\nb", "\t", "\x1f", "\x7f", "\x80", "\u00e9", "\u20ac", [], [1], {},
    b"", b"a", range(2), Web(1, ()), len, int, ([],), (1, (2, [3])), ("",), (("%",),), ((), b""), ("x" * 21,),
]


def tuples_deep(many):
    """A tuple of tuples, nested just so deep."""
    return nested(many, lambda thing: () if thing is None else (thing,))


class Wrong(Exception):
    """Carries the first place at which a row goes wrong."""


def slow_whole(row, at):
    """The number at a place, and the place behind it."""
    size = 0
    while at + size < len(row) and row[at + size] & 128:
        size += 1
    figures = row[at:at + size + 1]
    if len(figures) == size or (size and figures[-1] == 0):
        raise Wrong(at)
    return sum((figure % 128) * 128 ** power for power, figure in enumerate(figures)), at + size + 1


def slow_parcel(row, at, depth):
    """The parcel at a place that stands in so many tuples, and the place behind it."""
    if at >= len(row):
        raise Wrong(len(row))
    sort = row[at]
    if sort <= 2:
        return {0: None, 1: False, 2: True}[sort], at + 1
    if sort > 6 or (sort == 6 and depth == 20):
        raise Wrong(at)
    number, behind = slow_whole(row, at + 1)
    if sort in (3, 4):
        return (number if sort == 3 else -1 - number), behind
    if sort == 5:
        if number not in range(1, 21):
            raise Wrong(at + 1)
        for place in range(behind, behind + number):
            if place == len(row) or chr(row[place]) not in SIGNS:
                raise Wrong(place)
        return "".join(map(chr, row[behind:behind + number])), behind + number
    items = []
    while len(items) < number:
        item, behind = slow_parcel(row, behind, depth + 1)
        items.append(item)
    return tuple(items), behind


def slow_read(row):
    """The pair (True, parcel) or (False, place)."""
    try:
        parcel, behind = slow_parcel(row, 0, 0)
    except Wrong as wrong:
        return False, wrong.args[0]
    return (True, parcel) if behind == len(row) else (False, behind)


def slow_mark(row):
    found = 1
    for byte in row:
        found = (1000003 * found + byte + 1) % (2 ** 61 - 1)
    return found


def slow_seal(row):
    return tuple((slow_mark(row) % 2 ** 32).to_bytes(4, "little"))


def parcel_by_chance(chance, deep):
    if deep and chance.random() < 0.5:
        return tuple(parcel_by_chance(chance, deep - 1) for _ in range(chance.randrange(5)))
    text = "".join(chance.choice(SIGNS) for _ in range(chance.randrange(1, 21)))
    return chance.choice((None, True, False, text, chance.randrange(-300, 300), chance.randrange(-2 ** 70, 2 ** 70)))


class Rows(unittest.TestCase, Exactly):
    def there_and_back(self, parcel):
        self.exactly(is_parcel(parcel), True)
        row = row_of(parcel)
        self.assertIs(type(row), tuple)
        self.assertTrue(all(type(byte) is int and 0 <= byte < 256 for byte in row))
        self.assertEqual(slow_read(row), (True, parcel))
        back = parcel_of(row)
        self.assertEqual(back, parcel)
        self.same_kinds(back, parcel)
        self.assertEqual(row_of(back), row)
        return row

    def same_kinds(self, one, other):
        # repr can't be asked of integers of thousands of figures.
        self.assertIs(type(one), type(other))
        if type(one) is tuple:
            for pair in zip(one, other):
                self.same_kinds(*pair)

    def test_the_example(self):
        self.exactly(row_of((True, "a", 300)), (6, 3, 2, 5, 1, 97, 3, 172, 2))
        self.exactly(parcel_of((6, 3, 2, 5, 1, 97, 3, 172, 2)), (True, "a", 300))

    def test_rows_by_hand(self):
        for parcel, row in (
                (None, (0,)), (False, (1,)), (True, (2,)), (0, (3, 0)), (1, (3, 1)), (127, (3, 127)),
                (128, (3, 128, 1)), (300, (3, 172, 2)), (16384, (3, 128, 128, 1)), (-1, (4, 0)), (-2, (4, 1)),
                (-128, (4, 127)), (-129, (4, 128, 1)), (-301, (4, 172, 2)), (2 ** 64, (3,) + (128,) * 9 + (2,)),
                ("a", (5, 1, 97)), (" ~", (5, 2, 32, 126)), ("x" * 20, (5, 20) + (120,) * 20), ((), (6, 0)),
                (((),), (6, 1, 6, 0)), ((None, (True,), -1), (6, 3, 0, 6, 1, 2, 4, 0)),
                ((None,) * 128, (6, 128, 1) + (0,) * 128)):
            self.exactly(row_of(parcel), row)
            self.exactly(parcel_of(row), parcel)

    def test_each_sort(self):
        for parcel in PLAIN:
            self.there_and_back(parcel)
        self.there_and_back(tuple(PLAIN))

    def test_each_sign(self):
        for number in range(0, 300):
            right = 32 <= number <= 126 and number != 37
            for text in (chr(number), "ab" + chr(number), chr(number) + "ab"):
                self.exactly(is_parcel(text), right)
                if right:
                    self.there_and_back(text)
                else:
                    self.refused(NoParcel, row_of, text)

    def test_depth(self):
        for many in range(1, 21):
            self.there_and_back(tuples_deep(many))
            self.there_and_back((1,) * 3 + tuples_deep(many))
        self.there_and_back(nested(20, lambda thing: (thing,)))
        for many in (21, 22, 40):
            self.exactly(is_parcel(tuples_deep(many)), False)
            self.refused(NoParcel, row_of, tuples_deep(many))
            self.refused(NoParcel, sealed, ((), tuples_deep(many - 1)))

    def test_parcels_by_chance(self):
        chance = Random(1)
        rows = {}
        for _ in range(1500):
            parcel = parcel_by_chance(chance, chance.randrange(6))
            row = self.there_and_back(parcel)
            # One row is that of one parcel; True and 1 differ, as repr tells.
            self.assertEqual(rows.setdefault(row, repr(parcel)), repr(parcel))

    def test_no_parcels(self):
        for thing in NO_PARCELS:
            self.exactly(is_parcel(thing), False)
            self.exactly(is_parcel((0, thing)), False)
            self.refused(NoParcel, row_of, thing)
            self.refused(NoParcel, row_of, (0, thing))
            self.refused(NoParcel, sealed, thing)
            self.refused(NoParcel, sealed, ((thing,), 0))

    def test_odd_things(self):
        for thing in odd_things():
            right = is_parcel(thing)
            self.assertIn(right, (True, False))
            if right:
                self.there_and_back(thing)
                self.assertEqual(sealed(thing)[:-4], row_of(thing))
            else:
                self.refused(NoParcel, row_of, thing)
                self.refused(NoParcel, sealed, thing)
        kinds = (bool, int, str, tuple, type(None))
        self.assertFalse(any(is_parcel(thing) for thing in odd_things() if not isinstance(thing, kinds)))

    def test_long_tuples(self):
        self.there_and_back((0,) * 19999)
        self.there_and_back(((), None) * 9999)
        self.exactly(is_parcel((0,) * 19990 + ("",)), False)


class Reading(unittest.TestCase, Exactly):
    def bad(self, row, place):
        self.exactly(self.refused(BadRow, parcel_of, row).place, place)
        self.exactly(unsealed(row + slow_seal(row)), ())

    def test_no_row(self):
        for thing in odd_things() + [
                [], [0], None, "0", b"\x00", (256,), (-1,), (0, 256), (True,), (False, 0), (3, True), ("0",), (None,),
                ((0,),), (3, 10 ** 20), {0: 0}]:
            if thing not in ((0, 1), (0, 1, 5)):
                self.refused(NoRow, parcel_of, thing)
                self.refused(NoRow, mark, thing)
                self.exactly(unsealed(thing), ())

    def test_a_byte_of_no_sort(self):
        for byte in (7, 8, 37, 127, 128, 255):
            self.bad((byte,), 0)
            self.bad((byte, 0, 0), 0)
            self.bad((6, 2, 0, byte), 3)
            self.bad((6, 1, 6, 1, byte), 4)

    def test_nested_too_deep(self):
        row = (6, 1) * 19
        self.exactly(parcel_of(row + (6, 0)), tuples_deep(20))
        self.bad(row + (6, 1, 6, 0), 40)
        self.bad(row + (6, 2, 0, 6), 41)
        self.exactly(parcel_of(row + (6, 1, 3, 5)), nested(20, lambda thing: (5,) if thing is None else (thing,)))
        self.bad((6, 1) * 40, 40)
        self.bad((6, 1) * 20, 40)
        self.bad((6, 1) * 5000, 40)

    def test_a_whole_that_the_row_ends_amid(self):
        for row in ((3, 128), (3, 255, 255, 128), (4, 200), (5, 130), (6, 129)):
            self.bad(row, 1)
            self.bad((6, 2, 1) + row, 4)

    def test_a_whole_with_a_needless_0(self):
        for row in ((3, 128, 0), (3, 255, 255, 0), (4, 128, 0), (5, 129, 0, 97), (6, 128, 0), (3, 128, 128, 128, 0)):
            self.bad(row, 1)
            self.bad(row + (7, 7), 1)
            self.bad((6, 2, 1) + row, 4)
        self.exactly(parcel_of((3, 128, 1)), 128)
        self.exactly(parcel_of((3, 0)), 0)
        self.bad((3, 0, 0), 2)

    def test_strings_too_long_or_without_a_sign(self):
        for row in ((5, 0), (5, 21) + (97,) * 21, (5, 21), (5, 127), (5, 148, 1), (5, 255, 255, 3)):
            self.bad(row, 1)
            self.bad((6, 1) + row, 3)
        self.exactly(parcel_of((5, 20) + (97,) * 20), "a" * 20)

    def test_a_byte_that_is_no_sign(self):
        for byte in (0, 10, 31, 37, 127, 128, 255):
            self.bad((5, 1, byte), 2)
            self.bad((5, 3, 97, byte, 97), 3)
            self.bad((5, 3, 97, 97, byte), 4)
            # The first of two wrong places is told.
            self.bad((5, 3, byte), 2)
            self.bad((5, 9, 97, byte, byte), 3)
        for byte in (32, 36, 38, 126):
            self.exactly(parcel_of((5, 1, byte)), chr(byte))

    def test_something_lacks(self):
        self.bad((), 0)
        for row in ((3,), (4,), (5,), (6,), (5, 1), (5, 3, 97, 97), (6, 1), (6, 2, 0), (6, 1, 6, 1), (6, 1, 3)):
            self.bad(row, len(row))
        self.bad((6,) + (255,) * 20 + (1,), 22)
        self.bad((6, 255, 255, 255, 255, 127) + (0,) * 300, 306)

    def test_something_behind(self):
        for row in ((0,), (1,), (3, 5), (4, 128, 1), (5, 1, 97), (6, 0), (6, 2, 0, 6, 0)):
            for more in ((0,), (7,), (255, 255), row):
                self.bad(row + more, len(row))

    def test_no_beginning_of_a_row_is_one(self):
        chance = Random(2)
        for _ in range(200):
            row = row_of(parcel_by_chance(chance, 4))
            for many in range(len(row)):
                self.exactly(slow_read(row[:many])[0], False)
                self.bad(row[:many], slow_read(row[:many])[1])

    def test_spoilt_rows_against_a_slow_reading(self):
        chance = Random(3)
        read = [0, 0]
        for _ in range(6000):
            row = list(row_of(parcel_by_chance(chance, chance.randrange(5))))
            at = chance.randrange(len(row))
            byte = chance.choice((0, 1, 2, 3, 4, 5, 6, 7, 37, 127, 128, 255, chance.randrange(256)))
            kind = chance.randrange(3)
            if kind == 0:
                row[at] = byte
            elif kind == 1:
                row.insert(at, byte)
            else:
                del row[at]
            self.read_alike(tuple(row), read)
        for _ in range(6000):
            row = tuple(
                chance.choice((0, 2, 3, 4, 5, 6, 6, 1, 2, 97, 128, chance.randrange(256)))
                for _ in range(chance.randrange(12)))
            self.read_alike(row, read)
        self.assertGreater(min(read), 500)

    def read_alike(self, row, read):
        right, told = slow_read(row)
        read[right] += 1
        if right:
            self.exactly(parcel_of(row), told)
            self.exactly(row_of(told), row)
            self.exactly(unsealed(row + slow_seal(row)), (told,))
        else:
            self.bad(row, told)

    def test_long_rows(self):
        row = (3,) + (255,) * 19000 + (1,)
        self.assertEqual(row_of(parcel_of(row)), row)
        self.exactly(self.refused(BadRow, parcel_of, (3,) + (128,) * 19000).place, 1)
        self.exactly(len(parcel_of((6, 128, 128, 1) + (0,) * 16384)), 16384)


class Marks(unittest.TestCase, Exactly):
    def test_by_hand(self):
        self.exactly(mark(()), 1)
        self.exactly(mark((0,)), 1000004)
        self.exactly(mark((255,)), 1000259)
        self.exactly(mark((0, 0)), 1000004 * 1000003 + 1)
        self.exactly(mark((1, 2)), 1000005 * 1000003 + 3)

    def test_modulo(self):
        chance = Random(4)
        for many in list(range(40)) + [1000, 19999]:
            row = tuple(chance.randrange(256) for _ in range(many))
            self.exactly(mark(row), slow_mark(row))
            self.assertLess(mark(row), 2 ** 61 - 1)

    def test_sealed(self):
        chance = Random(5)
        for parcel in PLAIN + [parcel_by_chance(chance, 3) for _ in range(300)]:
            row = row_of(parcel)
            number = mark(row) % 2 ** 32
            seal = (number % 256, number // 256 % 256, number // 65536 % 256, number // 16777216)
            self.exactly(sealed(parcel), row + seal)
            back = unsealed(sealed(parcel))
            self.assertIs(type(back), tuple)
            self.assertEqual((len(back), row_of(back[0])), (1, row))

    def test_the_parcel_may_be_nothing(self):
        for parcel in (None, False, 0, ()):
            self.exactly(unsealed(sealed(parcel)), (parcel,))


class Unsealed(unittest.TestCase, Exactly):
    def test_odd_things(self):
        for thing in odd_things() + [(), [], list(sealed(7)), None, "", (0,), (0, 0, 0, 0), (1, 2, 3)]:
            self.exactly(unsealed(thing), ())

    def test_a_flag_in_a_row(self):
        row = sealed(0)
        self.exactly(row[:2], (3, 0))
        self.exactly(unsealed((3, False) + row[2:]), ())
        row = sealed(1)
        self.exactly(unsealed((3, True) + row[2:]), ())

    def test_a_spoilt_row(self):
        chance = Random(6)
        for _ in range(60):
            row = sealed(parcel_by_chance(chance, 3))
            for at in range(len(row)):
                byte = chance.choice([byte for byte in range(256) if byte != row[at]])
                self.exactly(unsealed(row[:at] + (byte,) + row[at + 1:]), ())
                self.exactly(unsealed(row[:at] + row[at + 1:]), ())
                self.exactly(unsealed(row[:at]), ())
            self.exactly(unsealed(row + (0,)), ())
            self.exactly(unsealed(list(row)), ())

    def test_a_right_seal_of_what_is_no_row_of_a_parcel(self):
        for row in ((), (7,), (3,), (3, 128, 0), (0, 0), (5, 0), (6, 1) * 21, (5, 1, 37)):
            self.exactly(unsealed(row + slow_seal(row)), ())

    def test_a_seal_of_the_bytes_the_other_way_round(self):
        row = sealed(("a", 5))
        self.assertNotEqual(row[-4:], row[-4:][::-1])
        self.exactly(unsealed(row[:-4] + row[-4:][::-1]), ())

    def test_nothing_that_is_passed_is_changed(self):
        parcel, rows = (1, ("a",)), [sealed(5), [1, 2]]
        ahead = repr((parcel, rows))
        for _ in range(2):
            self.assertEqual(sealed(parcel), sealed(parcel))
            self.assertEqual([unsealed(row) for row in rows], [(5,), ()])
            self.assertEqual(mark(rows[0]), mark(rows[0]))
        self.assertEqual(repr((parcel, rows)), ahead)


if __name__ == "__main__":
    unittest.main()
