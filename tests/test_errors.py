"""The errors: their classes, their fields, raising and catching."""

import unittest

from leastroads import errors
from leastroads.errors import RoadError
from tests.things import odd_things

FIELDS = {
    "BadWeb": "part", "NoHouse": None, "NoTie": None, "NoTree": None, "NotAsleep": None,
    "NoWord": None, "NoGlass": None, "NoMove": None, "NoChoices": "index", "NoValues": None,
    "Wanted": None, "NoWay": None, "BadRecord": "index", "NoMoment": None, "NoNumber": None,
    "NoState": None, "NoParcel": None, "NoRow": None, "BadRow": "place", "NoCut": None,
    "NoBlocks": None, "NoDeed": None, "NoPast": None, "NoDisk": None, "OtherHouse": None,
    "BadDeeds": "index", "BadText": "line", "BadMoves": "index", "NoLine": None, "NoName": "name",
}


def made(name, thing):
    """An error of this name: with the thing if it has a field, else with nothing."""
    kind = getattr(errors, name)
    return kind() if FIELDS[name] is None else kind(thing)


class Classes(unittest.TestCase):
    def test_there_are_thirty(self):
        self.assertEqual(len(FIELDS), 30)

    def test_road_error_derives_directly_from_value_error(self):
        self.assertEqual(RoadError.__bases__, (ValueError,))

    def test_each_derives_directly_from_road_error_alone(self):
        for name in FIELDS:
            with self.subTest(name):
                self.assertEqual(getattr(errors, name).__bases__, (RoadError,))

    def test_each_is_defined_under_its_own_name_in_errors(self):
        for name in list(FIELDS) + ["RoadError"]:
            with self.subTest(name):
                kind = getattr(errors, name)
                self.assertEqual((kind.__name__, kind.__module__), (name, "leastroads.errors"))

    def test_none_is_another_one_or_another_error_of_python(self):
        for name in FIELDS:
            kind = getattr(errors, name)
            for other in FIELDS:
                with self.subTest(name, other=other):
                    self.assertEqual(issubclass(kind, getattr(errors, other)), name == other)
            for other in (LookupError, KeyError, IndexError, ArithmeticError, TypeError, RuntimeError):
                with self.subTest(name, other=other):
                    self.assertFalse(issubclass(kind, other))


class Fields(unittest.TestCase):
    def test_the_very_thing_is_kept(self):
        for name, field in FIELDS.items():
            for thing in odd_things() + [0, 7, "some", (1, (2, [3]))]:
                with self.subTest(name):
                    error = made(name, thing)
                    if field is not None:
                        self.assertIs(getattr(error, field), thing)

    def test_the_thing_is_not_changed(self):
        for name in FIELDS:
            for thing in odd_things():
                ahead = repr(thing)
                made(name, thing)
                self.assertEqual(repr(thing), ahead)

    def test_a_list_is_kept_itself_and_not_as_a_copy(self):
        rows = [1]
        for name, field in FIELDS.items():
            error = made(name, rows)
            if field is not None:
                rows.append(name)
                self.assertIs(getattr(error, field), rows)

    def test_two_errors_of_a_class_keep_what_is_their_own(self):
        for name, field in FIELDS.items():
            if field is not None:
                one, other = made(name, "one"), made(name, "other")
                self.assertEqual((getattr(one, field), getattr(other, field)), ("one", "other"))


class Raising(unittest.TestCase):
    def caught_as(self, error, kinds):
        for kind in kinds:
            try:
                raise error
            except kind as caught:
                self.assertIs(caught, error)

    def test_each_is_caught_by_its_own_class_and_by_those_above(self):
        for name in FIELDS:
            for thing in [None, True, -1, [1, [2]]]:
                with self.subTest(name):
                    own = getattr(errors, name)
                    self.caught_as(made(name, thing), (own, RoadError, ValueError, Exception))

    def test_none_is_caught_by_another_class(self):
        for name in FIELDS:
            others = tuple(getattr(errors, other) for other in FIELDS if other != name)
            with self.subTest(name):
                try:
                    raise made(name, "odd")
                except others:
                    self.fail("caught by another class")
                except RoadError as caught:
                    self.assertIs(type(caught), getattr(errors, name))

    def test_the_field_is_there_when_it_is_caught(self):
        for name, field in FIELDS.items():
            if field is not None:
                thing = {"deep": [(None, [True])]}
                with self.assertRaises(RoadError) as caught:
                    raise made(name, thing)
                self.assertIs(getattr(caught.exception, field), thing)


if __name__ == "__main__":
    unittest.main()
