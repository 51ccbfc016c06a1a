import unittest

from ledlevels import errors
from tests.helping import ANY_VALUES

PLAIN = ["BadFraction", "BadDeed", "NothingDone", "TooMany", "TooLate", "Endless", "Flat"]
TOLD = {"BadText": "place", "NotInside": "number", "NoWay": "slope", "NoAnswer": "lap", "BadName": "name",
        "Clash": "names"}
LACKING = {"UnknownName": "name", "NoMoment": "number"}


class Errors(unittest.TestCase):
    def test_examples(self):
        from ledlevels.errors import BadName, Clash, NoWay, NotInside
        self.assertEqual(
            [NotInside(1).number, NoWay(((1, 2),)).slope, Clash(("a", "b")).names, BadName(["a", None]).name],
            [1, ((1, 2),), ("a", "b"), ["a", None]])

    def test_what_is_beneath_what(self):
        self.assertEqual(errors.LevelError.__bases__, (ValueError,))
        self.assertEqual(errors.Missing.__bases__, (LookupError,))
        for name in PLAIN + list(TOLD):
            self.assertEqual(getattr(errors, name).__bases__, (errors.LevelError,), name)
        for name in LACKING:
            self.assertEqual(getattr(errors, name).__bases__, (errors.Missing,), name)
        for name in PLAIN + list(TOLD) + list(LACKING) + ["LevelError", "Missing"]:
            self.assertEqual(getattr(errors, name).__module__, "ledlevels.errors")

    def test_plain_errors_take_nothing(self):
        for name in PLAIN:
            with self.assertRaises(getattr(errors, name)) as caught:
                raise getattr(errors, name)()
            self.assertEqual(vars(caught.exception), {})

    def test_attributes_for_any_value(self):
        for name, attribute in list(TOLD.items()) + list(LACKING.items()):
            for value in ANY_VALUES:
                error = getattr(errors, name)(value)
                self.assertEqual(list(vars(error)), [attribute])
                kept = getattr(error, attribute)
                self.assertEqual(repr(kept), repr(value))
                self.assertIs(type(kept), type(value))

    def test_lists_stay_lists_and_true_stays_true(self):
        kept = errors.BadName([True, 1, (False, [0]), {True: [1], "a": (None, [])}]).name
        self.assertEqual(repr(kept), "[True, 1, (False, [0]), {True: [1], 'a': (None, [])}]")

    def test_what_is_changed_behind_changes_no_error(self):
        for name, attribute in list(TOLD.items()) + list(LACKING.items()):
            inner, table, within = [1], {"a": [2]}, {"k": ([3], {"l": [4]})}
            value = [inner, (inner, table), within]
            error = getattr(errors, name)(value)
            before = repr(getattr(error, attribute))
            inner.append(5)
            table["a"].append(6)
            table["b"] = 7
            within["k"][0].append(8)
            within["k"][1]["l"][0] = 9
            value.append(10)
            self.assertEqual(repr(getattr(error, attribute)), before)
            self.assertNotIn("10", before)

    def test_copies_are_not_one(self):
        inner = []
        kept = errors.Clash([inner, inner]).names
        kept[0].append(1)
        self.assertEqual(kept, [[1], []])

    def test_the_error_keeps_nothing_elsewhere(self):
        value = ["a"]
        for name in list(TOLD) + list(LACKING):
            error = getattr(errors, name)(value)
            self.assertFalse(any(part is value for part in error.args))
            self.assertIsInstance(str(error), str)

    def test_dicts_with_tuples_as_keys(self):
        value = {(1, (2, (3,))): [1], None: {}, 5: ()}
        kept = errors.NoMoment(value).number
        self.assertEqual(kept, value)
        value[(1, (2, (3,)))].append(2)
        self.assertEqual(kept[(1, (2, (3,)))], [1])


if __name__ == "__main__":
    unittest.main()
