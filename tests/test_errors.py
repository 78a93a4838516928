"""The error classes of the interface, surelyorders/errors.py."""

import inspect
import unittest

from surelyorders import errors

# Each class, with the names of its fields and the class that it derives from.
CLASSES = {
    "OrderError": ((), "ValueError"),
    "BadText": (("line",), "OrderError"),
    "BadComp": (("error",), "OrderError"),
    "BadVerdict": (("verdict",), "OrderError"),
    "BadDrop": (("state",), "OrderError"),
    "BadWord": (("word",), "OrderError"),
    "BadList": (("words",), "OrderError"),
    "Unlike": ((), "OrderError"),
    "TooGreat": ((), "OrderError"),
    "Faulty": (("fault",), "OrderError"),
    "NotSorted": (("words",), "OrderError"),
    "Busy": ((), "OrderError"),
    "TooManyEdits": ((), "OrderError"),
    "NothingToUndo": ((), "OrderError"),
    "NothingToRedo": ((), "OrderError"),
    "BadEdits": ((), "OrderError"),
    "BadEdit": (("index",), "OrderError"),
    "Rejected": (("index",), "OrderError"),
    "NoState": (("state",), "LookupError"),
    "NoColumn": (("column",), "LookupError"),
    "NoVersion": (("version",), "LookupError"),
}


def nested(levels):
    value = []
    for _ in range(levels):
        value = [value]
    return value


def many_values():
    """Values of each kind that may be any value; made anew, so that none is shared."""
    return [
        None, True, False, 0, 1, -1, 10 ** 59, -(10 ** 60 - 1), 10 ** 5000,
        "", "a", "line\nfeed", "x" * 3500, (), (1, 2), ("", "a"), (None, "comp"), [], [1, [2]],
        {}, {"a": [1], (1, 2): None}, nested(20), tuple(range(6000)), ("a", "b") * 20000,
    ]


class ErrorsTest(unittest.TestCase):
    def made(self, name):
        """One object of the class, with a value for each of its fields."""
        fields, _ = CLASSES[name]
        return getattr(errors, name)(*[7 for _ in fields])

    def test_the_list_is_whole(self):
        found = [name for name, value in vars(errors).items() if inspect.isclass(value)]
        self.assertEqual(sorted(found), sorted(CLASSES))

    def test_defined_in_the_file(self):
        for name in CLASSES:
            self.assertEqual(getattr(errors, name).__module__, "surelyorders.errors")

    def test_base(self):
        for name, (_, base) in CLASSES.items():
            with self.subTest(name=name):
                expected = {"ValueError": ValueError, "LookupError": LookupError}.get(base)
                if expected is None:
                    expected = errors.OrderError
                self.assertEqual(getattr(errors, name).__bases__, (expected,))

    def test_value_error_or_lookup_error_and_never_both(self):
        for name, (_, base) in CLASSES.items():
            with self.subTest(name=name):
                looked_up = base == "LookupError"
                error = self.made(name)
                self.assertIs(isinstance(error, LookupError), looked_up)
                self.assertIs(isinstance(error, ValueError), not looked_up)
                self.assertIs(isinstance(error, errors.OrderError), not looked_up)

    def test_no_other_kinship(self):
        for name, (_, base) in CLASSES.items():
            for other in CLASSES:
                with self.subTest(name=name, other=other):
                    akin = other == name or other == base
                    self.assertIs(isinstance(self.made(name), getattr(errors, other)), akin)

    def test_no_narrower_error_of_python(self):
        for name in CLASSES:
            with self.subTest(name=name):
                self.assertNotIsInstance(self.made(name), (KeyError, IndexError, UnicodeError))

    def test_the_very_objects_by_position(self):
        for name, (fields, _) in CLASSES.items():
            if not fields:
                continue
            for value in many_values():
                error = getattr(errors, name)(value)
                self.assertIs(getattr(error, fields[0]), value)
                self.assertEqual(list(vars(error)), list(fields))

    def test_the_very_objects_by_name(self):
        for name, (fields, _) in CLASSES.items():
            if not fields:
                continue
            for value in many_values():
                error = getattr(errors, name)(**{fields[0]: value})
                self.assertIs(getattr(error, fields[0]), value)

    def test_a_field_is_not_a_copy(self):
        words = ["a"]
        error = errors.BadList(words)
        words.append("b")
        self.assertEqual(error.words, ["a", "b"])

    def test_objects_do_not_share_their_fields(self):
        first, second = errors.NoState(1), errors.NoState(2)
        self.assertEqual((first.state, second.state), (1, 2))

    def test_without_fields(self):
        for name, (fields, _) in CLASSES.items():
            if not fields:
                self.assertIs(type(getattr(errors, name)()), getattr(errors, name))

    def test_raised_and_caught(self):
        for name, (fields, base) in CLASSES.items():
            with self.subTest(name=name):
                root = LookupError if base == "LookupError" else ValueError
                with self.assertRaises(root) as caught:
                    raise self.made(name)
                self.assertIs(type(caught.exception), getattr(errors, name))
                for field in fields:
                    self.assertEqual(getattr(caught.exception, field), 7)


if __name__ == "__main__":
    unittest.main()
