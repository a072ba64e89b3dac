"""The errors of the interface: their places, arguments and fields."""

import inspect
import unittest

from meshmend import errors

FIELDS = {
    "NotOne": ("number",),
    "TooMany": ("number",),
    "NoTrim": ("lot",),
    "NoPaper": ("word", "number"),
    "NotEven": ("knot",),
    "NoRing": ("value",),
    "BadExchange": ("number",),
    "NoEdge": (),
    "BadSheet": ("word",),
    "BadTear": ("number",),
    "NoBar": ("bar",),
    "BadBars": ("number",),
    "BadTwine": ("word",),
    "BadPlan": ("number", "word"),
    "Full": (),
    "NothingDone": (),
    "NothingUndone": (),
    "NoListener": ("number",),
    "BadText": ("line", "sign"),
}

DEEP = 0
for _ in range(12):
    DEEP = [DEEP]

VALUES = (
    0, -1, 10 ** 40, True, False, None, "", "deep\n", (), ((1, 1), (2, 2)),
    [], [[1], (None,)], {}, {"a": (1,)}, DEEP, "{} %s", errors.Full(),
)


def classes_of(module):
    return {
        name: item for name, item in vars(module).items() if inspect.isclass(item)
    }


def pairings(fields):
    """Sets of arguments in which each value stands once at each place."""
    for start in range(len(VALUES)):
        yield [VALUES[(start + 5 * k) % len(VALUES)] for k in range(len(fields))]


class ErrorsTest(unittest.TestCase):
    def assert_keeps(self, error, fields, values):
        for field, value in zip(fields, values):
            self.assertIs(getattr(error, field), value)

    def test_the_module_defines_just_these_classes(self):
        self.assertEqual(set(classes_of(errors)), set(FIELDS) | {"NetError"})
        for item in classes_of(errors).values():
            self.assertEqual(item.__module__, "meshmend.errors")

    def test_net_error_stands_directly_under_value_error(self):
        self.assertEqual(errors.NetError.__bases__, (ValueError,))

    def test_each_error_stands_directly_under_net_error(self):
        for name in FIELDS:
            with self.subTest(name=name):
                self.assertEqual(getattr(errors, name).__bases__, (errors.NetError,))

    def test_no_error_catches_another_one(self):
        for name in FIELDS:
            for other in FIELDS:
                with self.subTest(name=name, other=other):
                    under = issubclass(getattr(errors, name), getattr(errors, other))
                    self.assertEqual(under, name == other)

    def test_arguments_by_position_are_kept_as_they_are(self):
        for name, fields in FIELDS.items():
            for values in pairings(fields):
                with self.subTest(name=name, values=values):
                    error = getattr(errors, name)(*values)
                    self.assert_keeps(error, fields, values)

    def test_arguments_by_name_are_kept_as_they_are(self):
        for name, fields in FIELDS.items():
            for values in pairings(fields):
                with self.subTest(name=name, values=values):
                    named = dict(reversed(list(zip(fields, values))))
                    error = getattr(errors, name)(**named)
                    self.assert_keeps(error, fields, values)

    def test_arguments_are_not_changed(self):
        for name, fields in FIELDS.items():
            lists = [[[k], {"k": k}] for k in range(len(fields))]
            getattr(errors, name)(*lists)
            self.assertEqual(lists, [[[k], {"k": k}] for k in range(len(fields))])

    def test_a_wrong_number_of_arguments_is_refused(self):
        for name, fields in FIELDS.items():
            with self.subTest(name=name):
                with self.assertRaises(TypeError):
                    getattr(errors, name)(*[0] * (len(fields) + 1))
                if fields:
                    with self.assertRaises(TypeError):
                        getattr(errors, name)(*[0] * (len(fields) - 1))

    def test_errors_are_raised_and_caught_with_their_fields(self):
        for name, fields in FIELDS.items():
            values = [[k] for k in range(len(fields))]
            for caught in (getattr(errors, name), errors.NetError, ValueError):
                with self.subTest(name=name, caught=caught):
                    with self.assertRaises(caught) as seen:
                        raise getattr(errors, name)(*values)
                    self.assert_keeps(seen.exception, fields, values)

    def test_each_error_has_a_message(self):
        for name, fields in FIELDS.items():
            self.assertNotEqual(str(getattr(errors, name)(*[0] * len(fields))), "")

    def test_two_errors_keep_their_own_values(self):
        one, other = errors.BadPlan(1, "bar"), errors.BadPlan(None, "plan")
        self.assertEqual((one.number, one.word), (1, "bar"))
        self.assertEqual((other.number, other.word), (None, "plan"))


if __name__ == "__main__":
    unittest.main()
