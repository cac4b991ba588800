import unittest

from roughroads import errors
from samples import odd_values

NAMES = {"InvalidRoad": "road", "InvalidLength": "length", "InvalidBounds": "bounds", "Unsafe": "lengths"}


class ErrorsTest(unittest.TestCase):
    def test_base(self):
        self.assertEqual(errors.RoughroadsError.__bases__, (ValueError,))

    def test_direct_subclasses(self):
        for name in NAMES:
            self.assertEqual(getattr(errors, name).__bases__, (errors.RoughroadsError,), name)

    def test_attributes(self):
        for name, attribute in NAMES.items():
            for value in odd_values() + [(1, 2, 3), (3, 2)]:
                error = getattr(errors, name)(value)
                self.assertEqual(getattr(error, attribute), value)
                self.assertIs(type(getattr(error, attribute)), type(value))

    def test_only_its_attribute(self):
        for name, attribute in NAMES.items():
            error = getattr(errors, name)(3)
            self.assertEqual([other for other in NAMES.values() if hasattr(error, other)], [attribute])

    def test_raised_and_caught(self):
        for name, attribute in NAMES.items():
            kind = getattr(errors, name)
            with self.assertRaises(errors.RoughroadsError) as caught:
                raise kind((1, 2))
            self.assertEqual(getattr(caught.exception, attribute), (1, 2))
            self.assertIsInstance(str(caught.exception), str)

    def test_keeps_a_copy(self):
        for name, attribute in NAMES.items():
            inner = [1, {2: [3]}]
            value = [inner, (inner, {0: inner})]
            error = getattr(errors, name)(value)
            inner[1][2].append(4)
            inner.append(5)
            value.clear()
            kept = [1, {2: [3]}]
            self.assertEqual(getattr(error, attribute), [kept, (kept, {0: kept})])


if __name__ == "__main__":
    unittest.main()
