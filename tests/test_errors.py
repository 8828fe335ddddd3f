"""[17]: the error classes."""

import unittest

from anylatency import errors

LOOKUPS = {"NoName": ("name",), "NoNumber": ("number",), "NoEntry": ("name",), "NoFrame": ("name",),
           "NotKnown": ("name",)}
VALUES = {"NoOrder": (), "Needs": (), "Twice": ("name",), "BadText": (), "OtherNames": (), "Outside": ("name",),
          "BadLine": ("number",), "Stopped": ("number", "raised", "value")}
WORTHS = {"name": "a", "number": 10 ** 40, "raised": "NoName", "value": ("x", 3)}


def all_errors():
    for base, told in ((LookupError, LOOKUPS), (ValueError, VALUES)):
        for word, keeps in told.items():
            yield getattr(errors, word), base, keeps


class ErrorsTest(unittest.TestCase):
    def test_bases(self):
        for one, base, _ in all_errors():
            with self.subTest(one=one):
                self.assertEqual(one.__bases__, (base,))
                self.assertEqual(one.__module__, "anylatency.errors")

    def test_under_no_other(self):
        every = [one for one, _, _ in all_errors()]
        for one in every:
            for other in every:
                self.assertEqual(issubclass(one, other), one is other)

    def test_kept_by_position(self):
        for one, _, keeps in all_errors():
            with self.subTest(one=one):
                made = one(*[WORTHS[word] for word in keeps])
                self.assertEqual(vars(made), {word: WORTHS[word] for word in keeps})

    def test_kept_by_name(self):
        for one, _, keeps in all_errors():
            with self.subTest(one=one):
                made = one(**{word: WORTHS[word] for word in keeps})
                self.assertEqual(vars(made), {word: WORTHS[word] for word in keeps})

    def test_keeps_just_these(self):
        for one, _, keeps in all_errors():
            if keeps:
                with self.subTest(one=one):
                    self.assertRaises(TypeError, one)
                    self.assertRaises(TypeError, one, *["x" for _ in range(len(keeps) + 1)])

    def test_no_more_classes(self):
        made = [word for word, value in vars(errors).items() if isinstance(value, type)]
        self.assertEqual(sorted(made), sorted(list(LOOKUPS) + list(VALUES)))


if __name__ == "__main__":
    unittest.main()
