"""The error classes: point [0.5] and the heading unseendials/errors.py."""

import unittest

from unseendials import errors
from unseendials.errors import DialError

FIELDS = {
    "BadWord": "word", "BadLetter": "letter", "BadFact": "low high", "MixedFact": "low high",
    "BadSteps": "many", "BadPlace": "point stand", "BadTable": "dial",
    "BrokenFact": "low high at", "NotGrounded": "dial", "NoPlace": "point", "NoTable": "letter",
    "NotPaired": "letter", "NoPairs": "letter", "Unlike": "", "NotMade": "points",
    "BadEntry": "letter at shown", "Clash": "rule one other", "BadGroups": "word",
    "NotRanked": "word", "NotKept": "rule", "BadStand": "at", "BadSign": "sign",
    "BadSaying": "label", "NotPlain": "word", "NotOpen": "verdict", "Refused": "blame",
    "NothingTold": "", "OverRoom": "most", "BadLine": "line", "TooLarge": "what",
}


class TestErrors(unittest.TestCase):

    def test_there_are_thirty_under_the_base(self):
        self.assertEqual(len(FIELDS), 30)
        self.assertEqual(DialError.__bases__, (ValueError,))

    def test_each_stands_directly_under_the_base(self):
        for name in FIELDS:
            with self.subTest(name=name):
                self.assertEqual(getattr(errors, name).__bases__, (DialError,))

    def test_each_takes_its_fields_by_position(self):
        for name, fields in FIELDS.items():
            with self.subTest(name=name):
                names = fields.split()
                worths = [f"worth {at}" for at in range(len(names))]
                error = getattr(errors, name)(*worths)
                self.assertEqual(vars(error), dict(zip(names, worths)))
                self.assertRaises(TypeError, getattr(errors, name), *worths, "one too many")

    def test_each_can_be_raised_and_caught_by_the_base(self):
        for name, fields in FIELDS.items():
            with self.subTest(name=name), self.assertRaises(DialError) as caught:
                raise getattr(errors, name)(*fields.split())
            self.assertIs(type(caught.exception), getattr(errors, name))
            self.assertIsInstance(caught.exception, ValueError)


if __name__ == "__main__":
    unittest.main()
