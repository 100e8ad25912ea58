import unittest

from weandthey import bounds

VALUES = {
    "MAX_NAME": 8,
    "MAX_TIMES": 8,
    "MAX_DEEP": 3,
    "MAX_NOTS": 2,
    "MAX_BY": 6,
    "MAX_PLACES": 24,
    "MAX_WEIGHT": 30,
    "MAX_CHOICES": 4,
    "MAX_RESTS": 2,
    "MAX_COMPARINGS": 2,
    "MAX_NEST": 3,
    "MAX_PERIOD": 10 ** 6,
    "MAX_EDITS": 60,
    "BATCH": 20,
}


class TestBounds(unittest.TestCase):
    def test_each_value(self):
        for name, value in VALUES.items():
            with self.subTest(name):
                self.assertEqual(getattr(bounds, name), value)
                self.assertIs(type(getattr(bounds, name)), int)


if __name__ == "__main__":
    unittest.main()
