import unittest

from weandthey import errors

FIELDS = {
    "PlayError": None,
    "BadText": "line",
    "BadProgram": "error",
    "BadGift": "value",
    "BadNumber": "number",
    "BadTurns": "turns",
    "BadRows": "index",
    "NotParted": None,
    "NotTheirs": "place",
    "IsGiven": "place",
    "NotGiven": "place",
    "NoGift": None,
    "Lost": "number",
    "Busy": None,
    "TooManyEdits": None,
    "NothingToUndo": None,
    "NothingToRedo": None,
    "BadEdits": None,
    "BadEdit": "index",
    "Rejected": "index",
    "NoPlace": "place",
    "NoVersion": "version",
}
LOOKUPS = ("NoPlace", "NoVersion")
OTHERS = [name for name in FIELDS if name not in LOOKUPS]


def class_of(name):
    return getattr(errors, name)


class TestErrors(unittest.TestCase):
    def test_fields_hold_the_very_values(self):
        for name, field in FIELDS.items():
            if field is None:
                continue
            for value in (0, 10 ** 59, True, None, "word", "", (0, "nest"), [1, [2]], {"a": []}, object()):
                with self.subTest(name, value=value):
                    self.assertIs(getattr(class_of(name)(value), field), value)

    def test_a_field_does_not_copy(self):
        value = [1]
        error = errors.NoPlace(value)
        value.append(2)
        self.assertEqual(error.place, [1, 2])

    def test_number_of_fields(self):
        for name, field in FIELDS.items():
            with self.subTest(name):
                if field is None:
                    self.assertEqual(vars(class_of(name)()), {})
                else:
                    self.assertEqual(vars(class_of(name)(3)), {field: 3})
                    with self.assertRaises(TypeError):
                        class_of(name)()

    def test_play_errors_are_value_errors(self):
        for name in OTHERS:
            with self.subTest(name):
                self.assertTrue(issubclass(class_of(name), errors.PlayError))
                self.assertTrue(issubclass(class_of(name), ValueError))
                self.assertFalse(issubclass(class_of(name), LookupError))

    def test_lookup_errors(self):
        for name in LOOKUPS:
            with self.subTest(name):
                self.assertTrue(issubclass(class_of(name), LookupError))
                self.assertFalse(issubclass(class_of(name), ValueError))
                self.assertFalse(issubclass(class_of(name), (KeyError, IndexError)))

    def test_none_derives_from_another(self):
        for name in FIELDS:
            for other in FIELDS:
                if name == other or other == "PlayError":
                    continue
                with self.subTest(name, other=other):
                    self.assertFalse(issubclass(class_of(name), class_of(other)))

    def test_raised_and_caught(self):
        for name, field in FIELDS.items():
            with self.subTest(name):
                made = class_of(name)() if field is None else class_of(name)("x")
                with self.assertRaises(class_of(name)) as caught:
                    raise made
                self.assertIs(caught.exception, made)
                self.assertIsInstance(str(made), str)


if __name__ == "__main__":
    unittest.main()
