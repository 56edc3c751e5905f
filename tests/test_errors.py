"""The errors of the interface."""

import unittest

from chance.errors import BadStep, Impossible, Invalid, Malformed, Refused, TooLarge

CASES = (
    (Malformed, "at", 17),
    (Malformed, "at", 0),
    (Invalid, "name", "term"),
    (Invalid, "name", "weights"),
    (TooLarge, "name", "steps"),
    (BadStep, "number", 3),
    (BadStep, "number", 0),
    (Impossible, "name", "value"),
)


class TestErrors(unittest.TestCase):
    def test_field_is_set_when_created(self):
        for kind, field, told in CASES:
            with self.subTest(kind=kind.__name__, told=told):
                self.assertEqual(getattr(kind(told), field), told)
                self.assertEqual(getattr(kind(**{field: told}), field), told)
                self.assertEqual(vars(kind(told)), {field: told})

    def test_each_is_refused_and_a_value_error(self):
        self.assertEqual(Refused.__bases__, (ValueError,))
        for kind, _, told in CASES:
            with self.subTest(kind=kind.__name__):
                self.assertTrue(issubclass(kind, Refused))
                for caught in (kind, Refused, ValueError):
                    with self.assertRaises(caught):
                        raise kind(told)

    def test_none_is_another_one(self):
        kinds = (Malformed, Invalid, TooLarge, BadStep, Impossible)
        for one in kinds:
            for two in kinds:
                self.assertEqual(issubclass(one, two), one is two)

    def test_refused_can_be_raised_itself(self):
        with self.assertRaises(Refused):
            raise Refused()

    def test_argument_is_needed(self):
        for kind, _, _ in CASES:
            with self.assertRaises(TypeError):
                kind()

    def test_message_tells_the_argument(self):
        for kind, _, told in CASES:
            self.assertIn(str(told), str(kind(told)))


if __name__ == "__main__":
    unittest.main()
