import unittest

from cornersteps.errors import (
    CornerError, NoBack, NoLine, NoPaper, NoPlace, NoQuotient, NoStep, NoText, TooMany,
)

FIELDS = [
    (NoStep, ("row", "column")),
    (NoPaper, ("word", "place")),
    (NoBack, ("number", "prime")),
    (NoPlace, ("place",)),
    (TooMany, ("word",)),
    (NoQuotient, ("one", "other")),
    (NoText, ("row", "word")),
    (NoLine, ("line",)),
]


class Unlooked(list):
    """A thing that can't be shown, compared or counted: a refusal has to look at none."""

    def refuse(self, *rest):
        raise AssertionError("looked at")

    __repr__ = __str__ = __eq__ = __len__ = __bool__ = __iter__ = __getitem__ = __hash__ = refuse


THINGS = [
    0, 1, -1, 10 ** 3999, -(10 ** 3999), "", "shape", True, False, None, (), (1, (2, "x")), [], [1, [2]], {"a": [1]},
]


class RefusalsTest(unittest.TestCase):
    def test_each_is_of_its_own_class_and_of_none_of_the_others(self):
        for made, fields in FIELDS:
            error = made(*range(len(fields)))
            self.assertIs(type(error), made)
            self.assertIsInstance(error, CornerError)
            self.assertIsInstance(error, ValueError)
            self.assertEqual([made], [other for other, _ in FIELDS if isinstance(error, other)])
            self.assertTrue(issubclass(made, CornerError))

    def test_each_keeps_what_it_was_made_of_by_the_names_told(self):
        for made, fields in FIELDS:
            for at in range(len(THINGS)):
                things = [THINGS[at], THINGS[at - 1]][:len(fields)]
                error = made(*things)
                for name, thing in zip(fields, things):
                    self.assertIs(thing, getattr(error, name))

    def test_the_names_are_in_the_order_told(self):
        for made, fields in FIELDS:
            error = made(*["first", "second"][:len(fields)])
            self.assertEqual(["first", "second"][:len(fields)], [getattr(error, name) for name in fields])

    def test_a_list_that_is_changed_later_is_changed_there(self):
        for made, fields in FIELDS:
            things = [[1], [2]][:len(fields)]
            error = made(*things)
            for name, thing in zip(fields, things):
                thing.append(3)
                self.assertIs(thing, getattr(error, name))
                self.assertEqual(3, getattr(error, name)[-1])

    def test_they_look_at_none(self):
        for made, fields in FIELDS:
            things = [Unlooked(), Unlooked()][:len(fields)]
            error = made(*things)
            self.assertTrue(all(getattr(error, name) is thing for name, thing in zip(fields, things)))
            str(error)
            repr(error)

    def test_they_are_raised_and_caught_as_any_refusal(self):
        for made, fields in FIELDS:
            with self.assertRaises(CornerError) as caught:
                raise made(*THINGS[:len(fields)])
            self.assertIs(type(caught.exception), made)

    def test_corner_error_is_made_of_a_text(self):
        error = CornerError("no")
        self.assertIsInstance(error, ValueError)
        self.assertEqual("no", str(error))
        self.assertFalse([made for made, _ in FIELDS if isinstance(error, made)])
        self.assertEqual((ValueError,), CornerError.__bases__)


if __name__ == "__main__":
    unittest.main()
