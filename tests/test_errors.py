"""[8]: the refusals, their base, their fields."""

import unittest

from tests.samples import deep
from threelays import errors
from threelays.errors import (
    Crossed, LayError, NoLay, NoPaper, NoPoint, NoRow, NoStep, NoText, NoTie, TooMany)

REFUSALS = (
    (NoPaper, ("word", "number")), (NoLay, ()), (NoTie, ("word",)), (Crossed, ("tie",)), (NoPoint, ("word",)),
    (TooMany, ("word",)), (NoStep, ()), (NoText, ("row", "word")), (NoRow, ("row",)))


class Unlookable:
    """A thing that fails wherever it is looked at."""

    def look(self, *others):
        raise AssertionError("it was looked at")

    __eq__ = __ne__ = __lt__ = __gt__ = __len__ = __iter__ = __bool__ = __str__ = __repr__ = __hash__ = look


class RefusalTests(unittest.TestCase):

    def test_base(self):
        self.assertEqual(LayError.__bases__, (ValueError,))
        for refusal, names in REFUSALS:
            self.assertEqual(refusal.__bases__, (LayError,))
            self.assertIs(getattr(errors, refusal.__name__), refusal)

    def test_taken_by_own_class_base_and_value_error(self):
        for refusal, names in REFUSALS:
            for taker in (refusal, LayError, ValueError):
                things = ["thing " + name for name in names]
                with self.assertRaises(taker) as taken:
                    raise refusal(*things)
                self.assertIs(taken.exception.__class__, refusal)
                self.assertEqual([getattr(taken.exception, name) for name in names], things)

    def test_taken_by_no_other_class(self):
        for refusal, names in REFUSALS:
            made = refusal(*names)
            for other, ignored in REFUSALS:
                self.assertEqual(isinstance(made, other), refusal is other)

    def test_fields_are_the_very_things(self):
        plain = [0, -1, 10 ** 199, True, False, None, "", "shape", (), [], [1, [2]], ((0, 0), (0, 1)),
                 deep(list, 0, 20), deep(tuple, [], 19), list(range(4999))]
        for refusal, names in REFUSALS:
            for first in plain:
                for second in plain:
                    things = (first, second)[:len(names)]
                    by_place = refusal(*things)
                    by_name = refusal(**dict(zip(names, things)))
                    for name, thing in zip(names, things):
                        self.assertIs(getattr(by_place, name), thing)
                        self.assertIs(getattr(by_name, name), thing)

    def test_names_in_any_order(self):
        self.assertEqual(vars(NoPaper(number=3, word="void")), {"word": "void", "number": 3})
        self.assertEqual(vars(NoText(word=3, row=5)), {"word": 3, "row": 5})

    def test_things_are_looked_at_in_no_way(self):
        for refusal, names in REFUSALS:
            things = [Unlookable() for name in names]
            made = refusal(*things)
            for name, thing in zip(names, things):
                self.assertIs(getattr(made, name), thing)

    def test_fields_follow_what_is_done_to_the_thing(self):
        row = [1, 2]
        refusal = NoRow(row)
        row.append(3)
        self.assertEqual(refusal.row, [1, 2, 3])

    def test_made_of_just_their_fields(self):
        for refusal, names in REFUSALS:
            with self.assertRaises(TypeError):
                refusal(*names, "one more")
            if names:
                with self.assertRaises(TypeError):
                    refusal(*names[1:])

    def test_no_other_refusals(self):
        found = [name for name, held in vars(errors).items()
                 if isinstance(held, LayError.__class__) and issubclass(held, LayError) and held is not LayError]
        self.assertEqual(sorted(found), sorted(refusal.__name__ for refusal, names in REFUSALS))
