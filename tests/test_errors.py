"""Point 4: the refusal classes, their two families and their fields."""

import unittest

from waysranked import errors
from waysranked.errors import NoAsk, NoText, NoThing, NotNow, TooMany, WayError

OF_WHAT_IS_NONE = (
    "NoNet", "NoPlace", "NoRoad", "NoMany", "NoShut", "NoCost", "NoNumber", "NoWay", "NoWord", "NoTime", "NoChange",
    "NoPaper", "NoLine", "NoText",
)
NOT_NOW = ("NoAsk", "Nothing", "TooMany")
WITH_FIELDS = ("NoText", "NoAsk", "TooMany")


def own_classes():
    """The classes of the module, by their names."""
    return {name: thing for name, thing in vars(errors).items() if isinstance(thing, type)}


class Families(unittest.TestCase):
    def test_the_top_stands_under_value_error(self):
        self.assertEqual(WayError.__bases__, (ValueError,))

    def test_both_families_stand_straight_under_the_top(self):
        self.assertEqual(NoThing.__bases__, (WayError,))
        self.assertEqual(NotNow.__bases__, (WayError,))

    def test_each_class_stands_straight_under_its_one_family(self):
        for name in OF_WHAT_IS_NONE:
            with self.subTest(name):
                self.assertEqual(getattr(errors, name).__bases__, (NoThing,))
        for name in NOT_NOW:
            with self.subTest(name):
                self.assertEqual(getattr(errors, name).__bases__, (NotNow,))

    def test_all_classes_are_there_and_no_others(self):
        told = ("WayError", "NoThing", "NotNow", *OF_WHAT_IS_NONE, *NOT_NOW)
        self.assertEqual(sorted(own_classes()), sorted(told))

    def test_no_class_is_another_one_by_another_name(self):
        for name, thing in own_classes().items():
            with self.subTest(name):
                self.assertEqual(thing.__name__, name)
                self.assertEqual(thing.__module__, "waysranked.errors")

    def test_none_stands_under_another_one(self):
        leaves = [getattr(errors, name) for name in (*OF_WHAT_IS_NONE, *NOT_NOW)]
        for one in leaves:
            for other in leaves:
                with self.subTest(one=one, other=other):
                    self.assertEqual(issubclass(one, other), one is other)


class Made(unittest.TestCase):
    def test_those_without_a_field_are_made_with_a_text(self):
        for name in ("WayError", "NoThing", "NotNow", *OF_WHAT_IS_NONE, *NOT_NOW):
            if name not in WITH_FIELDS:
                with self.subTest(name):
                    made = getattr(errors, name)("why it is so")
                    self.assertEqual(str(made), "why it is so")

    def test_no_text_has_at(self):
        for at in (-1, 0, 7):
            self.assertEqual(NoText(at).at, at)
        self.assertEqual(NoText(at=3).at, 3)

    def test_no_ask_has_number(self):
        for number in (0, 12, -1, None, "0", (1,), 10 ** 29):
            self.assertEqual(NoAsk(number).number, number)
        self.assertEqual(NoAsk(number=3).number, 3)

    def test_too_many_has_many_and_most(self):
        made = TooMany(13, 12)
        self.assertEqual((made.many, made.most), (13, 12))
        made = TooMany(most=4, many=9)
        self.assertEqual((made.many, made.most), (9, 4))

    def test_fields_belong_to_each_object_alone(self):
        one, other = NoText(1), NoText(2)
        self.assertEqual((one.at, other.at), (1, 2))
        self.assertNotIn("at", vars(NoText))
        self.assertEqual(vars(one), {"at": 1})
        self.assertEqual(vars(NoAsk(4)), {"number": 4})
        self.assertEqual(vars(TooMany(5, 6)), {"many": 5, "most": 6})

    def test_they_are_made_of_their_fields_alone(self):
        for kind, wrong in ((NoText, ()), (NoText, (1, 2)), (NoAsk, ()), (NoAsk, (1, 2)), (TooMany, (1,)),
                            (TooMany, (1, 2, 3))):
            with self.subTest(kind=kind, wrong=wrong), self.assertRaises(TypeError):
                kind(*wrong)

    def test_each_is_caught_as_its_family_and_as_value_error(self):
        for made, family in ((NoText(0), NoThing), (NoAsk(0), NotNow), (TooMany(13, 12), NotNow),
                             (errors.NoNet("x"), NoThing), (errors.Nothing("x"), NotNow)):
            for kind in (family, WayError, ValueError):
                with self.subTest(made=made, kind=kind), self.assertRaises(kind):
                    raise made


if __name__ == "__main__":
    unittest.main()
