"""[3] the refusals: each class, its base, its field."""

import unittest

from pawldials import errors

FIELDS = {"NoHouse": "fault", "NoWalk": "nth", "NoText": "row", "TooLong": "most",
          "TooStrong": "strength", "Weak": "strength", "Poor": "price"}
BARE = ["NoNumbers", "NoStanding", "NoWish", "NoWishes", "NoStrength", "NoPlace", "NoDial", "NoReason",
        "NoBeat", "NoNumber", "NoHands", "NoRule", "NoDeed", "NoPrice", "NoChain", "NoRow", "TooWide",
        "Never", "Taken", "Broken", "Unlike"]
ANYTHING = [None, True, False, 0, -7, 10 ** 59, "", "text", (), ("dial", 3), [], [1, [2]], {}, {"a": [1]},
            (1, [2, {"b": (3, [4])}])]


class Bases(unittest.TestCase):
    def test_dial_error_is_straight_under_value_error(self):
        self.assertEqual(errors.DialError.__bases__, (ValueError,))

    def test_all_others_are_straight_under_dial_error(self):
        for name in [*FIELDS, *BARE]:
            with self.subTest(name=name):
                self.assertEqual(getattr(errors, name).__bases__, (errors.DialError,))

    def test_the_two_that_stand_apart(self):
        self.assertEqual(errors.NothingDone.__bases__, (LookupError,))
        self.assertEqual(errors.NotYet.__bases__, (RuntimeError,))

    def test_all_stand_in_this_file(self):
        for name in [*FIELDS, *BARE, "DialError", "NothingDone", "NotYet"]:
            with self.subTest(name=name):
                self.assertEqual(getattr(errors, name).__module__, "pawldials.errors")


class Fields(unittest.TestCase):
    def test_made_of_a_field_by_its_place_whatever_it_is(self):
        for name, field in FIELDS.items():
            for thing in ANYTHING:
                with self.subTest(name=name, thing=thing):
                    told = getattr(getattr(errors, name)(thing), field)
                    self.assertEqual(repr(told), repr(thing))

    def test_fields_are_each_objects_own(self):
        first, second = errors.Weak(3), errors.Weak(4)
        self.assertEqual((first.strength, second.strength), (3, 4))

    def test_a_field_is_kept_as_a_copy(self):
        for name, field in FIELDS.items():
            with self.subTest(name=name):
                thing = [1, {"a": [2]}, ([3],)]
                refusal = getattr(errors, name)(thing)
                thing[1]["a"].append(9)
                thing[2][0].append(9)
                thing.append(9)
                self.assertEqual(getattr(refusal, field), [1, {"a": [2]}, ([3],)])

    def test_made_of_nothing_where_no_field_is_listed(self):
        for name in [*BARE, "DialError", "NothingDone", "NotYet"]:
            with self.subTest(name=name):
                refusal = getattr(errors, name)()
                self.assertIsInstance(refusal, getattr(errors, name))

    def test_raised_and_caught(self):
        with self.assertRaises(ValueError) as caught:
            raise errors.Poor(12)
        self.assertEqual(caught.exception.price, 12)
        with self.assertRaises(LookupError):
            raise errors.NothingDone()
        with self.assertRaises(RuntimeError):
            raise errors.NotYet()


if __name__ == "__main__":
    unittest.main()
