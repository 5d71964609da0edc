"""Points [2], [3] and [7]: the yard refuses by errors, each of its own class, and its values begin as told."""

import unittest

from keepyard import errors
from keepyard.yard import Yard


def filled():
    yard = Yard([2, 2])
    yard.keep("ann", 0, 2, 5)
    yard.keep("bo", 0, 1, 5)
    yard.keep("cid", 1, 1, 5)
    yard.back(2)
    yard.keep("dee", 1, 1, 5)
    yard.take(3)
    yard.clock(1)
    return yard


class YardTest(unittest.TestCase):
    def test_begins_at_nought_without_keepings(self):
        yard = Yard([3, 0])
        self.assertEqual((yard.now, yard.keepings, yard.left_standing()), (0, [], []))
        self.assertEqual([yard.free_at(0), yard.free_at(1)], [3, 0])

    def test_each_refusal_is_raised_as_its_own_error(self):
        for refusal, name, values in (
            (errors.NoKeeping, "take", (2,)),
            (errors.NoKeeping, "state_of", (4,)),
            (errors.NoShow, "free_at", (2,)),
            (errors.NoShow, "row_at", (-1,)),
            (errors.NoPlaces, "keep", ("eve", 0, 0, 1)),
            (errors.TooMany, "keep", ("eve", 0, 3, 1)),
            (errors.TooMany, "part", (0, 2)),
            (errors.NoSpan, "keep", ("eve", 0, 1, 0)),
            (errors.NotHeld, "take", (1,)),
            (errors.NotHeld, "move", (1, 1)),
            (errors.SameShow, "move", (0, 0)),
            (errors.Full, "move", (0, 1)),
            (errors.TooEarly, "clock", (0,)),
        ):
            yard = filled()
            with self.subTest(name=name, values=values), self.assertRaises(refusal) as caught:
                getattr(yard, name)(*values)
            self.assertIs(type(caught.exception), refusal)
            self.assertEqual((yard.left_standing(), yard.now), (filled().left_standing(), 1))

    def test_the_list_of_rooms_is_not_kept(self):
        rooms = [2]
        yard = Yard(rooms)
        yard.keep("ann", 0, 2, 5)
        self.assertEqual(rooms, [2])
        rooms[0] = 9
        rooms.append(1)
        self.assertEqual(yard.free_at(0), 0)
        with self.assertRaises(errors.NoShow):
            yard.free_at(1)

    def test_yards_share_nothing(self):
        one, other = Yard([1]), Yard([1])
        one.keep("ann", 0, 1, 5)
        one.clock(3)
        self.assertEqual((other.now, other.left_standing(), other.free_at(0)), (0, [], 1))


if __name__ == "__main__":
    unittest.main()
