"""Points [1], [4] and [6]: served and next_lapse."""

import itertools
import unittest

from keepyard.serving import next_lapse, served

HUNDRED = 10 ** 99
HUNDRED_AND_ONE = 10 ** 100


class ServedTest(unittest.TestCase):
    def test_empty_row(self):
        self.assertEqual(served(0, []), 0)
        self.assertEqual(served(5, []), 0)

    def test_whole_number_is_answered(self):
        self.assertIs(int, type(served(5, [])))
        self.assertIs(int, type(served(5, [5])))

    def test_want_just_what_is_free_one_less_and_one_more(self):
        self.assertEqual(served(4, [4]), 1)
        self.assertEqual(served(4, [3]), 1)
        self.assertEqual(served(4, [5]), 0)

    def test_last_of_several_just_fits_or_does_not(self):
        self.assertEqual(served(6, [1, 2, 3]), 3)
        self.assertEqual(served(7, [1, 2, 3]), 3)
        self.assertEqual(served(5, [1, 2, 3]), 2)

    def test_nobody_is_served_ahead_of_one_who_stands_ahead(self):
        self.assertEqual(served(1, [2, 1]), 0)
        self.assertEqual(served(4, [2, 3, 1, 1]), 1)
        self.assertEqual(served(3, [1, 9, 0, 1]), 1)
        self.assertEqual(served(0, [1, 0]), 0)

    def test_want_of_nought(self):
        self.assertEqual(served(0, [0]), 1)
        self.assertEqual(served(0, [0, 0, 1, 0]), 2)
        self.assertEqual(served(2, [2, 0, 0]), 3)
        self.assertEqual(served(2, [0, 2, 0, 1, 0]), 3)

    def test_nothing_free(self):
        self.assertEqual(served(0, [1]), 0)
        self.assertEqual(served(0, [1, 1, 1]), 0)

    def test_more_free_than_wanted(self):
        self.assertEqual(served(100, [1, 1, 1]), 3)

    def test_equal_wants(self):
        self.assertEqual(served(7, [2, 2, 2, 2, 2]), 3)

    def test_hundred_figures(self):
        self.assertEqual(served(HUNDRED, [HUNDRED]), 1)
        self.assertEqual(served(HUNDRED - 1, [HUNDRED]), 0)
        self.assertEqual(served(HUNDRED, [HUNDRED - 1, 1, 1]), 2)
        self.assertEqual(served(HUNDRED + 1, [HUNDRED, 1]), 2)
        self.assertEqual(served(HUNDRED + 1, [HUNDRED, 2]), 1)

    def test_hundred_and_one_figures(self):
        most = 10 * HUNDRED_AND_ONE - 1
        self.assertEqual(served(most, [most]), 1)
        self.assertEqual(served(most - 1, [most]), 0)
        self.assertEqual(served(most, [HUNDRED_AND_ONE] * 10), 9)
        self.assertEqual(served(most, [HUNDRED_AND_ONE] * 9 + [HUNDRED_AND_ONE - 1, 0, 1]), 11)

    def test_long_row(self):
        self.assertEqual(served(100000, [1] * 100000), 100000)
        self.assertEqual(served(99999, [1] * 100000), 99999)
        self.assertEqual(served(0, [0] * 100000 + [1, 0]), 100000)

    def test_every_small_row(self):
        for length in range(5):
            for wanted in itertools.product(range(4), repeat=length):
                for free in range(10):
                    room_for = [sum(wanted[:end]) <= free for end in range(1, length + 1)]
                    self.assertEqual(served(free, list(wanted)), room_for.count(True), (free, wanted))

    def test_list_is_unchanged(self):
        for free in (0, 3, 100):
            wanted = [2, 0, 5, 1]
            served(free, wanted)
            self.assertEqual(wanted, [2, 0, 5, 1])

    def test_same_again(self):
        wanted = [2, 0, 5, 1]
        self.assertEqual([served(7, wanted), served(7, wanted)], [3, 3])


class NextLapseTest(unittest.TestCase):
    def test_empty_list(self):
        self.assertIsNone(next_lapse([], 0))
        self.assertIsNone(next_lapse([], HUNDRED))

    def test_none_lapses(self):
        self.assertIsNone(next_lapse([(5, 0)], 4))
        self.assertIsNone(next_lapse([(7, 0), (6, 3), (5, 9)], 4))

    def test_just_the_new_time_lapses(self):
        self.assertEqual(next_lapse([(5, 0)], 5), (5, 0))
        self.assertEqual(next_lapse([(5, 0)], 6), (5, 0))
        self.assertEqual(next_lapse([(6, 1), (5, 2)], 5), (5, 2))
        self.assertEqual(next_lapse([(0, 0)], 0), (0, 0))

    def test_tuple_is_answered(self):
        self.assertIs(tuple, type(next_lapse([(5, 0)], 5)))

    def test_earliest_of_several(self):
        self.assertEqual(next_lapse([(3, 1), (2, 9), (4, 0)], 4), (2, 9))
        self.assertEqual(next_lapse([(2, 9), (3, 1), (4, 0)], 4), (2, 9))
        self.assertEqual(next_lapse([(4, 0), (3, 1), (2, 9)], 3), (2, 9))

    def test_one_time_least_number_in_whatever_order(self):
        for held in itertools.permutations([(5, 10), (5, 9), (5, 2), (6, 0)]):
            self.assertEqual(next_lapse(list(held), 6), (5, 2), held)
            self.assertEqual(next_lapse(list(held), 5), (5, 2), held)
            self.assertIsNone(next_lapse(list(held), 4), held)

    def test_time_goes_ahead_of_number(self):
        self.assertEqual(next_lapse([(9, 0), (1, 8)], 10), (1, 8))

    def test_negative_times_and_numbers(self):
        self.assertEqual(next_lapse([(-1, 0), (-2, 5)], 0), (-2, 5))
        self.assertEqual(next_lapse([(-2, 5), (-2, -5), (-2, 0)], -2), (-2, -5))
        self.assertEqual(next_lapse([(-2, 0), (3, -9)], 3), (-2, 0))
        self.assertIsNone(next_lapse([(-2, 0)], -3))
        self.assertIsNone(next_lapse([(0, -1)], -1))

    def test_hundred_figures(self):
        held = [(HUNDRED + 1, HUNDRED), (HUNDRED, HUNDRED + 1), (HUNDRED, HUNDRED), (-HUNDRED, HUNDRED_AND_ONE)]
        self.assertEqual(next_lapse(held, HUNDRED), (-HUNDRED, HUNDRED_AND_ONE))
        self.assertEqual(next_lapse(held[:3], HUNDRED), (HUNDRED, HUNDRED))
        self.assertEqual(next_lapse(held[:1], HUNDRED + 1), (HUNDRED + 1, HUNDRED))
        self.assertIsNone(next_lapse(held[:3], HUNDRED - 1))

    def test_the_same_tuple_twice(self):
        self.assertEqual(next_lapse([(2, 1), (2, 1)], 2), (2, 1))

    def test_long_list(self):
        held = [(until, 0) for until in range(100000, 0, -1)]
        self.assertEqual(next_lapse(held, 100000), (1, 0))
        self.assertIsNone(next_lapse(held, 0))

    def test_every_small_list(self):
        pairs = list(itertools.product(range(-1, 2), range(-1, 2)))
        for length in range(4):
            for held in itertools.product(pairs, repeat=length):
                for time in range(-2, 3):
                    lapsing = sorted(pair for pair in held if not pair[0] > time)
                    told = lapsing[0] if lapsing else None
                    self.assertEqual(next_lapse(list(held), time), told, (held, time))

    def test_list_is_unchanged(self):
        for time in (-1, 4, 100):
            held = [(4, 2), (4, 1), (9, 0), (3, 7)]
            next_lapse(held, time)
            self.assertEqual(held, [(4, 2), (4, 1), (9, 0), (3, 7)])

    def test_same_again(self):
        held = [(4, 2), (4, 1)]
        self.assertEqual([next_lapse(held, 4), next_lapse(held, 4)], [(4, 1), (4, 1)])


if __name__ == "__main__":
    unittest.main()
