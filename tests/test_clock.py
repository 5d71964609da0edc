"""Points [6] and [8]: what comes to pass when the time goes on."""

import unittest

from keepyard.day import answers, standing
from tests.deeds import FAR, keep, last


class ClockTest(unittest.TestCase):
    def test_nothing_comes_to_pass(self):
        self.assertEqual(answers([], [("clock", 0), ("clock", 7)]), [[], []])
        self.assertEqual(answers([1], [keep(span=5), ("clock", 4), ("state", 0)])[1:], [[], ("ann", 0, 1, "held", 5)])

    def test_held_until_just_the_new_time_lapses(self):
        deeds = [keep(span=5), ("clock", 5), ("state", 0), ("free", 0)]
        self.assertEqual(answers([1], deeds)[1:], [[(5, 0, "lapsed")], ("ann", 0, 1, "gone", None), 1])

    def test_told_at_the_time_until_which_it_was_held(self):
        self.assertEqual(last([1], [keep(span=5), ("clock", 9)]), [(5, 0, "lapsed")])
        self.assertEqual(last([1], [("clock", 3), keep(span=5), ("clock", 99)]), [(8, 0, "lapsed")])

    def test_lapses_once(self):
        self.assertEqual(answers([1], [keep(), ("clock", 5), ("clock", 5), ("clock", FAR)])[1:],
                         [[(5, 0, "lapsed")], [], []])

    def test_the_same_time_again(self):
        deeds = [("clock", 3), keep(span=1), ("clock", 3), ("clock", 3), ("clock", 4)]
        self.assertEqual(answers([1], deeds), [[], (0, "held"), [], [], [(4, 0, "lapsed")]])

    def test_an_earlier_time(self):
        deeds = [keep(span=5), ("clock", 4), ("clock", 3), ("clock", 4), ("clock", 5), ("clock", 4)]
        self.assertEqual(answers([1], deeds)[1:], [[], "too early", [], [(5, 0, "lapsed")], "too early"])

    def test_the_time_is_the_one_told_not_that_of_the_last_lapse(self):
        deeds = [keep(span=2), ("clock", 9), ("clock", 8), keep(span=2), ("state", 1)]
        self.assertEqual(answers([1], deeds)[1:], [[(2, 0, "lapsed")], "too early", (1, "held"),
                                                   ("ann", 0, 1, "held", 11)])

    def test_the_earliest_first_whatever_the_numbers(self):
        deeds = [keep(span=9), keep(span=3), keep(span=6), keep(span=1), ("clock", 9)]
        self.assertEqual(last([4], deeds), [(1, 3, "lapsed"), (3, 1, "lapsed"), (6, 2, "lapsed"), (9, 0, "lapsed")])

    def test_those_of_one_time_in_the_order_of_their_numbers(self):
        deeds = [keep(1, span=5), keep(0, span=5), ("clock", 2), keep(1, span=3), keep(0, span=3), ("clock", 5)]
        self.assertEqual(last([2, 2], deeds), [(5, number, "lapsed") for number in range(4)])

    def test_the_order_of_numbers_not_that_of_texts(self):
        deeds = [keep() for number in range(12)] + [("clock", 5)]
        self.assertEqual(last([12], deeds), [(5, number, "lapsed") for number in range(12)])

    def test_the_order_of_numbers_not_that_of_when_they_were_held(self):
        deeds = [keep(0, 1, 9), keep(0, 1, 2), keep(1, 1, 5), ("clock", 3), ("back", 0), ("clock", 5)]
        self.assertEqual(answers([1, 1], deeds)[3:], [[], [1], [(5, 1, "lapsed"), (5, 2, "lapsed")]])

    def test_each_is_followed_by_those_that_are_served_at_it(self):
        deeds = [keep(0, 2, 3), keep(1, 1, 3), keep(1, 1, 9), keep(0, 1, 9), keep(0, 1, 9), keep(0, 1, 9), ("clock", 4)]
        self.assertEqual(last([2, 1], deeds), [
            (3, 0, "lapsed"), (3, 3, "held"), (3, 4, "held"), (3, 1, "lapsed"), (3, 2, "held"),
        ])

    def test_too_few_are_free_until_another_lapses_at_the_same_time(self):
        deeds = [keep(many=1, span=3), keep(many=1, span=3), keep(many=2, span=3), ("clock", 3), ("state", 2)]
        self.assertEqual(answers([2], deeds)[3:], [
            [(3, 0, "lapsed"), (3, 1, "lapsed"), (3, 2, "held")], ("ann", 0, 2, "held", 6),
        ])

    def test_served_then_and_there_and_held_from_that_time_on(self):
        deeds = [keep(span=3), keep(span=5), ("clock", 7), ("state", 1)]
        self.assertEqual(answers([1], deeds)[2:], [[(3, 0, "lapsed"), (3, 1, "held")], ("ann", 0, 1, "held", 8)])

    def test_served_and_lapsed_in_the_same_while(self):
        deeds = [keep(span=3), keep(span=5), keep(span=1), keep(span=9), ("clock", 9), ("state", 3), ("clock", 18)]
        self.assertEqual(answers([1], deeds)[4:], [
            [(3, 0, "lapsed"), (3, 1, "held"), (8, 1, "lapsed"), (8, 2, "held"), (9, 2, "lapsed"), (9, 3, "held")],
            ("ann", 0, 1, "held", 18), [(18, 3, "lapsed")],
        ])

    def test_served_lapses_in_its_turn_among_others(self):
        deeds = [keep(0, 1, 2), keep(1, 1, 4), keep(0, 1, 2), keep(1, 1, 1), keep(2, 1, 3), ("clock", 5)]
        self.assertEqual(last([1, 1, 1], deeds), [
            (2, 0, "lapsed"), (2, 2, "held"), (3, 4, "lapsed"), (4, 1, "lapsed"), (4, 3, "held"), (4, 2, "lapsed"),
            (5, 3, "lapsed"),
        ])

    def test_nobody_is_served_ahead_of_one_who_stands_ahead(self):
        deeds = [keep(many=2, span=9), keep(many=1, span=2), keep(many=2, span=5), keep(many=1), ("clock", 8)]
        self.assertEqual(answers([3], deeds + [("row", 0), ("free", 0)])[4:], [[(2, 1, "lapsed")], [2, 3], 1])

    def test_those_who_wait_do_not_lapse(self):
        deeds = [keep(), ("take", 0), keep(span=1), ("clock", FAR), ("state", 1)]
        self.assertEqual(answers([1], deeds)[3:], [[], ("ann", 0, 1, "waiting", None)])

    def test_those_who_are_taken_or_gone_do_not_lapse(self):
        deeds = [keep(), keep(), keep(), ("take", 0), ("back", 1), ("clock", FAR)]
        self.assertEqual(last([3], deeds), [(5, 2, "lapsed")])

    def test_many_shows_at_one_time(self):
        deeds = [keep(show % 40) for show in range(80)] + [("clock", 5)]
        expected = []
        for number in range(40):
            expected += [(5, number, "lapsed"), (5, number + 40, "held")]
        self.assertEqual(last([1] * 40, deeds), expected)


class ByAndByTest(unittest.TestCase):
    ROOMS = [3, 1, 2]
    DEEDS = [
        keep(0, 2, 4), keep(0, 1, 2), keep(0, 3, 1), keep(0, 1, 7), keep(1, 1, 4), keep(1, 1, 3), keep(2, 2, 6),
        keep(2, 1, 2), keep(2, 2, 5), keep(1, 1, 9), ("take", 4), ("move", 1, 2), ("part", 0, 1),
    ]

    def at_these_times(self, times):
        deeds = self.DEEDS + [("clock", time) for time in times]
        told = answers(self.ROOMS, deeds)[len(self.DEEDS):]
        return [happening for one in told for happening in one], standing(self.ROOMS, deeds)

    def test_at_once_and_by_and_by(self):
        for end in range(25):
            at_once = self.at_these_times([end])
            self.assertEqual(self.at_these_times(range(end + 1)), at_once)
            self.assertEqual(self.at_these_times([time for time in range(end + 1) for again in (0, 1)]), at_once)
            for step in range(end + 1):
                self.assertEqual(self.at_these_times([step, end]), at_once, (step, end))

    def test_something_comes_to_pass_there(self):
        self.assertGreater(len(self.at_these_times([24])[0]), 8)


if __name__ == "__main__":
    unittest.main()
