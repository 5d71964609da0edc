"""Points [2] to [5]: each deed where it is done."""

import unittest

from keepyard.day import answers, standing
from tests.deeds import FAR, keep, last


class KeepTest(unittest.TestCase):
    def test_numbers_in_the_order_in_which_they_are_asked_for(self):
        deeds = [keep(1), keep(0), keep(1), keep(0)]
        self.assertEqual(answers([1, 1], deeds), [(0, "held"), (1, "held"), (2, "waiting"), (3, "waiting")])

    def test_just_what_is_free_one_less_and_one_more(self):
        self.assertEqual(answers([5], [keep(many=2), keep(many=3)])[1], (1, "held"))
        self.assertEqual(answers([5], [keep(many=2), keep(many=2)])[1], (1, "held"))
        self.assertEqual(answers([5], [keep(many=2), keep(many=4)])[1], (1, "waiting"))

    def test_all_that_the_show_has(self):
        self.assertEqual(answers([3], [keep(many=3), ("free", 0)]), [(0, "held"), 0])

    def test_waits_where_somebody_waits_though_places_are_free(self):
        deeds = [keep(many=3), keep(many=2), keep(many=1), ("free", 0), ("row", 0)]
        self.assertEqual(answers([4], deeds)[1:], [(1, "waiting"), (2, "waiting"), 1, [1, 2]])

    def test_a_row_at_another_show_hinders_nobody(self):
        self.assertEqual(last([1, 1], [keep(0), keep(0), keep(1)]), (2, "held"))

    def test_held_until_span_later_than_now(self):
        self.assertEqual(last([1], [keep(span=5), ("state", 0)]), ("ann", 0, 1, "held", 5))
        self.assertEqual(last([1], [("clock", 7), keep(span=5), ("state", 0)]), ("ann", 0, 1, "held", 12))
        self.assertEqual(last([1], [keep(span=1), ("state", 0)]), ("ann", 0, 1, "held", 1))

    def test_held_until_span_later_than_when_it_is_served(self):
        deeds = [keep(span=50), keep(span=5, who="bo"), ("clock", 7), ("back", 0), ("state", 1)]
        self.assertEqual(answers([1], deeds)[3:], [[1], ("bo", 0, 1, "held", 12)])

    def test_waiting_is_held_until_no_time(self):
        self.assertEqual(last([1], [keep(), keep(who="bo"), ("state", 1)]), ("bo", 0, 1, "waiting", None))

    def test_any_person_also_the_same_and_an_empty_text(self):
        deeds = [keep(who=""), keep(who=""), keep(who="ann"), keep(who="ann")]
        self.assertEqual([stands[1] for stands in standing([9], deeds)], ["", "", "ann", "ann"])


class TakeTest(unittest.TestCase):
    def test_taken_keeps_its_places_for_good(self):
        deeds = [keep(many=2), ("take", 0), ("clock", 5), ("clock", FAR), ("state", 0), ("free", 0)]
        self.assertEqual(answers([3], deeds)[1:], ["taken", [], [], ("ann", 0, 2, "taken", None), 1])

    def test_taken_just_ahead_of_its_lapse(self):
        self.assertEqual(answers([1], [keep(span=5), ("clock", 4), ("take", 0), ("clock", 5)])[1:], [[], "taken", []])

    def test_one_that_was_served_may_be_taken(self):
        deeds = [keep(), keep(), ("back", 0), ("take", 1), ("clock", FAR), ("state", 1)]
        self.assertEqual(answers([1], deeds)[2:], [[1], "taken", [], ("ann", 0, 1, "taken", None)])

    def test_nobody_is_served_at_it(self):
        deeds = [keep(), keep(), ("take", 0), ("row", 0), ("clock", FAR), ("row", 0)]
        self.assertEqual(answers([1], deeds)[2:], ["taken", [1], [], [1]])


class BackTest(unittest.TestCase):
    def test_held(self):
        deeds = [keep(many=2), ("back", 0), ("free", 0), ("state", 0), ("clock", FAR)]
        self.assertEqual(answers([3], deeds)[1:], [[], 3, ("ann", 0, 2, "gone", None), []])

    def test_taken(self):
        deeds = [keep(many=2), ("take", 0), ("back", 0), ("free", 0), ("state", 0)]
        self.assertEqual(answers([3], deeds)[2:], [[], 3, ("ann", 0, 2, "gone", None)])

    def test_serves_in_the_order_of_the_row(self):
        deeds = [keep(many=5), keep(many=2), keep(many=1), keep(many=3), keep(many=1), ("back", 0)]
        self.assertEqual(answers([5], deeds + [("row", 0), ("free", 0)])[5:], [[1, 2], [3, 4], 2])

    def test_serves_nobody_ahead_of_one_who_stands_ahead(self):
        deeds = [keep(many=3), keep(many=2), keep(many=5), keep(many=1), ("back", 1), ("row", 0), ("free", 0)]
        self.assertEqual(answers([5], deeds)[4:], [[], [2, 3], 2])

    def test_first_of_its_row_lets_those_behind_in(self):
        deeds = [keep(many=3), keep(many=4), keep(many=1), keep(many=1), keep(many=1), ("back", 1)]
        asked = [("row", 0), ("free", 0), ("state", 1)]
        self.assertEqual(answers([5], deeds + asked)[5:], [[2, 3], [4], 0, ("ann", 0, 4, "gone", None)])

    def test_one_further_behind(self):
        deeds = [keep(many=3), keep(many=3), keep(many=2), keep(many=1), ("back", 2), ("row", 0), ("free", 0)]
        self.assertEqual(answers([4], deeds)[4:], [[], [1, 3], 1])

    def test_one_that_waits_frees_nothing(self):
        self.assertEqual(answers([2], [keep(many=2), keep(many=1), ("back", 1), ("free", 0)])[2:], [[], 0])

    def test_the_last_of_its_row(self):
        deeds = [keep(many=2), keep(many=2), keep(many=1), ("back", 2), ("row", 0), ("back", 1), ("row", 0)]
        self.assertEqual(answers([2], deeds)[3:], [[], [1], [], []])

    def test_serves_its_own_show_alone(self):
        deeds = [keep(0), keep(1), keep(0), keep(1), ("back", 1), ("row", 0), ("row", 1)]
        self.assertEqual(answers([1, 1], deeds)[4:], [[3], [2], []])

    def test_the_row_goes_by_when_they_came_not_by_how_many(self):
        deeds = [keep(many=4), keep(many=3), keep(many=1), keep(many=2), ("back", 0)]
        self.assertEqual(last([4], deeds), [1, 2])


class PartTest(unittest.TestCase):
    def test_held(self):
        deeds = [keep(many=4), ("part", 0, 1), ("free", 0), ("state", 0)]
        self.assertEqual(answers([5], deeds)[1:], [[], 2, ("ann", 0, 3, "held", 5)])

    def test_taken(self):
        deeds = [keep(many=4), ("take", 0), ("part", 0, 3), ("free", 0), ("state", 0)]
        self.assertEqual(answers([5], deeds)[2:], [[], 4, ("ann", 0, 1, "taken", None)])

    def test_all_but_one(self):
        self.assertEqual(answers([2], [keep(many=2), ("part", 0, 1), ("free", 0)])[1:], [[], 1])

    def test_serves_in_order(self):
        deeds = [keep(many=5), keep(many=2), keep(many=1), keep(many=2), keep(many=1), ("part", 0, 4)]
        self.assertEqual(answers([5], deeds + [("row", 0), ("free", 0)])[5:], [[1, 2], [3, 4], 1])

    def test_first_of_its_row_is_served_itself_and_those_behind_it(self):
        deeds = [keep(many=3), keep(many=4), keep(many=1), keep(many=1), ("part", 1, 3), ("row", 0), ("state", 1)]
        self.assertEqual(answers([5], deeds)[4:], [[1, 2], [3], ("ann", 0, 1, "held", 5)])

    def test_first_of_its_row_still_wants_too_many(self):
        deeds = [keep(many=4), keep(many=4), keep(many=1), ("part", 1, 2), ("row", 0), ("free", 0), ("state", 1)]
        self.assertEqual(answers([5], deeds)[3:], [[], [1, 2], 1, ("ann", 0, 2, "waiting", None)])

    def test_one_further_behind_is_not_served_ahead(self):
        deeds = [keep(many=4), keep(many=2), keep(many=3), ("part", 2, 2), ("row", 0), ("free", 0), ("state", 2)]
        self.assertEqual(answers([5], deeds)[3:], [[], [1, 2], 1, ("ann", 0, 1, "waiting", None)])

    def test_one_that_waits_frees_nothing(self):
        self.assertEqual(answers([3], [keep(many=3), keep(many=2), ("part", 1, 1), ("free", 0)])[2:], [[], 0])

    def test_served_at_it_is_held_from_then_on(self):
        deeds = [keep(many=3, span=50), keep(many=2, span=4), ("clock", 9), ("part", 1, 1), ("part", 0, 1)]
        self.assertEqual(answers([3], deeds + [("state", 1)])[3:], [[], [1], ("ann", 0, 1, "held", 13)])

    def test_again_and_again(self):
        deeds = [keep(many=3), ("part", 0, 1), ("part", 0, 1), ("part", 0, 1), ("free", 0)]
        self.assertEqual(answers([3], deeds)[1:], [[], [], "too many", 2])

    def test_until_when_stays(self):
        self.assertEqual(last([3], [keep(many=3), ("clock", 2), ("part", 0, 1), ("state", 0)])[-1], 5)

    def test_only_what_is_left_is_free_at_its_lapse(self):
        self.assertEqual(last([3], [keep(many=3), ("part", 0, 2), ("clock", 5), ("free", 0)]), 3)


class MoveTest(unittest.TestCase):
    def test_held_until_when_stays(self):
        deeds = [keep(0, many=2, span=5), ("clock", 3), ("move", 0, 1), ("state", 0), ("free", 0), ("free", 1)]
        self.assertEqual(answers([2, 3], deeds)[2:], [[], ("ann", 1, 2, "held", 5), 2, 1])

    def test_taken_stays_taken(self):
        deeds = [keep(0, many=2), ("take", 0), ("move", 0, 1), ("state", 0), ("free", 0), ("free", 1), ("clock", FAR)]
        self.assertEqual(answers([2, 3], deeds)[2:], [[], ("ann", 1, 2, "taken", None), 2, 1, []])

    def test_just_so_many_are_free(self):
        self.assertEqual(answers([2, 3], [keep(1), keep(0, many=2), ("move", 1, 1), ("free", 1)])[2:], [[], 0])

    def test_the_row_that_is_left_is_served(self):
        deeds = [keep(0, many=3), keep(0, many=1), keep(0, many=2), keep(0, many=1), ("clock", 2), ("move", 0, 1)]
        asked = [("row", 0), ("row", 1), ("free", 0), ("state", 1), ("state", 2)]
        self.assertEqual(answers([3, 3], deeds + asked)[5:], [
            [1, 2], [3], [], 0, ("ann", 0, 1, "held", 7), ("ann", 0, 2, "held", 7),
        ])

    def test_lapses_at_the_show_it_went_to(self):
        deeds = [keep(0), ("move", 0, 1), keep(0), keep(0), keep(1), ("clock", 5)]
        self.assertEqual(last([1, 1], deeds), [(5, 0, "lapsed"), (5, 3, "held"), (5, 1, "lapsed"), (5, 2, "held")])

    def test_back_is_given_at_the_show_it_went_to(self):
        deeds = [keep(0), ("move", 0, 1), keep(1), keep(0), ("back", 0), ("free", 0), ("free", 1), ("state", 0)]
        self.assertEqual(answers([1, 1], deeds)[4:], [[1], 0, 0, ("ann", 1, 1, "gone", None)])

    def test_part_is_given_at_the_show_it_went_to(self):
        deeds = [keep(0, many=2), ("move", 0, 1), keep(1), ("part", 0, 1), ("free", 0), ("free", 1)]
        self.assertEqual(answers([2, 2], deeds)[3:], [[1], 2, 0])

    def test_there_and_back_again(self):
        deeds = [keep(0), ("move", 0, 1), ("move", 0, 0), ("free", 0), ("free", 1), ("state", 0)]
        self.assertEqual(answers([1, 1], deeds)[1:], [[], [], 0, 1, ("ann", 0, 1, "held", 5)])

    def test_nobody_who_waits_there_is_passed_over(self):
        deeds = [keep(0), keep(0), keep(1), ("move", 2, 0), ("back", 0), ("move", 2, 0), ("back", 1), ("move", 2, 0)]
        self.assertEqual(answers([1, 1], deeds)[3:], ["full", [1], "full", [], []])

    def test_one_that_was_served_moves_with_its_new_time(self):
        deeds = [keep(0, span=50), keep(0, span=4), ("clock", 9), ("back", 0), ("move", 1, 1), ("state", 1)]
        self.assertEqual(last([1, 1], deeds), ("ann", 1, 1, "held", 13))


class PassTest(unittest.TestCase):
    def test_held_taken_and_waiting(self):
        deeds = [keep(), keep(), keep(), ("take", 1)]
        deeds += [("pass", number, "bo%d" % number) for number in range(3)]
        self.assertEqual(answers([2], deeds)[4:], ["passed"] * 3)
        self.assertEqual(standing([2], deeds), [
            (0, "bo0", 0, 1, "held", 5), (1, "bo1", 0, 1, "taken", None), (2, "bo2", 0, 1, "waiting", None),
        ])

    def test_nothing_else_changes(self):
        deeds = [keep(many=2), keep(), keep(), ("clock", 2), ("pass", 1, "bo"), ("row", 0), ("free", 0), ("clock", 5)]
        self.assertEqual(answers([2], deeds)[4:], [
            "passed", [1, 2], 0, [(5, 0, "lapsed"), (5, 1, "held"), (5, 2, "held")],
        ])

    def test_to_the_same_person_to_nobody_and_on(self):
        deeds = [keep(), ("pass", 0, "ann"), ("pass", 0, ""), ("pass", 0, "bo"), ("state", 0)]
        self.assertEqual(answers([1], deeds)[1:], ["passed"] * 3 + [("bo", 0, 1, "held", 5)])

    def test_this_one_alone(self):
        deeds = [keep(who="ann"), keep(who="ann"), ("pass", 0, "bo"), ("state", 1)]
        self.assertEqual(last([2], deeds)[0], "ann")

    def test_stays_the_persons_when_it_is_served_and_gone(self):
        deeds = [keep(), keep(), ("pass", 1, "bo"), ("back", 0), ("state", 1), ("back", 1), ("state", 1)]
        self.assertEqual(answers([1], deeds)[3:], [
            [1], ("bo", 0, 1, "held", 5), [], ("bo", 0, 1, "gone", None),
        ])


class AskTest(unittest.TestCase):
    def test_free(self):
        self.assertEqual(answers([3, 0, 2], [("free", 0), ("free", 1), ("free", 2)]), [3, 0, 2])
        deeds = [keep(2), ("free", 0), ("free", 1), ("free", 2)]
        self.assertEqual(answers([3, 0, 2], deeds)[1:], [3, 0, 1])

    def test_free_is_less_by_held_and_taken_alone(self):
        deeds = [keep(many=2), keep(many=3), ("take", 1), keep(many=4), keep(many=1), ("free", 0)]
        self.assertEqual(last([8], deeds), 3)
        self.assertEqual(last([8], deeds[:-1] + [("back", 0), ("free", 0)]), 0)

    def test_row(self):
        deeds = [("row", 0), keep(), ("row", 0), keep(), keep(), ("row", 0), ("row", 1)]
        self.assertEqual([told for told in answers([1, 1], deeds) if type(told) is list], [[], [], [1, 2], []])

    def test_a_row_that_was_told_stays_as_it_was(self):
        deeds = [keep(), keep(), ("row", 0), ("row", 0), keep(), ("back", 0), ("row", 0)]
        told = answers([1], deeds)
        self.assertEqual(told[2:4], [[1], [1]])
        self.assertIsNot(told[2], told[3])
        self.assertEqual(told[5:], [[1], [2]])

    def test_asking_changes_nothing(self):
        deeds = [keep(many=2, span=1), keep(), keep()]
        asked = [("free", 0), ("row", 0), ("state", 0), ("state", 1)]
        self.assertEqual(standing([2], deeds), standing([2], deeds + asked))
        self.assertEqual(answers([2], asked[:2] + deeds + asked + asked)[5:9], answers([2], deeds + asked)[3:])

    def test_state_of_one_that_is_gone_tells_the_places_that_it_had_last(self):
        deeds = [keep(many=5), ("part", 0, 2), ("back", 0), ("state", 0)]
        self.assertEqual(last([5], deeds), ("ann", 0, 3, "gone", None))
        deeds = [keep(many=5), ("part", 0, 4), ("clock", 5), ("state", 0)]
        self.assertEqual(last([5], deeds), ("ann", 0, 1, "gone", None))
        deeds = [keep(many=5), keep(many=4), ("part", 1, 1), ("back", 1), ("state", 1)]
        self.assertEqual(last([5], deeds), ("ann", 0, 3, "gone", None))

    def test_whole_numbers_are_told(self):
        told = answers([1], [keep(), ("free", 0), ("state", 0)])
        self.assertEqual([type(told[0][0]), type(told[1])], [int, int])
        self.assertEqual([type(value) for value in told[2]], [str, int, int, str, int])


class StandingTest(unittest.TestCase):
    def test_no_deeds_at_all(self):
        for rooms in ([], [0], [4, 2]):
            self.assertEqual(answers(rooms, []), [])
            self.assertEqual(standing(rooms, []), [])

    def test_all_that_are_not_gone_in_the_order_of_numbers(self):
        deeds = [
            keep(1, 2, 9, "a"), keep(0, 2, 3, "b"), keep(0, 1, 4, "c"), keep(1, 1, 5, "d"), keep(0, 2, 6, "e"),
            keep(2, 1, 1, "f"), ("take", 3), ("clock", 2), ("back", 2),
        ]
        self.assertEqual(standing([2, 3, 1], deeds), [
            (0, "a", 1, 2, "held", 9), (1, "b", 0, 2, "held", 3), (3, "d", 1, 1, "taken", None),
            (4, "e", 0, 2, "waiting", None),
        ])

    def test_in_the_order_of_numbers_though_served_and_moved_otherwise(self):
        deeds = [keep(0, 2), keep(0, 2), keep(0, 1), keep(1, 1), ("back", 1), ("back", 0), ("move", 3, 0)]
        self.assertEqual([stands[0] for stands in standing([2, 1], deeds)], [2, 3])

    def test_all_gone(self):
        self.assertEqual(standing([1], [keep(), keep(), ("back", 1), ("clock", 5)]), [])

    def test_refused_deeds_stand_nowhere(self):
        self.assertEqual(standing([1], [keep(many=2), keep(show=1), ("take", 0), ("clock", -1)]), [])


if __name__ == "__main__":
    unittest.main()
