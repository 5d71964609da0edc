"""Point [3]: what a keeping is."""

import unittest

from keepyard.keeping import GONE, HELD, TAKEN, WAITING, Keeping

HUNDRED = 10 ** 99


def told(keeping):
    return (keeping.number, keeping.who, keeping.show, keeping.many, keeping.state, keeping.until)


class StatesTest(unittest.TestCase):
    def test_states_word_for_word(self):
        self.assertEqual([HELD, TAKEN, WAITING, GONE], ["held", "taken", "waiting", "gone"])


class KeepingTest(unittest.TestCase):
    def test_begins_in_no_place(self):
        keeping = Keeping(3, "ann", 1, 2, 5)
        self.assertEqual(told(keeping), (3, "ann", 1, 2, "waiting", None))
        self.assertEqual(keeping.span, 5)
        self.assertEqual(keeping.places_kept(), 0)

    def test_held_until_a_span_later_than_now(self):
        keeping = Keeping(3, "ann", 1, 2, 5)
        keeping.hold(4)
        self.assertEqual(told(keeping), (3, "ann", 1, 2, "held", 9))
        self.assertEqual(keeping.places_kept(), 2)

    def test_held_from_nought(self):
        keeping = Keeping(0, "", 0, 1, 1)
        keeping.hold(0)
        self.assertEqual(told(keeping), (0, "", 0, 1, "held", 1))

    def test_taken_is_held_until_no_time(self):
        keeping = Keeping(3, "ann", 1, 2, 5)
        keeping.hold(4)
        keeping.take()
        self.assertEqual(told(keeping), (3, "ann", 1, 2, "taken", None))
        self.assertEqual(keeping.places_kept(), 2)

    def test_gone_tells_the_places_that_it_had_last_and_keeps_none(self):
        waiting = Keeping(3, "ann", 1, 2, 5)
        held = Keeping(3, "ann", 1, 2, 5)
        held.hold(4)
        taken = Keeping(3, "ann", 1, 2, 5)
        taken.hold(4)
        taken.take()
        for keeping in (waiting, held, taken):
            keeping.leave()
            self.assertEqual(told(keeping), (3, "ann", 1, 2, "gone", None))
            self.assertEqual(keeping.places_kept(), 0)

    def test_gives_back_places(self):
        keeping = Keeping(3, "ann", 1, 4, 5)
        keeping.give_back(1)
        self.assertEqual(told(keeping), (3, "ann", 1, 3, "waiting", None))
        keeping.hold(4)
        keeping.give_back(2)
        self.assertEqual(told(keeping), (3, "ann", 1, 1, "held", 9))
        self.assertEqual(keeping.places_kept(), 1)

    def test_goes_to_another_show_and_another_person(self):
        keeping = Keeping(3, "ann", 1, 2, 5)
        keeping.hold(4)
        keeping.move_to(0)
        keeping.pass_to("bo")
        self.assertEqual(told(keeping), (3, "bo", 0, 2, "held", 9))

    def test_hundred_figures(self):
        keeping = Keeping(0, "ann", 0, HUNDRED, HUNDRED)
        keeping.hold(HUNDRED + 1)
        self.assertEqual(told(keeping), (0, "ann", 0, HUNDRED, "held", 2 * HUNDRED + 1))
        self.assertEqual(keeping.places_kept(), HUNDRED)

    def test_keepings_share_nothing(self):
        one = Keeping(0, "ann", 0, 1, 1)
        other = Keeping(1, "bo", 0, 1, 1)
        one.hold(0)
        self.assertEqual(told(other), (1, "bo", 0, 1, "waiting", None))


if __name__ == "__main__":
    unittest.main()
