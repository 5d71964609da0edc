"""Points [3] and [4]: a show, what is free of it, and its row."""

import unittest

from keepyard.keeping import Keeping
from keepyard.show import Show


def lined_up(show, *wanted):
    keepings = [Keeping(number, "ann", 0, many, 5) for number, many in enumerate(wanted)]
    for keeping in keepings:
        show.line_up(keeping)
    return keepings


class ShowTest(unittest.TestCase):
    def test_begins_free_and_without_a_row(self):
        for room in (0, 3, 10 ** 99):
            show = Show(room)
            self.assertEqual((show.room, show.free_places(), show.numbers_waiting()), (room, room, []))
            self.assertEqual(show.serve(0), [])

    def test_serves_from_the_first_on_as_long_as_there_is_room(self):
        show = Show(4)
        keepings = lined_up(show, 2, 1, 2, 1)
        self.assertEqual(show.serve(7), [0, 1])
        self.assertEqual([one.state for one in keepings], ["held", "held", "waiting", "waiting"])
        self.assertEqual([one.until for one in keepings], [12, 12, None, None])
        self.assertEqual((show.free_places(), show.numbers_waiting()), (1, [2, 3]))
        self.assertEqual(show.serve(8), [])

    def test_free_is_the_room_less_what_is_held_and_taken(self):
        show = Show(9)
        keepings = lined_up(show, 2, 3)
        show.serve(0)
        keepings[0].take()
        self.assertEqual(show.free_places(), 4)
        keepings[1].give_back(1)
        self.assertEqual(show.free_places(), 5)

    def test_has_room_only_where_nobody_waits(self):
        show = Show(3)
        self.assertEqual([show.has_room_for(many) for many in (1, 3, 4)], [True, True, False])
        lined_up(show, 2, 2)
        show.serve(0)
        self.assertEqual((show.free_places(), show.has_room_for(1)), (1, False))

    def test_let_in_and_let_go(self):
        show = Show(3)
        taken, waiting = lined_up(show, 2, 2)
        show.serve(0)
        taken.take()
        show.let_go(waiting)
        self.assertEqual((show.free_places(), show.numbers_waiting()), (1, []))
        show.let_go(taken)
        self.assertEqual(show.free_places(), 3)
        show.let_in(taken)
        self.assertEqual(show.free_places(), 1)

    def test_those_who_look_alike_are_told_apart(self):
        show = Show(1)
        first, second = lined_up(show, 1, 1)
        second.number = first.number
        show.serve(0)
        show.let_go(first)
        first.leave()
        self.assertEqual((show.free_places(), len(show.row)), (1, 1))


if __name__ == "__main__":
    unittest.main()
