"""Point [7]: the refusals, which of several is told, and that a refused deed changes nothing."""

import unittest

from keepyard.day import answers, standing
from tests.deeds import everything, keep

BEYOND = 10 ** 99

# Keepings behind these: 0 held, 1 taken, 2 first of the row and 3 behind it at show 0; 4 gone; 5 held at show 1.
# Show 0 has 1 place free, with a row; show 1 has 2, show 2 has 3, show 3 has none at all. The time is 2.
ROOMS = [5, 4, 3, 0]
DEEDS = [
    keep(0, 2, 9, "a"), keep(0, 2, 9, "b"), ("take", 1), keep(0, 3, 4, "c"), keep(0, 1, 4, "d"),
    keep(1, 1, 9, "e"), ("back", 4), keep(1, 2, 9, "f"), ("clock", 2),
]
KEPT = 6


class RefusedTest(unittest.TestCase):
    def assert_refused(self, text, *deeds):
        before = everything(ROOMS, DEEDS)
        for deed in deeds:
            with self.subTest(deed=deed):
                self.assertEqual(answers(ROOMS, DEEDS + [deed])[-1], text)
                self.assertEqual(everything(ROOMS, DEEDS + [deed]), before)
                self.assertEqual(answers(ROOMS, DEEDS + [deed, keep(1)])[-1], (KEPT, "held"))

    def test_what_the_deeds_ahead_come_to(self):
        self.assertEqual(answers(ROOMS, DEEDS), [
            (0, "held"), (1, "held"), "taken", (2, "waiting"), (3, "waiting"), (4, "held"), [], (5, "held"), [],
        ])
        self.assertEqual(standing(ROOMS, DEEDS), [
            (0, "a", 0, 2, "held", 9), (1, "b", 0, 2, "taken", None), (2, "c", 0, 3, "waiting", None),
            (3, "d", 0, 1, "waiting", None), (5, "f", 1, 2, "held", 9),
        ])

    def test_no_keeping_with_this_number(self):
        for number in (-BEYOND, -KEPT, -1, KEPT, KEPT + 1, BEYOND):
            self.assert_refused(
                "no keeping", ("take", number), ("back", number), ("part", number, 1), ("move", number, 2),
                ("pass", number, "z"), ("state", number),
            )

    def test_no_keeping_as_it_is_gone(self):
        self.assert_refused("no keeping", ("take", 4), ("back", 4), ("part", 4, 1), ("move", 4, 2), ("pass", 4, "z"))

    def test_one_that_is_gone_may_be_asked_for(self):
        self.assertEqual(answers(ROOMS, DEEDS + [("state", 4)])[-1], ("e", 1, 1, "gone", None))

    def test_no_keeping_goes_ahead_of_all_others(self):
        for number in (-1, 4, KEPT):
            self.assert_refused(
                "no keeping", ("part", number, 0), ("part", number, -1), ("part", number, BEYOND),
                ("move", number, -1), ("move", number, 4), ("move", number, 0), ("move", number, 1),
                ("move", number, 3),
            )

    def test_no_show(self):
        for show in (-BEYOND, -4, -1, 4, 5, BEYOND):
            self.assert_refused("no show", keep(show), ("move", 0, show), ("move", 1, show), ("free", show), ("row", show))

    def test_no_show_goes_ahead_of_all_but_no_keeping(self):
        for show in (-1, 4):
            self.assert_refused(
                "no show", keep(show, many=0), keep(show, many=BEYOND), keep(show, span=0), keep(show, 0, 0),
                keep(show, BEYOND, 0), ("move", 2, show), ("move", 3, show),
            )

    def test_no_places_asked_for(self):
        self.assert_refused("no places", *[keep(show, many) for show in range(4) for many in (0, -1, -BEYOND)])

    def test_no_places_given_back(self):
        for number in (0, 1, 2, 3, 5):
            self.assert_refused("no places", ("part", number, 0), ("part", number, -1), ("part", number, -BEYOND))

    def test_no_places_goes_ahead_of_no_span(self):
        self.assert_refused("no places", keep(0, 0, 0), keep(1, -1, -1), keep(3, 0, 0))

    def test_too_many_asked_for(self):
        self.assert_refused("too many", keep(0, 6), keep(1, 5), keep(2, 4), keep(3, 1), keep(2, BEYOND))

    def test_too_many_given_back(self):
        self.assert_refused(
            "too many", ("part", 0, 2), ("part", 0, 3), ("part", 1, 2), ("part", 2, 3), ("part", 2, BEYOND),
            ("part", 3, 1), ("part", 5, 2),
        )

    def test_too_many_is_of_the_places_that_are_left(self):
        deeds = [keep(many=4), ("part", 0, 2), ("part", 0, 2), ("part", 0, 1), ("part", 0, 1), ("free", 0)]
        self.assertEqual(answers([4], deeds)[1:], [[], "too many", [], "too many", 3])

    def test_too_many_goes_ahead_of_no_span(self):
        self.assert_refused("too many", keep(0, 6, 0), keep(2, 4, -1), keep(3, 1, 0))

    def test_no_span(self):
        self.assert_refused("no span", *[keep(show, 1, span) for show in range(3) for span in (0, -1, -BEYOND)])

    def test_not_held_to_be_taken(self):
        self.assert_refused("not held", ("take", 1), ("take", 2), ("take", 3))

    def test_not_held_to_be_moved(self):
        self.assert_refused("not held", ("move", 2, 1), ("move", 2, 2), ("move", 3, 1), ("move", 3, 2))

    def test_not_held_goes_ahead_of_same_show_and_full(self):
        self.assert_refused("not held", ("move", 2, 0), ("move", 3, 0), ("move", 2, 3), ("move", 3, 3))

    def test_same_show(self):
        self.assert_refused("same show", ("move", 5, 1))

    def test_same_show_goes_ahead_of_full(self):
        self.assert_refused("same show", ("move", 0, 0), ("move", 1, 0))
        self.assertEqual(answers([1], [keep(), ("move", 0, 0)])[-1], "same show")

    def test_full_as_somebody_waits(self):
        self.assert_refused("full", ("move", 5, 0))
        deeds = [keep(0, 3), keep(0, 2), keep(1, 1), ("free", 0), ("move", 2, 0)]
        self.assertEqual(answers([4, 1], deeds)[3:], [1, "full"])
        self.assertEqual(answers([4, 1], deeds[:3] + [("take", 2), ("move", 2, 0)])[3:], ["taken", "full"])

    def test_full_as_too_few_are_free(self):
        deeds = [keep(0, 2), keep(1, 2), ("move", 0, 1), ("take", 0), ("move", 0, 1), ("free", 0), ("free", 1)]
        self.assertEqual(answers([2, 3], deeds)[2:], ["full", "taken", "full", 0, 1])
        self.assertEqual(answers([2, 3], deeds[:2] + [("part", 0, 1), ("move", 0, 1)])[2:], [[], []])

    def test_full_where_the_room_is_too_small_at_all(self):
        self.assert_refused("full", ("move", 0, 3), ("move", 1, 3), ("move", 5, 3))

    def test_too_early(self):
        self.assert_refused("too early", ("clock", 1), ("clock", 0), ("clock", -1), ("clock", -BEYOND))
        self.assertEqual(answers([], [("clock", -1), ("clock", 0), ("clock", 0), ("clock", -1)]),
                         ["too early", [], [], "too early"])

    def test_refused_keeps_take_no_number(self):
        deeds = [keep(), keep(9), keep(many=0), keep(many=9), keep(span=0), keep()]
        self.assertEqual(answers([3], deeds), [(0, "held"), "no show", "no places", "too many", "no span", (1, "held")])
        self.assertEqual([stands[0] for stands in standing([3], deeds)], [0, 1])

    def test_a_room_of_nought(self):
        deeds = [keep(many=1), keep(many=0), ("free", 0), ("row", 0), ("state", 0)]
        self.assertEqual(answers([0], deeds), ["too many", "no places", 0, [], "no keeping"])

    def test_no_shows_at_all(self):
        deeds = [keep(0), keep(-1), ("free", 0), ("row", 0), ("take", 0), ("back", 0), ("part", 0, 1), ("move", 0, 0),
                 ("pass", 0, "bo"), ("state", 0), ("clock", 3)]
        self.assertEqual(answers([], deeds), ["no show"] * 4 + ["no keeping"] * 6 + [[]])
        self.assertEqual(standing([], deeds), [])

    def test_a_number_is_refused_until_it_is_given(self):
        self.assertEqual(answers([1], [("state", 0), keep(), ("state", 0), ("state", 1)]),
                         ["no keeping", (0, "held"), ("ann", 0, 1, "held", 5), "no keeping"])

    def test_one_that_lapsed_is_refused(self):
        deeds = [keep(), ("clock", 5), ("take", 0), ("back", 0), ("part", 0, 1), ("move", 0, 1), ("pass", 0, "bo")]
        self.assertEqual(answers([1, 1], deeds)[2:], ["no keeping"] * 5)


if __name__ == "__main__":
    unittest.main()
