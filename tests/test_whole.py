"""Points [1] and [8], and all others at once: what holds over the whole program, whatever the deeds."""

import copy
import itertools
import time
import unittest

from keepyard.day import answers, standing
from tests.deeds import drawn, keep
from tests.model import Model

HUNDRED = 10 ** 99
MOST = 10 ** 100 - 1
SEEDS = range(1500)
TEXTS = ["no keeping", "no show", "no places", "too many", "no span", "not held", "same show", "full", "too early"]


def by_ones(deeds, told):
    """The same deeds with the time going on by ones, and the answers that they should have."""
    slow = []
    expected = []
    now = 0
    for deed, answer in zip(deeds, told):
        if deed[0] != "clock" or answer == "too early":
            slow.append(deed)
            expected.append(answer)
        else:
            for moment in range(now, deed[1] + 1):
                slow.append(("clock", moment))
                expected.append([happening for happening in answer if happening[0] == moment and moment > now])
            now = deed[1]
    return slow, expected


class DrawnTest(unittest.TestCase):
    def test_against_the_slow_way(self):
        for seed in SEEDS:
            rooms, deeds = drawn(seed)
            model = Model(rooms)
            expected = [model.do(deed) for deed in deeds]
            self.assertEqual(answers(rooms, deeds), expected, (seed, rooms, deeds))
            self.assertEqual(standing(rooms, deeds), model.standing(), (seed, rooms, deeds))

    def test_every_refusal_and_happening_is_met(self):
        met = {}
        for seed in SEEDS:
            rooms, deeds = drawn(seed)
            for deed, told in zip(deeds, answers(rooms, deeds)):
                if told in TEXTS:
                    met[told] = met.get(told, 0) + 1
                elif deed[0] in ("back", "part", "move", "clock"):
                    length = (deed[0], min(len(told), 2))
                    met[length] = met.get(length, 0) + 1
        for text in TEXTS:
            self.assertGreater(met.get(text, 0), 20, text)
        for name in ("back", "part", "move", "clock"):
            for length in range(3):
                self.assertGreater(met.get((name, length), 0), 3, (name, length))

    def test_at_once_and_by_and_by(self):
        for seed in SEEDS[:500]:
            rooms, deeds = drawn(seed)
            slow, expected = by_ones(deeds, answers(rooms, deeds))
            self.assertEqual(answers(rooms, slow), expected, seed)
            self.assertEqual(standing(rooms, slow), standing(rooms, deeds), seed)

    def test_never_more_places_kept_than_there_are(self):
        for seed in SEEDS[:100]:
            rooms, deeds = drawn(seed)
            slow = by_ones(deeds, answers(rooms, deeds))[0]
            for end in range(len(slow) + 1):
                self.assert_sound(rooms, slow[:end])

    def assert_sound(self, rooms, deeds):
        asked = [(name, show) for show in range(len(rooms)) for name in ("free", "row")]
        told = answers(rooms, deeds + asked)[len(deeds):]
        stands = standing(rooms, deeds)
        for show, room in enumerate(rooms):
            free, row = told[2 * show:2 * show + 2]
            here = [one for one in stands if one[2] == show]
            self.assertEqual(free, room - sum(one[3] for one in here if one[4] in ("held", "taken")))
            self.assertIn(free, range(room + 1))
            self.assertEqual(sorted(row), [one[0] for one in here if one[4] == "waiting"])
            wanted = {one[0]: one[3] for one in here}
            if row:
                self.assertGreater(wanted[row[0]], free)
        for one in stands:
            self.assertGreaterEqual(one[3], 1)
            self.assertEqual(one[5] is not None, one[4] == "held")

    def test_the_answers_ahead_do_not_hang_on_the_deeds_behind(self):
        for seed in SEEDS[:100]:
            rooms, deeds = drawn(seed)
            told = answers(rooms, deeds)
            for end in range(len(deeds)):
                self.assertEqual(answers(rooms, deeds[:end]), told[:end])

    def test_nothing_handed_in_is_changed_and_the_same_again(self):
        for seed in SEEDS[:300]:
            rooms, deeds = drawn(seed)
            kept = copy.deepcopy((rooms, deeds))
            told = answers(rooms, deeds)
            stands = standing(rooms, deeds)
            self.assertEqual((rooms, deeds), kept)
            self.assertEqual((answers(rooms, deeds), standing(rooms, deeds)), (told, stands))

    def test_what_is_answered_is_the_callers_own(self):
        rooms, deeds = [1], [keep(), keep(), ("row", 0), ("clock", 5), ("row", 0)]
        told = answers(rooms, deeds)
        for answer in told[2:]:
            answer.append("more")
        told.clear()
        standing(rooms, deeds).clear()
        self.assertEqual(answers(rooms, deeds)[2:], [[1], [(5, 0, "lapsed"), (5, 1, "held")], []])
        self.assertEqual(len(standing(rooms, deeds)), 1)


class EverySmallDayTest(unittest.TestCase):
    DEEDS = [
        keep(0, 1, 1), keep(0, 2, 2), keep(1, 1, 2), ("take", 0), ("back", 0), ("back", 1), ("part", 0, 1),
        ("part", 1, 1), ("move", 0, 1), ("move", 1, 0), ("clock", 1), ("clock", 3),
    ]

    def test_against_the_slow_way(self):
        rooms = [2, 1]
        for begin in ([keep(0, 2, 1), keep(0, 2, 2)], [keep(0, 1, 3), keep(1, 1, 1), keep(0, 2, 1)]):
            for middle in itertools.product(self.DEEDS, repeat=3):
                deeds = begin + list(middle) + [("clock", 9)]
                model = Model(rooms)
                self.assertEqual(answers(rooms, deeds), [model.do(deed) for deed in deeds], deeds)
                self.assertEqual(standing(rooms, deeds), model.standing(), deeds)


class BigNumbersTest(unittest.TestCase):
    def test_hundred_figures(self):
        deeds = [
            keep(0, HUNDRED, HUNDRED), keep(0, MOST - HUNDRED, MOST), ("free", 0), keep(0, 1, MOST),
            ("part", 1, MOST - HUNDRED - 1), ("free", 0), ("clock", HUNDRED - 1), ("clock", HUNDRED),
            ("clock", MOST), ("free", 0), ("state", 2),
        ]
        self.assertEqual(answers([MOST], deeds), [
            (0, "held"), (1, "held"), 0, (2, "waiting"), [2], MOST - HUNDRED - 2, [], [(HUNDRED, 0, "lapsed")],
            [(MOST, 1, "lapsed"), (MOST, 2, "lapsed")], MOST, ("ann", 0, 1, "gone", None),
        ])

    def test_one_less_and_one_more(self):
        deeds = [keep(0, MOST, 1), keep(0, MOST + 1, 1), keep(0, 1, 1), ("part", 0, MOST), ("part", 0, MOST - 1)]
        self.assertEqual(answers([MOST], deeds), [(0, "held"), "too many", (1, "waiting"), "too many", [1]])

    def test_held_beyond_a_hundred_figures(self):
        deeds = [("clock", MOST), keep(0, 1, MOST), ("state", 0), ("clock", MOST - 1), ("clock", 2 * MOST)]
        self.assertEqual(answers([1], deeds), [
            [], (0, "held"), ("ann", 0, 1, "held", 2 * MOST), "too early", [(2 * MOST, 0, "lapsed")],
        ])

    def test_moved(self):
        deeds = [keep(0, HUNDRED, MOST), keep(1, MOST - HUNDRED, 1), ("move", 0, 1), ("move", 1, 0), ("free", 0)]
        self.assertEqual(answers([HUNDRED, MOST], deeds)[2:], [[], "full", HUNDRED])

    def test_numbers_and_shows_of_a_hundred_figures(self):
        deeds = [keep(HUNDRED), ("free", -HUNDRED), ("take", HUNDRED), ("state", -HUNDRED)]
        self.assertEqual(answers([1], deeds), ["no show", "no show", "no keeping", "no keeping"])


class LongDaysTest(unittest.TestCase):
    # Far more than the program needs, but far less than a way that walks through the times would.
    SECONDS = 20

    def in_time(self, rooms, deeds):
        begin = time.monotonic()
        told = answers(rooms, deeds)
        stands = standing(rooms, deeds)
        self.assertLess(time.monotonic() - begin, self.SECONDS)
        self.assertEqual(len(told), len(deeds))
        return told, stands

    def test_all_lapse_at_once(self):
        deeds = [keep(number % 40, 1, HUNDRED + number) for number in range(1399)] + [("clock", MOST)]
        told, stands = self.in_time([HUNDRED] * 40, deeds)
        self.assertEqual(told[-1], [(HUNDRED + number, number, "lapsed") for number in range(1399)])
        self.assertEqual(stands, [])

    def test_a_row_that_is_served_one_by_one(self):
        deeds = [keep(0, 1, HUNDRED) for number in range(1399)] + [("clock", MOST)]
        told, stands = self.in_time([1], deeds)
        self.assertEqual(told[-1], [
            ((number // 2 + 1) * HUNDRED, (number + 1) // 2, "held" if number % 2 else "lapsed") for number in range(18)
        ])
        self.assertEqual(stands[0], (9, "ann", 0, 1, "held", 10 * HUNDRED))
        self.assertEqual(len(stands), 1390)

    def test_a_row_that_is_served_to_its_end(self):
        deeds = [keep(0, 1, 7) for number in range(1399)] + [("clock", MOST)]
        told, stands = self.in_time([1], deeds)
        self.assertEqual(told[-1][-1], (7 * 1399, 1398, "lapsed"))
        self.assertEqual(len(told[-1]), 2 * 1399 - 1)
        self.assertEqual(stands, [])

    def test_a_long_row_in_one_show(self):
        deeds = [keep(0, HUNDRED, 9)] + [keep(0, 1, 9) for number in range(1398)] + [("back", 0)]
        told, stands = self.in_time([HUNDRED], deeds)
        self.assertEqual(told[-1], list(range(1, 1399)))
        self.assertEqual(len(stands), 1398)

    def test_given_back_one_by_one(self):
        deeds = [keep(0, 1, 9) for number in range(700)] + [("back", number) for number in reversed(range(700))]
        told, stands = self.in_time([1], deeds)
        self.assertEqual(told[700:], [[]] * 700)
        self.assertEqual(stands, [])

    def test_forty_shows_and_somewhat_beyond(self):
        rooms = [2] * 45
        deeds = [keep(number % 45, 1, number + 1) for number in range(90)]
        for turn in range(15):
            deeds += [("back", 90 * turn + number) for number in range(45)]
            deeds += [keep(number % 45, 2, 5) for number in range(45)]
            deeds += [("part", 90 * turn + number, 1) for number in range(10)]
        told, stands = self.in_time(rooms, deeds)
        model = Model(rooms)
        self.assertEqual(told, [model.do(deed) for deed in deeds])
        self.assertEqual(stands, model.standing())

    def test_the_time_told_again_and_again(self):
        deeds = [keep(0, 1, HUNDRED) for number in range(700)] + [("clock", number) for number in range(700)]
        told, stands = self.in_time([700], deeds)
        self.assertEqual(told[700:], [[]] * 700)
        self.assertEqual(len(stands), 700)


if __name__ == "__main__":
    unittest.main()
