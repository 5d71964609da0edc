"""Point [9]: the story, answer by answer, and what stands behind it."""

import unittest

from keepyard.day import answers, standing

ROOMS = [4]
STORY = [
    (("keep", "ann", 0, 3, 5), (0, "held")),
    (("keep", "bo", 0, 2, 1), (1, "waiting")),
    (("keep", "cid", 0, 1, 9), (2, "waiting")),
    (("part", 0, 1), [1]),
    (("clock", 4), [(1, 1, "lapsed"), (1, 2, "held")]),
    (("take", 0), "taken"),
    (("clock", 12), [(10, 2, "lapsed")]),
    (("free", 0), 2),
]
DEEDS = [deed for deed, told in STORY]


class StoryTest(unittest.TestCase):
    def test_answer_by_answer(self):
        for end in range(len(STORY) + 1):
            self.assertEqual(answers(ROOMS, DEEDS[:end]), [told for deed, told in STORY[:end]])

    def test_what_stands_behind_it(self):
        self.assertEqual(standing(ROOMS, DEEDS), [(0, "ann", 0, 2, "taken", None)])

    def test_what_stands_behind_each_deed(self):
        ann = (0, "ann", 0, 3, "held", 5)
        bo = (1, "bo", 0, 2, "waiting", None)
        cid = (2, "cid", 0, 1, "waiting", None)
        less = (0, "ann", 0, 2, "held", 5)
        taken = (0, "ann", 0, 2, "taken", None)
        served = (2, "cid", 0, 1, "held", 10)
        behind = [
            [],
            [ann],
            [ann, bo],
            [ann, bo, cid],
            [less, (1, "bo", 0, 2, "held", 1), cid],
            [less, served],
            [taken, served],
            [taken],
            [taken],
        ]
        for end, stands in enumerate(behind):
            self.assertEqual(standing(ROOMS, DEEDS[:end]), stands, end)

    def test_one_place_stays_free_as_bo_stands_ahead(self):
        self.assertEqual(answers(ROOMS, DEEDS[:3] + [("free", 0), ("row", 0)])[3:], [1, [1, 2]])

    def test_those_who_lapsed_are_gone(self):
        asked = [("state", 0), ("state", 1), ("state", 2), ("row", 0)]
        self.assertEqual(answers(ROOMS, DEEDS + asked)[len(DEEDS):], [
            ("ann", 0, 2, "taken", None), ("bo", 0, 2, "gone", None), ("cid", 0, 1, "gone", None), [],
        ])


if __name__ == "__main__":
    unittest.main()
