"""Point [7]: the texts of the refusals."""

import unittest

from keepyard import errors

TEXTS = {
    errors.NoKeeping: "no keeping",
    errors.NoShow: "no show",
    errors.NoPlaces: "no places",
    errors.TooMany: "too many",
    errors.NoSpan: "no span",
    errors.NotHeld: "not held",
    errors.SameShow: "same show",
    errors.Full: "full",
    errors.TooEarly: "too early",
}


class RefusalsTest(unittest.TestCase):
    def test_texts_word_for_word(self):
        for refusal, text in TEXTS.items():
            self.assertEqual(refusal().text, text)
            self.assertEqual(str(refusal()), text)

    def test_every_refusal_of_the_program_is_told_here(self):
        self.assertEqual(set(errors.Refusal.__subclasses__()), set(TEXTS))

    def test_taken_as_a_refusal(self):
        for refusal, text in TEXTS.items():
            with self.assertRaises(errors.Refusal) as caught:
                raise refusal()
            self.assertEqual(caught.exception.text, text)

    def test_none_is_taken_for_another(self):
        for refusal in TEXTS:
            for other in TEXTS:
                self.assertEqual(issubclass(refusal, other), refusal == other)


if __name__ == "__main__":
    unittest.main()
