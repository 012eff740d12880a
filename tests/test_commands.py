"""The interface: laidforall/commands.py."""

import unittest

import samples
from laidforall.commands import read_place, write_laying, write_place
from laidforall.errors import BadValue


class PlaceTest(unittest.TestCase):
    def test_written_places(self):
        for place, word in (((), "root"), ((0,), "0"), ((3, 0, 12), "3.0.12"), ((0,) * 12, ".".join("0" * 12)),
                            ((599, 999999999999), "599.999999999999")):
            self.assertEqual(write_place(place), word)
            self.assertEqual(read_place(word), place)

    def test_inverse_to_one_another(self):
        rnd = samples.chance(100)
        for _ in range(300):
            place = tuple(rnd.choice((0, 1, 9, 10, 73, 10 ** rnd.randint(2, 11))) for _ in range(rnd.randint(0, 12)))
            self.assertEqual(read_place(write_place(place)), place)

    def test_words_that_are_no_places(self):
        for word in ("", " ", "Root", "roots", "root.0", "0.root", ".", "0.", ".0", "0..1", "00", "01", "1.02", "-1", "+1",
                     "1,2", "1. 2", " 1", "1 ", "1\n", "x", "1.x", "\u0663", "1000000000000", "1.0000000000000",
                     ".".join("0" * 13), "()", "(1,)", "1_0"):
            with self.assertRaises(BadValue) as caught:
                read_place(word)
            self.assertEqual(caught.exception.text, word)


class LayingTest(unittest.TestCase):
    def test_written_layings(self):
        self.assertEqual(write_laying(()), [])
        self.assertEqual(write_laying(((2, 0), (10, None), (11, 3), (40, 0))), ["2 column 0", "10", "11 column 3", "40 column 0"])


if __name__ == "__main__":
    unittest.main()
