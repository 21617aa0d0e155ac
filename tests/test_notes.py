"""Points 1 and 14, and the interface's section loopwright/notes.py."""

import re
import unittest

from helper import HUGE, NO_PLAITS, all_plaits, arguments_are, plain, refused
from loopwright import notes
from loopwright.errors import BadNote, NoPlait
from loopwright.notes import read, shown

SIGNS = [chr(code) for code in range(ord(" "), ord("~") + 1) if chr(code) != "%"]


def read_by_pattern(text):
    """The plait that a text writes, or None: found in another way than the program's."""
    found = re.fullmatch(r"([1-6]):((?: -?[1-5]){0,16})", text, re.ASCII)
    if not found:
        return None
    strands = int(found.group(1))
    word = tuple(int(letter) for letter in found.group(2).split())
    return (strands, word) if all(abs(letter) < strands for letter in word) else None


class InterfaceTest(unittest.TestCase):
    def test_names_and_arguments(self):
        arguments_are(self, notes, {"shown": ["plait"], "read": ["text"]})


class ShownTest(unittest.TestCase):
    """Point 14: writing."""

    def test_ordinary_plaits(self):
        self.assertEqual(shown((4, (1, -2, 3))), "4: 1 -2 3")
        self.assertEqual(shown((2, (-1,))), "2: -1")
        self.assertEqual(shown((1, ())), "1:")
        self.assertEqual(shown((6, ())), "6:")
        self.assertEqual(shown((6, (-5,) * 16)), "6:" + " -5" * 16)

    def test_what_is_no_plait(self):
        for wrong in NO_PLAITS:
            refused(self, NoPlait, shown, wrong)


class ReadTest(unittest.TestCase):
    """Point 14: reading."""

    def check(self, text):
        wanted = read_by_pattern(text)
        if wanted is None:
            refused(self, BadNote, read, text)
        else:
            self.assertEqual(read(text), wanted)

    def test_ordinary_texts(self):
        self.assertEqual(read("4: 1 -2 3"), (4, (1, -2, 3)))
        self.assertEqual(read("2: -1"), (2, (-1,)))
        for strands in range(1, 7):
            self.assertEqual(read(f"{strands}:"), (strands, ()))
        self.assertEqual(read("6:" + " -5" * 16), (6, (-5,) * 16))

    def test_what_is_written_is_read(self):
        for plait in all_plaits():
            self.assertEqual(read(shown(plait)), plait)

    def test_needless_noughts_signs_and_blanks(self):
        for text in [
            "04: 1", "4: 01", "4: -01", "4: 1 02", "00004:", "+4: 1", "4: +1", "4: --1", "4: +-1", "4: -+1",
            "4:  1", "4: 1  2", "4: 1 ", "4: ", "4:  ", " 4: 1", "4 : 1", "4 :", " 4:", "4: - 1", "4: 1 - 2",
            "-4: 1", "4: -", "4: 1 -", "4: 1_1", "0_4: 1", "4: 1_0", "4:\n", "4: 1\n", "4:\t1", "4: 1.0", "4: 1e0",
        ]:
            self.assertIsNone(read_by_pattern(text))
            refused(self, BadNote, read, text)

    def test_other_texts(self):
        for text in [
            "", " ", ":", " :", ": 1", "4", "4 1", "4:1", "41", "4::", "4:: 1", "4: 1:", "4: 1: 2", "4; 1", "4: 1,2",
            "4: a", "a: 1", "four: 1", "4: 1 x", "(4, (1, -2, 3))", "4:1 2", "4: 1-2", "4: 1 -2 3.", "#4: 1", "4: 0x1",
            "none", "~", "4: 1 2 3 ~", "4: '1'", "\"4: 1\"", "4:,1",
        ]:
            self.assertIsNone(read_by_pattern(text))
            refused(self, BadNote, read, text)

    def test_what_would_be_no_plait(self):
        for text in [
            "0:", "7:", "-1:", "-0:", "10:", "0: 1", "7: 1", "1: 1", "1: -1", "1: 0", "4: 0", "4: -0", "4: 4", "4: -4",
            "4: 1 2 5", "6: 6", "6: -6", "2: 2", "2:" + " 1" * 17, "6:" + " -5" * 17, "2:" + " 1 -1" * 9,
            "1:" + " 1" * 17,
        ]:
            self.assertIsNone(read_by_pattern(text))
            refused(self, BadNote, read, text)

    def test_any_number_of_letters(self):
        for letters in range(100):
            self.check("3:" + " 2" * letters)
        for strands in range(100):
            for letter in range(-12, 13):
                self.check(f"{strands}: {letter}")

    def test_texts_beside_those_that_write_plaits(self):
        for text in ["1:", "2: 1", "4: 1 -2 3", "6: -5 5", "6:" + " -5" * 16]:
            for at in range(len(text) + 1):
                self.check(text[:at])
                self.check(text[at:])
                self.check(text[:at] + text[at + 1:])
                for sign in SIGNS:
                    self.check(text[:at] + sign + text[at:])
                    self.check(text[:at] + sign + text[at + 1:])

    def test_all_short_texts_of_the_signs_that_count(self):
        texts = [""]
        for _ in range(5):
            texts = [text + sign for text in texts for sign in " -:0126"]
            for text in texts:
                self.check(text)

    def test_odd_texts_of_up_to_200_signs(self):
        for sign in SIGNS:
            for length in (1, 2, 16, 17, 199, 200):
                self.check(sign * length)
                self.check(("4:" + sign * length)[:200])
                self.check(("4: " + sign * length)[:200])
                self.check(("4: 1 " + sign * length)[:200])
        for length in range(201):
            self.check((" ".join(SIGNS) * 2)[:length])
            self.check("".join(SIGNS[(length * at + at * at) % len(SIGNS)] for at in range(length)))
            self.check(("4: 1" + " " * 200)[:length])
        for text in ["1" * 200, "1" * 199 + ":", "0" * 198 + "4:", "4: " + "0" * 196 + "1", "4:" + " 1" * 99]:
            refused(self, BadNote, read, text)

    def test_texts_somewhat_beyond(self):
        for figures in ("1" * 5000, "9" * 5000, "0" * 5000 + "1", "-" + "1" * 5000, str(2 ** 4000)):
            refused(self, BadNote, read, figures + ":")
            refused(self, BadNote, read, "4: " + figures)


class HandedInTest(unittest.TestCase):
    """Point 1."""

    def test_what_is_told_is_plain_and_hangs_on_nothing_before(self):
        plait = (4, (1, -2, 3))
        self.assertEqual(shown(plait), "4: 1 -2 3")
        refused(self, BadNote, read, "4: 1 -2 4")
        refused(self, NoPlait, shown, (4, (1, -2, HUGE)))
        self.assertEqual(shown(plait), "4: 1 -2 3")
        self.assertEqual(plait, (4, (1, -2, 3)))
        for text in ["1:", "4: 1 -2 3", "6:" + " -5" * 16]:
            plain(self, read(text))
            plain(self, shown(read(text)))


if __name__ == "__main__":
    unittest.main()
