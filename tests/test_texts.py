"""Texts: [8]."""

import itertools
import re
import unittest

from doorpicks.errors import NoPick, NoText
from doorpicks.picks import Picks
from doorpicks.sets import Sets
from doorpicks.texts import read, written
from helper import HUGE, NO_ROWS, assert_refused, nested_in_itself, spread

WRITTEN = [((), "none"), ((0,), "0"), ((7,), "7"), ((10,), "10"), ((199,), "199"), ((0, 1), "0 1"),
           ((0, 9, 10, 99, 100, 199), "0 9 10 99 100 199"), ((3, 5, 120), "3 5 120"),
           (tuple(range(200)), " ".join(str(thing) for thing in range(200)))]


def is_text(text):
    """Whether the words of [8] take the text."""
    if text == "none":
        return True
    if not re.fullmatch(r"(0|[1-9][0-9]*)( (0|[1-9][0-9]*))*", text):
        return False
    numbers = [int(word) for word in text.split(" ")]
    return max(numbers) < 200 and all(low < high for low, high in zip(numbers, numbers[1:]))


class TestWritten(unittest.TestCase):
    def test_by_hand(self):
        for pick, text in WRITTEN:
            self.assertEqual(written(pick), text)
            self.assertEqual(written(list(pick)), text)
            self.assertIs(type(written(pick)), str)

    def test_every_thing(self):
        for thing in range(200):
            self.assertEqual(written((thing,)), f"{thing}")

    def test_what_is_no_pick_is_refused(self):
        wrong = [(200,), (0, 200), (201,), (1000,), (HUGE,), (0, HUGE), (-1,), (-1, 0), (-HUGE,), tuple(range(201)),
                 (1, 0), (0, 2, 1), (199, 0), (0, 0), (5, 5), (199, 199), [200], [-1], [1, 0], [0, 0],
                 (True,), (False,), (False, True), (0, True), (None,), (0, None), ("0",), ("",), ("none",), (0, "1"),
                 ((),), ((0,),), ([],), [[]], [[0]], (0, (1,)), (0.0,), (0, 1.0), (float("nan"),),
                 nested_in_itself(), (0, nested_in_itself())]
        for at, pick in enumerate(wrong + NO_ROWS):
            with self.subTest(at=at):
                assert_refused(self, NoPick, written, pick)

    def test_what_is_handed_in_is_not_changed(self):
        pick = [3, 5, 120]
        text = written(pick)
        self.assertEqual(pick, [3, 5, 120])
        pick.clear()
        self.assertEqual((text, written(pick), written((3, 5, 120))), ("3 5 120", "none", "3 5 120"))


class TestRead(unittest.TestCase):
    def assert_read(self, text, pick):
        told = read(text)
        self.assertEqual(told, pick)
        self.assertIs(type(told), tuple)
        self.assertTrue(all(type(thing) is int for thing in told))

    def test_by_hand(self):
        for pick, text in WRITTEN:
            self.assert_read(text, pick)

    def test_what_was_written_is_read_as_the_same(self):
        for things, size in ((200, 100), (200, 1), (200, 199), (200, 200), (60, 7), (10, 3), (4, 0)):
            picks = Picks(things, size)
            for number in spread(picks.many()):
                self.assert_read(written(picks.at(number)), picks.at(number))
        for things in (0, 1, 8, 64, 200):
            sets = Sets(things)
            for number in spread(sets.many()):
                self.assert_read(written(sets.at(number)), sets.at(number))

    def test_every_pair_of_numbers(self):
        for low in range(-1, 203):
            for high in (low - 1, low, low + 1, 0, 99, 100, 198, 199, 200):
                text = f"{low} {high}"
                if 0 <= low < high < 200:
                    self.assert_read(text, (low, high))
                else:
                    assert_refused(self, NoText, read, text)

    def test_other_texts_are_refused(self):
        wrong = ["", " ", "  ", "\n", "\r", "\r\n", "\t",
                 " 0", "0 ", " 0 ", "0  1", "0   1", " 0 1", "0 1 ", "0 1  ", "  0 1", "01", "00", "000", "0 01",
                 "00 1", "0 1 02", "007", "0199", "+1", "-1", "-0", "+0", "0 -1", "0 +1", "0,1", "0, 1", "0,", "(0, 1)",
                 "[0]", "()", "(0,)", "0.0", "1.0", "1.", "1e1", "1_0", "0_1", "0x1", "0b1", "0o1", "x", "a b", "0 a",
                 "a 0", "1a", "a1", "0 1 x", "True", "False", "None", "nan", "1 0", "0 2 1", "10 9", "100 99", "199 0",
                 "0 0", "1 1", "0 1 1", "0 0 1", "199 199", "200", "0 200", "199 200", "201", "999", "1000", "1990",
                 "0\n", "\n0", "0\n1", "0 \n1", "0 1\n", "0\r\n", "0\r", "0\r1", "0\n 1", "0\t1", "\t0",
                 "none ", " none", "none\n", "\nnone", "none none", "nonenone", "none 0", "0 none", "none0", "0none",
                 "None", "NONE", "nOne", "non", "one", "none.", "'none'", "n one", "none 0 1", "0 none 1", "~", "!",
                 "empty", "0;1", "0-1", "0/1", "0:1", "#0", "0 #1", "0 1 2 3 3", "0 1 2 4 3"]
        for text in wrong:
            with self.subTest(text=text):
                assert_refused(self, NoText, read, text)

    def test_long_texts_are_refused(self):
        wrong = ["9" * 5000, "1" * 100000, "0" * 5000, "0 " + "1" * 5000, "-" + "1" * 5000, "0" * 5000 + "1", " " * 5000,
                 "0 " * 5000, "0 1 " * 5000, "none" * 5000, "none " * 5000, "x" * 100000,
                 " ".join(str(thing) for thing in range(201)), " ".join(str(thing) for thing in range(5000))]
        for at, text in enumerate(wrong):
            with self.subTest(at=at):
                assert_refused(self, NoText, read, text)

    def assert_as_the_words_say(self, text):
        if is_text(text):
            self.assert_read(text, () if text == "none" else tuple(int(word) for word in text.split(" ")))
            self.assertEqual(written(read(text)), text)
        else:
            assert_refused(self, NoText, read, text)

    def test_every_short_text_of_some_signs(self):
        for length in range(6):
            for signs in itertools.product("0129 \n-", repeat=length):
                self.assert_as_the_words_say("".join(signs))

    def test_every_change_of_one_sign(self):
        signs = [chr(code) for code in range(ord(" "), ord("~") + 1)] + ["\n", "\r"]
        for text in ("none", "0", "199", "0 1", "9 10 100 199"):
            for at in range(len(text) + 1):
                self.assert_as_the_words_say(text[:at] + text[at + 1:])
                for sign in signs:
                    self.assert_as_the_words_say(text[:at] + sign + text[at:])
                    self.assert_as_the_words_say(text[:at] + sign + text[at + 1:])


if __name__ == "__main__":
    unittest.main()
