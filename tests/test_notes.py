"""Texts: [1], [90]."""

import itertools
import random
import unittest

from samples import (
    CLAUSES, EXAMPLE, FIXED_RIDDLES, TURNINGS, check_refused, every_answer, odd_things, riddle_by_words, riddle_of,
    some_riddles, spoilt, whole_tuple,
)
from twinriddles.errors import BadNote
from twinriddles.notes import answer_text, riddle_read, riddle_text, turning_read, turning_text
from written import SIGNS_IN_TEXTS, changed_texts, written_riddle, written_turning

RIDDLES = some_riddles(rounds=2)
LONG = riddle_of(5, *[clause for clause in sorted(CLAUSES[5]) if len(clause) == 5][:30])


def no_texts():
    """Things that are no text, lists and dicts of texts among them."""
    things = [thing for thing in odd_things() if type(thing) is not str]
    return things + ["0:".encode(), ["0:"], ("0:",), {"0:": "0:"}, ["none"], ("none",), {"none": 1}, [["1"]], [{}]]


class Written(unittest.TestCase):
    def test_riddles_by_hand(self):
        self.assertEqual(riddle_text((3, ((-2, 3), (-1,), (1, 2)))), "3: -2/3 -1 1/2")
        self.assertEqual(riddle_text((0, ())), "0:")
        self.assertEqual(riddle_text((5, ())), "5:")
        self.assertEqual(riddle_text(EXAMPLE), "3: -2/3 -1 1/-2 1/2")
        self.assertEqual(riddle_text((5, ((-1, 2, -3, 4, -5),))), "5: -1/2/-3/4/-5")

    def test_answers_by_hand(self):
        self.assertEqual(answer_text(()), "none")
        self.assertEqual(answer_text((0,)), "0")
        self.assertEqual(answer_text((1,)), "1")
        self.assertEqual(answer_text((0, 1, 1, 0, 0)), "01100")

    def test_turnings_by_hand(self):
        self.assertEqual(turning_text(()), "none")
        self.assertEqual(turning_text((-1,)), "-1")
        self.assertEqual(turning_text((-2, 1)), "-2 1")
        self.assertEqual(turning_text((5, -4, 3, -2, 1)), "5 -4 3 -2 1")

    def test_riddles(self):
        for riddle in RIDDLES + [LONG]:
            text = riddle_text(riddle)
            self.assertIs(type(text), str)
            self.assertEqual(written_riddle(text), riddle)
            self.assertEqual(riddle_text(riddle), text)

    def test_answers(self):
        found = set()
        for names in range(6):
            for answer in every_answer(names):
                text = answer_text(answer)
                self.assertEqual(text, "".join("01"[bit] for bit in answer) or "none")
                found.add(text)
        self.assertEqual(len(found), 63)

    def test_turnings(self):
        for names in range(6):
            for turning in TURNINGS[names]:
                self.assertEqual(written_turning(turning_text(turning)), turning)

    def test_somewhat_beyond_the_bounds(self):
        self.assertEqual(riddle_text((12, ((-10, 11), (1,)))), "12: -10/11 1")
        self.assertEqual(turning_text((6, -5, 4, -3, 2, -1)), "6 -5 4 -3 2 -1")
        self.assertEqual(answer_text((1, 0, 1, 0, 1, 0)), "101010")


class RiddleRead(unittest.TestCase):
    def check(self, text):
        """That this text is read as it should be, or refused; whether it is read."""
        riddle = written_riddle(text)
        if riddle is None:
            check_refused(self, BadNote, riddle_read, text)
        else:
            self.assertEqual(repr(riddle_read(text)), repr(riddle))
        return riddle is not None

    def test_what_is_written_is_read_as_the_same(self):
        for riddle in RIDDLES + [LONG]:
            told = riddle_read(riddle_text(riddle))
            self.assertEqual(told, riddle)
            self.assertTrue(riddle_by_words(told))
            self.assertEqual(riddle_text(told), riddle_text(riddle))

    def test_thirty_clauses_of_five_signs(self):
        self.assertEqual(len(LONG[1]), 30)
        self.assertEqual(riddle_read(riddle_text(LONG)), LONG)
        fives = sorted(clause for clause in CLAUSES[5] if len(clause) == 5)
        self.assertEqual(len(fives), 32)
        for many in (29, 30, 31, 32):
            self.assertIs(self.check(riddle_text((5, tuple(fives[:many])))), many <= 30)

    def test_by_hand(self):
        self.assertEqual(riddle_read("3: -2/3 -1 1/2"), (3, ((-2, 3), (-1,), (1, 2))))
        self.assertEqual(riddle_read("0:"), (0, ()))
        for text in ("", " ", ":", "0", "0: ", " 0:", "0 :", "00:", "-0:", "+1:", "6:", "-1:", "10:", "none", "0::",
                     "0:0:",
                     "1:1", "1:  1", "1: 1 ", "1: 1  -1", "1: -1  1", "1: 01", "1: +1", "1: --1", "1: - 1", "1: 1/",
                     "1: /1", "1: /", "1: 1//1", "1: -0", "1: 0", "1: 2", "1: -2", "1: 1/1", "1: 1/-1", "1: 1 1",
                     "1: 1 -1", "2: 2/1", "2: 1/2 1", "2: 2 1", "2: 1,2", "2: 1/ 2", "2: 1 /2", "3 -1", "3; -1", "3:-1",
                     "3: -1:", "3: none", "3: 1\n", "3: 1.", "3: 1_0", "x:", "3: x", "3: 1x", "(3, ())", "3:\t1",
                     "1e0:",
                     "5: 1/2/3/4/5/5", "5: 1/2/3/4/5/6", "5: 6", "2: 3", "0: 1", "1: 1/2", "6: 1", "9:", "3: 1/3/2"):
            self.assertIs(self.check(text), False, text)

    def test_a_sign_beyond_the_number_of_names(self):
        for names in range(6):
            for name in range(0, 10):
                for sign in (name, -name):
                    self.assertIs(self.check(f"{names}: {sign}"), 1 <= name <= names)
            self.assertIs(self.check(f"{names}: -0"), False)

    def test_all_short_texts(self):
        read = 0
        for length in range(6):
            for signs in itertools.product("0123:/- ", repeat=length):
                text = "".join(signs)
                if written_riddle(text) is not None:
                    read += self.check(text)
                else:
                    with self.assertRaises(BadNote):
                        riddle_read(text)
        self.assertEqual(read, 4 + 6 + 6)

    def test_clauses_or_signs_out_of_order_or_twice(self):
        for riddle in RIDDLES:
            names, clauses = riddle
            for at in range(min(len(clauses) - 1, 4)):
                swapped = clauses[:at] + (clauses[at + 1], clauses[at]) + clauses[at + 2:]
                self.assertIs(self.check(riddle_text((names, swapped))), False)
                twice = clauses[:at + 1] + clauses[at:]
                self.assertIs(self.check(riddle_text((names, twice))), False)
            for at, clause in enumerate(clauses[:4]):
                if len(clause) > 1:
                    turned = clauses[:at] + (clause[::-1],) + clauses[at + 1:]
                    self.assertIs(self.check(riddle_text((names, turned))), False)
                doubled = clauses[:at] + (clause + clause[-1:],) + clauses[at + 1:]
                self.assertIs(self.check(riddle_text((names, doubled))), False)

    def test_texts_changed_at_any_place(self):
        rng = random.Random(90)
        read = {True: 0, False: 0}
        for riddle in FIXED_RIDDLES + RIDDLES[::5]:
            for text in changed_texts(riddle_text(riddle), rng, 60)[:1500]:
                read[self.check(text)] += 1
        self.assertGreater(min(read.values()), 300)

    def test_each_sign_at_each_place(self):
        for text in ("0:", "3: -2/3 -1 1/2"):
            for at in range(len(text) + 1):
                for sign in SIGNS_IN_TEXTS:
                    self.check(text[:at] + sign + text[at:])
                    self.check(text[:at] + sign + text[at + 1:])

    def test_texts_of_411_signs(self):
        for text in (" " * 411, "1" * 411, "/" * 411, ":" * 411, "-" * 411, "5:" + " 1" * 204 + "/", "0:" + " " * 409,
                     "5: " + "1/" * 204, "9" * 410 + ":"):
            self.assertEqual(len(text), 411)
            self.assertIs(self.check(text), False)

    def test_what_is_no_text(self):
        for thing in no_texts():
            check_refused(self, BadNote, riddle_read, thing)
        for junk in ([], {}, [1], {1: 1}, "0:"):
            for thing in spoilt(EXAMPLE, junk):
                if type(thing) is not str:
                    check_refused(self, BadNote, riddle_read, thing)


class TurningRead(unittest.TestCase):
    def check(self, text):
        turning = written_turning(text)
        if turning is None:
            check_refused(self, BadNote, turning_read, text)
        else:
            self.assertEqual(repr(turning_read(text)), repr(turning))
        return turning is not None

    def test_what_is_written_is_read_as_the_same(self):
        for names in range(6):
            for turning in TURNINGS[names]:
                told = turning_read(turning_text(turning))
                self.assertEqual(told, turning)
                self.assertTrue(whole_tuple(told))

    def test_by_hand(self):
        self.assertEqual(turning_read("none"), ())
        self.assertEqual(turning_read("-2 1"), (-2, 1))
        for text in ("", " ", "()", "None", "none ", " none", "none none", "none 1", "1 none", "0", "-0", "+1", "01",
                     "1 ",
                     " 1", "2", "-2", "1 1", "1 -1", "1  2", "1 3", "1,2", "1/2", "12", "1: 2", "1 2 4", "1 2 3 4 6",
                     "1 2 3 4 5 6", "6 5 4 3 2 1", "1 2 3 4 5 5", "1 2 3 4 5 1", "--1", "- 1", "1.", "1 2\n", "1\t2",
                     "3 2 1 ", "1 2 03", "1 2 3 4 5 "):
            self.assertIs(self.check(text), False, text)

    def test_all_short_texts(self):
        read = 0
        for length in range(6):
            for signs in itertools.product("01236- ", repeat=length):
                text = "".join(signs)
                if written_turning(text) is not None:
                    read += self.check(text)
                else:
                    with self.assertRaises(BadNote):
                        turning_read(text)
        self.assertGreater(read, 10)

    def test_texts_changed_at_any_place(self):
        rng = random.Random(91)
        read = {True: 0, False: 0}
        for names in range(6):
            for turning in [TURNINGS[names][0], TURNINGS[names][-1]] + rng.sample(TURNINGS[names], min(names, 3)):
                for text in changed_texts(turning_text(turning), rng, 200):
                    read[self.check(text)] += 1
        self.assertGreater(min(read.values()), 100)

    def test_each_sign_at_each_place(self):
        for text in ("none", "-1", "3 -1 2"):
            for at in range(len(text) + 1):
                for sign in SIGNS_IN_TEXTS:
                    self.check(text[:at] + sign + text[at:])
                    self.check(text[:at] + sign + text[at + 1:])

    def test_what_is_no_text(self):
        for thing in no_texts():
            check_refused(self, BadNote, turning_read, thing)
        for junk in ([], {}, [1], {1: 1}, "1"):
            for thing in spoilt((2, 1), junk):
                if type(thing) is not str:
                    check_refused(self, BadNote, turning_read, thing)


if __name__ == "__main__":
    unittest.main()
