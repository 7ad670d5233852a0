"""Turnings: [1], [20], [21]."""

import random
import unittest

from samples import (
    EXAMPLE, FIXED_RIDDLES, SETS, TURNINGS, check_refused, check_told, every_answer, led_answer_by_words,
    led_by_words, map_of, no_turnings, odd_things, random_riddle, signs_of, so_by_words, some_riddles, some_turnings,
    spoilt, turning_by_words, whole_tuple,
)
from twinriddles.errors import NoTurning
from twinriddles.riddles import is_riddle, keeps
from twinriddles.turnings import back, behind, is_turning, led, led_answer, led_sign, order_of, still


class IsTurning(unittest.TestCase):
    def test_all_turnings(self):
        for names, turnings in TURNINGS.items():
            for turning in turnings:
                self.assertIs(is_turning(names, turning), True)

    def test_without_names(self):
        check_told(self, is_turning, (0, ()), True)
        for thing in ((0,), (1,), [], {}, None, "", 0, False, ((),)):
            check_told(self, is_turning, (0, thing), False)

    def test_what_is_none(self):
        for thing in ((1, 1), (1, -1), (-1, -1), (1, 0), (0, 1), (1, 3), (1, -3), (1,), (1, 2, 3), (), [1, 2],
                      (True, 2), (2, True), (1, "2"), ("1", "2"), (1, None), (1, (2,)), (1, [2]), ({}, 2), {1: 1, 2: 2},
                      "1 2", None, 12, True):
            check_told(self, is_turning, (2, thing), False)
        check_told(self, is_turning, (1, (True,)), False)

    def test_of_another_number_of_names(self):
        for names in range(6):
            for other in range(6):
                for turning in TURNINGS[other][-5:]:
                    self.assertIs(is_turning(names, turning), names == other)

    def test_things_of_anything(self):
        for names in range(6):
            for thing in odd_things():
                check_told(self, is_turning, (names, thing), turning_by_words(names, thing))
            for turning in (TURNINGS[names][0], TURNINGS[names][-1], TURNINGS[names][len(TURNINGS[names]) // 3]):
                for junk in odd_things():
                    for thing in spoilt(turning, junk):
                        self.assertIs(is_turning(names, thing), turning_by_words(names, thing), repr(thing))

    def test_somewhat_beyond_the_bounds(self):
        self.assertIs(is_turning(6, (6, -5, 4, -3, 2, -1)), True)
        self.assertIs(is_turning(6, (6, -5, 4, -3, 2, -2)), False)


class Led(unittest.TestCase):
    def test_signs(self):
        turning = (2, -3, 1)
        self.assertEqual([led_sign(turning, sign) for sign in (1, 2, 3, -1, -2, -3)], [2, -3, 1, -2, 3, -1])
        for names in (1, 2, 3):
            for turning in TURNINGS[names]:
                for sign, to in map_of(turning).items():
                    self.assertEqual(led_sign(turning, sign), to)

    def test_the_example(self):
        self.assertEqual(led(EXAMPLE, (1, 2, 3)), EXAMPLE)
        self.assertEqual(led(EXAMPLE, (3, -1, 2)), (3, ((-3,), (-1, 3), (1, 2), (1, 3))))
        self.assertEqual(led(EXAMPLE, (-1, -2, -3)), (3, ((-1, -2), (-1, 2), (1,), (2, -3))))

    def test_an_answer(self):
        self.assertEqual(led_answer((1, 0, 0), (2, 3, 1)), (0, 1, 0))
        self.assertEqual(led_answer((1, 0, 0), (2, -3, 1)), (0, 1, 1))
        self.assertEqual(led_answer((0, 0), (-2, 1)), (0, 1))
        self.assertEqual(led_answer((), ()), ())

    def test_riddles(self):
        rng = random.Random(20)
        for riddle in some_riddles():
            for turning in some_turnings(rng, riddle[0], 6):
                told = led(riddle, turning)
                self.assertEqual(told, led_by_words(riddle, turning))
                self.assertTrue(is_riddle(told))
                self.assertEqual(led(riddle, turning), told)

    def test_answers(self):
        rng = random.Random(21)
        for names in range(6):
            for turning in some_turnings(rng, names, 60):
                for answer in every_answer(names):
                    told = led_answer(answer, turning)
                    self.assertEqual(told, led_answer_by_words(answer, turning))
                    self.assertTrue(whole_tuple(told))
                    for sign in signs_of(names):
                        self.assertEqual(led_sign(turning, sign) in so_by_words(told), sign in so_by_words(answer))

    def test_an_answer_keeps_what_the_led_one_keeps_led(self):
        rng = random.Random(22)
        for riddle in some_riddles(rounds=1):
            for turning in some_turnings(rng, riddle[0], 3):
                other = led(riddle, turning)
                for answer in every_answer(riddle[0]):
                    self.assertIs(keeps(other, led_answer(answer, turning)), keeps(riddle, answer))

    def test_no_turning(self):
        for names in range(6):
            riddles = [riddle for riddle in FIXED_RIDDLES if riddle[0] == names]
            for thing in no_turnings(names):
                for riddle in riddles[:2]:
                    check_refused(self, NoTurning, led, riddle, thing)
                check_refused(self, NoTurning, led_answer, (1,) * names, thing)

    def test_somewhat_beyond_the_bounds(self):
        turning = (6, -5, 4, -3, 2, -1)
        self.assertEqual(led((6, ((1, 2, 3, 4, 5, 6),)), turning), (6, ((-1, 2, -3, 4, -5, 6),)))
        self.assertEqual(led_answer((1, 1, 1, 0, 0, 0), turning), (1, 0, 1, 1, 0, 1))
        check_refused(self, NoTurning, led, (6, ()), (1, 2, 3, 4, 5))


class Behind(unittest.TestCase):
    def test_by_the_first_and_then_by_the_second(self):
        self.assertEqual(behind((2, 3, 1), (-1, 2, 3)), (2, 3, -1))
        self.assertEqual(behind((-1, 2, 3), (2, 3, 1)), (-2, 3, 1))
        rng = random.Random(23)
        for names in range(6):
            for one, other in zip(some_turnings(rng, names, 40), some_turnings(rng, names, 40)):
                both = behind(one, other)
                self.assertIn(both, SETS[names])
                for sign in signs_of(names):
                    self.assertEqual(led_sign(both, sign), led_sign(other, led_sign(one, sign)))
                riddle = random_riddle(rng, names, rng.randint(0, 30))
                self.assertEqual(led(led(riddle, one), other), led(riddle, both))
                for answer in every_answer(names):
                    self.assertEqual(led_answer(led_answer(answer, one), other), led_answer(answer, both))

    def test_back(self):
        self.assertEqual(back((2, -3, 1)), (3, 1, -2))
        self.assertEqual(back(()), ())
        rng = random.Random(24)
        for names in range(6):
            for turning in TURNINGS[names][::5] + some_turnings(rng, names, 20):
                other = back(turning)
                self.assertIn(other, SETS[names])
                for sign in signs_of(names):
                    self.assertEqual(led_sign(other, led_sign(turning, sign)), sign)
                self.assertEqual(behind(turning, other), still(names))
                self.assertEqual(behind(other, turning), still(names))
                riddle = random_riddle(rng, names, rng.randint(0, 30))
                self.assertEqual(led(led(riddle, turning), other), riddle)
                answer = tuple(rng.randint(0, 1) for _ in range(names))
                self.assertEqual(led_answer(led_answer(answer, turning), other), answer)

    def test_still(self):
        self.assertEqual([still(names) for names in range(4)], [(), (1,), (1, 2), (1, 2, 3)])
        for names in range(6):
            for sign in signs_of(names):
                self.assertEqual(led_sign(still(names), sign), sign)

    def test_order(self):
        for turning, order in (
            ((), 1), ((1,), 1), ((-1,), 2), ((1, 2), 1), ((2, 1), 2), ((-2, 1), 4), ((-2, -1), 2), ((2, 3, 1), 3),
            ((-2, 3, 1), 6), ((2, 1, 4, 5, 3), 6), ((-2, 1, 4, 5, 3), 12), ((2, 3, 4, 5, -1), 10), ((2, 3, 4, -1), 8),
        ):
            self.assertEqual(order_of(turning), order)

    def test_order_is_the_least(self):
        for names in range(6):
            for turning in TURNINGS[names]:
                places = {sign: sign for sign in signs_of(names)}
                times = 0
                while not times or any(sign != to for sign, to in places.items()):
                    places = {sign: map_of(turning)[to] for sign, to in places.items()}
                    times += 1
                self.assertEqual(order_of(turning), times)


if __name__ == "__main__":
    unittest.main()
