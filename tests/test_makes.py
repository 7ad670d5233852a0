"""Riddles made: [1], [80], [81]."""

import itertools
import random
import unittest

from samples import (
    CLAUSES, EXAMPLE, FIXED_RIDDLES, ONE_OF_THREE, answers_by_words, beside_by_words, check_refused, crowd_by_words,
    every_answer, odd_things, random_riddle, riddle_by_words, riddle_of, some_riddles,
)
from twinriddles.errors import NoNumber, TooMany
from twinriddles.makes import beside, crowd
from twinriddles.riddles import answers, is_riddle

ALL_CROWDS = [(names, least, most) for names in range(6) for least in range(names + 1)
              for most in range(least, names + 1)]


def no_whole_numbers():
    """Things that are no whole number at all."""
    return [thing for thing in odd_things() if type(thing) is not int] + [[3], (3,), {3: 3}, "3", [[]], ({},)]


class Crowd(unittest.TestCase):
    def test_by_hand(self):
        self.assertEqual(crowd(0, 0, 0), (0, ()))
        self.assertEqual(crowd(1, 0, 1), (1, ()))
        self.assertEqual(crowd(1, 0, 0), (1, ((-1,),)))
        self.assertEqual(crowd(1, 1, 1), (1, ((1,),)))
        self.assertEqual(crowd(2, 1, 1), (2, ((-1, -2), (1, 2))))
        self.assertEqual(crowd(3, 1, 1), ONE_OF_THREE)
        self.assertEqual(crowd(3, 2, 3), (3, ((1, 2), (1, 3), (2, 3))))
        self.assertEqual(crowd(3, 3, 3), (3, ((1,), (2,), (3,))))
        self.assertEqual(crowd(3, 0, 2), (3, ((-1, -2, -3),)))
        self.assertEqual(crowd(5, 0, 0), (5, ((-5,), (-4,), (-3,), (-2,), (-1,))))
        self.assertEqual(len(crowd(5, 3, 3)[1]), 15)

    def test_all_numbers(self):
        self.assertEqual(len(ALL_CROWDS), 56)
        for numbers in ALL_CROWDS:
            told = crowd(*numbers)
            self.assertEqual(told, crowd_by_words(*numbers))
            self.assertTrue(riddle_by_words(told))
            self.assertIs(is_riddle(told), True)
            self.assertEqual(crowd(*numbers), told)

    def test_kept_just_by_so_many_ones(self):
        for names, least, most in ALL_CROWDS:
            wanted = [answer for answer in every_answer(names) if least <= sum(answer) <= most]
            self.assertEqual(answers(crowd(names, least, most)), wanted)
            self.assertEqual(answers_by_words(crowd(names, least, most)), wanted)

    def test_numbers_in_and_out_of_bounds(self):
        for numbers in itertools.product(range(-2, 9), repeat=3):
            if numbers in ALL_CROWDS:
                self.assertEqual(crowd(*numbers), crowd_by_words(*numbers))
            else:
                check_refused(self, NoNumber, crowd, *numbers)

    def test_one_too_great_or_too_little(self):
        for names in range(6):
            check_refused(self, NoNumber, crowd, names, names + 1, names)
            check_refused(self, NoNumber, crowd, names, names + 1, names + 1)
            check_refused(self, NoNumber, crowd, names, 0, names + 1)
            check_refused(self, NoNumber, crowd, names, -1, names)
            check_refused(self, NoNumber, crowd, names, 0, -1)
            for least in range(1, names + 1):
                check_refused(self, NoNumber, crowd, names, least, least - 1)
        check_refused(self, NoNumber, crowd, 6, 0, 0)
        check_refused(self, NoNumber, crowd, 6, 3, 6)
        check_refused(self, NoNumber, crowd, -1, 0, 0)
        check_refused(self, NoNumber, crowd, -1, -1, -1)

    def test_truths_are_no_numbers(self):
        check_refused(self, NoNumber, crowd, True, 0, 1)
        check_refused(self, NoNumber, crowd, 1, False, 1)
        check_refused(self, NoNumber, crowd, 1, 0, True)
        check_refused(self, NoNumber, crowd, 1, True, 1)
        check_refused(self, NoNumber, crowd, False, False, False)
        check_refused(self, NoNumber, crowd, True, True, True)

    def test_what_is_no_number_at_one_place(self):
        for thing in no_whole_numbers():
            for numbers in ((0, 0, 0), (1, 0, 1), (3, 1, 2), (5, 5, 5)):
                for at in range(3):
                    handed = list(numbers)
                    handed[at] = thing
                    check_refused(self, NoNumber, crowd, *handed)

    def test_what_is_no_number_at_two_and_at_all_places(self):
        things = [None, True, False, "", "1", (), (1,), [], [0], {}, {1: 1}, ([],), -1, 6, 10 ** 29]
        for one, other in itertools.product(things, repeat=2):
            check_refused(self, NoNumber, crowd, one, other, 2)
            check_refused(self, NoNumber, crowd, one, 1, other)
            check_refused(self, NoNumber, crowd, 3, one, other)
            for third in things:
                check_refused(self, NoNumber, crowd, one, other, third)


class Beside(unittest.TestCase):
    def test_by_hand(self):
        self.assertEqual(beside((0, ()), (0, ())), (0, ()))
        self.assertEqual(beside((0, ()), EXAMPLE), EXAMPLE)
        self.assertEqual(beside(EXAMPLE, (0, ())), EXAMPLE)
        self.assertEqual(beside((1, ()), (1, ())), (2, ()))
        self.assertEqual(beside((1, ((1,),)), (1, ((1,),))), (2, ((1,), (2,))))
        self.assertEqual(beside((1, ((-1,),)), (1, ((-1,),))), (2, ((-2,), (-1,))))
        self.assertEqual(beside((2, ((1, -2),)), (3, ((-1,), (2, -3)))), (5, ((-3,), (1, -2), (4, -5))))
        self.assertEqual(beside((3, ((-1,), (2, -3))), (2, ((1, -2),))), (5, ((-1,), (2, -3), (4, -5))))
        self.assertEqual(beside(EXAMPLE, (2, ())), (5, EXAMPLE[1]))
        self.assertEqual(beside((2, ()), (2, ((1, 2),))), (4, ((3, 4),)))

    def test_riddles_of_none_to_five_names(self):
        rng = random.Random(81)
        pool = some_riddles(rounds=2)
        told_some = {True: 0, False: 0}
        for one in pool:
            for other in rng.sample(pool, 20) + [(0, ()), one]:
                both = beside_by_words(one, other)
                told_some[both is None] += 1
                if both is None:
                    check_refused(self, TooMany, beside, one, other)
                    continue
                told = beside(one, other)
                self.assertEqual(told, both)
                self.assertTrue(riddle_by_words(told))
                self.assertEqual(beside(one, other), told)
                pairs = itertools.product(answers_by_words(one), answers_by_words(other))
                self.assertEqual(answers(told), [first + second for first, second in pairs])
        self.assertGreater(min(told_some.values()), 300)

    def test_five_names_and_one_more(self):
        for one, other in itertools.product(range(6), repeat=2):
            if one + other <= 5:
                self.assertEqual(beside((one, ()), (other, ())), (one + other, ()))
            else:
                check_refused(self, TooMany, beside, (one, ()), (other, ()))
        check_refused(self, TooMany, beside, (5, ()), (1, ((1,),)))
        check_refused(self, TooMany, beside, (1, ((-1,), (1,))), (5, ((1, 2, 3, 4, 5),)))
        check_refused(self, TooMany, beside, (6, ()), (0, ()))

    def test_thirty_clauses_and_one_more(self):
        rng = random.Random(82)
        for names, other_names, most in ((4, 1, 2), (3, 2, 8), (4, 0, 0)):
            for many in range(most + 1):
                other = random_riddle(rng, other_names, many)
                for together in (29, 30, 31):
                    clauses = sorted(CLAUSES[names])[:together - many]
                    one = riddle_of(names, *clauses)
                    if len(clauses) + many != together:
                        continue
                    for pair in ((one, other), (other, one)):
                        if together <= 30:
                            self.assertEqual(beside(*pair), beside_by_words(*pair))
                            self.assertEqual(len(beside(*pair)[1]), together)
                        else:
                            check_refused(self, TooMany, beside, *pair)

    def test_thirty_one_clauses_are_there(self):
        one = riddle_of(3, *sorted(CLAUSES[3])[:23])
        two = riddle_of(2, *CLAUSES[2])
        self.assertEqual((len(one[1]), len(two[1])), (23, 8))
        check_refused(self, TooMany, beside, one, two)
        check_refused(self, TooMany, beside, two, one)
        self.assertEqual(len(beside((3, one[1][:22]), two)[1]), 30)
        self.assertEqual(len(beside(two, (3, one[1][1:]))[1]), 30)

    def test_too_many_of_both(self):
        one = riddle_of(4, *sorted(CLAUSES[4])[:30])
        check_refused(self, TooMany, beside, one, one)

    def test_a_crowd_beside_a_crowd(self):
        both = beside(crowd(3, 1, 1), crowd(2, 1, 2))
        wanted = [answer for answer in every_answer(5) if sum(answer[:3]) == 1 and sum(answer[3:]) >= 1]
        self.assertEqual(answers(both), wanted)

    def test_what_is_handed_in_stays(self):
        for riddle in FIXED_RIDDLES:
            before = repr(riddle)
            beside(riddle, (0, ()))
            beside((0, ()), riddle)
            self.assertEqual(repr(riddle), before)


if __name__ == "__main__":
    unittest.main()
