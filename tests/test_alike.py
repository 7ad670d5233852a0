"""Riddles alike, and their least names: [1], [82], [83]."""

import itertools
import random
import unittest

from samples import (
    CLAUSES, EXAMPLE, FIXED_RIDDLES, ONE_OF_THREE, RING, TURNINGS, alike_by_words, check_anew, check_refused,
    check_rising, least_name_by_words, led_by_words, likenesses_by_words, odd_things, riddle_by_words, riddle_of,
    some_riddles, some_turnings, whole_tuple,
)
from twinriddles.alike import alike, all_riddles, least_name
from twinriddles.errors import NoNumber, TooMany
from twinriddles.likenesses import likenesses
from twinriddles.turnings import led

RIDDLES = some_riddles(rounds=2)


def otherwise(rng, riddle):
    """The riddle with one clause in another's stead, or put in where it has none."""
    names, clauses = riddle
    others = sorted(CLAUSES[names] - set(clauses))
    if not others:
        return riddle
    rest = list(clauses)
    if rest:
        rest.pop(rng.randrange(len(rest)))
    return riddle_of(names, rng.choice(others), *rest)


class Alike(unittest.TestCase):
    def test_by_hand(self):
        self.assertEqual(alike((0, ()), (0, ())), ())
        self.assertEqual(alike((1, ()), (1, ())), (-1,))
        self.assertEqual(alike((1, ((1,),)), (1, ((1,),))), (1,))
        self.assertEqual(alike((1, ((1,),)), (1, ((-1,),))), (-1,))
        self.assertEqual(alike((2, ((1, 2),)), (2, ((1, -2),))), (-2, 1))
        self.assertEqual(alike((2, ((1,),)), (2, ((-2,),))), (-2, -1))
        self.assertEqual(alike(EXAMPLE, EXAMPLE), (1, 2, 3))
        self.assertEqual(alike(EXAMPLE, led(EXAMPLE, (3, -1, 2))), (3, -1, 2))
        self.assertIsNone(alike((2, ((1,),)), (2, ((1, 2),))))
        self.assertIsNone(alike((2, ((-1,), (1,))), (2, ((1,), (2,)))))

    def test_a_riddle_and_the_one_to_which_a_turning_leads_it(self):
        rng = random.Random(82)
        several = 0
        for riddle in RIDDLES:
            for turning in some_turnings(rng, riddle[0], 2):
                other = led_by_words(riddle, turning)
                told = alike(riddle, other)
                self.assertTrue(whole_tuple(told))
                self.assertEqual(told, alike_by_words(riddle, other))
                self.assertEqual(led(riddle, told), other)
                self.assertLessEqual(told, turning)
                self.assertEqual(alike(riddle, other), told)
                several += told < turning
        self.assertGreater(several, 100)

    def test_with_one_clause_otherwise(self):
        rng = random.Random(83)
        told_some = {True: 0, False: 0}
        for riddle in RIDDLES:
            for turning in some_turnings(rng, riddle[0], 2):
                other = otherwise(rng, led_by_words(riddle, turning))
                told = alike(riddle, other)
                self.assertEqual(told, alike_by_words(riddle, other))
                told_some[told is None] += 1
        self.assertGreater(min(told_some.values()), 10)

    def test_a_clause_more_or_fewer(self):
        rng = random.Random(84)
        for riddle in RIDDLES:
            for at in range(min(len(riddle[1]), 3)):
                fewer = (riddle[0], riddle[1][:at] + riddle[1][at + 1:])
                self.assertIsNone(alike(riddle, fewer))
                self.assertIsNone(alike(fewer, riddle))
                turning = rng.choice(TURNINGS[riddle[0]])
                self.assertIsNone(alike(fewer, led_by_words(riddle, turning)))

    def test_unlike_numbers_of_names(self):
        for one, other in itertools.permutations(range(6), 2):
            self.assertIsNone(alike((one, ()), (other, ())))
            if one and other:
                self.assertIsNone(alike((one, ((1,),)), (other, ((1,),))))
        self.assertIsNone(alike(EXAMPLE, (4, EXAMPLE[1])))
        self.assertIsNone(alike((5, EXAMPLE[1]), EXAMPLE))

    def test_the_least_of_several(self):
        for riddle in FIXED_RIDDLES:
            self.assertEqual(alike(riddle, riddle), likenesses_by_words(riddle)[0])
            self.assertEqual(alike(riddle, riddle), min(likenesses(riddle)))
        self.assertEqual(alike((5, ()), (5, ())), (-5, -4, -3, -2, -1))
        self.assertEqual(alike(RING, RING), (1, 2, 3, 4))
        self.assertEqual(alike(ONE_OF_THREE, led(ONE_OF_THREE, (-3, 2, 1))), (-3, 1, 2))

    def test_all_pairs_of_small_riddles(self):
        small = [(2, clauses) for many in range(4) for clauses in itertools.combinations(sorted(CLAUSES[2]), many)]
        for one, other in itertools.product(small, repeat=2):
            self.assertEqual(alike(one, other), alike_by_words(one, other))

    def test_five_names(self):
        rng = random.Random(85)
        for many in (1, 5, 15, 30):
            riddle = riddle_of(5, *rng.sample(sorted(CLAUSES[5]), many))
            other = led_by_words(riddle, rng.choice(TURNINGS[5]))
            self.assertEqual(alike(riddle, other), alike_by_words(riddle, other))

    def test_somewhat_beyond_the_bounds(self):
        riddle = (6, ((1,), (2, 3), (4, 5, 6)))
        self.assertEqual(alike(riddle, riddle), (1, 2, 3, 4, 5, 6))
        self.assertEqual(alike(riddle, (6, ((1, 2, 3), (4, 5), (6,)))), (6, 4, 5, 1, 2, 3))


class LeastName(unittest.TestCase):
    def test_by_hand(self):
        self.assertEqual(least_name((0, ())), (0, ()))
        self.assertEqual(least_name((3, ())), (3, ()))
        self.assertEqual(least_name((1, ((1,),))), (1, ((-1,),)))
        self.assertEqual(least_name((2, ((1,),))), (2, ((-2,),)))
        self.assertEqual(least_name((2, ((1, 2),))), (2, ((-1, -2),)))
        self.assertEqual(least_name((3, ((1, 2),))), (3, ((-2, -3),)))
        self.assertEqual(least_name((2, ((-1,), (1,)))), (2, ((-2,), (2,))))
        self.assertEqual(least_name((4, ((1, 2), (3, 4)))), (4, ((-3, -4), (-1, -2))))

    def test_riddles_of_none_to_four_names(self):
        rng = random.Random(86)
        for riddle in RIDDLES:
            if riddle[0] > 4:
                continue
            told = least_name(riddle)
            self.assertEqual(told, least_name_by_words(riddle))
            self.assertTrue(riddle_by_words(told))
            self.assertLessEqual(told, riddle)
            self.assertEqual(least_name(told), told)
            self.assertIsNotNone(alike(riddle, told))
            other = led_by_words(riddle, rng.choice(TURNINGS[riddle[0]]))
            self.assertEqual(least_name(other), told)

    def test_alike_just_where_the_least_names_are_one(self):
        rng = random.Random(87)
        for names in (1, 2, 3):
            pool = [riddle_of(names, *rng.sample(sorted(CLAUSES[names]), min(2, names))) for _ in range(25)]
            for one, other in itertools.combinations(pool, 2):
                self.assertEqual(least_name(one) == least_name(other), alike(one, other) is not None)

    def test_four_names_and_five(self):
        riddle = riddle_of(4, *sorted(CLAUSES[4])[-30:])
        self.assertEqual(least_name(riddle), least_name_by_words(riddle))
        for riddle in FIXED_RIDDLES:
            if riddle[0] == 5:
                check_refused(self, TooMany, least_name, riddle)
                self.assertIsNotNone(alike(riddle, riddle))
        check_refused(self, TooMany, least_name, (5, ()))
        check_refused(self, TooMany, least_name, (6, ((1,),)))


class AllRiddles(unittest.TestCase):
    def test_by_hand(self):
        self.assertEqual(all_riddles(1, 0), [(1, ())])
        self.assertEqual(all_riddles(1, 1), [(1, ((-1,),))])
        self.assertEqual(all_riddles(1, 2), [(1, ((-1,), (1,)))])
        self.assertEqual(all_riddles(2, 0), [(2, ())])
        self.assertEqual(all_riddles(2, 1), [(2, ((-2,),)), (2, ((-1, -2),))])
        self.assertEqual(all_riddles(3, 1), [(3, ((-3,),)), (3, ((-2, -3),)), (3, ((-1, -2, -3),))])

    def test_all_numbers(self):
        for names in (1, 2, 3):
            for many in (0, 1, 2):
                found = {least_name_by_words((names, clauses))
                         for clauses in itertools.combinations(sorted(CLAUSES[names]), many)}
                told = all_riddles(names, many)
                self.assertEqual(told, sorted(found))
                check_rising(self, told)
                for riddle in told:
                    self.assertTrue(riddle_by_words(riddle))
                    self.assertEqual((riddle[0], len(riddle[1])), (names, many))
                    self.assertEqual(least_name(riddle), riddle)

    def test_no_two_are_alike(self):
        for names in (1, 2, 3):
            for one, other in itertools.combinations(all_riddles(names, 2), 2):
                self.assertIsNone(alike(one, other))

    def test_told_anew(self):
        for names in (1, 2, 3):
            for many in (0, 1):
                check_anew(self, all_riddles, names, many)
        check_anew(self, all_riddles, 2, 2)

    def test_numbers_out_of_bounds(self):
        for names, many in itertools.product(range(-2, 7), repeat=2):
            if not (1 <= names <= 3 and 0 <= many <= 2):
                check_refused(self, NoNumber, all_riddles, names, many)

    def test_what_is_no_number(self):
        for thing in odd_things():
            if type(thing) is not int or thing not in (1, 2, 3):
                check_refused(self, NoNumber, all_riddles, thing, 1)
            if type(thing) is not int or thing not in (0, 1, 2):
                check_refused(self, NoNumber, all_riddles, 2, thing)
        for thing in ("1", (1,), [1], {1: 1}, [], {}, ([],), True, False, None, -1, 4, 10 ** 29):
            for other in ("1", (1,), [1], {1: 1}, [], {}, ({},), True, False, None, -1, 3, 10 ** 29):
                check_refused(self, NoNumber, all_riddles, thing, other)


if __name__ == "__main__":
    unittest.main()
