"""Riddles and answers: [1], [10], [11], [12]."""

import random
import unittest

from samples import (
    CLAUSES, EXAMPLE, FIXED_RIDDLES, answers_by_words, check_anew, check_refused, check_rising, check_told,
    every_answer, narrowed_by_words, odd_things, random_riddle, riddle_by_words, some_riddles, spoilt,
)
from twinriddles.errors import NoBit, NoName
from twinriddles.riddles import answers, is_riddle, keeps, narrowed


class IsRiddle(unittest.TestCase):
    def yes(self, thing):
        check_told(self, is_riddle, (thing,), True)

    def no(self, thing):
        check_told(self, is_riddle, (thing,), False)

    def test_the_example(self):
        self.yes(EXAMPLE)

    def test_ordinary_riddles(self):
        for riddle in some_riddles():
            self.yes(riddle)

    def test_numbers_of_names(self):
        for names in range(6):
            self.yes((names, ()))
        for names in (-1, -5, 6, 7, 10 ** 29, -(10 ** 29), True, False, None, "", "3", (), (3,), [], [3], {}, {3: 3}):
            self.no((names, ()))
        self.no((True, ((1,),)))
        self.no((6, ((6,),)))

    def test_clauses_of_one_to_five_signs(self):
        self.yes((5, ((1,),)))
        self.yes((5, ((1, 2, 3, 4, 5),)))
        self.yes((5, ((-1, -2, -3, -4, -5),)))
        self.no((5, ((),)))
        self.no((5, ((), (1,))))
        self.no((5, ((1, 2, 3, 4, 5, 6),)))
        self.no((5, ((1, 2, 3, 4, 5, 5),)))

    def test_no_name_twice(self):
        for clause in ((1, 1), (-1, -1), (1, -1), (-1, 1), (1, 2, 2), (1, 2, -2), (1, -2, 2), (1, 2, 1), (-1, 2, 1)):
            self.no((3, (clause,)))

    def test_signs_rise_by_their_names(self):
        self.yes((3, ((1, -2, 3),)))
        self.yes((3, ((-1, 2, -3),)))
        for clause in ((2, 1), (-2, 1), (-3, -2), (1, 3, 2), (3, -1), (-3, -2, -1), (-2, -1, 3)):
            self.no((3, (clause,)))

    def test_signs_are_of_the_names(self):
        self.yes((3, ((-3,), (3,))))
        for sign in (0, 4, -4, 5, 6, 10 ** 29, True, False, None, "1", "", (), (1,), [1], {}, {1: 1}):
            self.no((3, ((sign,),)))
            self.no((3, ((1, sign),)))
            self.no((3, ((sign, 3),)))
        self.no((0, ((1,),)))
        self.no((0, ((0,),)))
        self.no((2, ((True, 2),)))

    def test_a_clause_is_a_tuple(self):
        for clause in ([1], {1: 1}, 1, "1", None, True, [1, 2], [[1]], {}):
            self.no((3, (clause,)))
            self.no((3, ((1,), clause)))
            self.no((3, (clause, (1,))))

    def test_clauses_rise(self):
        self.yes((2, ((1,), (1, 2), (2,))))
        self.yes((2, ((-2,), (-1,), (-1, 2))))
        self.no((2, ((1, 2), (1,))))
        self.no((2, ((2,), (1,))))
        self.no((2, ((1,), (-1,))))
        self.no((2, ((1,), (1,))))
        self.no((2, ((1,), (2,), (2,))))
        self.no((2, ((2,), (1,), (1, 2))))
        self.no((3, ((-1,), (-2, 3))))

    def test_clauses_are_a_tuple(self):
        for clauses in ([], [(1,)], {}, {(1,): (1,)}, None, 0, 1, "", "1", True, (1,), (1, 2)):
            self.no((2, clauses))

    def test_at_most_thirty_clauses(self):
        pool = sorted(CLAUSES[4])
        self.yes((4, tuple(pool[:29])))
        self.yes((4, tuple(pool[:30])))
        self.no((4, tuple(pool[:31])))
        self.no((4, tuple(pool)))
        self.yes((5, tuple(pool[-30:])))
        self.no((5, tuple(pool[-31:])))

    def test_a_pair(self):
        for thing in ((), (3,), ((),), (3, (), ()), [3, ()], {3: ()}, {0: 3, 1: ()}, ((), 3), ((3, ()),), "3:", None):
            self.no(thing)

    def test_things_of_anything(self):
        for thing in odd_things():
            check_told(self, is_riddle, (thing,), riddle_by_words(thing))

    def test_things_of_anything_at_any_place(self):
        for riddle in (EXAMPLE, (0, ()), (1, ((-1,), (1,))), (5, ((-1, 2), (1, 2, 3, 4, 5)))):
            for junk in odd_things():
                for thing in spoilt(riddle, junk):
                    self.assertIs(is_riddle(thing), riddle_by_words(thing), repr(thing))

    def test_numbers_at_random(self):
        rng = random.Random(10)
        told = {True: 0, False: 0}
        for _ in range(20000):
            names = rng.randint(-1, 6)
            clauses = [tuple(rng.choice((-1, 1)) * rng.randint(0 if rng.random() < 0.1 else 1, 3)
                             for _ in range(rng.randint(1, 2))) for _ in range(rng.randint(0, 3))]
            if rng.random() < 0.6:
                clauses = sorted(clauses)
            thing = (names, tuple(clauses))
            self.assertIs(is_riddle(thing), riddle_by_words(thing), repr(thing))
            told[is_riddle(thing)] += 1
        self.assertGreater(min(told.values()), 1000)


class Keeps(unittest.TestCase):
    def test_ordinary_riddles(self):
        for riddle in some_riddles():
            kept = answers_by_words(riddle)
            for answer in every_answer(riddle[0]):
                self.assertIs(keeps(riddle, answer), answer in kept)

    def test_a_sign_and_its_contrary(self):
        self.assertIs(keeps((2, ((1, -2),)), (0, 1)), False)
        self.assertIs(keeps((2, ((1, -2),)), (0, 0)), True)
        self.assertIs(keeps((2, ((1, -2),)), (1, 1)), True)

    def test_without_names(self):
        check_told(self, keeps, ((0, ()), ()), True)
        for thing in ((0,), (1,), [], {}, None, "", 0, False):
            check_told(self, keeps, ((0, ()), thing), False)

    def test_what_is_no_answer(self):
        riddle = (3, ())
        self.assertIs(keeps(riddle, (0, 1, 1)), True)
        for part in (True, False, None, "0", "1", "", 2, -1, 10 ** 29, (), (1,), [], [1], {}, {0: 1}):
            for at in range(3):
                answer = [0, 1, 1]
                answer[at] = part
                check_told(self, keeps, (riddle, tuple(answer)), False)
        for thing in ((0, 1), (0, 1, 1, 1), (), [0, 1, 1], {0: 0, 1: 1, 2: 1}, "011", 11, None, True, ((0, 1, 1),)):
            check_told(self, keeps, (riddle, thing), False)

    def test_things_of_anything(self):
        for riddle in FIXED_RIDDLES:
            kept = answers_by_words(riddle)
            for thing in odd_things():
                truth = any(repr(thing) == repr(answer) for answer in kept)
                check_told(self, keeps, (riddle, thing), truth)
            for answer in kept[:2]:
                for junk in odd_things():
                    for thing in spoilt(answer, junk):
                        truth = any(repr(thing) == repr(other) for other in kept)
                        self.assertIs(keeps(riddle, thing), truth, repr(thing))


class Answers(unittest.TestCase):
    def test_the_example(self):
        self.assertEqual(answers(EXAMPLE), [])
        self.assertEqual(answers((3, ((-2, 3), (-1,), (1, 2)))), [(0, 1, 1)])

    def test_without_names(self):
        self.assertEqual(answers((0, ())), [()])

    def test_without_clauses(self):
        self.assertEqual(answers((2, ())), [(0, 0), (0, 1), (1, 0), (1, 1)])
        self.assertEqual(len(answers((5, ()))), 32)

    def test_ordinary_riddles(self):
        for riddle in some_riddles():
            told = answers(riddle)
            self.assertEqual(told, answers_by_words(riddle))
            check_rising(self, told)
            self.assertTrue(all(type(answer) is tuple for answer in told))
            self.assertTrue(all(type(bit) is int for answer in told for bit in answer))

    def test_told_anew(self):
        for riddle in FIXED_RIDDLES:
            check_anew(self, answers, riddle)

    def test_somewhat_beyond_the_bounds(self):
        rng = random.Random(11)
        for names, many in ((6, 4), (6, 40), (5, 40), (4, 60)):
            clauses = tuple(sorted(rng.sample(sorted(CLAUSES[names]), many)))
            self.assertEqual(answers((names, clauses)), answers_by_words((names, clauses)))


class Narrowed(unittest.TestCase):
    def test_the_example(self):
        self.assertEqual(narrowed(EXAMPLE, 1, 0), (2, ((-1,), (-1, 2), (1,))))
        self.assertIs(narrowed(EXAMPLE, 1, 1), None)
        self.assertEqual(narrowed(EXAMPLE, 2, 0), (2, ((-1,), (1,))))
        self.assertEqual(narrowed(EXAMPLE, 2, 1), (2, ((-1,), (1,), (2,))))
        self.assertEqual(narrowed(EXAMPLE, 3, 0), (2, ((-2,), (-1,), (1, -2), (1, 2))))
        self.assertEqual(narrowed(EXAMPLE, 3, 1), (2, ((-1,), (1, -2), (1, 2))))

    def test_clauses_that_have_become_one(self):
        self.assertEqual(narrowed((2, ((1, 2), (2,))), 1, 0), (1, ((1,),)))
        self.assertEqual(narrowed((3, ((1, -2, 3), (1, 3))), 2, 1), (2, ((1, 2),)))

    def test_none_where_a_clause_has_no_sign_left(self):
        self.assertIs(narrowed((1, ((1,),)), 1, 0), None)
        self.assertEqual(narrowed((1, ((1,),)), 1, 1), (0, ()))
        self.assertIs(narrowed((1, ((-1,),)), 1, 1), None)
        self.assertIs(narrowed((1, ((-1,), (1,))), 1, 0), None)
        self.assertIs(narrowed((1, ((-1,), (1,))), 1, 1), None)

    def test_each_name_and_each_bit(self):
        for riddle in some_riddles():
            for name in range(1, riddle[0] + 1):
                for bit in (0, 1):
                    told = narrowed(riddle, name, bit)
                    self.assertEqual(told, narrowed_by_words(riddle, name, bit))
                    self.assertEqual(told, narrowed(riddle, name, bit))
                    self.assertTrue(told is None or is_riddle(told))
                    here = [answer for answer in answers(riddle) if answer[name - 1] == bit]
                    there = [] if told is None else answers(told)
                    put_in = [answer[:name - 1] + (bit,) + answer[name - 1:] for answer in there]
                    self.assertEqual(here, put_in)

    def test_what_is_no_name(self):
        for riddle in FIXED_RIDDLES:
            names = riddle[0]
            for thing in odd_things():
                if type(thing) is not int or not 1 <= thing <= names:
                    for bit in (0, 1):
                        check_refused(self, NoName, narrowed, riddle, thing, bit)
            check_refused(self, NoName, narrowed, riddle, names + 1, 0)
            check_refused(self, NoName, narrowed, riddle, 0, 0)
            check_refused(self, NoName, narrowed, riddle, -1, 0)

    def test_what_is_no_bit(self):
        for thing in odd_things():
            if type(thing) is not int or thing not in (0, 1):
                for name in (1, 2, 3):
                    check_refused(self, NoBit, narrowed, EXAMPLE, name, thing)
                check_refused(self, NoBit, narrowed, (1, ((-1,), (1,))), 1, thing)

    def test_no_name_ahead_of_no_bit(self):
        for name in (0, 4, -1, True, None, "1", [1], (1,), {}):
            for bit in (2, -1, True, False, None, "1", [], (0,), {}):
                check_refused(self, NoName, narrowed, EXAMPLE, name, bit)

    def test_somewhat_beyond_the_bounds(self):
        rng = random.Random(12)
        for names, many in ((6, 5), (6, 40), (5, 40)):
            riddle = (names, tuple(sorted(rng.sample(sorted(CLAUSES[names]), many))))
            for name in range(1, names + 1):
                self.assertEqual(narrowed(riddle, name, 1), narrowed_by_words(riddle, name, 1))

    def test_narrowed_till_no_name_is_left(self):
        rng = random.Random(13)
        for _ in range(200):
            riddle = random_riddle(rng, 5, rng.randint(0, 6))
            answer = tuple(rng.randint(0, 1) for _ in range(5))
            rest = riddle
            for bit in reversed(answer):
                rest = rest and narrowed(rest, rest[0], bit)
            self.assertEqual(rest, (0, ()) if keeps(riddle, answer) else None)


if __name__ == "__main__":
    unittest.main()
