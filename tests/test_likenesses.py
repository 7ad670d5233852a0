"""Likenesses and kinds: [1], [30], [31], [32], [33]."""

import unittest

from samples import (
    EXAMPLE, FIXED_RIDDLES, ONE_OF_THREE, RING, TURNINGS, answer_maps, answers_by_words, check_anew, check_refused,
    check_rising, check_told, every_answer, kinds_by_words, led_by_words, likenesses_by_words, lots_by_words, map_of,
    odd_things, signs_of, some_riddles, spoilt, whole_tuple,
)
from twinriddles.errors import NoAnswer
from twinriddles.likenesses import (
    first_of, is_likeness, kinds, likenesses, lots_of_clauses, lots_of_signs, many_kinds,
)

RIDDLES = some_riddles(rounds=2)
LIKENESSES = {riddle: likenesses_by_words(riddle) for riddle in RIDDLES}


class Samples(unittest.TestCase):
    def test_there_are_riddles_with_few_and_with_many_likenesses(self):
        for names in range(2, 6):
            sizes = {len(LIKENESSES[riddle]) for riddle in RIDDLES if riddle[0] == names}
            self.assertGreaterEqual(len(sizes), 3)


class Likenesses(unittest.TestCase):
    def test_some_riddles_by_hand(self):
        self.assertEqual(likenesses(EXAMPLE), [(1, 2, 3)])
        self.assertEqual(likenesses((0, ())), [()])
        self.assertEqual(likenesses((1, ())), [(-1,), (1,)])
        self.assertEqual(likenesses((1, ((1,),))), [(1,)])
        self.assertEqual(likenesses((2, ((1, 2),))), [(1, 2), (2, 1)])
        self.assertEqual(likenesses((2, ((-1, 2), (1, -2)))), [(-2, -1), (-1, -2), (1, 2), (2, 1)])
        self.assertEqual(len(likenesses(RING)), 8)
        self.assertEqual(likenesses((5, ())), TURNINGS[5])

    def test_all_likenesses(self):
        for riddle in RIDDLES:
            told = likenesses(riddle)
            self.assertEqual(told, LIKENESSES[riddle])
            check_rising(self, told)
            self.assertTrue(all(whole_tuple(turning) for turning in told))

    def test_told_anew(self):
        for riddle in FIXED_RIDDLES:
            check_anew(self, likenesses, riddle)

    def test_is_likeness(self):
        for riddle in RIDDLES:
            for turning in TURNINGS[riddle[0]][::7] + LIKENESSES[riddle][::7]:
                self.assertIs(is_likeness(riddle, turning), led_by_words(riddle, turning) == riddle)

    def test_is_likeness_of_anything(self):
        for riddle in FIXED_RIDDLES:
            for thing in odd_things():
                truth = whole_tuple(thing) and thing in LIKENESSES[riddle]
                check_told(self, is_likeness, (riddle, thing), truth)
            for junk in odd_things():
                for thing in spoilt(LIKENESSES[riddle][0], junk):
                    truth = whole_tuple(thing) and thing in LIKENESSES[riddle]
                    self.assertIs(is_likeness(riddle, thing), truth, repr(thing))

    def test_a_turning_of_other_names_is_no_likeness(self):
        self.assertIs(is_likeness((2, ()), (1,)), False)
        self.assertIs(is_likeness((2, ()), (1, 2, 3)), False)
        self.assertIs(is_likeness((1, ()), (True,)), False)
        self.assertIs(is_likeness((2, ((1, 2),)), [1, 2]), False)
        self.assertIs(is_likeness((2, ((1, 2),)), (1, -2)), False)

    def test_somewhat_beyond_the_bounds(self):
        riddle = (6, ((1,), (2, 3), (4, 5, 6)))
        self.assertEqual(len(likenesses(riddle)), 12)
        self.assertIs(is_likeness(riddle, (1, 3, 2, 5, 6, 4)), True)
        self.assertEqual(lots_of_signs(riddle), [(-6, -5, -4), (-3, -2), (-1,), (1,), (2, 3), (4, 5, 6)])


class Lots(unittest.TestCase):
    def test_by_hand(self):
        self.assertEqual(lots_of_signs((0, ())), [])
        self.assertEqual(lots_of_signs((2, ())), [(-2, -1, 1, 2)])
        self.assertEqual(lots_of_signs((2, ((1, 2),))), [(-2, -1), (1, 2)])
        self.assertEqual(lots_of_signs(EXAMPLE), [(-3,), (-2,), (-1,), (1,), (2,), (3,)])
        self.assertEqual(lots_of_clauses(EXAMPLE), [(0,), (1,), (2,), (3,)])
        self.assertEqual(lots_of_clauses((3, ())), [])
        self.assertEqual(lots_of_clauses(ONE_OF_THREE), [(0, 1, 2), (3,)])
        self.assertEqual(lots_of_clauses(RING), [(0, 1, 2, 3)])

    def test_lots_of_signs(self):
        for riddle in RIDDLES:
            told = lots_of_signs(riddle)
            joined = [map_of(turning) for turning in LIKENESSES[riddle]]
            self.assertEqual(told, lots_by_words(signs_of(riddle[0]), joined))
            check_rising(self, told)
            self.assertEqual(sorted(sign for lot in told for sign in lot), signs_of(riddle[0]))
            self.assertTrue(all(whole_tuple(lot) for lot in told))

    def test_lots_of_clauses(self):
        for riddle in RIDDLES:
            told = lots_of_clauses(riddle)
            clauses = riddle[1]
            number = {frozenset(clause): at for at, clause in enumerate(clauses)}
            joined = []
            for turning in LIKENESSES[riddle]:
                leads = map_of(turning)
                joined.append([number[frozenset(leads[sign] for sign in clause)] for clause in clauses])
            self.assertEqual(told, lots_by_words(range(len(clauses)), joined))
            check_rising(self, told)
            self.assertEqual(sorted(at for lot in told for at in lot), list(range(len(clauses))))
            self.assertTrue(all(whole_tuple(lot) for lot in told))

    def test_told_anew(self):
        for riddle in FIXED_RIDDLES:
            check_anew(self, lots_of_signs, riddle)
            check_anew(self, lots_of_clauses, riddle)


class Kinds(unittest.TestCase):
    def test_by_hand(self):
        self.assertEqual(kinds((0, ())), [((),)])
        self.assertEqual(kinds(EXAMPLE), [])
        self.assertEqual(kinds(ONE_OF_THREE), [((0, 0, 1), (0, 1, 0), (1, 0, 0))])
        self.assertEqual(kinds((2, ((1, 2),))), [((0, 1), (1, 0)), ((1, 1),)])
        self.assertEqual(kinds((2, ())), [((0, 0), (0, 1), (1, 0), (1, 1))])

    def test_all_kinds(self):
        for riddle in RIDDLES:
            told = kinds(riddle)
            self.assertEqual(told, kinds_by_words(riddle))
            check_rising(self, told)
            self.assertEqual(sorted(answer for kind in told for answer in kind), answers_by_words(riddle))
            for kind in told:
                self.assertIs(type(kind), tuple)
                check_rising(self, kind)

    def test_told_anew(self):
        for riddle in FIXED_RIDDLES:
            check_anew(self, kinds, riddle)

    def test_first_of(self):
        self.assertEqual(first_of((0, ()), ()), ())
        self.assertEqual(first_of(ONE_OF_THREE, (1, 0, 0)), (0, 0, 1))
        self.assertEqual(first_of((2, ((1, 2),)), (1, 1)), (1, 1))
        for riddle in RIDDLES:
            maps = answer_maps(riddle)
            for answer in answers_by_words(riddle)[::3]:
                self.assertEqual(first_of(riddle, answer), min(leads[answer] for leads in maps))

    def test_an_answer_that_does_not_keep_it(self):
        for riddle in RIDDLES:
            kept = answers_by_words(riddle)
            for answer in every_answer(riddle[0])[::3]:
                if answer not in kept:
                    check_refused(self, NoAnswer, first_of, riddle, answer)

    def test_no_answer(self):
        for riddle in FIXED_RIDDLES:
            kept = [repr(answer) for answer in answers_by_words(riddle)]
            for thing in odd_things():
                if repr(thing) not in kept:
                    check_refused(self, NoAnswer, first_of, riddle, thing)
        for riddle in (ONE_OF_THREE, (1, ()), (2, ((1, 2),))):
            answer = answers_by_words(riddle)[0]
            kept = [repr(other) for other in answers_by_words(riddle)]
            for junk in odd_things():
                for thing in spoilt(answer, junk):
                    if repr(thing) not in kept:
                        check_refused(self, NoAnswer, first_of, riddle, thing)

    def test_many_kinds(self):
        self.assertEqual(many_kinds((0, ())), 1)
        self.assertEqual(many_kinds((5, ())), 1)
        self.assertEqual(many_kinds(EXAMPLE), 8)
        self.assertEqual(many_kinds(ONE_OF_THREE), 4)
        self.assertEqual(many_kinds(RING), 6)
        for riddle in RIDDLES:
            told = many_kinds(riddle)
            self.assertIs(type(told), int)
            maps = answer_maps(riddle)
            stays = sum(answer == to for leads in maps for answer, to in leads.items())
            self.assertEqual(told * len(maps), stays)


if __name__ == "__main__":
    unittest.main()
