"""Rows: [1], [50], [51], [52]."""

import random
import unittest

from samples import (
    EXAMPLE, FIXED_RIDDLES, ONE_OF_THREE, RING, TURNINGS, answers_by_words, check_anew, check_refused, check_rising,
    check_told, kinds_by_words, led_answer_by_words, likenesses_by_words, no_turnings, odd_things, some_riddles,
    some_turnings, spoilt, whole_tuple,
)
from twinriddles.errors import NoTurning
from twinriddles.rows import are_sharp, left, lost, sharp_rows

RIDDLES = some_riddles(rounds=2)
LIKENESSES = {riddle: set(likenesses_by_words(riddle)) for riddle in RIDDLES}


def left_by_words(riddle, rows):
    found = []
    for answer in answers_by_words(riddle):
        if not any(answer > led_answer_by_words(answer, row) for row in rows):
            found.append(answer)
    return found


def lost_by_words(riddle, rows):
    there = set(left_by_words(riddle, rows))
    return [kind for kind in kinds_by_words(riddle) if not there & set(kind)]


def sharp_by_words(riddle, thing):
    if type(thing) is not tuple or not all(whole_tuple(row) and row in LIKENESSES[riddle] for row in thing):
        return False
    there = set(left_by_words(riddle, thing))
    return all(len(there & set(kind)) == 1 for kind in kinds_by_words(riddle))


def some_rows(rng, riddle, many):
    """Rows, by turns all likenesses, mostly such, or any turnings."""
    pool = likenesses_by_words(riddle)
    share = rng.choice((0, 0.1, 1))
    return [rng.choice(TURNINGS[riddle[0]] if rng.random() < share else pool) for _ in range(many)]


class Left(unittest.TestCase):
    def test_by_hand(self):
        self.assertEqual(left((0, ()), ()), [()])
        self.assertEqual(left((0, ()), [()]), [()])
        self.assertEqual(left(EXAMPLE, ()), [])
        self.assertEqual(left((1, ()), ()), [(0,), (1,)])
        self.assertEqual(left((1, ()), ((-1,),)), [(0,)])
        self.assertEqual(left((1, ()), ((1,),)), [(0,), (1,)])
        self.assertEqual(left((2, ((1, 2),)), ((2, 1),)), [(0, 1), (1, 1)])
        self.assertEqual(left((3, ()), ((2, 1, 3), (1, 3, 2))), [(0, 0, 0), (0, 0, 1), (0, 1, 1), (1, 1, 1)])
        self.assertEqual(left((3, ()), ((2, 3, 1),)), [(0, 0, 0), (0, 0, 1), (0, 1, 1), (1, 0, 1), (1, 1, 1)])
        self.assertEqual(lost((1, ((1,),)), ((-1,),)), [((1,),)])
        self.assertEqual(lost((1, ()), ((-1,),)), [])
        self.assertEqual(lost((2, ((1, 2),)), ((-1, 2),)), [((1, 1),)])
        self.assertEqual(lost((2, ((1, 2),)), [(-2, -1), (1, -2)]), [((1, 1),)])
        self.assertEqual(lost((2, ((1, 2),)), [(-1, 2), (1, -2)]), [((0, 1), (1, 0)), ((1, 1),)])

    def test_none_to_forty_rows(self):
        rng = random.Random(50)
        many_lost = 0
        for riddle in RIDDLES:
            for many in (0, 1, 2, rng.randint(3, 39), 40):
                rows = some_rows(rng, riddle, many)
                before = list(rows)
                told = left(riddle, rows)
                gone = lost(riddle, rows)
                self.assertEqual(rows, before)
                self.assertEqual(told, left_by_words(riddle, rows))
                self.assertEqual(gone, lost_by_words(riddle, rows))
                self.assertEqual(left(riddle, tuple(rows)), told)
                self.assertEqual(lost(riddle, tuple(rows)), gone)
                check_rising(self, told)
                check_rising(self, gone)
                self.assertTrue(all(whole_tuple(answer) for answer in told))
                self.assertTrue(all(type(kind) is tuple for kind in gone))
                many_lost += len(gone) > 1
        self.assertGreater(many_lost, 20)

    def test_likenesses_lose_no_kind(self):
        rng = random.Random(51)
        for riddle in RIDDLES:
            rows = [rng.choice(likenesses_by_words(riddle)) for _ in range(40)]
            self.assertEqual(lost(riddle, rows), [])
            for kind in kinds_by_words(riddle):
                self.assertIn(kind[0], left(riddle, rows))

    def test_told_anew(self):
        for riddle in FIXED_RIDDLES:
            for rows in ([], TURNINGS[riddle[0]][:2], tuple(TURNINGS[riddle[0]][:2])):
                check_anew(self, left, riddle, rows)
                check_anew(self, lost, riddle, rows)

    def test_rows_changed_later(self):
        rows = [(2, 1)]
        told = left((2, ()), rows)
        rows.append((-1, 2))
        self.assertEqual(told, [(0, 0), (0, 1), (1, 1)])

    def test_no_turning(self):
        rng = random.Random(52)
        for riddle in (EXAMPLE, ONE_OF_THREE, RING, (0, ()), (1, ()), (2, ((1, 2),)), (5, ((-1, 2), (3, 4, 5)))):
            for thing in no_turnings(riddle[0]):
                many = rng.choice((1, 2, 3, 40))
                for at in {0, rng.randrange(many), many - 1}:
                    rows = some_turnings(rng, riddle[0], many)
                    rows[at] = thing
                    for form in (rows, tuple(rows)):
                        check_refused(self, NoTurning, left, riddle, form)
                        check_refused(self, NoTurning, lost, riddle, form)

    def test_a_riddle_without_answers_refuses_too(self):
        barred = (1, ((-1,), (1,)))
        for thing in ((), (1, 2), [1], (True,), None, "1", (2,)):
            check_refused(self, NoTurning, left, barred, [thing])
            check_refused(self, NoTurning, lost, barred, [(1,), thing])

    def test_somewhat_beyond_the_bounds(self):
        riddle = (6, ((1,), (2, 3), (4, 5, 6)))
        rows = [(1, 3, 2, 4, 5, 6), (1, 2, 3, 5, 4, 6), (1, 2, 3, 4, 6, 5)] * 20
        self.assertEqual(left(riddle, rows), left_by_words(riddle, rows))
        self.assertEqual(len(left(riddle, rows)), 6)
        self.assertEqual(lost(riddle, rows), [])


class AreSharp(unittest.TestCase):
    def test_by_hand(self):
        self.assertIs(are_sharp((0, ()), ()), True)
        self.assertIs(are_sharp((0, ()), ((),)), True)
        self.assertIs(are_sharp(EXAMPLE, ()), True)
        self.assertIs(are_sharp((1, ()), ()), False)
        self.assertIs(are_sharp((1, ()), ((-1,),)), True)
        self.assertIs(are_sharp((1, ()), [(-1,)]), False)
        self.assertIs(are_sharp((1, ((1,),)), ()), True)
        self.assertIs(are_sharp((1, ((1,),)), ((-1,),)), False)
        self.assertIs(are_sharp((2, ((1, 2),)), ((2, 1),)), True)
        self.assertIs(are_sharp((2, ((1, 2),)), ((1, 2),)), False)
        self.assertIs(are_sharp((2, ((1, 2),)), ((1, 2), (2, 1), (2, 1))), True)

    def test_no_likenesses_among_them(self):
        # The one answer is left by either row, but of these only the other is a likeness.
        riddle = (2, ((-1,), (2,)))
        self.assertEqual(left(riddle, ((2, 1),)), [(0, 1)])
        self.assertEqual(left(riddle, ((-2, -1),)), [(0, 1)])
        self.assertIs(are_sharp(riddle, ((2, 1),)), False)
        self.assertIs(are_sharp(riddle, ((-2, -1),)), True)
        self.assertIs(are_sharp(riddle, ((-2, -1), (2, 1))), False)
        # A row that is no likeness may cut off all of a kind.
        self.assertEqual(left((2, ((1,), (2,))), ((-2, 1),)), [])
        self.assertIs(are_sharp((2, ((1,), (2,))), ((-2, 1),)), False)

    def test_all_likenesses_together(self):
        for riddle in RIDDLES:
            if riddle[0] < 5 or len(LIKENESSES[riddle]) < 400:
                self.assertIs(are_sharp(riddle, tuple(likenesses_by_words(riddle))), True)

    def test_rows_at_random(self):
        rng = random.Random(53)
        told = {True: 0, False: 0}
        for riddle in RIDDLES:
            for many in (0, 1, 2, 3, 5, 12):
                rows = tuple(some_rows(rng, riddle, many))
                truth = sharp_by_words(riddle, rows)
                check_told(self, are_sharp, (riddle, rows), truth)
                told[truth] += 1
        self.assertGreater(min(told.values()), 100)

    def test_things_of_anything(self):
        for riddle in FIXED_RIDDLES:
            for thing in odd_things():
                check_told(self, are_sharp, (riddle, thing), sharp_by_words(riddle, thing))

    def test_things_of_anything_at_any_place(self):
        for riddle in (RING, ONE_OF_THREE, (1, ()), (2, ()), (2, ((1, 2),)), (5, ((1, 2, 3, 4, 5),)), (0, ())):
            rows = sharp_rows(riddle)
            other = [turning for turning in TURNINGS[riddle[0]] if turning not in LIKENESSES[riddle]][:1]
            for junk in odd_things() + other + likenesses_by_words(riddle)[:2]:
                for thing in spoilt(rows, junk):
                    self.assertIs(are_sharp(riddle, thing), sharp_by_words(riddle, thing), repr(thing))

    def test_lists_and_dicts_within(self):
        riddle = (2, ((1, 2),))
        for thing in ([(2, 1)], ([2, 1],), {(2, 1): (2, 1)}, ({1: 2, 2: 1},), ((2, [1]),), ((2, True),), "2 1",
                      (((2, 1),),), ((2, 1), []), ((2, 1), {}), ((2, 1), None), ((2, 1), ()), ((2, 1), (1,))):
            check_told(self, are_sharp, (riddle, thing), False)


class SharpRows(unittest.TestCase):
    def test_by_hand(self):
        self.assertEqual(sharp_rows((0, ())), ())
        self.assertEqual(sharp_rows(EXAMPLE), ())
        self.assertEqual(sharp_rows((1, ())), ((-1,),))
        self.assertEqual(sharp_rows((1, ((1,),))), ())
        self.assertEqual(sharp_rows((2, ((1, 2),))), ((2, 1),))

    def test_sharp_and_without_any_one_not(self):
        for riddle in some_riddles(rounds=4):
            LIKENESSES[riddle] = set(likenesses_by_words(riddle))
            told = sharp_rows(riddle)
            self.assertIs(type(told), tuple)
            self.assertTrue(sharp_by_words(riddle, told))
            self.assertIs(are_sharp(riddle, told), True)
            for at in range(len(told)):
                self.assertFalse(sharp_by_words(riddle, told[:at] + told[at + 1:]))
            self.assertEqual(sharp_rows(riddle), told)

    def test_firsts_are_left(self):
        for riddle in RIDDLES:
            self.assertEqual(left(riddle, sharp_rows(riddle)), [kind[0] for kind in kinds_by_words(riddle)])


if __name__ == "__main__":
    unittest.main()
