"""Clauses put in: [1], [70], [71], [72]."""

import random
import unittest

from samples import (
    CLAUSES, EXAMPLE, FIXED_RIDDLES, ONE_OF_THREE, RING, TURNINGS, check_anew, check_refused, check_rising,
    check_told, kinds_by_words, likenesses_by_words, may_put_by_words, no_clauses, no_turnings, odd_things,
    riddle_by_words, riddle_of, some_riddles, spoilt, whole_tuple,
)
from twinriddles.errors import NoPutting, TooMany
from twinriddles.putting import all_puttings, is_putting, may_put, put_in
from twinriddles.riddles import answers

RIDDLES = some_riddles(rounds=2)


def putting_by_words(riddle, thing):
    if type(thing) is not tuple or len(thing) > 30:
        return False
    return all(type(pair) is tuple and len(pair) == 2 and may_put_by_words(riddle, *pair) for pair in thing)


def pairs_of(riddle, rng, many):
    """At most so many pairs that may be put in, tried by chance."""
    pool = sorted(CLAUSES[riddle[0]])
    found = []
    for _ in range(many * 20 if pool else 0):
        pair = (rng.choice(pool), rng.choice(likenesses_by_words(riddle)))
        if len(found) < many and may_put_by_words(riddle, *pair):
            found.append(pair)
    return tuple(found)


class MayPut(unittest.TestCase):
    def test_by_hand(self):
        self.assertIs(may_put((1, ()), (-1,), (-1,)), True)
        self.assertIs(may_put((1, ()), (1,), (-1,)), False)
        self.assertIs(may_put((1, ()), (-1,), (1,)), False)
        self.assertIs(may_put((1, ((1,),)), (1,), (1,)), True)
        self.assertIs(may_put((1, ((1,),)), (1,), (-1,)), False)
        self.assertIs(may_put((2, ((1, 2),)), (-1, 2), (2, 1)), True)
        self.assertIs(may_put((2, ((1, 2),)), (1, -2), (2, 1)), False)
        self.assertIs(may_put((2, ((1, 2),)), (1, 2), (1, 2)), True)
        self.assertIs(may_put((2, ((1, 2),)), (-1,), (2, 1)), False)
        self.assertIs(may_put(EXAMPLE, (1, -2, 3), (1, 2, 3)), True)
        self.assertIs(may_put(EXAMPLE, (1, -2, 3), (2, 1, 3)), False)

    def test_none_is_no_clause_here(self):
        check_told(self, may_put, (EXAMPLE, (), (1, 2, 3)), False)
        check_told(self, may_put, ((0, ()), (), ()), False)

    def test_led_to_a_lesser_one_not_to_itself(self):
        # The one answer that doesn't keep the clause stays where it is.
        self.assertIs(may_put((2, ()), (-1, -2), (2, 1)), False)
        self.assertIs(may_put((2, ()), (-1, -2), (1, -2)), True)

    def test_clauses_and_turnings(self):
        rng = random.Random(70)
        told = {True: 0, False: 0}
        for riddle in RIDDLES:
            pool = sorted(CLAUSES[riddle[0]])
            for _ in range(40 if pool else 0):
                clause = rng.choice(pool)
                turning = rng.choice(TURNINGS[riddle[0]] if rng.random() < 0.2 else likenesses_by_words(riddle))
                truth = may_put_by_words(riddle, clause, turning)
                check_told(self, may_put, (riddle, clause, turning), truth)
                told[truth] += 1
        self.assertGreater(min(told.values()), 500)

    def test_things_of_anything(self):
        riddles = (EXAMPLE, RING, (0, ()), (1, ()), (1, ((1,),)), (2, ((1, 2),)), (5, ((1, 2, 3, 4, 5),)))
        for riddle in riddles:
            names = riddle[0]
            still = tuple(range(1, names + 1))
            for thing in no_clauses(names):
                self.assertIs(may_put(riddle, thing, still), False, repr(thing))
            for thing in no_turnings(names):
                for clause in riddle[1][:1] + ((1,), ()):
                    self.assertIs(may_put(riddle, clause, thing), False, repr(thing))
            for one in odd_things():
                for other in odd_things():
                    self.assertIs(may_put(riddle, one, other), may_put_by_words(riddle, one, other))

    def test_what_is_handed_in_stays(self):
        for thing in odd_things():
            check_told(self, may_put, (RING, thing, thing), False)

    def test_truths_and_lists(self):
        riddle = (2, ((1, 2),))
        for clause in ((True, 2), [1, 2], (1, 2, 3), (2, 1), {1: 1, 2: 2}, ("1", 2), None):
            check_told(self, may_put, (riddle, clause, (1, 2)), False)
        for turning in ((True, 2), [1, 2], (1, 2, 3), (1, -2), {1: 1, 2: 2}, ("1", 2), None, ()):
            check_told(self, may_put, (riddle, (1, 2), turning), False)


class IsPutting(unittest.TestCase):
    def test_by_hand(self):
        riddle = (2, ((1, 2),))
        self.assertIs(is_putting(riddle, ()), True)
        self.assertIs(is_putting((0, ()), ()), True)
        self.assertIs(is_putting(riddle, (((-1, 2), (2, 1)),)), True)
        self.assertIs(is_putting(riddle, (((-1, 2), (1, 2)),)), False)
        self.assertIs(is_putting(riddle, (((-1, 2), (2, 1)), ((1, 2), (1, 2)))), True)
        self.assertIs(is_putting(riddle, (((-1, 2), (2, 1)), ((1, -2), (2, 1)))), False)
        self.assertIs(is_putting(riddle, ((-1, 2), (2, 1))), False)
        self.assertIs(is_putting(riddle, (((2, 1), (-1, 2)),)), False)

    def test_each_is_put_into_the_riddle_as_it_is_handed_in(self):
        # The second turning is a likeness of the riddle, not of the one with the first clause put in.
        riddle = (2, ())
        putting = (((-1,), (-1, 2)), ((-1, -2), (-2, -1)))
        self.assertIs(is_putting(riddle, putting), True)
        self.assertIs(may_put((2, ((-1,),)), (-1, -2), (-2, -1)), False)
        self.assertEqual(put_in(riddle, putting), (2, ((-1,), (-1, -2))))
        # Only after the first clause no answer is against the second.
        self.assertIs(may_put((2, ((-1,),)), (-1, 2), (1, 2)), True)
        self.assertIs(is_putting(riddle, (((-1,), (-1, 2)), ((-1, 2), (1, 2)))), False)

    def test_29_to_31_pairs(self):
        pair = ((-1, 2), (2, 1))
        riddle = (2, ((1, 2),))
        for many in (29, 30):
            check_told(self, is_putting, (riddle, (pair,) * many), True)
            self.assertEqual(put_in(riddle, (pair,) * many), (2, ((-1, 2), (1, 2))))
        for many in (31, 32, 40):
            check_told(self, is_putting, (riddle, (pair,) * many), False)
            check_refused(self, NoPutting, put_in, riddle, (pair,) * many)
        rng = random.Random(71)
        for names in (3, 4):
            pairs = pairs_of((names, ()), rng, 31)
            self.assertEqual(len(pairs), 31)
            for many in (29, 30, 31):
                check_told(self, is_putting, ((names, ()), pairs[:many]), many < 31)

    def test_one_wrong_pair_at_any_place(self):
        rng = random.Random(72)
        riddle = (3, ())
        pairs = pairs_of(riddle, rng, 30)
        self.assertEqual(len(pairs), 30)
        for at in range(30):
            for wrong in (((1,), (1, 2, 3)), list(pairs[at]), pairs[at] + ((1,),), pairs[at][:1], (), None, {}, "a",
                          ((), (1, 2, 3)), (list(pairs[at][0]), pairs[at][1])):
                thing = pairs[:at] + (wrong,) + pairs[at + 1:]
                self.assertIs(is_putting(riddle, thing), putting_by_words(riddle, thing))
                self.assertIs(is_putting(riddle, thing), False)
                check_refused(self, NoPutting, put_in, riddle, thing)

    def test_things_of_anything(self):
        for riddle in FIXED_RIDDLES:
            for thing in odd_things():
                truth = putting_by_words(riddle, thing)
                check_told(self, is_putting, (riddle, thing), truth)
                if not truth:
                    check_refused(self, NoPutting, put_in, riddle, thing)

    def test_things_of_anything_at_any_place(self):
        rng = random.Random(73)
        for riddle in (RING, (1, ()), (2, ((1, 2),)), (3, ())):
            pairs = pairs_of(riddle, rng, 2)
            self.assertEqual(len(pairs), 2)
            for junk in odd_things():
                for thing in spoilt(pairs, junk):
                    truth = putting_by_words(riddle, thing)
                    self.assertIs(is_putting(riddle, thing), truth, repr(thing))
                    if not truth:
                        with self.assertRaises(NoPutting):
                            put_in(riddle, thing)


class PutIn(unittest.TestCase):
    def test_by_hand(self):
        self.assertEqual(put_in((0, ()), ()), (0, ()))
        self.assertEqual(put_in(EXAMPLE, ()), EXAMPLE)
        self.assertEqual(put_in((1, ()), (((-1,), (-1,)),)), (1, ((-1,),)))
        self.assertEqual(put_in((2, ((1, 2),)), (((-1, 2), (2, 1)),)), (2, ((-1, 2), (1, 2))))

    def test_a_clause_that_is_there_and_one_given_twice(self):
        riddle = (2, ((1, 2),))
        self.assertEqual(put_in(riddle, (((1, 2), (1, 2)),)), riddle)
        self.assertEqual(put_in(riddle, (((1, 2), (2, 1)), ((-1, 2), (2, 1)), ((1, 2), (1, 2)), ((-1, 2), (2, 1)))),
                         (2, ((-1, 2), (1, 2))))
        self.assertEqual(put_in((2, ()), (((-1, -2), (1, -2)), ((-1, -2), (-2, -1)))), (2, ((-1, -2),)))

    def test_riddles(self):
        rng = random.Random(74)
        put = 0
        for riddle in RIDDLES:
            pairs = pairs_of(riddle, rng, 5)
            together = sorted(set(riddle[1]) | {clause for clause, _ in pairs})
            if len(together) > 30:
                check_refused(self, TooMany, put_in, riddle, pairs)
                continue
            told = put_in(riddle, pairs)
            self.assertEqual(told, (riddle[0], tuple(together)))
            self.assertTrue(riddle_by_words(told))
            self.assertEqual(put_in(riddle, pairs), told)
            kept = answers(told)
            for kind in kinds_by_words(riddle):
                self.assertIn(kind[0], kept)
            put += len(together) > len(riddle[1])
        self.assertGreater(put, 50)

    def test_riddles_of_thirty_clauses(self):
        still = (1, 2, 3, 4)
        pool = sorted(clause for clause in CLAUSES[4] if clause != (1,) and 1 in clause)
        self.assertEqual(len(pool), 26)
        wide = [(clause, still) for clause in pool]
        more = sorted(clause for clause in CLAUSES[4] if -1 in clause)[:10]
        riddle = riddle_of(4, (1,), *more, *pool[:18])
        self.assertEqual(len(riddle[1]), 29)
        self.assertEqual(put_in(riddle, tuple(wide[:19])), riddle_of(4, *riddle[1], pool[18]))
        check_refused(self, TooMany, put_in, riddle, tuple(wide[:20]))
        check_refused(self, TooMany, put_in, riddle, tuple(wide[18:20]))
        check_refused(self, TooMany, put_in, riddle, tuple(wide))
        whole = riddle_of(4, *riddle[1], pool[18])
        self.assertEqual(put_in(whole, ()), whole)
        self.assertEqual(put_in(whole, tuple(wide[:19])), whole)
        self.assertEqual(put_in(whole, ((whole[1][0], still),) * 30), whole)
        check_refused(self, TooMany, put_in, whole, (wide[19],))

    def test_no_putting_ahead_of_too_many(self):
        still = (1, 2, 3, 4)
        pool = sorted(clause for clause in CLAUSES[4] if clause != (1,) and 1 in clause)
        whole = riddle_of(4, (1,), *[clause for clause in sorted(CLAUSES[4]) if 1 not in clause][:29])
        self.assertEqual(len(whole[1]), 30)
        new = [(clause, still) for clause in pool if clause not in whole[1]]
        check_refused(self, TooMany, put_in, whole, tuple(new[:3]))
        for wrong in (((), still), ((1,), (1, 2, 3)), ((1,), [1, 2, 3, 4]), ((1,),), None, [], {}, "a", 5):
            check_refused(self, NoPutting, put_in, whole, tuple(new[:3]) + (wrong,))
            check_refused(self, NoPutting, put_in, whole, (wrong,) + tuple(new[:3]))
        check_refused(self, NoPutting, put_in, whole, new[:3])
        check_refused(self, NoPutting, put_in, whole, (tuple(new) * 2)[:31])
        check_refused(self, TooMany, put_in, whole, (tuple(new) * 2)[:30])


class AllPuttings(unittest.TestCase):
    def test_by_hand(self):
        self.assertEqual(all_puttings((0, ())), [])
        self.assertEqual(all_puttings((1, ())), [((-1,), (-1,))])
        self.assertEqual(all_puttings((1, ((1,),))), [((1,), (1,))])
        self.assertEqual(all_puttings((1, ((-1,), (1,)))), [((-1,), (-1,)), ((1,), (-1,))])
        self.assertEqual(all_puttings((2, ((1, 2),))), [((-1, 2), (2, 1)), ((1, 2), (1, 2)), ((2,), (2, 1))])
        self.assertEqual(all_puttings((2, ((1,), (2,)))), [
            ((-1, 2), (1, 2)), ((1,), (1, 2)), ((1, -2), (1, 2)), ((1, 2), (1, 2)), ((2,), (1, 2)),
        ])

    def test_riddles_of_none_to_four_names(self):
        for riddle in RIDDLES:
            if riddle[0] <= 4:
                found = []
                for clause in CLAUSES[riddle[0]]:
                    if len(clause) <= 2:
                        ways = [turning for turning in likenesses_by_words(riddle)
                                if may_put_by_words(riddle, clause, turning)]
                        if ways:
                            found.append((clause, min(ways)))
                told = all_puttings(riddle)
                self.assertEqual(told, sorted(found))
                check_rising(self, told)
                for pair in told:
                    self.assertIs(type(pair), tuple)
                    self.assertTrue(whole_tuple(pair[0]) and whole_tuple(pair[1]))
                    self.assertIs(may_put(riddle, *pair), True)

    def test_told_anew(self):
        for riddle in (RING, ONE_OF_THREE, EXAMPLE, (0, ()), (2, ())):
            check_anew(self, all_puttings, riddle)

    def test_too_many(self):
        for riddle in FIXED_RIDDLES:
            if riddle[0] == 5:
                check_refused(self, TooMany, all_puttings, riddle)
        check_refused(self, TooMany, all_puttings, (6, ((1,),)))


if __name__ == "__main__":
    unittest.main()
