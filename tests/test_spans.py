"""Spans and stays: [1], [40], [41], [42]."""

import random
import unittest

from samples import (
    EXAMPLE, FIXED_RIDDLES, ONE_OF_THREE, RING, SETS, TURNINGS, answers_by_words, check_anew, check_refused,
    check_rising, every_answer, led_answer_by_words, likenesses_by_words, map_of, no_answers, no_turnings, odd_things,
    some_riddles, some_turnings, whole_tuple,
)
from twinriddles.errors import NoAnswer, NoNumber, NoTurning, TooMany
from twinriddles.spans import few_spanning, lot_of, spanned, stays

RIDDLES = some_riddles(rounds=2)


def span_by_words(names, some):
    """All that comes of these, each led by each again and again till nothing is new."""
    found = {tuple(range(1, names + 1))}
    maps = [map_of(turning) for turning in some]
    known = 0
    while known < len(found):
        known = len(found)
        for turning in list(found):
            for leads in maps:
                found.add(tuple(leads[sign] for sign in turning))
    return sorted(found)


def no_numbers():
    """Things that are no number from 0 to 4."""
    things = odd_things() + [5, 6, 9, -1, -4, 10 ** 29, "4", (4,), [4], {4: 4}]
    return [thing for thing in things if type(thing) is not int or thing not in (0, 1, 2, 3, 4)]


class Spanned(unittest.TestCase):
    def test_by_hand(self):
        for form in (tuple, list):
            self.assertEqual(spanned(0, form([])), [()])
            self.assertEqual(spanned(0, form([(), ()])), [()])
            self.assertEqual(spanned(1, form([])), [(1,)])
            self.assertEqual(spanned(1, form([(-1,)])), [(-1,), (1,)])
            self.assertEqual(spanned(2, form([(2, 1)])), [(1, 2), (2, 1)])
            self.assertEqual(spanned(2, form([(-2, 1)])), [(-2, 1), (-1, -2), (1, 2), (2, -1)])
            self.assertEqual(spanned(3, form([(2, 3, 1)])), [(1, 2, 3), (2, 3, 1), (3, 1, 2)])
            self.assertEqual(spanned(4, form([(2, 3, 4, 1), (2, 1, 3, 4), (-1, 2, 3, 4)])), TURNINGS[4])

    def test_none_to_four_turnings(self):
        rng = random.Random(40)
        sizes = set()
        for names in range(5):
            for many in (0, 1, 1, 1, 2, 2, 2, 3, 4):
                some = some_turnings(rng, names, many)
                told = spanned(names, some)
                self.assertEqual(told, span_by_words(names, some))
                self.assertEqual(told, spanned(names, tuple(some)))
                self.assertTrue(all(whole_tuple(turning) for turning in told))
                check_rising(self, told)
                sizes.add(len(told))
        self.assertGreaterEqual(len(sizes), 6)

    def test_small_spans(self):
        for names in range(4):
            for turning in TURNINGS[names]:
                self.assertEqual(spanned(names, (turning,)), span_by_words(names, [turning]))

    def test_a_turning_twice(self):
        turning = (2, 3, -1, 4)
        self.assertEqual(spanned(4, [turning] * 4), spanned(4, (turning,)))
        self.assertEqual(spanned(4, [(1, 2, 3, 4), turning]), spanned(4, (turning,)))

    def test_what_is_handed_in_stays_as_it_was(self):
        some = [(2, 1, 3, 4), (1, -2, 3, 4)]
        told = spanned(4, some)
        self.assertEqual(some, [(2, 1, 3, 4), (1, -2, 3, 4)])
        some.clear()
        self.assertEqual(told, span_by_words(4, [(2, 1, 3, 4), (1, -2, 3, 4)]))
        whole = spanned(1, [(-1,)])
        self.assertIsNot(spanned(1, whole), whole)

    def test_told_anew(self):
        for some in ([], [(2, 1, 3)], [(2, 1, 3), (-1, 2, 3)]):
            check_anew(self, spanned, 3, some)
            check_anew(self, spanned, 3, tuple(some))
        check_anew(self, spanned, 0, ())

    def test_no_number(self):
        for names in no_numbers():
            for some in ((), [], ((1, 2),), [(1,)], [(), ()]):
                check_refused(self, NoNumber, spanned, names, some)

    def test_five_names_are_too_many_here(self):
        check_refused(self, NoNumber, spanned, 5, [(1, 2, 3, 4, 5)])
        check_refused(self, NoNumber, spanned, True, [(1,)])
        check_refused(self, NoNumber, spanned, False, [()])

    def test_no_turning_at_each_place(self):
        rng = random.Random(41)
        for names in range(5):
            for thing in no_turnings(names):
                for many in range(1, 5):
                    at = rng.randrange(many)
                    for place in {at, many - 1}:
                        some = some_turnings(rng, names, many)
                        some[place] = thing
                        check_refused(self, NoTurning, spanned, names, some)
                        check_refused(self, NoTurning, spanned, names, tuple(some))

    def test_no_number_ahead_of_no_turning(self):
        for names in no_numbers():
            for thing in (None, (), [1], (True,), "1", 5, {}):
                check_refused(self, NoNumber, spanned, names, [thing])
                check_refused(self, NoNumber, spanned, names, ((1, 2), thing))

    def test_somewhat_beyond_the_bounds(self):
        some = [(1, 2, 3, -4), (1, 2, -3, 4), (1, -2, 3, 4), (-1, 2, 3, 4), (2, 1, 3, 4), (1, 2, 4, 3)]
        self.assertEqual(spanned(4, some), span_by_words(4, some))


class FewSpanning(unittest.TestCase):
    def test_by_hand(self):
        self.assertEqual(few_spanning((0, ())), ())
        self.assertEqual(few_spanning(EXAMPLE), ())
        self.assertEqual(few_spanning((1, ((1,),))), ())
        self.assertEqual(few_spanning((1, ())), ((-1,),))
        self.assertEqual(few_spanning((2, ((1, 2),))), ((2, 1),))

    def test_riddles_of_none_to_four_names(self):
        for riddle in RIDDLES:
            if riddle[0] <= 4:
                told = few_spanning(riddle)
                self.assertIs(type(told), tuple)
                self.assertTrue(all(turning in SETS[riddle[0]] and whole_tuple(turning) for turning in told))
                self.assertEqual(span_by_words(riddle[0], told), likenesses_by_words(riddle))
                for at, turning in enumerate(told):
                    self.assertNotIn(turning, span_by_words(riddle[0], told[:at]))
                self.assertEqual(few_spanning(riddle), told)

    def test_too_many(self):
        for riddle in FIXED_RIDDLES:
            if riddle[0] == 5:
                check_refused(self, TooMany, few_spanning, riddle)
        check_refused(self, TooMany, few_spanning, (6, ((1,),)))


class Stays(unittest.TestCase):
    def test_by_hand(self):
        self.assertEqual(stays((0, ()), ()), [()])
        self.assertEqual(lot_of((0, ()), ()), [()])
        self.assertEqual(stays((1, ()), (0,)), [(1,)])
        self.assertEqual(lot_of((1, ()), (1,)), [(0,), (1,)])
        self.assertEqual(stays((2, ((1, 2),)), (1, 1)), [(1, 2), (2, 1)])
        self.assertEqual(stays((2, ((1, 2),)), (1, 0)), [(1, 2)])
        self.assertEqual(lot_of((2, ((1, 2),)), (1, 0)), [(0, 1), (1, 0)])
        self.assertEqual(lot_of((2, ((1, 2),)), (0, 0)), [(0, 0)])
        self.assertEqual(lot_of(RING, (1, 0, 0, 0)), [(0, 0, 0, 1), (0, 0, 1, 0), (0, 1, 0, 0), (1, 0, 0, 0)])

    def test_answers_that_keep_the_riddle_and_such_that_do_not(self):
        kept = unkept = 0
        for riddle in RIDDLES:
            turnings = likenesses_by_words(riddle)
            for answer in every_answer(riddle[0])[::1 if len(turnings) < 50 else 7]:
                still_so = [turning for turning in turnings if led_answer_by_words(answer, turning) == answer]
                lot = sorted({led_answer_by_words(answer, turning) for turning in turnings})
                self.assertEqual(stays(riddle, answer), still_so)
                self.assertEqual(lot_of(riddle, answer), lot)
                self.assertEqual(len(still_so) * len(lot), len(turnings))
                if answer in answers_by_words(riddle):
                    kept += 1
                else:
                    unkept += 1
        self.assertGreater(min(kept, unkept), 100)

    def test_kinds_of_what_is_told(self):
        for riddle in FIXED_RIDDLES:
            for answer in every_answer(riddle[0])[:1]:
                for told in (stays(riddle, answer), lot_of(riddle, answer)):
                    self.assertTrue(all(whole_tuple(part) for part in told))
                    check_rising(self, told)
                check_anew(self, stays, riddle, answer)
                check_anew(self, lot_of, riddle, answer)

    def test_no_answer(self):
        for riddle in (EXAMPLE, ONE_OF_THREE, RING, (0, ()), (1, ()), (1, ((1,),)), (2, ((1, 2),)), (5, ((1, 2),))):
            for thing in no_answers(riddle[0]):
                check_refused(self, NoAnswer, stays, riddle, thing)
                check_refused(self, NoAnswer, lot_of, riddle, thing)

    def test_a_bit_more_or_fewer(self):
        for riddle in FIXED_RIDDLES:
            names = riddle[0]
            for thing in ((0,) * (names + 1), (1,) * (names + 1), (0,) * names + (True,), (0,) * names + (2,)):
                check_refused(self, NoAnswer, stays, riddle, thing)
                check_refused(self, NoAnswer, lot_of, riddle, thing)
            if names:
                for thing in ((0,) * (names - 1), (0,) * (names - 1) + (2,), (0,) * (names - 1) + (False,),
                              (True,) + (0,) * (names - 1), (-1,) + (0,) * (names - 1), [0] * names, "0" * names):
                    check_refused(self, NoAnswer, stays, riddle, thing)
                    check_refused(self, NoAnswer, lot_of, riddle, thing)

    def test_somewhat_beyond_the_bounds(self):
        riddle = (6, ((1,), (2, 3), (4, 5, 6)))
        self.assertEqual(lot_of(riddle, (1, 0, 1, 0, 1, 1)), [
            (1, 0, 1, 0, 1, 1), (1, 0, 1, 1, 0, 1), (1, 0, 1, 1, 1, 0),
            (1, 1, 0, 0, 1, 1), (1, 1, 0, 1, 0, 1), (1, 1, 0, 1, 1, 0),
        ])
        self.assertEqual(stays(riddle, (1, 0, 1, 0, 1, 1)), [(1, 2, 3, 4, 5, 6), (1, 2, 3, 4, 6, 5)])


if __name__ == "__main__":
    unittest.main()
