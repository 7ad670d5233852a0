"""What the tests share: riddles to try, things of anything, and the document's
words said a second time, as plainly and as slowly as may be."""

import copy
import functools
import itertools
import random

from twinriddles import errors

EXAMPLE = (3, ((-2, 3), (-1,), (1, -2), (1, 2)))

REFUSALS = (
    errors.NoName,
    errors.NoBit,
    errors.NoTurning,
    errors.NoAnswer,
    errors.NoNumber,
    errors.NoClause,
    errors.NoPutting,
    errors.TooMany,
    errors.NoRiddle,
    errors.BadNote,
)


def odd_things():
    """Things of anything, made anew at each call."""
    return [
        None, True, False, "", "1", "none", "-1 2", "(1, 2)",
        0, 1, -1, 2, -2, 3, 5, 6, -6, 7, 30, 31, 10 ** 29, -(10 ** 29),
        (), [], {}, (0,), (1,), [0], [1], [1, 2], (0, 0), (1, 1), (True,), (False,), (None,), ("1",), ("0", "1"),
        ((),), ((1,),), ([1],), [[1]], ((), ()), (1, 2, 3, 4, 5, 6), [1, 2, 3, 4, 5],
        {1: 2}, {0: 1, 1: 0}, {"names": 1, "clauses": [[1]]}, {(): ()}, {1: [1, {2: (3,)}]},
        [[[[[1]]]]], ((((((),),),),),), [{"a": [{"b": [None]}]}], ({1: 1}, {2: 2}), [(1,), {}], "01", "10",
        (1, ()), (0, ()), [0, ()], (0, []), (0, {}), (2, ((1,), (2,))), tuple(range(1, 397)), list(range(397)),
    ]


def spoilt(thing, junk):
    """This thing, and all that comes of putting junk at one place within it."""
    yield junk
    if isinstance(thing, tuple):
        for at, part in enumerate(thing):
            for other in spoilt(part, junk):
                yield thing[:at] + (other,) + thing[at + 1:]
            yield thing[:at] + thing[at + 1:]
            yield thing[:at] + (junk,) + thing[at:]
        yield thing + (junk,)
        yield list(thing)
        yield dict(enumerate(thing))


def signs_of(names):
    return [sign for sign in range(-names, names + 1) if sign]


def every_clause(names):
    """The set of all clauses of so many names: of each the name, its contrary, or neither."""
    found = set()
    for pick in itertools.product((0, 1, -1), repeat=names):
        clause = tuple(side * name for name, side in enumerate(pick, 1) if side)
        if clause:
            found.add(clause)
    return found


def every_turning(names):
    found = []
    for order in itertools.permutations(range(1, names + 1)):
        for sides in itertools.product((1, -1), repeat=names):
            found.append(tuple(name * side for name, side in zip(order, sides)))
    return sorted(found)


CLAUSES = {names: every_clause(names) for names in range(7)}
TURNINGS = {names: every_turning(names) for names in range(6)}
SETS = {names: set(turnings) for names, turnings in TURNINGS.items()}


def whole_tuple(thing):
    return type(thing) is tuple and all(type(part) is int for part in thing)


def turning_by_words(names, thing):
    return whole_tuple(thing) and thing in SETS[names]


def clause_by_words(names, thing):
    return whole_tuple(thing) and thing in CLAUSES[names]


def answer_by_words(names, thing):
    return whole_tuple(thing) and thing in every_answer(names)


def some_turnings(rng, names, many):
    return [rng.choice(TURNINGS[names]) for _ in range(many)]


def none_of(right, names, one, others):
    """Things of anything that aren't right for so many names: these others, and the one with junk within it."""
    found = odd_things() + others
    for junk in (True, False, None, "1", 0, 2, names + 1, [], [1], {}, (1,)):
        found += spoilt(one, junk)
    return [thing for thing in found if not right(names, thing)]


def no_turnings(names):
    """Things that are no turning of so many names."""
    others = [TURNINGS[other][-1] for other in range(6)]
    return none_of(turning_by_words, names, TURNINGS[names][0], others)


def no_answers(names):
    """Things that are no answer of so many names."""
    others = [(bit,) * other for other in range(7) for bit in (0, 1, 2, -1)]
    return none_of(answer_by_words, names, (1, 0, 0, 1, 0)[:names], others)


def no_clauses(names):
    """Things that are no clause of so many names; () is among them."""
    others = [(names + 1,), (-names - 1,), (1, 1), (1, -1), (2, 1), (-2, 1), (1, 3, 2), (1, 2, 3, 4, 5, 6)]
    return none_of(clause_by_words, names, (1, -2, 3, -4, 5)[:names], others)


def riddle_by_words(thing):
    if type(thing) is not tuple or len(thing) != 2:
        return False
    names, clauses = thing
    if type(names) is not int or names not in (0, 1, 2, 3, 4, 5) or type(clauses) is not tuple:
        return False
    if not all(whole_tuple(clause) and clause in CLAUSES[names] for clause in clauses):
        return False
    return len(clauses) <= 30 and list(clauses) == sorted(set(clauses))


def so_by_words(answer):
    """The set of the signs that are so at an answer."""
    return {name if bit else -name for name, bit in enumerate(answer, 1)}


def every_answer(names):
    return list(itertools.product((0, 1), repeat=names))


def answers_by_words(riddle):
    names, clauses = riddle
    return [answer for answer in every_answer(names)
            if all(so_by_words(answer) & set(clause) for clause in clauses)]


def map_of(turning):
    """Each sign, and where the turning leads it."""
    leads = {}
    for name, sign in enumerate(turning, 1):
        leads[name], leads[-name] = sign, -sign
    return leads


def led_by_words(riddle, turning):
    leads = map_of(turning)
    clauses = [tuple(sorted((leads[sign] for sign in clause), key=lambda sign: (abs(sign), sign)))
               for clause in riddle[1]]
    return (riddle[0], tuple(sorted(clauses)))


def led_answer_by_words(answer, turning):
    leads = map_of(turning)
    so = {leads[sign] for sign in so_by_words(answer)}
    return tuple(1 if name in so else 0 for name in range(1, len(answer) + 1))


@functools.lru_cache(maxsize=None)
def likenesses_by_words(riddle):
    clauses = {frozenset(clause) for clause in riddle[1]}
    found = []
    for turning in TURNINGS[riddle[0]]:
        leads = map_of(turning)
        if all(frozenset(leads[sign] for sign in clause) in clauses for clause in clauses):
            found.append(turning)
    assert all(led_by_words(riddle, turning) == riddle for turning in found)
    return found


def lots_by_words(things, joined):
    """The lots of things, joined a list of dicts, each of a thing and where it is led."""
    return sorted({tuple(sorted({leads[thing] for leads in joined})) for thing in things})


def answer_maps(riddle):
    """For each likeness each answer, and where it is led."""
    return [{answer: led_answer_by_words(answer, turning) for answer in every_answer(riddle[0])}
            for turning in likenesses_by_words(riddle)]


@functools.lru_cache(maxsize=None)
def kinds_by_words(riddle):
    return lots_by_words(answers_by_words(riddle), answer_maps(riddle))


def narrowed_by_words(riddle, name, bit):
    """Each clause as a set of signs, the names above renamed by a table."""
    names, clauses = riddle
    so, gone = (name, -name) if bit == 1 else (-name, name)
    table = {}
    for old in range(1, names + 1):
        if old != name:
            new = old - 1 if old > name else old
            table[old], table[-old] = new, -new
    found = set()
    for clause in clauses:
        if so not in clause:
            found.add(tuple(sorted((table[sign] for sign in set(clause) - {gone}), key=abs)))
    return None if () in found else (names - 1, tuple(sorted(found)))


def against_by_words(riddle, clause):
    return [answer for answer in answers_by_words(riddle) if not so_by_words(answer) & set(clause)]


def may_put_by_words(riddle, clause, turning):
    if not clause_by_words(riddle[0], clause) or not whole_tuple(turning):
        return False
    if turning not in likenesses_by_words(riddle):
        return False
    return all(led_answer_by_words(answer, turning) < answer for answer in against_by_words(riddle, clause))


def follows_by_words(riddle, clause):
    return all(so_by_words(answer) & set(clause) for answer in answers_by_words(riddle))


def crowd_by_words(names, least, most):
    """Of each clause that a crowd may have, by how many names there are and are left, whether it has it."""
    found = set()
    for clause in CLAUSES[names]:
        as_they_are = all(sign > 0 for sign in clause)
        contraries = all(sign < 0 for sign in clause)
        if (as_they_are and names - len(clause) == least - 1) or (contraries and len(clause) == most + 1):
            found.add(clause)
    return (names, tuple(sorted(found)))


def beside_by_words(one, other):
    """Both as one, or None where it is too great."""
    names = one[0] + other[0]
    table = {}
    for name in range(1, other[0] + 1):
        table[name], table[-name] = name + one[0], -name - one[0]
    clauses = list(one[1]) + [tuple(table[sign] for sign in clause) for clause in other[1]]
    return None if names > 5 or len(clauses) > 30 else (names, tuple(sorted(clauses)))


def alike_by_words(one, other):
    if one[0] != other[0]:
        return None
    wanted = {frozenset(clause) for clause in other[1]}
    for turning in TURNINGS[one[0]]:
        leads = map_of(turning)
        if all(frozenset(leads[sign] for sign in clause) in wanted for clause in one[1]):
            if led_by_words(one, turning) == other:
                return turning
    return None


def least_name_by_words(riddle):
    return min(led_by_words(riddle, turning) for turning in TURNINGS[riddle[0]])


def random_riddle(rng, names, many):
    pool = sorted(CLAUSES[names])
    return (names, tuple(sorted(rng.sample(pool, min(many, len(pool), 30)))))


def closed_riddle(rng, names):
    """A riddle with likenesses: a few clauses and all that some turnings make of them."""
    while True:
        turnings = [rng.choice(TURNINGS[names]) for _ in range(rng.randint(1, 2))]
        clauses = set(rng.sample(sorted(CLAUSES[names]), rng.randint(1, 2)))
        known = 0
        while known < len(clauses) <= 30:
            known = len(clauses)
            for turning in turnings:
                clauses |= set(led_by_words((names, tuple(clauses)), turning)[1])
        if len(clauses) <= 30:
            return (names, tuple(sorted(clauses)))


def riddle_of(names, *clauses):
    """A riddle of these clauses, put in order."""
    return (names, tuple(sorted(clauses)))


RING = riddle_of(4, (1, 2), (1, 4), (2, 3), (3, 4))
ONE_OF_THREE = riddle_of(3, (-1, -2), (-1, -3), (-2, -3), (1, 2, 3))

FIXED_RIDDLES = [
    EXAMPLE, RING, ONE_OF_THREE,
    riddle_of(0),
    riddle_of(1), riddle_of(1, (-1,)), riddle_of(1, (1,)), riddle_of(1, (-1,), (1,)),
    riddle_of(2), riddle_of(2, (1, 2)), riddle_of(2, (-1, -2), (1, 2)), riddle_of(2, (-1, 2), (1, -2)),
    riddle_of(2, (1,), (2,)), riddle_of(2, (-1, -2), (-1, 2), (1, -2), (1, 2)),
    riddle_of(3), riddle_of(3, (1, 2, 3)), riddle_of(3, (-3,), (1, 2)), riddle_of(3, (-2, 3), (-1, 2), (1, -3)),
    riddle_of(4), riddle_of(4, (1, 2), (3, 4)), riddle_of(4, (-1, 2), (-2, 3), (-3, 4), (1, -4)),
    riddle_of(5), riddle_of(5, (1, 2, 3, 4, 5)), riddle_of(5, (1, 2), (1, 5), (2, 3), (3, 4), (4, 5)),
    riddle_of(5, *[(-one, -two) for one, two in itertools.combinations(range(1, 6), 2)]),
    riddle_of(5, *[(sign,) for sign in signs_of(5)]),
    riddle_of(5, (-1, 2), (3, 4, 5)), riddle_of(5, (1,), (2,), (3,), (4,), (5,)),
    riddle_of(5, *sorted(CLAUSES[5])[:30]), riddle_of(5, *sorted(CLAUSES[5])[-30:]),
]


def some_riddles(most=5, rounds=3):
    """Riddles of none to so many names and none to thirty clauses."""
    rng = random.Random(20)
    found = [riddle for riddle in FIXED_RIDDLES if riddle[0] <= most]
    for names in range(most + 1):
        for many in (1, 2, 3, 5, 8, 13, 29, 30):
            for _ in range(rounds if names < 5 else 1):
                found.append(random_riddle(rng, names, many))
        for _ in range(rounds * 3 if names else 0):
            found.append(closed_riddle(rng, names))
    return list(dict.fromkeys(found))


def check_refused(case, refusal, call, *things):
    """That a call is refused, by this class and by none of the others, and changes nothing."""
    before = copy.deepcopy(things)
    with case.assertRaises(refusal) as caught:
        call(*things)
    case.assertIs(type(caught.exception), refusal)
    case.assertIsInstance(caught.exception, errors.RiddleError)
    case.assertIsInstance(caught.exception, ValueError)
    for other in REFUSALS:
        if other is not refusal:
            case.assertNotIsInstance(caught.exception, other)
    case.assertEqual(repr(things), repr(before))


def check_told(case, call, things, truth):
    """That True or False itself is told, again too, and what was handed in is as it was."""
    before = repr(things)
    for _ in range(2):
        case.assertIs(call(*things), truth, before)
    case.assertEqual(repr(things), before)


def check_anew(case, call, *things):
    """That a list is told anew each time, whatever becomes of the one told before."""
    first = call(*things)
    second = call(*things)
    case.assertIs(type(first), list)
    case.assertEqual(first, second)
    case.assertIsNot(first, second)
    first.append("spoilt")
    first.reverse()
    case.assertEqual(call(*things), second)


def check_rising(case, things):
    case.assertTrue(all(one < other for one, other in zip(things, things[1:])), things)
