from itertools import product

from tests import helper
from tests.helper import Case
from tests.test_rows import BAD_MANYS
from witnesslog.derivations import derived
from witnesslog.errors import (BadExchange, BadFilling, BadLiterals, BadMany, BadOrder, BadTerms, BadWitness,
                               NotBySums, TooMany)
from witnesslog.judge import Judge
from witnesslog.orders import (both, by_weights, is_by_sums, is_order, is_sound, led_order, lexicographic, no_later,
                               papers_by_sums, rows_along, rows_at, soundness, strictly_earlier)
from witnesslog.problems import Problem
from witnesslog.witnesses import led_filling

HAND = ((1, 2), ((((2, -1), (1, -2), (2, 3), (1, 4)), 3),))
BAD_ORDERS = (None, 0, "", (), [], {}, ((),), ((), (), ()), [(), ()], ([], ()), ((), []), ((1, 1), ()), ((1, -1), ()),
              ((0,), ()), ((True,), ()), ((3,), ()), ((-3,), ()), (("1",), ()), ((), (((), 0),)), ((), ("",)),
              ((1,), ((((1, 3),), 1),)), ((1,), ((((1, 1),), True),)), ((1,), ([((1, 1),), 1],)), ((1,), (None,)),
              ((1,), ((((1, 2), (1, 1)), 1),)), ((1,), ((((1, 1),), 1),) * 21), (([1],), ()), ((1,), None))


def order(many, thing):
    """Whether thing is an order, as the document says it."""
    if type(thing) is not tuple or len(thing) != 2 or type(thing[0]) is not tuple or type(thing[1]) is not tuple:
        return False
    literals, rows = thing
    if len(literals) > 200 or len(rows) > 20 or not all(helper.literal(many, l) for l in literals):
        return False
    if len({abs(l) for l in literals}) < len(literals) or literals == () != rows:
        return False
    return all(helper.row(2 * len(literals), row) for row in rows)


def worths(thing, at):
    return tuple(helper.worth(l, at) for l in thing[0])


def at_worths(thing, one, other):
    return all(helper.holds(row, one + other) for row in thing[1])


def later_or_same(thing, first, second):
    return at_worths(thing, worths(thing, first), worths(thing, second))


def earlier(thing, first, second):
    return later_or_same(thing, first, second) and not later_or_same(thing, second, first)


def told_soundness(thing):
    """What soundness tells, without papers, by all worths."""
    all_worths = list(product((0, 1), repeat=len(thing[0])))
    for one in all_worths:
        if not at_worths(thing, one, one):
            return ("same", one)
    for one, two, three in product(all_worths, repeat=3):
        if at_worths(thing, one, two) and at_worths(thing, two, three) and not at_worths(thing, one, three):
            return ("along", one, two, three)
    return ("sound",)


def difference(k, row):
    weights = {l: w for w, l in row[0]}
    halves = all(weights.get(-i, 0) == weights.get(k + i, 0) and weights.get(i, 0) == weights.get(-k - i, 0)
                 for i in range(1, k + 1))
    return halves and 2 * row[1] == helper.weights(row)


def some_order(rng, many, count=None, most=2):
    """An order by chance, sometimes a sound one."""
    literals = tuple(helper.some_literals(rng, many, count))
    k = len(literals)
    if k == 0:
        return ((), ())
    rows = []
    for _ in range(rng.randint(0, most)):
        pairs = [(rng.randint(1, 3), i * rng.choice((1, -1))) for i in range(1, k + 1) if rng.random() < 0.8]
        pairs += [(w, (k + abs(l)) * (1 if l < 0 else -1)) for w, l in pairs]
        row = (tuple(pairs), sum(w for w, _ in pairs) // 2)
        rows.append(row if rng.random() < 0.5 else helper.some_row(rng, 2 * k, 2))
        if rng.random() < 0.2:
            rows[-1] = (rows[-1][0], max(0, rows[-1][1] - 1))
    return (literals, tuple(rows))


class OrderTest(Case):
    def test_by_hand(self):
        self.same(is_order(many=2, thing=HAND), True)
        self.same(no_later(2, HAND, (0, 1), (1, 0)), True)
        self.same(no_later(many=2, order=HAND, first=(1, 0), second=(0, 1)), False)
        self.same(strictly_earlier(2, HAND, (0, 1), (1, 0)), True)
        self.same(strictly_earlier(many=2, order=HAND, first=(0, 1), second=(0, 1)), False)
        self.same(rows_at(2, HAND, (2, 1), (1, 2)), [(((1, 1), (1, -2)), 1)])
        self.same(rows_at(many=2, order=HAND, first=("yes", "no"), second=(1, "yes")), [(((2, 1),), 1)])
        self.same(rows_along(2, HAND), ([HAND[1][0]], [(((2, -3), (1, -4), (2, 5), (1, 6)), 3)],
                                        [(((2, -1), (1, -2), (2, 5), (1, 6)), 3)]))
        self.same(rows_along(many=2, order=((), ())), ([], [], []))
        self.same(no_later(1, ((), ()), (1,), (0,)), True)
        self.same(strictly_earlier(1, ((), ()), (1,), (0,)), False)

    def test_any_value(self):
        values = helper.odd_values() + helper.variants(HAND) + list(BAD_ORDERS)
        values += [(tuple(range(1, 201)), ()), (tuple(range(1, 202)), ()), ((1,), ((((1, 1),), 1),) * 20)]
        values += [(tuple(range(1, 201)), ((((1, 400),), 1),)), (tuple(range(1, 201)), ((((1, 401),), 1),))]
        for many in (1, 2, 600):
            self.judges(is_order, lambda thing: order(many, thing), values, many)

    def test_by_all_fillings(self):
        for _ in range(60):
            many = self.rng.randint(1, 4)
            thing = some_order(self.rng, many)
            for first, second in product(helper.all_fillings(many), repeat=2):
                self.same(no_later(many, thing, first, second), later_or_same(thing, first, second))
                self.same(strictly_earlier(many, thing, first, second), earlier(thing, first, second))

    def test_rows_at(self):
        for _ in range(200):
            many = self.rng.randint(1, 3)
            thing = some_order(self.rng, many)
            one, other = helper.some_witness(self.rng, many), helper.some_witness(self.rng, many)
            rows = rows_at(many, thing, one, other)
            self.assertEqual(len(rows), len(thing[1]))
            for at in helper.all_fillings(many):
                first, second = led_filling(many, one, at), led_filling(many, other, at)
                for row, own in zip(rows, thing[1]):
                    self.assertTrue(helper.row(many, row))
                    self.assertEqual(helper.holds(row, at),
                                     helper.holds(own, worths(thing, first) + worths(thing, second)))

    def test_rows_along(self):
        for _ in range(60):
            thing = some_order(self.rng, 2)
            k = len(thing[0])
            found = rows_along(2, thing)
            self.assertEqual([len(rows) for rows in found], [len(thing[1])] * 3)
            for one, two, three in product(list(product((0, 1), repeat=k)), repeat=3):
                for rows, own in zip(found, (one + two, two + three, one + three)):
                    self.assertEqual([helper.holds(row, one + two + three) for row in rows],
                                     [helper.holds(row, own) for row in thing[1]])

    def test_errors(self):
        calls = ((no_later, 2, (0, 1)), (strictly_earlier, 2, (0, 1)), (rows_at, 2, (1, 2)), (rows_along, 0, None),
                 (is_sound, 0, None), (soundness, 0, None), (is_by_sums, 0, None), (papers_by_sums, 0, None))
        for call, count, right in calls:
            for many in BAD_MANYS:
                self.refuses(BadMany, call, many, None, *[None] * count)
            for thing in BAD_ORDERS:
                self.refuses(BadOrder, call, 2, thing, *[None] * count)
            error = BadWitness if call == rows_at else BadFilling
            for wrong in (None, [0, 1], (0, True), (2,), (0, 0, 0), ("yes",), {}) if count else ():
                self.refuses(error, call, 2, HAND, wrong, None)
                self.refuses(error, call, 2, HAND, right, wrong)
        for many in BAD_MANYS:
            self.refuses(BadMany, is_order, many, HAND)

    def test_large(self):
        literals = tuple(range(-200, 0))
        row = (tuple((1, -v) for v in range(1, 201)) + tuple((1, v) for v in range(201, 401)), 200)
        thing = (literals, (row,) * 20)
        self.same(is_order(200, thing), True)
        ones, zeros = (1,) * 200, (0,) * 200
        self.same(no_later(200, thing, ones, zeros), True)
        self.same(no_later(200, thing, zeros, ones), False)
        self.same(is_by_sums(200, thing), True)
        self.same(rows_along(200, thing)[2][19][0][-1], (1, 600))
        judge = Judge(Problem(200, [], ((), 0)))
        judge.step(("order", thing, papers_by_sums(200, thing)))
        self.same(judge.order(), thing)


class SoundTest(Case):
    def check(self, many, thing):
        wanted = told_soundness(thing)
        self.same(is_sound(many, thing), wanted == ("sound",))
        if len(thing[0]) > 2:
            self.refuses(TooMany, soundness, many, thing, most=2)
            return wanted[0]
        found = soundness(many, thing)
        if wanted != ("sound",):
            self.same(found, wanted)
            return wanted[0]
        self.assertEqual((type(found), len(found), found[0]), (tuple, 2, "sound"))
        judge = Judge(Problem(many, [(((1, 1),), 1)], ((), 0)))
        judge.step(("new",)) if many < 200 else None
        judge.step(("order", thing, found[1]))
        self.same(judge.order(), thing)
        self.same(list(found[1]), sorted(found[1]))
        along = rows_along(many, thing)
        for key, derivation in found[1].items():
            named = dict(enumerate(along[0] + along[1]))
            named[-2] = helper.opposite(along[2][key[1]])
            self.assertTrue(helper.impossible(derived(3 * len(thing[0]), named, derivation)))
        return "sound"

    def test_by_hand(self):
        self.same(self.check(2, HAND), "sound")
        self.same(soundness(many=1, order=((), ())), ("sound", {}))
        self.same(soundness(1, ((1,), ((((1, 1),), 1),))), ("same", (0,)))
        self.same(soundness(2, ((1, -2), ((((1, 1),), 1),))), ("same", (0, 0)))
        # No later means here that at most one of two worths differs.
        near = ((1, 2), ((((2, -1), (1, -2), (2, 3), (1, 4)), 2), (((2, 1), (1, 2), (2, -3), (1, -4)), 2)))
        self.same(soundness(2, near), ("along", (0, 0), (0, 1), (1, 0)))
        self.same(is_sound(many=2, order=near), False)

    def test_all_small(self):
        words = []
        rows = [(tuple(pairs), bound) for pairs in product((1, 2), (-1, 1), (1, 2), (-2, 2))
                for pairs in [((pairs[0], pairs[1]), (pairs[2], pairs[3]))] for bound in range(5)]
        for row in rows + [((), 0), ((), 1), (((1, -2),), 1), (((1, 1),), 0)]:
            words.append(self.check(1, ((-1,), (row,))))
        for _ in range(400):
            words.append(self.check(2, some_order(self.rng, 2)))
        for _ in range(60):
            words.append(self.check(4, some_order(self.rng, 4, 3)))
        for _ in range(60):
            thing = some_order(self.rng, 2, 2)
            words.append(self.check(2, (thing[0], tuple((row[0], max(0, row[1] - 1)) for row in thing[1]))))
        for word in ("sound", "same", "along"):
            self.assertGreater(words.count(word), 2)

    def test_limits(self):
        self.same(is_sound(7, lexicographic(7, [1, 2, 3, 4, 5, 6])), True)
        self.refuses(TooMany, is_sound, 7, lexicographic(7, [1, 2, 3, 4, 5, 6, 7]), most=6)
        self.refuses(TooMany, soundness, 7, lexicographic(7, [1, 2, 3]), most=2)

    def test_twenty_rows(self):
        row = (((1, -1), (1, 3)), 1)
        other = (((1, -2), (1, 4)), 1)
        self.check(2, ((1, 2), (row, other) * 10))
        self.check(2, ((1, 2), ()))


class BySumsTest(Case):
    def test_by_hand(self):
        self.same(is_by_sums(2, HAND), True)
        self.same(papers_by_sums(2, HAND), {("along", 0): (("row", 0), ("row", 1), ("sum",), ("row", -2), ("sum",))})
        self.same(papers_by_sums(many=1, order=((), ())), {})
        two = ((1,), ((((1, -1), (1, 2)), 1), (((3, 1), (3, -2)), 3)))
        self.same(papers_by_sums(1, two), {
            ("along", 0): (("row", 0), ("row", 2), ("sum",), ("row", -2), ("sum",)),
            ("along", 1): (("row", 1), ("row", 3), ("sum",), ("row", -2), ("sum",))})
        for row in ((((1, -1), (2, 2)), 1), (((1, -1), (1, 2)), 0), (((1, -1), (1, 2)), 2), (((1, 1), (1, 2)), 1),
                    (((1, -1), (1, -2)), 1), (((2, -1),), 1), (((2, 2),), 1), (((2, -2),), 1)):
            self.same(is_by_sums(many=1, order=((1,), (row,))), False)
            self.refuses(NotBySums, papers_by_sums, 1, ((1,), (row,)))
        self.refuses(NotBySums, papers_by_sums, 1, ((1,), ((((1, -1), (1, 2)), 1), (((1, 2),), 1))))
        self.same(is_by_sums(1, ((1,), (((), 0),))), True)
        self.same(is_by_sums(1, ((1,), (((), 1),))), False)

    def test_judge_takes_them(self):
        done = 0
        for _ in range(400):
            many = self.rng.randint(1, 5)
            thing = some_order(self.rng, many)
            told = all(difference(len(thing[0]), row) for row in thing[1])
            self.same(is_by_sums(many, thing), told)
            if told:
                judge = Judge(Problem(many, [], ((), 0)))
                judge.step(("order", thing, papers_by_sums(many, thing)))
                self.assertEqual(told_soundness(thing) if many < 4 else ("sound",), ("sound",))
                done += len(thing[1])
            else:
                self.refuses(NotBySums, papers_by_sums, many, thing)
        self.assertGreater(done, 40)


class MakersTest(Case):
    def test_lexicographic(self):
        self.same(lexicographic(2, [1, 2]), HAND)
        self.same(lexicographic(many=3, literals=(-3,)), ((-3,), ((((1, -1), (1, 2)), 1),)))
        self.same(lexicographic(2, []), ((), ()))
        for literals in ([1], [-2, 1], [3, -1, 2], []):
            thing = lexicographic(3, literals)
            self.assertTrue(order(3, thing) and is_by_sums(3, thing))
            for first, second in product(helper.all_fillings(3), repeat=2):
                self.assertEqual(later_or_same(thing, first, second), worths(thing, first) <= worths(thing, second))
        thing = lexicographic(200, list(range(1, 61)))
        self.same(thing[1][0][1], 2 ** 60 - 1)
        self.same(thing[1][0][0][0], (2 ** 59, -1))
        self.refuses(TooMany, lexicographic, 200, list(range(1, 62)), most=60)
        self.refuses(TooMany, lexicographic, 200, list(range(1, 201)), most=60)
        self.refuses(BadLiterals, lexicographic, 201, list(range(1, 202)))
        for literals in (None, 0, {}, "", [0], [3], [True], [1, -1], [1, 1], ["1"], [None]):
            self.refuses(BadLiterals, lexicographic, 2, literals)
        for many in BAD_MANYS:
            self.refuses(BadMany, lexicographic, many, None)

    def test_by_weights(self):
        thing = ((1, 2), ((((1, -1), (1, -2), (1, 3), (1, 4)), 2),))
        self.same(by_weights(2, ((1, 1), (1, 2))), thing)
        self.same(by_weights(many=2, terms=()), ((), ()))
        self.same(by_weights(600, ((7, -600),)), ((-600,), ((((7, -1), (7, 2)), 7),)))
        for terms in (((2, 1), (3, -2)), ((1, -1), (1, 2), (2, 3)), ()):
            thing = by_weights(3, terms)
            self.assertTrue(order(3, thing) and is_by_sums(3, thing))
            for first, second in product(helper.all_fillings(3), repeat=2):
                self.assertEqual(later_or_same(thing, first, second),
                                 helper.comes_to(terms, first) <= helper.comes_to(terms, second))
        long = tuple((10 ** 29, v) for v in range(1, 201))
        self.same(by_weights(201, long)[1][0][1], 2 * 10 ** 31)
        self.refuses(BadTerms, by_weights, 201, long + ((1, 201),))
        for terms in (None, [], {}, 0, ((1, 3),), ((0, 1),), ((True, 1),), ((1, True),), ((1, 2), (1, 1)), ((), 0),
                      ([1, 1],), ((1, 1), (1, -1))):
            self.refuses(BadTerms, by_weights, 2, terms)
        for many in BAD_MANYS:
            self.refuses(BadMany, by_weights, many, None)

    def test_both(self):
        self.same(both(2, HAND, ((), ())), HAND)
        self.same(both(many=2, one=((), ()), other=HAND), HAND)
        self.same(both(3, ((1,), ((((1, -1), (1, 2)), 1),)), ((-3, -1), ((((1, 1), (2, -2), (2, 4)), 2),))),
                  ((1, -3), ((((1, -1), (1, 3)), 1), (((2, 1), (1, 2), (2, -3)), 2))))
        for _ in range(120):
            many = self.rng.randint(1, 3)
            one, other = some_order(self.rng, many), some_order(self.rng, many)
            found = both(many, one, other)
            self.assertTrue(order(many, found))
            self.assertEqual(found[0][:len(one[0])], one[0])
            self.assertEqual(len(found[1]), len(one[1]) + len(other[1]))
            for first, second in product(helper.all_fillings(many), repeat=2):
                self.assertEqual(later_or_same(found, first, second),
                                 later_or_same(one, first, second) and later_or_same(other, first, second))
                own = worths(found, first) + worths(found, second)
                self.assertEqual([helper.holds(row, own) for row in found[1]],
                                 [helper.holds(row, worths(part, first) + worths(part, second))
                                  for part in (one, other) for row in part[1]])

    def test_both_limits(self):
        row = (((1, -1), (1, 2)), 1)
        low, high = (tuple(range(1, 151)), ()), (tuple(range(151, 301)), ())
        self.refuses(TooMany, both, 600, low, high, most=200)
        self.same(both(600, low, low), low)
        self.same(len(both(600, low, (tuple(range(150, 201)), ()))[0]), 200)
        self.refuses(TooMany, both, 600, low, (tuple(range(150, 202)), ()), most=200)
        one, other = ((1,), (row,) * 10), ((2,), (row,) * 11)
        self.refuses(TooMany, both, 2, one, other, most=20)
        self.same(len(both(2, one, one)[1]), 20)
        long = ((((1, -1), (1, 151)), 1),)
        self.refuses(TooMany, both, 600, (low[0], long * 15), (high[0], long * 15), most=200)
        for thing in BAD_ORDERS:
            self.refuses(BadOrder, both, 2, thing, HAND)
            self.refuses(BadOrder, both, 2, HAND, thing)
            self.refuses(BadOrder, led_order, 2, thing, None)
        for many in BAD_MANYS:
            self.refuses(BadMany, both, many, None, None)
            self.refuses(BadMany, led_order, many, None, None)

    def test_led_order(self):
        self.same(led_order(2, HAND, (-2, 1)), ((-2, 1), HAND[1]))
        self.same(led_order(many=2, order=((-2,), ()), exchange=(2, 1)), ((-1,), ()))
        for _ in range(80):
            many = self.rng.randint(1, 4)
            thing, exchange = some_order(self.rng, many), helper.some_exchange(self.rng, many)
            found = led_order(many, thing, exchange)
            self.assertEqual(found[1], thing[1])
            for first, second in product(helper.all_fillings(many), repeat=2):
                self.assertEqual(later_or_same(found, first, second), later_or_same(
                    thing, led_filling(many, exchange, first), led_filling(many, exchange, second)))
        for exchange in (None, (1,), (1, 1), (1, -1), ("yes", 1), [1, 2], (1, True), (0, 1), (1, 3)):
            self.refuses(BadExchange, led_order, 2, HAND, exchange)
