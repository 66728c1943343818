from itertools import permutations, product

from tests import helper
from tests.helper import Case
from tests.test_judge import HAND, price_at
from tests.test_meaning import EMPTY
from tests.test_rows import BAD_MANYS
from witnesslog.errors import BadExchanges, BadMany, BadProblem, NotClosed, TooMany
from witnesslog.likenesses import closed, generators, is_likeness, likenesses
from witnesslog.problems import Problem

NO_PROBLEMS = (None, 0, [], {}, (2, [], EMPTY), "problem", True)
BAD_EXCHANGES = (None, 0, {}, "", "12", {1: (1, 2)}, [(1,)], [(1, 1)], [[1, 2]], [(1, True)], [(True, 2)], [("yes", 2)],
                 [(1, 3)], [(1, 2), None], [(1, 2)] * 401, [(0, 1)])


def all_exchanges(many):
    return sorted(tuple(v * s for v, s in zip(order, signs)) for order in permutations(range(1, many + 1))
                  for signs in product((1, -1), repeat=many))


def led(exchange, l):
    return exchange[l - 1] if l > 0 else -exchange[-l - 1]


def led_at(exchange, at):
    return tuple(helper.worth(l, at) for l in exchange)


def led_row(exchange, row):
    return (tuple(sorted([(w, led(exchange, l)) for w, l in row[0]], key=lambda pair: abs(pair[1]))), row[1])


def likeness(problem, thing):
    if not helper.exchange(problem.many, thing):
        return False
    rows = sorted(led_row(thing, row) for row in problem.rows)
    return rows == sorted(problem.rows) and {(w, led(thing, l)) for w, l in problem.price[0]} == set(problem.price[0])


def after(one, other):
    return tuple(led(other, image) for image in one)


def told_closed(many, exchanges):
    """closed, in plain words: nothing comes any more by one behind another one."""
    found = {tuple(range(1, many + 1))}
    while True:
        more = found | {after(one, other) for one in found for other in exchanges}
        if more == found:
            return sorted(found)
        found = more


def alike_problem(rng, most=4):
    """A problem that has likenesses: what is drawn comes led by each of some exchanges."""
    many = rng.randint(1, most)
    exchanges = [helper.some_exchange(rng, many) for _ in range(rng.randint(0, 2))]
    if rng.random() < 0.5:
        exchanges = [tuple(abs(l) for l in exchange) for exchange in exchanges]
    group = told_closed(many, exchanges)
    rows = []
    for _ in range(rng.randint(0, 2)):
        row = helper.some_row(rng, many, 3)
        row = (row[0], max(0, row[1] - rng.randint(0, 3)))
        led_rows = [led_row(exchange, row) for exchange in group]
        rows += led_rows if rng.random() < 0.3 else sorted(set(led_rows))
    pairs = {}
    for l in helper.some_literals(rng, many):
        if l not in pairs and -l not in pairs:
            orbit = {led(exchange, l) for exchange in group}
            if not any(-k in orbit for k in orbit):
                pairs.update(dict.fromkeys(orbit, rng.randint(1, 3)))
    terms = tuple((pairs[l], l) for l in sorted(pairs, key=abs))
    rng.shuffle(rows)
    return Problem(many, rows if len(rows) <= 400 else [], (terms, rng.randint(-2, 2))), exchanges


class LikenessesTest(Case):
    def test_by_hand(self):
        self.same(likenesses(HAND), [(1, 2), (2, 1)])
        self.same(likenesses(problem=Problem(2, HAND.rows, (((1, 1), (1, 2)), 7))), [(1, 2), (2, 1)])
        self.same(likenesses(Problem(2, HAND.rows, (((1, 1), (2, 2)), 0))), [(1, 2)])
        self.same(likenesses(Problem(2, HAND.rows, (((1, 1),), 0))), [(1, 2)])
        self.same(likenesses(Problem(1, [], EMPTY)), [(-1,), (1,)])
        # How often a row is there counts.
        rows = [(((1, 1),), 1), (((1, 2),), 1)]
        self.same(likenesses(Problem(2, rows, EMPTY)), [(1, 2), (2, 1)])
        self.same(likenesses(Problem(2, rows + rows[:1], EMPTY)), [(1, 2)])
        self.same(likenesses(Problem(2, rows + [((), 0), ((), 0)], EMPTY)), [(1, 2), (2, 1)])

    def test_by_chance(self):
        many = 0
        for _ in range(300):
            problem, _ = alike_problem(self.rng)
            wanted = [one for one in all_exchanges(problem.many) if likeness(problem, one)]
            self.same(likenesses(problem), wanted)
            self.same(closed(problem.many, wanted), wanted)
            many += len(wanted) > 1
            plans = helper.where(problem.many, problem.rows)
            for exchange in all_exchanges(problem.many)[::7] + wanted:
                self.same(is_likeness(problem, exchange), exchange in wanted)
            for exchange in wanted:
                for plan in plans:
                    self.assertTrue(led_at(exchange, plan) in plans)
                    self.same(price_at(problem, led_at(exchange, plan)), price_at(problem, plan))
        self.assertGreater(many, 100)

    def test_any_value(self):
        values = helper.odd_values() + helper.variants((2, 1)) + [(2, 1), (1, 2), (-2, -1), (2, True), (True, 2)]
        for problem in (HAND, Problem(2, [], EMPTY), Problem(2, [], (((1, -1), (1, -2)), 0))):
            self.judges(is_likeness, lambda thing: likeness(problem, thing), values, problem)

    def test_too_many(self):
        self.refuses(TooMany, likenesses, Problem(7, [], EMPTY), most=6)
        self.refuses(TooMany, likenesses, Problem(5, [], EMPTY), most=400)
        self.refuses(TooMany, likenesses, Problem(6, [], EMPTY), most=400)
        self.same(len(likenesses(Problem(4, [], EMPTY))), 384)
        # 720 exchanges of six variables that are alike, and 48 if three of them are something else.
        self.refuses(TooMany, likenesses, Problem(6, [], (tuple((1, v) for v in range(1, 7)), 0)), most=400)
        terms = tuple((1, v) for v in range(1, 5)) + ((2, 5), (3, 6))
        self.same(len(likenesses(Problem(6, [], (terms, 0)))), 24)
        self.same(len(likenesses(Problem(6, [], (terms[:4], 0)))), 24 * 8)

    def test_errors(self):
        for thing in NO_PROBLEMS:
            self.refuses(BadProblem, likenesses, thing)
            self.refuses(BadProblem, is_likeness, thing, (1, 2))


class ClosedTest(Case):
    def test_by_hand(self):
        self.same(closed(2, [(2, -1)]), [(-2, 1), (-1, -2), (1, 2), (2, -1)])
        self.same(closed(many=3, exchanges=()), [(1, 2, 3)])
        self.same(generators(many=2, exchanges=[(2, -1), (1, 2), (-1, -2), (-2, 1)]), [(-2, 1)])
        self.same(generators(2, ((1, 2),)), [])

    def test_by_chance(self):
        sizes = []
        for k in range(250):
            many = self.rng.randint(1, 4)
            exchanges = [helper.some_exchange(self.rng, many) for _ in range(self.rng.randint(0, 3))]
            wanted = told_closed(many, exchanges)
            found = closed(many, exchanges)
            self.same(found, wanted)
            self.same(closed(many, found), found)
            identity = tuple(range(1, many + 1))
            for one in found:
                self.assertTrue(any(after(one, other) == identity for other in found))
            self.check_generators(many, found)
            sizes.append(len(found))
            if sorted(exchanges) != wanted:
                self.refuses(NotClosed, generators, many, exchanges)
        self.same((max(sizes), min(sizes)), (384, 1))

    def check_generators(self, many, found):
        shuffled = self.rng.sample(found, len(found))
        taken = generators(many, shuffled)
        wanted, told = [], told_closed(many, [])
        for exchange in found:
            if exchange not in told:
                wanted.append(exchange)
                told = told_closed(many, wanted)
        self.same(taken, wanted)
        self.same(closed(many, taken), found)
        self.assertLessEqual(2 ** len(taken), len(found))

    def test_too_many(self):
        turn = tuple(range(2, 401)) + (1,)
        self.same(len(closed(400, [turn])), 400)
        self.refuses(TooMany, closed, 401, [tuple(range(2, 402)) + (1,)], most=400)
        self.refuses(TooMany, closed, 400, [turn, (-1,) + tuple(range(2, 401))], most=400)
        self.refuses(TooMany, closed, 6, [(2, 1, 3, 4, 5, 6), (2, 3, 4, 5, 6, 1)], most=400)
        self.same(generators(400, closed(400, [turn])), [closed(400, [turn])[1]])
        self.refuses(NotClosed, generators, 6, [(2, 1, 3, 4, 5, 6), (2, 3, 4, 5, 6, 1)])
        self.refuses(NotClosed, generators, 2, [(1, 2), (1, 2)])
        self.refuses(NotClosed, generators, 2, [])
        self.refuses(NotClosed, generators, 2, [(2, 1)])

    def test_errors(self):
        for call in (closed, generators):
            for many in BAD_MANYS:
                self.refuses(BadMany, call, many, None)
            for thing in BAD_EXCHANGES:
                self.refuses(BadExchanges, call, 2, thing)
