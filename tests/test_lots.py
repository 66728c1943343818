from tests import helper
from tests.helper import Case
from tests.test_judge import HAND, price_at
from tests.test_likenesses import BAD_EXCHANGES, NO_PROBLEMS, alike_problem, led_at, told_closed
from tests.test_meaning import EMPTY
from tests.test_rows import BAD_MANYS
from witnesslog.errors import BadExchange, BadExchanges, BadFilling, BadMany, BadProblem, TooMany
from witnesslog.likenesses import closed
from witnesslog.lots import keeping, kept_plans, lot_of, lots
from witnesslog.problems import Problem


def told_lot(many, exchanges, at):
    return sorted({led_at(exchange, at) for exchange in told_closed(many, exchanges)})


def told_lots(problem, exchanges):
    group = told_closed(problem.many, exchanges)
    plans = helper.where(problem.many, problem.rows)
    return sorted([list(one) for one in {tuple(sorted({led_at(exchange, at) for exchange in group})) for at in plans}])


class LotsTest(Case):
    def test_by_hand(self):
        self.same(lot_of(2, [(2, 1)], (0, 1)), [(0, 1), (1, 0)])
        self.same(lot_of(many=2, exchanges=(), filling=(0, 1)), [(0, 1)])
        self.same(keeping(many=2, exchanges=[(2, 1)], filling=(1, 1)), [(1, 2), (2, 1)])
        self.same(keeping(2, [(2, 1)], (0, 1)), [(1, 2)])
        self.same(lots(problem=HAND, exchanges=[(2, 1)]), [[(0, 1), (1, 0)], [(1, 1)]])
        self.same(lots(HAND, []), [[(0, 1)], [(1, 0)], [(1, 1)]])
        self.same((kept_plans(HAND, (1, 2)), kept_plans(problem=HAND, exchange=(2, 1))), (3, 1))

    def test_by_chance(self):
        several = 0
        for _ in range(250):
            problem, exchanges = alike_problem(self.rng)
            many = problem.many
            group = told_closed(many, exchanges)
            for at in helper.all_fillings(many):
                lot = lot_of(many, exchanges, at)
                self.same(lot, told_lot(many, exchanges, at))
                kept = keeping(many, exchanges, at)
                self.same(kept, [exchange for exchange in group if led_at(exchange, at) == at])
                self.same(len(lot) * len(kept), len(group))
            found = lots(problem, exchanges)
            self.same(found, told_lots(problem, exchanges))
            plans = helper.where(many, problem.rows)
            self.same(sorted(at for lot in found for at in lot), plans)
            self.assertTrue(all(len({price_at(problem, at) for at in lot}) == 1 for lot in found))
            counts = [kept_plans(problem, exchange) for exchange in group]
            self.same(counts, [sum(led_at(exchange, at) == at for at in plans) for exchange in group])
            self.same(sum(counts), len(found) * len(group))
            several += len(plans) > len(found) > 1
        self.assertGreater(several, 50)

    def test_too_many(self):
        # closed has 720 exchanges, but the lots are small; and 479001600, with lots of 924.
        both = [(2, 1, 3, 4, 5, 6), (2, 3, 4, 5, 6, 1)]
        self.same(len(lot_of(6, both, (0, 0, 0, 1, 1, 1))), 20)
        self.refuses(TooMany, keeping, 6, both, (0, 0, 0, 1, 1, 1), most=400)
        self.same(len(lots(Problem(6, [], EMPTY), both)), 7)
        both = [(2, 1) + tuple(range(3, 13)), tuple(range(2, 13)) + (1,)]
        self.same(len(lot_of(12, both, (1,) * 3 + (0,) * 9)), 220)
        self.refuses(TooMany, lot_of, 12, both, (1,) * 6 + (0,) * 6, most=400)
        self.refuses(TooMany, lots, Problem(12, [], EMPTY), both, most=400)
        self.refuses(TooMany, lots, Problem(13, [], EMPTY), [], most=12)
        row = (tuple((1, -v) for v in range(1, 13)), 9)
        self.same(len(lots(Problem(12, [row], EMPTY), both)), 4)
        self.refuses(TooMany, kept_plans, Problem(13, [], EMPTY), tuple(range(1, 14)), most=12)
        turn = tuple(range(2, 401)) + (1,)
        self.same(len(lot_of(400, [turn], (1,) + (0,) * 399)), 400)
        turn = tuple(range(2, 402)) + (1,)
        self.refuses(TooMany, lot_of, 401, [turn], (1,) + (0,) * 400, most=400)
        self.same(lot_of(401, [turn], (1,) * 401), [(1,) * 401])

    def test_errors(self):
        for call in (lot_of, keeping):
            for many in BAD_MANYS:
                self.refuses(BadMany, call, many, None, None)
            for thing in BAD_EXCHANGES:
                self.refuses(BadExchanges, call, 2, thing, None)
            for at in (None, (0,), [0, 0], (0, True), (0, 2), "00"):
                self.refuses(BadFilling, call, 2, [(2, 1)], at)
        for thing in NO_PROBLEMS:
            self.refuses(BadProblem, lots, thing, None)
            self.refuses(BadProblem, kept_plans, thing, None)
        for thing in BAD_EXCHANGES + ([(1, -2)], [(2, 1), (-2, -1)]):
            self.refuses(BadExchanges, lots, HAND, thing)
        self.refuses(BadExchanges, lots, Problem(13, [], (((1, 1),), 0)), [(-1,) + tuple(range(2, 14))])
        for thing in (None, [2, 1], (1, -2), (1,), (1, 1), (True, 2), {}, "12"):
            self.refuses(BadExchange, kept_plans, HAND, thing)

    def test_new_each_time(self):
        exchanges = [(2, 1)]
        for call, more in ((lots, (HAND, exchanges)), (lot_of, (2, exchanges, (0, 1))), (closed, (2, exchanges)),
                           (keeping, (2, exchanges, (0, 0)))):
            found = call(*more)
            before = repr(found)
            found[0] = None
            found.append(1)
            self.same(call(*more), eval(before))
