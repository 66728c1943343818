from tests import helper
from tests.helper import Case
from tests.test_judge import kept, price_at
from tests.test_learning import loose_rows
from tests.test_rows import BAD_MANYS
from witnesslog.dominance import (chain_rows, exchange_of, exchanged, is_plainly_preferred, is_preferred, lots_alike,
                                  plain_steps, plan_lots, preference_rows, preference_steps, ranked)
from witnesslog.errors import BadLiteral, BadLiterals, BadMany, BadOther, BadPlan, BadProblem, TooMany
from witnesslog.judge import Judge, judged
from witnesslog.orders import by_weights, papers_by_sums
from witnesslog.problems import Problem
from witnesslog.witnesses import led_filling, turned

HAND = Problem(2, [(((1, 1), (1, 2)), 1)], (((1, 1), (3, 2)), 0))
NO_PROBLEMS = (None, 0, [], {}, "problem", (2, [], ((), 0)))
BAD_LITERALS = (None, 0, {}, "", [0], [3], [True], [1, -1], [1, 1], ["1"], [None], (1, 3))


def swap(many, one, other):
    found = list(range(1, many + 1))
    found[abs(one) - 1] = other if one > 0 else -other
    found[abs(other) - 1] = one if other > 0 else -one
    return tuple(found)


def preferred(problem, one, other):
    """As the document says it, by all plans."""
    if one == other:
        return True
    found = helper.where(problem.many, problem.rows)
    for at in found:
        if (helper.worth(one, at), helper.worth(other, at)) == (0, 1):
            led = led_filling(problem.many, swap(problem.many, one, other), at)
            if led not in found or price_at(problem, led) > price_at(problem, at):
                return False
    return True


def net(terms, l):
    return sum(w for w, one in terms if one == l) - sum(w for w, one in terms if one == -l)


def plainly(problem, one, other):
    if any(net(terms, one) < net(terms, other) for terms, _ in problem.rows):
        return False
    return net(problem.price[0], one) <= net(problem.price[0], other)


def row_of(many, one, other):
    return helper.normal(many, [(1, one), (1, -other)], 1)


def alike_problem(rng, most=5, great=1):
    """A problem in which many literals are preferred to others: rows of equal or falling weights."""
    many = rng.randint(1, most)
    rows = []
    for _ in range(rng.randint(0, 3)):
        if rng.random() < 0.4:
            rows += loose_rows(rng, many, 1)
            continue
        signs = rng.choice((1, 1, -1))
        weights = sorted([rng.randint(1, 3) * great for _ in range(many)], reverse=signs > 0)
        if rng.random() < 0.5:
            weights = [great] * many
        pairs = tuple((w, signs * (v + 1)) for v, w in enumerate(weights))
        rows.append((pairs, rng.randint(0, sum(weights) // great) * great))
    pairs = tuple((w, v + 1) for v, w in enumerate(sorted(rng.randint(1, 3) * great for _ in range(many))))
    return Problem(many, rows, (rng.choice((pairs, (), ((2, 1),))), rng.randint(-2, 2)))


def drawn(rng, count, most=5):
    """Problems with literals of unlike variables, in any sequence."""
    for k in range(count):
        problem = alike_problem(rng, most, rng.choice((1, 1, 10 ** 20 + 7)))
        literals = [l if rng.random() < 0.7 else -l for l in range(1, problem.many + 1)]
        if k % 3:
            rng.shuffle(literals)
        yield problem, literals[:rng.randint(0, 3 * problem.many)]


class PreferredTest(Case):
    def test_by_hand(self):
        self.same(exchange_of(2, 1, 2), (2, 1))
        self.same(exchange_of(many=3, one=-1, other=3), (-3, 2, -1))
        self.same(is_plainly_preferred(HAND, 1, 2), True)
        self.same((is_preferred(HAND, 1, 2), is_preferred(HAND, 2, 1)), (True, False))
        self.same(is_preferred(problem=HAND, one=2, other=2), True)
        self.same(is_plainly_preferred(problem=HAND, one=-1, other=-1), True)
        # Preferred, but not plainly.
        problem = Problem(2, [(((2, 1), (1, 2)), 1), (((1, 1), (2, 2)), 1)], ((), 0))
        self.same((is_preferred(problem, 1, 2), is_plainly_preferred(problem, 1, 2)), (True, False))

    def test_exchange_of(self):
        for many in (2, 3, 4):
            for one in range(-many, many + 1):
                for other in range(-many, many + 1):
                    if one and other and abs(one) != abs(other):
                        found = exchange_of(many, one, other)
                        self.same(found, swap(many, one, other))
                        self.assertTrue(helper.exchange(many, found))
                        self.same(turned(many, found), found)

    def test_facts(self):
        preferreds, plains = 0, 0
        for problem, _ in drawn(self.rng, 120, 4):
            literals = [l for l in range(-problem.many, problem.many + 1) if l]
            told = {(one, other): preferred(problem, one, other) for one in literals for other in literals
                    if one != -other}
            for (one, other), wanted in told.items():
                self.same(is_preferred(problem, one, other), wanted)
                plain = is_plainly_preferred(problem, one, other)
                self.same(plain, plainly(problem, one, other))
                self.assertTrue(wanted or not plain)
                self.same(is_preferred(problem, -other, -one), wanted)
                self.same(is_plainly_preferred(problem, -other, -one), plain)
                preferreds += wanted and not plain
                plains += plain and one != other
                for third in literals:
                    if abs(third) not in (abs(one), abs(other)) and one != other and wanted and told[other, third]:
                        self.assertTrue(told[one, third])
        self.assertGreater(min(preferreds, plains), 100)

    def test_errors(self):
        for many in BAD_MANYS:
            self.refuses(BadMany, exchange_of, many, None, None)
        for l in (None, 0, 3, -3, True, "1", [1]):
            self.refuses(BadLiteral, exchange_of, 2, l, None)
            self.refuses(BadOther, exchange_of, 2, 1, l)
            for call in (is_preferred, is_plainly_preferred):
                self.refuses(BadLiteral, call, HAND, l, None)
                self.refuses(BadOther, call, HAND, 1, l)
        self.refuses(BadOther, exchange_of, 2, 1, 1)
        self.refuses(BadOther, exchange_of, 2, 1, -1)
        large = Problem(13, [], ((), 0))
        for call in (is_preferred, is_plainly_preferred):
            self.refuses(BadOther, call, HAND, 1, -1)
            for problem in NO_PROBLEMS:
                self.refuses(BadProblem, call, problem, None, None)
            self.refuses(BadOther, call, large, 1, -1)
        self.refuses(TooMany, is_preferred, large, 1, 2, most=12)
        self.same(is_plainly_preferred(large, 1, 2), True)
        self.same(is_preferred(Problem(12, [], ((), 0)), 1, 2), True)


class PlansTest(Case):
    def pairs(self, problem, literals):
        count = range(len(literals))
        return [(i, j) for i in count for j in count if i < j and preferred(problem, literals[i], literals[j])]

    def test_by_hand(self):
        self.same(preference_rows(HAND, [1, 2]), [(((1, 1), (1, -2)), 1)])
        self.same(preference_rows(problem=HAND, literals=(2, 1)), [])
        self.same(exchanged(HAND, [1, 2], (0, 1)), ([(0, 1)], (1, 0)))
        self.same(exchanged(problem=HAND, literals=[2, 1], plan=(0, 1)), ([], (0, 1)))
        self.same(ranked(problem=HAND, literals=[2, 1]), [1, 2])
        three = Problem(3, [(((1, 1), (1, 2), (1, 3)), 1)], (((1, 3),), 0))
        self.same(lots_alike(three, [3, 1, 2]), [(3,), (1, 2)])
        self.same(chain_rows(problem=three, literals=[3, 2, 1]), [(((1, -1), (1, 2)), 1)])
        self.same(lots_alike(problem=Problem(2, [], ((), 0)), literals=[]), [])
        self.same(plan_lots(problem=three, literals=[1, 2]), [
            [(0, 0, 1)], [(0, 1, 0), (1, 0, 0)], [(0, 1, 1), (1, 0, 1)], [(1, 1, 0)], [(1, 1, 1)]])
        self.same(plan_lots(Problem(1, [((), 1)], ((), 0)), [1]), [])

    def test_preference_rows(self):
        count = 0
        for problem, literals in drawn(self.rng, 200):
            rows = preference_rows(problem, literals)
            pairs = self.pairs(problem, literals)
            self.same(rows, [row_of(problem.many, literals[i], literals[j]) for i, j in pairs])
            self.same(preference_rows(problem, tuple(literals)), rows)
            found = helper.where(problem.many, problem.rows)
            first = helper.where(problem.many, list(problem.rows) + rows)
            if found:
                self.assertEqual(min(price_at(problem, at) for at in found), min(price_at(problem, at) for at in first))
            for plan in found:
                self.check_exchanged(problem, literals, plan, rows, pairs)
            count += len(rows)
        self.assertGreater(count, 200)

    def check_exchanged(self, problem, literals, plan, rows, pairs):
        told, last = exchanged(problem, literals, plan)
        self.assertTrue(all(helper.holds(row, last) for row in rows))
        self.assertEqual([i for i, _ in told], sorted({i for i, _ in told}))
        at, price = plan, price_at(problem, plan)
        for pair in told:
            wrong = [(i, j) for i, j in pairs if helper.worth(literals[i], at) < helper.worth(literals[j], at)]
            self.same(pair, wrong[0])
            at = led_filling(problem.many, swap(problem.many, literals[pair[0]], literals[pair[1]]), at)
            self.assertTrue(all(helper.holds(row, at) for row in problem.rows))
            self.assertLessEqual(price_at(problem, at), price)
            price = price_at(problem, at)
        self.same(at, last)

    def test_ranked_and_lots(self):
        sizes = []
        for problem, literals in drawn(self.rng, 200):
            left, wanted = list(literals), []
            while left:
                first = [l for l in left if all(preferred(problem, l, other) or not preferred(problem, other, l)
                                                for other in left)][0]
                wanted.append(first)
                left.remove(first)
            self.same(ranked(problem, literals), wanted)
            lots = []
            for l in literals:
                own = [lot for lot in lots if preferred(problem, l, lot[0]) and preferred(problem, lot[0], l)]
                if own:
                    own[0].append(l)
                else:
                    lots.append([l])
            self.same(lots_alike(problem, literals), [tuple(lot) for lot in lots])
            chains = [row_of(problem.many, one, other) for lot in lots for one, other in zip(lot, lot[1:])]
            self.same(chain_rows(problem, literals), chains)
            self.check_plan_lots(problem, literals, lots, chains)
            sizes.extend(len(lot) for lot in lots)
        self.assertGreater(len([size for size in sizes if size > 1]), 50)

    def check_plan_lots(self, problem, literals, lots, chains):
        def likeness(at):
            others = [at[v] for v in range(problem.many) if v + 1 not in [abs(l) for l in literals]]
            return [sum(helper.worth(l, at) for l in lot) for lot in lots] + others

        found = helper.where(problem.many, problem.rows)
        told = plan_lots(problem, literals)
        self.same(told, sorted(told))
        self.same(sorted(at for lot in told for at in lot), found)
        for lot in told:
            self.same(lot, [at for at in helper.all_fillings(problem.many) if likeness(at) == likeness(lot[0])])
            self.assertEqual(len({price_at(problem, at) for at in lot}), 1)
            self.assertEqual(len([at for at in lot if all(helper.holds(row, at) for row in chains)]), 1)

    def test_errors(self):
        large = Problem(13, [(((1, 1),), 1)], ((), 0))
        for call in (preference_rows, ranked, lots_alike, chain_rows, plan_lots):
            for problem in NO_PROBLEMS:
                self.refuses(BadProblem, call, problem, None)
            for literals in BAD_LITERALS:
                self.refuses(BadLiterals, call, HAND, literals)
            self.refuses(BadLiterals, call, large, [0])
            self.refuses(TooMany, call, large, [], most=12)
            self.same(type(call(Problem(12, [((), 1)], ((), 0)), [1, -2])), list)
        for problem in NO_PROBLEMS:
            self.refuses(BadProblem, exchanged, problem, None, None)
        for literals in BAD_LITERALS:
            self.refuses(BadLiterals, exchanged, HAND, literals, None)
        for plan in (None, (0, 0), [1, 0], (True, 0), (1,), (1, 0, 0), (2, 0)):
            self.refuses(BadPlan, exchanged, HAND, [1], plan)
        self.refuses(BadPlan, exchanged, large, [1], (0,) * 13)
        self.refuses(TooMany, exchanged, large, [1], (1,) * 13, most=12)


class LogsTest(Case):
    def begin(self, problem, literals):
        k = len(literals)
        pairs = sorted([(k - i, -l) for i, l in enumerate(literals)], key=lambda pair: abs(pair[1]))
        thing = by_weights(problem.many, tuple(pairs))
        return ("order", thing, papers_by_sums(problem.many, thing))

    def plain_log(self, problem, literals):
        """plain_steps, as the document tells them."""
        steps = [self.begin(problem, literals)]
        for i, one in enumerate(literals):
            for j in range(i + 1, len(literals)):
                if plainly(problem, one, literals[j]):
                    steps.append(self.plain_step(problem, literals, i, j))
        return steps

    def plain_step(self, problem, literals, i, j):
        papers = {}
        for k, (terms, _) in enumerate(problem.rows):
            d = net(terms, literals[i]) - net(terms, literals[j])
            if d > 0:
                papers["row", k + 1] = (("row", k + 1), ("row", -1), ("times", d), ("sum",), ("row", -2), ("sum",))
        d = net(problem.price[0], literals[i]) - net(problem.price[0], literals[j])
        if d < 0:
            papers["price",] = (("row", -1), ("times", -d), ("row", -2), ("sum",))
        papers["order", 0] = (("row", -1), ("times", j - i), ("row", -2), ("sum",))
        papers["strict",] = (("row", -1), ("times", j - i), ("row", -3), ("sum",))
        return ("dominate", row_of(problem.many, literals[i], literals[j]),
                swap(problem.many, literals[i], literals[j]), dict(sorted(papers.items())))

    def test_by_hand(self):
        order = ("order", ((-1, -2), ((((2, -1), (1, -2), (2, 3), (1, 4)), 3),)),
                 {("along", 0): (("row", 0), ("row", 1), ("sum",), ("row", -2), ("sum",))})
        self.same(plain_steps(HAND, [1, 2]), [order, (
            "dominate", (((1, 1), (1, -2)), 1), (2, 1),
            {("order", 0): (("row", -1), ("times", 1), ("row", -2), ("sum",)),
             ("price",): (("row", -1), ("times", 2), ("row", -2), ("sum",)),
             ("strict",): (("row", -1), ("times", 1), ("row", -3), ("sum",))})])
        self.same(plain_steps(problem=HAND, literals=[]), [("order", ((), ()), {})])
        self.same(preference_steps(problem=HAND, literals=[]), [("order", ((), ()), {})])
        self.same(preference_steps(HAND, (1, 2))[0], order)

    def test_plain_steps(self):
        count = 0
        for problem, literals in drawn(self.rng, 250):
            found = plain_steps(problem, literals)
            self.same(found, self.plain_log(problem, literals))
            judge = Judge(problem)
            for step in found:
                judge.step(step)
                self.assertTrue(problem.many > 4 or kept(judge))
            count += len(found) - 1
        self.assertGreater(count, 150)

    def test_plain_steps_of_many(self):
        many = 40
        great = 10 ** 29
        rows = [(tuple((great - v, v) for v in range(1, many + 1)), 20 * great),
                (tuple((v, -v) for v in range(1, many + 1)), 5)]
        problem = Problem(many, rows, (tuple((great + v, v) for v in range(1, many + 1)), 0))
        literals = list(range(1, many + 1))
        found = plain_steps(problem, literals)
        self.same(found, self.plain_log(problem, literals))
        judged(problem, found[:200])
        self.same(len(found), 1 + many * (many - 1) // 2)

    def test_preference_steps(self):
        count, beyond = 0, 0
        for k, (problem, literals) in enumerate(drawn(self.rng, 250)):
            rows = preference_rows(problem, literals)
            found = preference_steps(problem, literals)
            self.same(found[0], self.begin(problem, literals))
            self.same([step[:2] for step in found[1:]], [("dominate", row) for row in rows])
            judge = Judge(problem)
            for step in found:
                judge.step(step)
                self.assertTrue(problem.many > 3 or kept(judge))
            for step in found[1:]:
                self.same(list(step[3]), sorted(step[3]))
                self.assertTrue(helper.exchange(problem.many, step[2]))
            count += len(rows)
            beyond += len(found) - len(plain_steps(problem, literals))
        self.assertGreater(min(count, beyond), 50)

    def test_preference_steps_of_eight(self):
        for k in range(4):
            great = 10 ** 20 + 3 if k % 2 else 1
            rows = [(tuple((self.rng.randint(1, 3) * great + k, v) for v in range(1, 9)), 9 * great) for _ in range(3)]
            problem = Problem(8, rows, (tuple((self.rng.randint(1, 3), v) for v in range(1, 9)), 0))
            literals = self.rng.sample(range(1, 9), 8)
            found = preference_steps(problem, literals)
            self.same([step[1] for step in found[1:]], preference_rows(problem, literals))
            judged(problem, found)

    def test_errors(self):
        large = Problem(9, [], ((), 0))
        for call in (plain_steps, preference_steps):
            for problem in NO_PROBLEMS:
                self.refuses(BadProblem, call, problem, None)
            for literals in BAD_LITERALS:
                self.refuses(BadLiterals, call, HAND, literals)
            self.refuses(BadLiterals, call, large, [0])
        self.refuses(TooMany, preference_steps, large, [], most=8)
        self.same(len(plain_steps(large, [1, 2])), 2)
        self.same(len(preference_steps(Problem(8, [], ((), 0)), [1, 2])), 2)
