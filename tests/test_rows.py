from itertools import product

from tests import helper
from tests.helper import Case
from witnesslog.errors import BadBound, BadFilling, BadMany, BadRow, BadSum
from witnesslog.rows import covers, holds, is_impossible, is_literal, is_row, normal, opposite, total

BAD_MANYS = (0, -1, 601, True, False, None, "3", 3.0, [3], (3,), {})
ROW = (((2, 1), (3, -2)), 4)
BAD_ROWS = (None, 0, (), ROW[0], list(ROW), (list(ROW[0]), 4), (ROW[0], -1), (ROW[0], True), (ROW[0], None),
            (((0, 1),), 0), (((True, 1),), 0), (((1, True),), 0), (((1, 0),), 0), (((1, 1), (1, -1)), 0),
            (((1, 2), (1, 1)), 0), (((1, 3),), 0), (([1, 1],), 0), (((1, 1, 1),), 0), ROW + (0,))


def small_rows(many, weights=(1, 2, 3)):
    """All rows over many variables with such weights, and bounds up to one above their sum and 2 more."""
    found = []
    for weighed in product([0] + [w * s for w in weights for s in (1, -1)], repeat=many):
        pairs = tuple((abs(w), (v + 1) * (1 if w > 0 else -1)) for v, w in enumerate(weighed) if w)
        found.extend((pairs, bound) for bound in range(helper.weights((pairs, 0)) + 4))
    return found


class LiteralTest(Case):
    def test_of_any_value(self):
        for many in (1, 2, 3, 600):
            self.judges(is_literal, lambda thing: helper.literal(many, thing), helper.odd_values(), many)
        self.judges(is_literal, lambda thing: thing != 0, range(-3, 4), 3)

    def test_edges(self):
        self.same([is_literal(600, l) for l in (-601, -600, 600, 601)], [False, True, True, False])

    def test_bad_many(self):
        for many in BAD_MANYS:
            self.refuses(BadMany, is_literal, many, None)
        self.same(is_literal(many=1, thing=1), True)
        self.same(is_literal(many=600, thing=1), True)


class RowTest(Case):
    def test_of_any_value(self):
        for many in (1, 2, 600):
            self.judges(is_row, lambda thing: helper.row(many, thing), helper.odd_values(), many)

    def test_variants(self):
        for thing in [ROW, ((), 0), (((1, 1),), 1), (((1, 1), (1, 2)), 1)]:
            self.same(is_row(2, thing), True)
            self.judges(is_row, lambda other: helper.row(2, other), helper.variants(thing), 2)

    def test_bad(self):
        for thing in BAD_ROWS:
            self.same(is_row(2, thing), False, thing)
        for many in BAD_MANYS:
            self.refuses(BadMany, is_row, many, ROW)
        self.same(is_row(many=2, thing=ROW), True)

    def test_wide(self):
        row = (tuple((10 ** 30 - 1, v) for v in range(1, 601)), 10 ** 30 - 1)
        self.same(is_row(600, row), True)
        self.same(is_row(599, row), False)
        self.same(total(600, row), 600 * (10 ** 30 - 1))


class SumsTest(Case):
    def test_total_holds_impossible(self):
        for row in small_rows(2):
            self.same(total(2, row), helper.weights(row))
            self.same(is_impossible(2, row), helper.impossible(row))
            for filling in helper.all_fillings(2):
                self.same(holds(2, row, filling), helper.holds(row, filling))

    def test_edges(self):
        self.same(holds(1, ((), 0), (0,)), True)
        self.same(holds(1, ((), 1), (1,)), False)
        self.same([is_impossible(2, (ROW[0], bound)) for bound in (4, 5, 6)], [False, False, True])
        self.same([holds(2, (ROW[0], 5), filling) for filling in helper.all_fillings(2)], [False, False, True, False])

    def test_named_parameters(self):
        self.same(total(many=2, row=ROW), 5)
        self.same(holds(many=2, row=ROW, filling=(1, 0)), True)
        self.same(is_impossible(many=2, row=ROW), False)
        self.same(opposite(many=2, row=ROW), (((2, -1), (3, 2)), 2))
        self.same(covers(many=2, one=ROW, other=ROW), True)
        self.same(normal(many=2, sums=[(1, 1)], bound=1), (((1, 1),), 1))

    def test_errors(self):
        for call in (total, is_impossible, opposite):
            self.refuses(BadMany, call, 0, None)
            for row in BAD_ROWS:
                self.refuses(BadRow, call, 2, row)
        self.refuses(BadMany, holds, True, None, None)
        self.refuses(BadRow, holds, 2, None, None)
        for filling in (None, [0, 1], (0, True), (0,), (0, 1, 0), (0, 2), (0, -1), (0, "1"), {}):
            self.refuses(BadFilling, holds, 2, ROW, filling)
        self.refuses(BadMany, covers, 601, None, None)
        self.refuses(BadRow, covers, 2, None, None)
        for row in BAD_ROWS:
            self.refuses(BadRow, covers, 2, row, ROW)
            self.refuses(BadRow, covers, 2, ROW, row)


class OppositeTest(Case):
    def test_facts(self):
        for row in small_rows(2) + [((), 0), ((), 1), ((), 2)]:
            other = opposite(2, row)
            self.same(other, helper.opposite(row))
            for filling in helper.all_fillings(2):
                self.assertNotEqual(holds(2, row, filling), holds(2, other, filling))
            by_more = row[1] > helper.weights(row) + 1
            self.assertEqual(opposite(2, other) != row, by_more)

    def test_by_hand(self):
        self.same(opposite(2, ROW), (((2, -1), (3, 2)), 2))
        self.same(opposite(2, ((), 0)), ((), 1))
        self.same(opposite(2, ((), 5)), ((), 0))


class NormalTest(Case):
    def test_by_hand(self):
        self.same(normal(2, [(2, -1), (1, 1), (3, 2)], 1), (((1, -1), (3, 2)), 0))

    def test_fact(self):
        for _ in range(3000):
            many = self.rng.randint(1, 4)
            sums = [(self.rng.randint(-5, 5), self.rng.choice((1, -1)) * self.rng.randint(1, many))
                    for _ in range(self.rng.randint(0, 7))]
            bound = self.rng.randint(-9, 12)
            row = normal(many, sums, bound)
            self.same(row, helper.normal(many, sums, bound))
            self.same(normal(many, tuple(sums), bound), row)
            self.assertTrue(helper.row(many, row))
            for filling in helper.all_fillings(many):
                least = sum(k * helper.worth(l, filling) for k, l in sums) >= bound
                self.same(holds(many, row, filling), least)

    def test_edges(self):
        self.same(normal(2, [], 0), ((), 0))
        self.same(normal(2, [], -3), ((), 0))
        self.same(normal(2, [], 3), ((), 3))
        self.same(normal(2, [(0, 1), (0, -2)], 2), ((), 2))
        self.same(normal(2, [(4, 1), (4, -1)], 6), ((), 2))
        self.same(normal(2, [(-4, 2)], 0), (((4, -2),), 4))
        self.same(normal(2, [(-4, -2)], 0), (((4, 2),), 4))
        self.same(normal(1, [(1, 1)] * 2000, 7), (((2000, 1),), 7))

    def test_errors(self):
        good = (1, 1)
        for sums in (None, 0, "", {}, {good: 1}, [[1, 1]], [(1,)], [(1, 1, 1)], [(1, 0)], [(1, 3)], [(1, True)],
                     [(True, 1)], [(None, 1)], [("1", 1)], [good, None], [good] * 2001, (good, 1), [(1, -3)]):
            self.refuses(BadSum, normal, 2, sums, None)
        for bound in (None, True, False, "1", [1], (1,), 1.0):
            self.refuses(BadBound, normal, 2, [good], bound)
        for many in BAD_MANYS:
            self.refuses(BadMany, normal, many, None, None)

    def test_passed_stays(self):
        sums = [(1, 1), (2, -1)]
        row = normal(1, sums, 1)
        sums.append((1, 1))
        self.same(sums, [(1, 1), (2, -1), (1, 1)])
        self.same(row, (((1, -1),), 0))


class CoversTest(Case):
    def test_fact(self):
        rows = small_rows(2, (1, 3)) + [((), 0), ((), 1)]
        for one, other in product(rows, repeat=2):
            over = all(helper.comes_to(other[0], filling) - other[1] >= helper.comes_to(one[0], filling) - one[1]
                       for filling in helper.all_fillings(2))
            self.same(covers(2, one, other), over, (one, other))

    def test_by_chance(self):
        for _ in range(2000):
            one, other = (helper.some_row(self.rng, 4) for _ in range(2))
            over = all(helper.comes_to(other[0], filling) - other[1] >= helper.comes_to(one[0], filling) - one[1]
                       for filling in helper.all_fillings(4))
            self.same(covers(4, one, other), over, (one, other))

    def test_by_hand(self):
        self.same(covers(2, (((1, 1),), 1), (((1, 1), (1, 2)), 1)), True)
        self.same(covers(2, (((1, 1), (1, 2)), 1), (((1, 1),), 1)), False)
        self.same(covers(2, (((1, 1), (1, 2)), 2), (((1, 1),), 1)), True)
        self.same(covers(2, ((), 0), (((1, 1),), 0)), True)
