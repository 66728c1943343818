from itertools import product

from tests import helper
from tests.helper import Case
from tests.test_proving import BAD_LISTS, BAD_LITERALS
from tests.test_rows import BAD_MANYS, BAD_ROWS, ROW, small_rows
from witnesslog.errors import BadLiterals, BadMany, BadPicks, BadRow, BadRows
from witnesslog.following import followed, followed_by, forced, known_by_following, refuted_by_following, slack
from witnesslog.rows import covers

HAND = [(((2, 1), (1, 2), (1, 3)), 3), (((1, -2), (1, 3)), 1)]


def followed_in_rounds(rows, given, picks):
    """followed_by, worked off by hand."""
    given, steps = list(given), []
    while True:
        pairs = [(l, index) for index, one in enumerate(rows) for l in helper.forced(one, given)]
        if not pairs:
            barring = [index for index, one in enumerate(rows) if helper.slack(one, given) < 0]
            return (tuple(steps), barring[0] if barring else None)
        pick = picks[len(steps)] if len(steps) < len(picks) else 0
        steps.append(pairs[pick % len(pairs)])
        given.append(steps[-1][0])


def some_rows(rng, many, most=6):
    return [helper.some_row(rng, many, 4, 3) for _ in range(rng.randint(0, most))]


def agreeing(many, literals):
    return [at for at in helper.all_fillings(many) if all(helper.worth(l, at) for l in literals)]


class SlackTest(Case):
    def test_by_hand(self):
        self.same(slack(3, HAND[0], ()), 1)
        self.same(forced(3, HAND[0], ()), [1])
        self.same(slack(3, HAND[0], (1,)), 1)
        self.same(forced(3, HAND[0], (1,)), [])
        self.same(slack(3, HAND[0], [-1]), -1)
        self.same(forced(3, HAND[0], [-1]), [])
        self.same(slack(3, HAND[0], [-2]), 0)
        self.same(forced(3, HAND[0], [-2]), [1, 3])
        self.same(forced(3, HAND[0], [1, -2]), [3])
        self.same(slack(many=1, row=((), 2), literals=()), -2)
        self.same(forced(many=1, row=((), 2), literals=()), [])

    def test_facts(self):
        for row in small_rows(2):
            for pair in product((0, 1, -1), repeat=2):
                literals = [v * s for v, s in zip((1, 2), pair) if s]
                found = forced(2, row, literals)
                self.same(slack(2, row, literals), helper.slack(row, literals))
                self.same(found, helper.forced(row, literals))
                self.same(forced(2, row, tuple(literals)), found)
                at = [other for other in agreeing(2, literals) if helper.holds(row, other)]
                self.assertEqual(helper.slack(row, literals) < 0, at == [])
                for other in at:
                    self.assertTrue(all(helper.worth(l, other) for l in found))

    def test_errors(self):
        for call in (slack, forced):
            for many in BAD_MANYS:
                self.refuses(BadMany, call, many, None, None)
            for row in BAD_ROWS:
                self.refuses(BadRow, call, 2, row, None)
            for literals in BAD_LITERALS:
                self.refuses(BadLiterals, call, 2, ROW, literals)


class FollowedTest(Case):
    def test_by_hand(self):
        self.same(followed(3, HAND, (2,)), (((1, 0), (3, 1)), None))
        self.same(followed(3, HAND + [(((1, -1), (1, -2), (1, -3)), 1)], (2,)), (((1, 0), (3, 1)), 2))
        self.same(followed(many=3, rows=HAND, literals=[]), (((1, 0),), None))
        self.same(followed(3, HAND, [-1]), ((), 0))
        self.same(followed(1, [((), 0)], []), ((), None))
        self.same(followed(1, [((), 0), ((), 1)], []), ((), 1))

    def test_least_index_first(self):
        rows = [(((1, -2), (1, 3)), 1), (((1, -1), (1, 2)), 1), (((1, 1),), 1), (((1, 4),), 1)]
        self.same(followed(4, rows, []), (((1, 2), (2, 1), (3, 0), (4, 3)), None))
        self.same(followed(4, rows + [(((1, -3),), 1)], []), (((1, 2), (2, 1), (3, 0), (4, 3)), 4))
        self.same(followed(4, [(((1, 1), (1, 2)), 2), (((1, -1),), 1)], []), (((1, 0), (2, 0)), 1))

    def test_by_chance(self):
        clashes = 0
        for _ in range(1500):
            many = self.rng.randint(1, 5)
            rows, literals = some_rows(self.rng, many), helper.some_literals(self.rng, many)
            found = followed(many, rows, literals)
            self.same(found, helper.followed(rows, literals), (rows, literals))
            self.same(followed(many, tuple(rows), tuple(literals)), found)
            clashes += found[1] is not None
            for at in helper.where(many, rows):
                if all(helper.worth(l, at) for l in literals):
                    self.assertIsNone(found[1])
                    self.assertTrue(all(helper.worth(l, at) for l, _ in found[0]))
        self.assertTrue(300 < clashes < 1200)

    def test_refuted_and_known(self):
        for _ in range(800):
            many = self.rng.randint(1, 4)
            rows, row = some_rows(self.rng, many), helper.some_row(self.rng, many)
            self.same(refuted_by_following(many, rows), helper.followed(rows, [])[1] is not None)
            known = helper.followed(rows + [helper.opposite(row)], [])[1] is not None
            self.same(known_by_following(many, rows, row), known)
            if known:
                self.assertTrue(all(helper.holds(row, at) for at in helper.where(many, rows)))
        self.same(refuted_by_following(many=1, rows=(((), 1),)), True)
        self.same(known_by_following(many=2, rows=[(((1, 1),), 1)], row=(((1, 1), (1, 2)), 1)), True)
        self.same(known_by_following(1, ((((1, 1),), 1),) * 400, (((1, 1),), 1)), True)

    def test_long_chain(self):
        rows = [(((1, -v), (1, v + 1)), 1) for v in range(1, 401)]
        steps, clash = followed(600, rows, [1])
        self.same(steps, tuple((v + 1, v - 1) for v in range(1, 401)))
        self.same(clash, None)
        steps, clash = followed(600, rows[::-1], [1])
        self.same(steps, tuple((v + 1, 400 - v) for v in range(1, 401)))

    def test_errors(self):
        for many in BAD_MANYS:
            self.refuses(BadMany, followed, many, None, None)
            self.refuses(BadMany, refuted_by_following, many, None)
            self.refuses(BadMany, known_by_following, many, None, None)
            self.refuses(BadMany, followed_by, many, None, None, None)
        for rows in BAD_LISTS:
            self.refuses(BadRows, followed, 2, rows, None)
            self.refuses(BadRows, refuted_by_following, 2, rows)
            self.refuses(BadRows, known_by_following, 2, rows, None)
            self.refuses(BadRows, followed_by, 2, rows, None, None)
        for row in BAD_ROWS:
            self.refuses(BadRow, known_by_following, 2, [ROW], row)
        for literals in BAD_LITERALS:
            self.refuses(BadLiterals, followed, 2, [ROW], literals)
            self.refuses(BadLiterals, followed_by, 2, [ROW], literals, None)
        for picks in (None, 0, "", {}, {0: 1}, [-1], [True], [False], [None], ["1"], [[0]], [0, 1, -2]):
            self.refuses(BadPicks, followed_by, 2, [ROW], [], picks)

    def test_passed_stays(self):
        rows, literals, picks = list(HAND), [2], [1]
        found = (followed(3, rows, literals), followed_by(3, rows, literals, picks))
        self.same((rows, literals, picks), (HAND, [2], [1]))
        rows.clear()
        literals.clear()
        self.same(found[0], (((1, 0), (3, 1)), None))


class PicksTest(Case):
    def test_by_hand(self):
        rows = [(((1, 1), (1, 2)), 2), (((1, -1),), 1), (((1, 3),), 1)]
        self.same(followed_by(3, rows, [], []), (((1, 0), (2, 0), (3, 2)), 1))
        self.same(followed_by(3, rows, [], [2]), (((-1, 1), (3, 2)), 0))
        self.same(followed_by(3, rows, [], (3, 1)), (((3, 2), (2, 0), (1, 0)), 1))
        self.same(followed_by(3, rows, [], [7]), (((3, 2), (1, 0), (2, 0)), 1))
        self.same(followed_by(many=3, rows=rows, literals=(1,), picks=[0, 9]), (((2, 0), (3, 2)), 1))
        self.same(followed_by(2, [((), 1), ((), 2)], [], [5]), ((), 0))

    def test_rounds_and_hearts(self):
        for _ in range(1500):
            many = self.rng.randint(1, 5)
            rows, literals = some_rows(self.rng, many), helper.some_literals(self.rng, many)
            picks = [self.rng.randint(0, 12) for _ in range(self.rng.randint(0, 5))]
            found = followed_by(many, rows, literals, picks)
            self.same(found, followed_in_rounds(rows, literals, picks), (rows, literals, picks))
            self.same(followed_by(many, rows, literals, tuple(picks)), found)
            steps, clash = followed(many, rows, literals)
            self.assertEqual(found[1] is None, clash is None)
            if clash is None:
                self.assertEqual(sorted(l for l, _ in found[0]), sorted(l for l, _ in steps))

    def test_more_rows_and_literals(self):
        for _ in range(800):
            many = self.rng.randint(1, 5)
            rows, literals = some_rows(self.rng, many), helper.some_literals(self.rng, many)
            steps, clash = followed(many, rows, literals)
            count = self.rng.randint(0, len(rows))
            less = rows[:count]
            fewer = literals[:self.rng.randint(0, len(literals))]
            few_steps, few_clash = followed(many, less, fewer)
            if few_clash is not None:
                self.assertIsNotNone(clash)
            if clash is None:
                self.assertTrue({l for l, _ in few_steps} <= {l for l, _ in steps} | set(literals))

    def test_covering_rows(self):
        rows = small_rows(2, (1, 2))
        for one, other in product(rows, repeat=2):
            if covers(2, one, other):
                for pair in product((0, 1, -1), repeat=2):
                    literals = [v * s for v, s in zip((1, 2), pair) if s]
                    bars = slack(2, one, literals) < 0
                    if slack(2, other, literals) < 0:
                        self.assertTrue(bars)
                    for l in forced(2, other, literals):
                        self.assertTrue(bars or l in forced(2, one, literals))
