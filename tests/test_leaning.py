from tests import helper
from tests.helper import Case
from tests.test_proving import BAD_LISTS
from tests.test_rows import BAD_MANYS, ROW
from witnesslog.errors import BadFilling, BadMany, BadRows, NotLeaning, NotShort
from witnesslog.leaning import leaning, leans, nearest, short_plan

HAND = [(((1, 1), (1, -2)), 1), (((1, 2), (1, -3)), 1)]
BAD_FILLINGS = (None, 0, [0, 0], (0, True), (0,), (0, 1, 0), (0, 2), (-1, 0), "00", {})


def lean(rows, at):
    return all(sum(helper.worth(l, at) == 0 for _, l in pairs) <= 1 for pairs, _ in rows)


def rows_that_lean(rng, many, at, most=5):
    """Rows by chance, each with one literal at most that is worth 0 at at."""
    found = []
    for _ in range(rng.randint(0, most)):
        variables = sorted(rng.sample(range(1, many + 1), rng.randint(0, many)))
        against = rng.choice(variables + [None])
        pairs = tuple((rng.randint(1, 5), v if (at[v - 1] == 1) != (v == against) else -v) for v in variables)
        found.append((pairs, rng.randint(0, helper.weights((pairs, 0)))))
    return found


class LeansTest(Case):
    def test_by_chance(self):
        counts = {True: 0, False: 0}
        for _ in range(1500):
            many = self.rng.randint(1, 5)
            rows = [helper.some_row(self.rng, many, 4, 3) for _ in range(self.rng.choice((2, 4, 9, 14)))]
            on = [at for at in helper.all_fillings(many) if lean(rows, at)]
            for at in helper.all_fillings(many):
                self.same(leans(many, rows, at), at in on)
            found = leaning(many, rows)
            self.same(leaning(many, tuple(rows)), found)
            counts[found is None] += 1
            if on:
                self.assertIn(found, on)
                self.assertTrue(helper.filling(many, found))
            else:
                self.assertIsNone(found)
            pairs = all(helper.worth(one, at) or helper.worth(other, at) for at in on for row, _ in rows
                        for _, one in row for _, other in row if one != other)
            self.assertTrue(pairs)
        self.assertTrue(min(counts.values()) > 200, counts)

    def test_by_hand(self):
        self.same(leans(3, HAND, (0, 0, 0)), True)
        self.same(leans(3, HAND, (0, 1, 0)), False)
        self.same(leans(2, [(((1, 1), (1, 2)), 0)], (0, 0)), False)
        self.same(leans(2, [(((1, 1), (1, 2)), 0)], (0, 1)), True)
        self.same(leans(many=2, rows=(), filling=(0, 0)), True)
        self.assertTrue(leans(3, HAND, leaning(many=3, rows=HAND)))
        four = [(((1, 1), (1, 2)), 0), (((1, 1), (1, -2)), 0), (((1, -1), (1, 2)), 0), (((1, -1), (1, -2)), 0)]
        self.same(leaning(2, four), None)
        self.same(leaning(2, four[:3]), (1, 1))
        self.same(leaning(2, four[1:]), (0, 0))

    def test_rows_of_many_pairs(self):
        at = helper.some_filling(self.rng, 600)
        rows = [(tuple((1, v if at[v - 1] else -v) for v in range(1, 601)), 1),
                (tuple((1, (v if at[v - 1] else -v) * (-1 if v == 7 else 1)) for v in range(1, 601)), 1)]
        found = leaning(600, rows)
        self.assertTrue(lean(rows, found))

    def test_errors(self):
        for many in BAD_MANYS:
            self.refuses(BadMany, leans, many, None, None)
            self.refuses(BadMany, leaning, many, None)
            self.refuses(BadMany, nearest, many, None, None)
            self.refuses(BadMany, short_plan, many, None)
        for rows in BAD_LISTS:
            self.refuses(BadRows, leans, 2, rows, None)
            self.refuses(BadRows, leaning, 2, rows)
            self.refuses(BadRows, nearest, 2, rows, None)
            self.refuses(BadRows, short_plan, 2, rows)
        for filling in BAD_FILLINGS:
            self.refuses(BadFilling, leans, 2, [ROW], filling)
            self.refuses(BadFilling, nearest, 2, [(((1, 1), (1, 2)), 1)], filling)


class NearestTest(Case):
    def test_by_hand(self):
        self.same(nearest(3, HAND, (0, 0, 0)), (0, 0, 0))
        self.same(nearest(3, HAND + [(((1, 3),), 1)], (0, 0, 0)), (1, 1, 1))
        self.same(nearest(many=3, rows=HAND + [(((1, 3),), 1), (((1, -1),), 1)], filling=(0, 0, 0)), None)
        self.same(nearest(2, [(((1, -1),), 1)], (1, 1)), (0, 1))

    def test_not_leaning(self):
        rows = [(((1, 1), (1, 2)), 1)]
        self.refuses(NotLeaning, nearest, 2, rows, (0, 0))
        self.same(nearest(2, rows, (0, 1)), (0, 1))
        self.refuses(NotLeaning, nearest, 2, rows + [((), 1)], (0, 0))

    def test_heart(self):
        counts = {True: 0, False: 0}
        for _ in range(1500):
            many = self.rng.randint(1, 5)
            at = helper.some_filling(self.rng, many)
            rows = rows_that_lean(self.rng, many, at)
            steps, clash = helper.followed(rows, [])
            near = nearest(many, rows, at)
            counts[near is None] += 1
            plans = helper.where(many, rows)
            self.assertEqual(near is None, clash is not None)
            self.assertEqual(near is None, plans == [])
            if near is not None:
                given = {l for l, _ in steps}
                self.same(near, tuple(1 if v in given else 0 if -v in given else at[v - 1]
                                      for v in range(1, many + 1)))
                self.assertIn(near, plans)
                for plan in plans:
                    self.assertTrue(all(plan[k] != at[k] for k in range(many) if near[k] != at[k]))
        self.assertTrue(min(counts.values()) > 100)


class ShortTest(Case):
    def told_rightly(self, many, rows):
        word, thing = short_plan(many, rows)
        self.same(short_plan(many, tuple(rows)), (word, thing))
        plans = helper.where(many, rows)
        clashing = [l for l in range(-many, many + 1) if l and helper.followed(rows, [l])[1] is not None
                    and helper.followed(rows, [-l])[1] is not None]
        self.assertEqual(word, "filling" if plans else "clash")
        self.assertEqual(plans == [], clashing != [])
        self.assertIn(thing, plans if plans else clashing)
        self.assertIs(type(thing), tuple if plans else int)
        return word

    def test_by_chance(self):
        words = []
        for _ in range(2000):
            many = self.rng.randint(1, 5)
            rows = [helper.some_row(self.rng, many, 4, 2) for _ in range(self.rng.randint(0, 9))]
            words.append(self.told_rightly(many, rows))
        self.assertTrue(min(words.count("filling"), words.count("clash")) > 300)

    def test_clauses_of_two(self):
        words = []
        for _ in range(1000):
            rows = []
            for _ in range(self.rng.randint(4, 14)):
                one, other = sorted(helper.some_literals(self.rng, 5, 2), key=abs)
                rows.append((((1, one), (1, other)), 1))
            words.append(self.told_rightly(5, rows))
        self.assertTrue(min(words.count("filling"), words.count("clash")) > 100)

    def test_edges(self):
        self.same(self.told_rightly(1, []), "filling")
        self.same(self.told_rightly(1, [((), 1)]), "clash")
        self.same(self.told_rightly(2, [(((1, 1),), 1), (((1, -1),), 1)]), "clash")
        self.same(short_plan(many=2, rows=[(((9, 1), (1, 2)), 9)])[1][0], 1)

    def test_long_chain(self):
        rows = [(((1, -v), (1, v + 1)), 1) for v in range(1, 400)]
        word, filling = short_plan(600, rows)
        self.same(word, "filling")
        self.assertTrue(all(helper.holds(row, filling) for row in rows))

    def test_not_short(self):
        self.refuses(NotShort, short_plan, 3, [(((1, 1), (1, 2), (1, 3)), 0)])
        self.refuses(NotShort, short_plan, 3, [((), 1), (((1, 1), (1, 2), (1, 3)), 0)])
        self.refuses(BadRows, short_plan, 3, [(((1, 1), (1, 2), (1, 3)), 0), None])
