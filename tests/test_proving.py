from itertools import product

from tests import helper
from tests.helper import Case
from tests.test_papers import A, A_OR_B, BAD_NAMEDS, HALVED, ROWS
from tests.test_rows import BAD_MANYS, BAD_ROWS, ROW, small_rows
from witnesslog.derivations import derived, is_derivation
from witnesslog.errors import BadGoal, BadLiterals, BadMany, BadNamed, BadRow, BadRows, BadTerms, TooMany
from witnesslog.papers import is_paper
from witnesslog.proving import clause_of, follows, is_refutation, least_of, refutation

NOT_A = (((1, -1),), 1)
BAD_LITERALS = (None, 0, "", {}, {1: 1}, [0], [3], [-3], [True], [None], ["1"], [1, 1], [1, -1], (2, 1, -2), [[1]])
BAD_LISTS = (None, 0, "", {}, {0: ROW}, ROW, [None], [list(ROW)], [ROW] * 401)


def parity(many, odd):
    """The clauses that leave the fillings out whose number of ones is odd, or even."""
    return [(tuple((1, -(v + 1) if item else v + 1) for v, item in enumerate(at)), 1)
            for at in helper.all_fillings(many) if sum(at) % 2 == odd]


class ClauseTest(Case):
    def test_by_hand(self):
        row = (((2, 1), (3, -2), (4, 3)), 6)
        self.same(clause_of(3, row, [-1, -3]),
                  ([("row", 0), ("weakened", 2), ("capped",), ("divided", 3)], (((1, 1), (1, 3)), 1)))
        self.same(clause_of(3, row, [-3]),
                  ([("row", 0), ("weakened", 1), ("weakened", 2), ("capped",), ("divided", 1)], (((1, 3),), 1)))
        self.same(clause_of(3, row, (2,)), None)
        self.same(clause_of(3, row, []), None)
        self.same(clause_of(2, ((), 4), [1]), ([("row", 0), ("capped",), ("divided", 4)], ((), 1)))
        self.same(clause_of(2, (((2, 1),), 5), []),
                  ([("row", 0), ("weakened", 1), ("capped",), ("divided", 3)], ((), 1)))
        self.same(clause_of(many=1, row=((), 0), literals=()), None)

    def test_by_chance(self):
        for _ in range(3000):
            many = self.rng.randint(1, 4)
            row, literals = helper.some_row(self.rng, many, 9), helper.some_literals(self.rng, many)
            found = clause_of(many, row, literals)
            holds = any(helper.holds(row, at) for at in helper.all_fillings(many)
                        if all(helper.worth(l, at) for l in literals))
            self.assertEqual(found is None, holds, (row, literals))
            if found is not None:
                others = [("weakened", abs(l)) for _, l in row[0] if -l not in literals]
                bound = row[1] - sum(w for w, l in row[0] if -l not in literals)
                clause = (tuple((1, l) for _, l in row[0] if -l in literals), 1)
                self.same(found, ([("row", 0)] + others + [("capped",), ("divided", bound)], clause))
                self.same(derived(many, [row], found[0]), clause)

    def test_great_weights(self):
        row = (tuple((10 ** 29 + v, v) for v in range(1, 601)), 595 * 10 ** 29)
        derivation, clause = clause_of(600, row, [-v for v in range(1, 11)])
        self.same(clause, (tuple((1, v) for v in range(1, 11)), 1))
        self.same(derived(600, [row], derivation), clause)

    def test_errors(self):
        for many in BAD_MANYS:
            self.refuses(BadMany, clause_of, many, None, None)
        for row in BAD_ROWS:
            self.refuses(BadRow, clause_of, 2, row, None)
        for literals in BAD_LITERALS:
            self.refuses(BadLiterals, clause_of, 2, ROW, literals)


class RefutationTest(Case):
    def test_by_hand(self):
        rows = ROWS + [NOT_A]
        told = HALVED + [("row", 2), ("sum",)]
        self.same(derived(2, rows, told), ((), 1))
        self.same(is_refutation(2, rows, told), True)
        self.same(is_refutation(2, ROWS, HALVED), False)
        word, derivation = refutation(2, rows)
        self.assertEqual((word, type(derivation)), ("none", tuple))
        self.same(derived(2, rows, derivation), ((), 1))
        self.same(is_refutation(many=2, named=rows, thing=derivation), True)

    def test_is_refutation(self):
        named = {3: (((2, 1),), 3), 5: (((2, 1),), 2)}
        self.same(is_refutation(1, named, [("row", 3)]), True)
        self.same(is_refutation(1, named, [("row", 5)]), False)
        self.same(is_refutation(1, named, [("row", 3), ("row", 3)]), False)
        good = [("row", 3), ("times", 2)]
        for thing in helper.odd_values() + helper.variants(good) + helper.variants(tuple(good)):
            word, row = helper.end(1, named, thing)
            self.same(is_refutation(1, named, thing), word == "end" and helper.impossible(row), thing)
        for many in BAD_MANYS:
            self.refuses(BadMany, is_refutation, many, None, None)
        for bad in BAD_NAMEDS:
            self.refuses(BadNamed, is_refutation, 2, bad, None)

    def told_rightly(self, many, rows):
        word, thing = refutation(many, rows)
        at = helper.where(many, rows)
        self.assertEqual(word, "some" if at else "none")
        if at:
            self.assertIn(thing, at)
            self.assertTrue(helper.filling(many, thing))
        else:
            self.assertIs(type(thing), tuple)
            self.same(derived(many, rows, thing), ((), 1))
        self.same(refutation(many, tuple(rows)), (word, thing))
        return word

    def test_by_chance(self):
        words = []
        for _ in range(600):
            many = self.rng.randint(1, 4)
            rows = [helper.some_row(self.rng, many, 5) for _ in range(self.rng.randint(0, 5))]
            words.append(self.told_rightly(many, rows))
        self.assertTrue(min(words.count("none"), words.count("some")) > 100)

    def test_edges(self):
        self.same(refutation(1, [])[0], "some")
        self.same(self.told_rightly(2, [((), 1)]), "none")
        self.same(self.told_rightly(2, [((), 0)]), "some")
        self.same(self.told_rightly(1, [(((10 ** 30 - 1, 1),), 10 ** 30 - 1), (((7, -1),), 1)]), "none")

    def test_parity(self):
        for many in (3, 6, 8):
            self.same(self.told_rightly(many, parity(many, 0)), "some")
            self.same(self.told_rightly(many, parity(many, 0) + parity(many, 1)), "none")

    def test_great_weights_of_ten_variables(self):
        rows = [(tuple((self.rng.randint(1, 10 ** 30 - 1), v * self.rng.choice((1, -1))) for v in range(1, 11)),
                 self.rng.randint(10 ** 30, 2 * 10 ** 30)) for _ in range(400)]
        self.told_rightly(10, rows)
        rows = [(pairs, bound // 30) for pairs, bound in rows]
        self.told_rightly(10, rows)
        # At most 3 of 10, and at most 3 of the opposites: as many as can be tried ahead of a bar.
        low = (tuple((1, v) for v in range(1, 11)), 7)
        self.same(self.told_rightly(10, [low, (tuple((1, -v) for v in range(1, 11)), 7)]), "none")

    def test_errors(self):
        for many in BAD_MANYS:
            self.refuses(BadMany, refutation, many, None)
        for rows in BAD_LISTS:
            self.refuses(BadRows, refutation, 2, rows)
            self.refuses(BadRows, refutation, 11, rows)
        self.refuses(TooMany, refutation, 11, [], most=10)
        self.same(refutation(many=10, rows=[])[0], "some")


class FollowsTest(Case):
    def test_by_hand(self):
        word, paper = follows(2, ROWS, (((2, 1),), 2))
        self.same(word, "paper")
        self.same(is_paper(2, ROWS, (((2, 1),), 2), paper), True)
        self.same(follows(2, ROWS, (((1, 2),), 1)), ("filling", (1, 0)))
        told = [("row", 0), ("row", 1), ("sum",), ("divided", 2), ("times", 2)]
        self.same(is_paper(2, ROWS, (((2, 1),), 2), (told,)), True)

    def told_rightly(self, many, rows, goal):
        word, thing = follows(many, rows, goal)
        breaking = [at for at in helper.where(many, rows) if not helper.holds(goal, at)]
        self.assertEqual(word, "filling" if breaking else "paper")
        if breaking:
            self.assertIn(thing, breaking)
        else:
            self.same(is_paper(many, rows, goal, thing), True)
            self.assertTrue(all(type(told) is tuple for told in thing))
            self.same(helper.ends(many, rows, thing)[1][-1], goal)
        self.same(follows(many, tuple(rows), goal), (word, thing))
        return word

    def test_by_chance(self):
        words = []
        for _ in range(700):
            many = self.rng.randint(1, 4)
            rows = [helper.some_row(self.rng, many, 5) for _ in range(self.rng.randint(0, 4))]
            words.append(self.told_rightly(many, rows, helper.some_row(self.rng, many, 7)))
        self.assertTrue(min(words.count("paper"), words.count("filling")) > 100)

    def test_what_just_follows(self):
        for _ in range(300):
            many = self.rng.randint(1, 4)
            rows = [helper.some_row(self.rng, many, 3) for _ in range(self.rng.randint(0, 4))]
            pairs = helper.some_row(self.rng, many, 8)[0]
            least = min((helper.comes_to(pairs, at) for at in helper.where(many, rows)), default=40)
            self.same(self.told_rightly(many, rows, (pairs, least)), "paper")
            if helper.where(many, rows):
                self.same(self.told_rightly(many, rows, (pairs, least + 1)), "filling")

    def test_all_small_goals(self):
        for rows in ([], [A], ROWS, [A_OR_B], ROWS + [NOT_A]):
            for goal in small_rows(2):
                self.told_rightly(2, rows, goal)

    def test_edges(self):
        no, bound_0 = [((), 1)], (((5, 1), (35, -2)), 0)
        self.same(self.told_rightly(2, [], bound_0), "paper")
        self.same(self.told_rightly(2, [], ((), 0)), "paper")
        self.same(self.told_rightly(2, [], ((), 1)), "filling")
        self.same(self.told_rightly(2, no, ((), 40)), "paper")
        self.same(self.told_rightly(2, no, (((5, 1), (35, -2)), 40)), "paper")
        self.same(self.told_rightly(2, no, (((1, 1),), 40)), "paper")
        self.same(self.told_rightly(2, [(((1, 1),), 2)], bound_0), "paper")
        self.same(self.told_rightly(2, [A], (((40, 1),), 40)), "paper")
        self.same(self.told_rightly(2, [(((10 ** 30 - 1, 1), (1, 2)), 2)], (((40, 1),), 40)), "paper")
        self.same(self.told_rightly(2, [(((10 ** 30 - 1, 1), (1, 2)), 1)], (((40, 1),), 1)), "filling")

    def test_eight_variables(self):
        wide = tuple((5, v) for v in range(1, 9))
        contrary = parity(8, 0) + parity(8, 1)
        self.same(self.told_rightly(8, contrary, (wide, 40)), "paper")
        self.same(self.told_rightly(8, parity(8, 0), (wide, 5)), "paper")
        self.same(self.told_rightly(8, parity(8, 0), (wide, 6)), "filling")
        some = tuple((w, v) for w, v in zip((9, 1, 7, 2, 8, 3, 6, 4), range(1, 9)))
        least = [(tuple((1, v) for v in range(1, 9)), 5)]
        self.same(self.told_rightly(8, least, (some, 16)), "paper")
        self.same(self.told_rightly(8, least, (some, 17)), "filling")
        rows = [(tuple((self.rng.randint(1, 9), v * self.rng.choice((1, 1, -1))) for v in range(1, 9)), 10)
                for _ in range(400)]
        self.told_rightly(8, rows, (some, 20))
        self.told_rightly(8, rows, (some, 3))

    def test_errors(self):
        for many in BAD_MANYS:
            self.refuses(BadMany, follows, many, None, None)
        for rows in BAD_LISTS:
            self.refuses(BadRows, follows, 2, rows, None)
        for goal in BAD_ROWS:
            self.refuses(BadGoal, follows, 2, ROWS, goal)
            self.refuses(BadGoal, follows, 9, ROWS, list(ROW))
        self.refuses(TooMany, follows, 9, [], ((), 41), most=8)
        self.refuses(TooMany, follows, 9, [], ((), 0), most=8)
        self.refuses(TooMany, follows, 2, [], ((), 41), most=40)
        self.refuses(TooMany, follows, 2, [], (((20, 1), (21, 2)), 0), most=40)
        self.refuses(TooMany, follows, 2, [], (((1, 1),), 41), most=40)
        self.same(follows(many=1, rows=[], goal=((), 0))[0], "paper")


class LeastTest(Case):
    def test_by_chance(self):
        words = []
        for _ in range(500):
            many = self.rng.randint(1, 4)
            rows = [helper.some_row(self.rng, many, 4) for _ in range(self.rng.randint(0, 4))]
            terms = helper.some_row(self.rng, many, 9)[0]
            found = least_of(many, rows, terms)
            words.append(found[0])
            at = helper.where(many, rows)
            if not at:
                self.same(found, refutation(many, rows))
                self.same(derived(many, rows, found[1]), ((), 1))
                continue
            word, number, filling, paper = found
            self.same((word, number), ("least", min(helper.comes_to(terms, other) for other in at)))
            self.assertIn(filling, at)
            self.same(helper.comes_to(terms, filling), number)
            self.same(is_paper(many, rows, (terms, number), paper), True)
        self.assertTrue(min(words.count("none"), words.count("least")) > 50)

    def test_edges(self):
        self.same(least_of(2, [], ())[:2], ("least", 0))
        self.same(least_of(2, ROWS, ((40, 1),))[:3], ("least", 40, (1, 0)))
        self.same(least_of(2, [((), 1)], ((40, 1),))[0], "none")
        self.same(least_of(many=8, rows=(), terms=((5, 1),))[:2], ("least", 0))

    def test_eight_variables(self):
        terms = tuple((5, v) for v in range(1, 9))
        word, number, filling, paper = least_of(8, parity(8, 0), terms)
        self.same((word, number, sum(filling)), ("least", 5, 1))
        self.same(is_paper(8, parity(8, 0), (terms, 5), paper), True)
        self.same(least_of(8, parity(8, 0) + parity(8, 1), terms)[0], "none")

    def test_errors(self):
        for many in BAD_MANYS:
            self.refuses(BadMany, least_of, many, None, None)
        for rows in BAD_LISTS:
            self.refuses(BadRows, least_of, 2, rows, None)
        for terms in (None, 0, [], [(1, 1)], ((0, 1),), ((1, 3),), ((1, 1), (1, -1)), ((1, 2), (1, 1)), ((True, 1),),
                      ((1, True),), ([1, 1],), ((1, 1, 1),), ROW):
            self.refuses(BadTerms, least_of, 2, ROWS, terms)
        self.refuses(BadTerms, least_of, 9, [], None)
        self.refuses(TooMany, least_of, 9, [], ((41, 1),), most=8)
        self.refuses(TooMany, least_of, 8, [], ((41, 1),), most=40)
        self.refuses(TooMany, least_of, 8, [((), 1)], ((20, 1), (21, 3)), most=40)


class OneOfTheTwoTest(Case):
    def test_small_lists(self):
        rows = [row for row in small_rows(2, (1,)) if row[1] < 3]
        for pair in product(rows, repeat=2):
            word, thing = refutation(2, list(pair))
            self.assertEqual(word == "none", helper.where(2, pair) == [])
            self.same(is_derivation(2, list(pair), thing), word == "none")
