from tests import helper
from tests.helper import Case
from tests.test_following import some_rows
from tests.test_proving import BAD_LISTS, BAD_LITERALS
from tests.test_rows import BAD_MANYS, BAD_ROWS, ROW
from tests.test_trails import chosen_trail, some_trail, whole
from witnesslog.errors import BadLiteral, BadLiterals, BadMany, BadRow, BadRows, BadTrail, NoClash
from witnesslog.learning import (back_level, cut_down, cut_instructions, is_learned, learned, learned_clause, resolved,
                                 shortened)

HAND = (((3, 1), (2, 2), (2, 3)), 5)
PAIR = [(((1, 1), (1, 2)), 1), (((1, 1), (1, -2)), 1)]
TRAIL = ((-1, None), (2, 0))
LEARNED = ((((1, 1),), 1), [("row", 0), ("row", 1), ("sum",), ("divided", 2)], 0)


def cut(row, literals, literal):
    """cut_down, worked off by hand."""
    d = [w for w, l in row[0] if l == literal][0]
    kept = tuple((w, l) for w, l in row[0] if w % d == 0 or -l in literals)
    bound = max(0, row[1] - sum(w for w, l in row[0] if (w, l) not in kept))
    return (tuple((helper.up(w, d), l) for w, l in kept), helper.up(bound, d))


def levels_of(trail):
    """The literals of the levels to 0, to 1, and so on."""
    found = [[]]
    for l, reason in trail:
        if reason is None:
            found.append(list(found[-1]))
        found[-1].append(l)
    return found


def level_back(trail, row):
    told = [helper.slack(row, given) < 0 or helper.forced(row, given) for given in levels_of(trail)]
    return [bool(one) for one in told].index(True)


def learned_thing(many, rows, trail, thing):
    """Whether thing is a learned thing of trail, as the document says it."""
    if type(thing) is not tuple or len(thing) != 3 or not helper.row(many, thing[0]):
        return False
    row, derivation, level = thing
    if helper.end(many, dict(enumerate(rows)), derivation) != ("end", row):
        return False
    if helper.slack(row, [l for l, _ in trail]) >= 0 or not helper.number(level) or level != level_back(trail, row):
        return False
    most = len(levels_of(trail)) - 1
    return level < most or most == 0 and helper.impossible(row)


def wide(rng, rows):
    """The rows with weights and bounds of thirty digits."""
    great = rng.choice((1, 7 * 10 ** 28, 10 ** 29 - 1))
    return [(tuple((w * great + rng.randint(0, great // 3), l) for w, l in row[0]), row[1] * great + rng.randint(0, 3))
            for row in rows]


def loose_rows(rng, many, count):
    """Rows that bar only under several literals."""
    rows = []
    while len(rows) < count:
        row = helper.some_row(rng, many, 3, 4)
        if len(row[0]) >= min(many, 2):
            rows.append((row[0], min(max(1, row[1]), max(1, helper.weights(row) // 2))))
    return rows


def steep_rows(rng, many):
    """Rows in which weights of thirty digits stand beside small ones, so that dividing does not make them smaller."""
    great = 10 ** 30 - 1
    rows = []
    for _ in range(int(many * rng.uniform(0.6, 1.6))):
        literals = sorted(helper.some_literals(rng, many, rng.randint(3, min(many, 5))), key=abs)
        pairs = tuple((rng.choice((1, 1, 1, great - rng.randint(0, 5), great // 2 + 1)), l) for l in literals)
        rows.append((pairs, min(helper.weights((pairs, 0)), rng.choice((1, 2, great // 2, great)))))
    return rows


def barring_trails(rng, count, most=6):
    """Many, rows and a trail at whose end some row bars, by chance, also of wide rows."""
    found = []
    while len(found) < count:
        many = rng.randint(1, most)
        rows = loose_rows(rng, many, 3 * many) if len(found) % 4 else some_rows(rng, many, 8)
        if len(found) % 3 == 0:
            rows = wide(rng, rows)
        if len(found) % 2:
            trail, _ = chosen_trail(rows, helper.some_literals(rng, many, many))
        else:
            trail = some_trail(rng, many, rows)
        if any(helper.slack(row, [l for l, _ in trail]) < 0 for row in rows):
            found.append((many, rows, trail))
    return found


class CutTest(Case):
    def test_by_hand(self):
        self.same(cut_down(3, HAND, (), 1), (((1, 1),), 1))
        self.same(cut_down(3, HAND, [-2], 1), (((1, 1), (1, 2)), 1))
        self.same(cut_down(many=3, row=HAND, literals=[2, -1], literal=3), (((2, 1), (1, 2), (1, 3)), 3))
        self.same(cut_down(3, HAND, [2], 3), (((1, 2), (1, 3)), 1))
        self.same(cut_down(1, (((2, -1),), 0), [], -1), (((1, -1),), 0))

    def check_cut(self, many, row, literals, literal):
        found = cut_down(many, row, literals, literal)
        self.same(found, cut(row, literals, literal))
        stack = [row]
        told = cut_instructions(many, row, literals, literal)
        self.assertIs(type(told), list)
        for one in told:
            stack = helper.put(many, {}, stack, one)
        self.same(stack, [found])
        self.same(cut_instructions(many, row, tuple(literals), literal), told)
        if helper.slack(row, literals) < 0:
            self.assertLess(helper.slack(found, literals), 0)
        if literal in helper.forced(row, literals):
            self.assertEqual(helper.slack(found, literals), 0)
            self.assertIn((1, literal), found[0])
        for at in helper.where(many, [row]):
            self.assertTrue(helper.holds(found, at))

    def test_facts(self):
        for k in range(1500):
            many = self.rng.randint(1, 4)
            row = helper.some_row(self.rng, many, 7)
            if k % 4 == 0:
                row = wide(self.rng, [row])[0]
            literals = helper.some_literals(self.rng, many)
            for _, literal in row[0]:
                self.check_cut(many, row, literals, literal)

    def test_errors(self):
        for call in (cut_down, cut_instructions):
            for many in BAD_MANYS:
                self.refuses(BadMany, call, many, None, None, None)
            for row in BAD_ROWS:
                self.refuses(BadRow, call, 2, row, [0], 0)
            for literals in BAD_LITERALS:
                self.refuses(BadLiterals, call, 2, ROW, literals, 0)
            for literal in (0, 2, -1, -3, 3, True, None, "1", [1], (1,)):
                self.refuses(BadLiteral, call, 2, ROW, [2], literal)


class ResolvedTest(Case):
    def test_by_hand(self):
        self.same(resolved(2, PAIR[1], PAIR[0], (-1,), 2), (((2, 1),), 1))
        self.same(resolved(3, (((1, -1), (1, -2)), 2), HAND, [], 1), (((1, -2),), 2))
        self.same(resolved(many=3, clash=(((2, -1), (1, -2)), 2), reason=HAND, literals=[2], literal=1),
                  (((1, -2),), 1))

    def test_facts(self):
        done = 0
        while done < 500:
            many = self.rng.randint(1, 4)
            rows = [helper.some_row(self.rng, many, 5) for _ in range(2)]
            if done % 3 == 0:
                rows = wide(self.rng, rows)
            clash, reason = rows
            literals = helper.some_literals(self.rng, many)
            for literal in helper.forced(reason, literals):
                behind = literals + [literal]
                if helper.slack(clash, behind) < 0 and -literal in [l for _, l in clash[0]]:
                    done += 1
                    one, other = cut(clash, behind, -literal), cut(reason, literals, literal)
                    found = resolved(many, clash, reason, literals, literal)
                    self.same(found, helper.normal(many, one[0] + other[0], one[1] + other[1]))
                    self.assertNotIn(abs(literal), [abs(l) for _, l in found[0]])
                    self.assertLess(helper.slack(found, literals), 0)

    def test_along_whole_trails(self):
        done = 0
        for many, rows, trail in barring_trails(self.rng, 1000):
            if not whole(many, rows, trail):
                continue
            on = [l for l, _ in trail]
            row = [one for one in rows if helper.slack(one, on) < 0][0]
            for place in reversed(range(len(trail))):
                literal, reason = trail[place]
                if reason is None:
                    break
                if helper.slack(row, on[:place]) >= 0:
                    row = resolved(many, row, rows[reason], on[:place], literal)
                    done += 1
                self.assertLess(helper.slack(row, on[:place]), 0)
        self.assertGreater(done, 200)

    def test_errors(self):
        clash, reason = PAIR[1], PAIR[0]
        self.refuses(BadMany, resolved, True, None, None, None, None)
        for row in BAD_ROWS:
            self.refuses(BadRow, resolved, 2, row, reason, None, None)
            self.refuses(BadRow, resolved, 2, clash, row, None, None)
        for literals in BAD_LITERALS:
            self.refuses(BadLiterals, resolved, 2, clash, reason, literals, None)
        for literal in (0, True, None, 3, -2, 1, -1, "2", [2]):
            self.refuses(BadLiteral, resolved, 2, clash, reason, [-1], literal)
        self.refuses(BadLiteral, resolved, 2, clash, (((1, 1),), 1), [], True)
        self.refuses(BadLiteral, resolved, 2, clash, reason, [1], 2)
        self.refuses(BadLiteral, resolved, 2, clash, reason, [-1, 2], 2)
        self.refuses(BadLiteral, resolved, 2, clash, reason, [-1, -2], 2)
        self.refuses(NoClash, resolved, 2, ((), 0), reason, [-1], 2)
        self.refuses(NoClash, resolved, 2, (((1, 1),), 1), reason, [-1], 2)
        self.refuses(NoClash, resolved, 2, (((2, 1), (1, -2)), 0), reason, [-1], 2)
        self.refuses(NoClash, resolved, 2, (((2, -1), (1, -2)), 2), reason, [-1], 2)


class LearnedTest(Case):
    def test_by_hand(self):
        self.same(is_learned(2, PAIR, TRAIL, LEARNED), True)
        self.same(back_level(2, PAIR, TRAIL, LEARNED[0]), 0)
        self.same(back_level(many=2, rows=PAIR, trail=TRAIL, row=(((2, 1), (1, -2)), 2)), 0)
        self.same(back_level(2, PAIR, TRAIL, PAIR[1]), 1)
        found = learned(many=2, rows=PAIR, trail=TRAIL)
        self.assertTrue(learned_thing(2, PAIR, TRAIL, found))
        self.same(is_learned(2, PAIR, TRAIL, (PAIR[1], [("row", 1)], 1)), False)
        self.same(is_learned(2, PAIR, TRAIL, LEARNED[:2] + (False,)), False)
        self.same(is_learned(2, PAIR, TRAIL, LEARNED[:2] + (1,)), False)
        self.same(is_learned(2, PAIR, TRAIL, (LEARNED[0], tuple(LEARNED[1]), 0)), True)
        self.same(is_learned(many=2, rows=PAIR, trail=TRAIL, thing=list(LEARNED)), False)

    def test_level_0(self):
        rows = [(((1, 1),), 1), (((1, -1),), 1)]
        trail = ((1, 0),)
        self.same(is_learned(1, rows, trail, (rows[1], [("row", 1)], 0)), False)
        self.same(is_learned(1, rows, trail, (((), 1), [("row", 0), ("row", 1), ("sum",)], 0)), True)
        self.same(is_learned(1, rows, (), (((), 1), [("row", 0), ("row", 1), ("sum",)], 0)), True)
        self.same(learned(1, rows, trail)[2], 0)
        self.same(learned(1, [((), 1)], ()), (((), 1), [("row", 0)], 0))

    def test_learned(self):
        greatest = []
        for many, rows, trail in barring_trails(self.rng, 600):
            found = learned(many, rows, trail)
            self.assertTrue(learned_thing(many, rows, trail, found), (rows, trail, found))
            self.same(is_learned(many, rows, trail, found), True)
            self.same(back_level(many, rows, trail, found[0]), found[2])
            self.same(learned(many, tuple(rows), trail), found)
            self.assertLess(max([found[0][1]] + [w for w, _ in found[0][0]]), 10 ** 31)
            greatest.append(len(levels_of(trail)) - 1)
        self.assertEqual(sorted(set(greatest))[:4], [0, 1, 2, 3])

    def test_what_is_learned_is_no_wider(self):
        # Rows are learned from learned ones, again and again: so their weights must not grow.
        done = 0
        while done < 1500:
            many = self.rng.randint(4, 7)
            rows = steep_rows(self.rng, many)
            trail, clash = chosen_trail(rows, helper.some_literals(self.rng, many, many))
            if clash is not None:
                done += 1
                found = learned(many, rows, trail)
                self.assertTrue(learned_thing(many, rows, trail, found), (rows, trail, found))
                self.assertLess(max([found[0][1]] + [w for w, _ in found[0][0]]), 10 ** 30)

    def test_learned_by_clauses_alone(self):
        for many, rows, trail in barring_trails(self.rng, 300):
            row, told = learned_clause(rows, trail)
            self.assertTrue(learned_thing(many, rows, trail, (row, told, level_back(trail, row))))
            self.assertTrue(row[1] == 1 and all(w == 1 for w, _ in row[0]))

    def test_back_level(self):
        for many, rows, trail in barring_trails(self.rng, 300):
            on = [l for l, _ in trail]
            for row in rows + [helper.some_row(self.rng, many) for _ in range(5)]:
                if helper.slack(row, on) < 0:
                    self.same(back_level(many, rows, trail, row), level_back(trail, row))
                else:
                    self.refuses(NoClash, back_level, many, rows, trail, row)

    def test_any_value(self):
        values = helper.odd_values() + helper.variants(LEARNED)
        for other in (PAIR[0], PAIR[1], (((1, 1),), 1), (((2, 1),), 2), (((2, 1),), 1), ((), 1), ((), 0)):
            values.extend((other, told, level) for level in (0, 1, 2, -1, True, False, None) for told in (
                LEARNED[1], LEARNED[1][:3], tuple(LEARNED[1]), [("row", 0)], [("row", 1)], [], None))
        for trail in (TRAIL, TRAIL[:1], (), ((-1, None), (-2, 1)), ((-2, None), (-1, None))):
            self.judges(is_learned, lambda thing: learned_thing(2, PAIR, trail, thing), values, 2, PAIR, trail)

    def test_errors(self):
        for call, more in ((back_level, [None]), (is_learned, [None]), (learned, [])):
            for many in BAD_MANYS:
                self.refuses(BadMany, call, many, None, None, *more)
            for rows in BAD_LISTS:
                self.refuses(BadRows, call, 2, rows, None, *more)
            for trail in (None, [], [(-1, None)], ((1, 0),), ((-1, True),), ((True, None),), ((-1, None), (2, 1)),
                          (2,)):
                self.refuses(BadTrail, call, 2, PAIR, trail, *more)
        for row in BAD_ROWS:
            self.refuses(BadRow, back_level, 2, PAIR, TRAIL, row)
        self.refuses(NoClash, back_level, 2, PAIR, TRAIL, PAIR[0])
        self.refuses(NoClash, learned, 2, PAIR, TRAIL[:1])
        self.refuses(NoClash, learned, 2, PAIR, ())
        self.refuses(NoClash, learned, 2, [], ())

    def test_large(self):
        # A chain of reasons that are all used.
        rows = [(((1, -v), (1, v + 1)), 1) for v in range(1, 300)] + [(((1, -1), (1, -300)), 1)]
        trail, _ = chosen_trail(rows, [1])
        found = learned(600, rows, trail)
        self.assertTrue(learned_thing(600, rows, trail, found))


class ShortenedTest(Case):
    def known(self, rows, row):
        return helper.followed(list(rows) + [helper.opposite(row)], [])[1] is not None

    def test_by_hand(self):
        self.same(shortened(2, PAIR, (((1, 1), (1, 2)), 1)), (((1, 1),), 1))
        self.same(shortened(many=2, rows=PAIR, row=(((1, 1),), 1)), (((1, 1),), 1))
        self.same(shortened(2, [((), 1)], (((1, 1), (1, 2)), 1)), ((), 1))
        self.same(shortened(2, [((), 1)], ((), 1)), ((), 1))

    def test_facts(self):
        done, shorter = 0, 0
        for _ in range(2000):
            many = self.rng.randint(1, 5)
            rows = some_rows(self.rng, many, 6)
            literals = sorted(helper.some_literals(self.rng, many), key=abs)
            row = (tuple((1, l) for l in literals), 1)
            if not self.known(rows, row):
                self.refuses(BadRow, shortened, many, rows, row)
                continue
            found = shortened(many, rows, row)
            self.assertTrue(helper.row(many, found) and found[1] == 1)
            self.assertTrue(all(pair in row[0] for pair in found[0]))
            self.assertTrue(self.known(rows, found))
            for pair in found[0]:
                self.assertFalse(self.known(rows, (tuple(other for other in found[0] if other != pair), 1)))
            self.same(shortened(many, tuple(rows), row), found)
            done += 1
            shorter += len(found[0]) < len(row[0])
        self.assertGreater(done, 300)
        self.assertGreater(shorter, 50)

    def test_errors(self):
        self.refuses(BadMany, shortened, 0, None, None)
        for rows in BAD_LISTS:
            self.refuses(BadRows, shortened, 2, rows, None)
        for row in BAD_ROWS + ((((1, 2),), 1), (((2, 1),), 1), (((1, 1),), 0), (((1, 1), (1, 2)), 2), ((), 0), ((), 1)):
            self.refuses(BadRow, shortened, 2, PAIR, row)
