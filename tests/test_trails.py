from tests import helper
from tests.helper import Case
from tests.test_following import HAND, some_rows
from tests.test_proving import BAD_LISTS, BAD_LITERALS
from tests.test_rows import BAD_MANYS, ROW
from witnesslog.derivations import derived, is_derivation
from witnesslog.errors import BadChoices, BadLevel, BadLiterals, BadMany, BadRows, BadSpot, BadTrail
from witnesslog.proving import is_refutation
from witnesslog.trails import (clash_paper, is_trail, is_whole, levels, literals_to, reason_paper, reason_row,
                               trail_of)

CLASHING = HAND + [(((1, -1), (1, -2), (1, -3)), 1)]
TRAIL = ((2, None), (1, 0), (3, 1))


def trail(many, rows, thing):
    """Whether thing is a trail, as the document says it."""
    if type(thing) is not tuple:
        return False
    ahead = []
    for pair in thing:
        if type(pair) is not tuple or len(pair) != 2 or not helper.literal(many, pair[0]):
            return False
        l, reason = pair
        if l in ahead or -l in ahead:
            return False
        if reason is not None:
            if not helper.number(reason) or not 0 <= reason < len(rows):
                return False
            if l not in helper.forced(rows[reason], ahead):
                return False
        ahead.append(l)
    return True


def whole(many, rows, thing):
    if not trail(many, rows, thing):
        return False
    return all(helper.followed(rows, [l for l, _ in thing[:k]]) == ((), None)
               for k, (_, reason) in enumerate(thing) if reason is None)


def chosen_trail(rows, choices):
    """trail_of, worked off by hand."""
    steps, clash = helper.followed(rows, [])
    found = list(steps)
    for choice in choices:
        on = [l for l, _ in found]
        if clash is None and choice not in on and -choice not in on:
            found.append((choice, None))
            steps, clash = helper.followed(rows, on + [choice])
            found.extend(steps)
    return (tuple(found), clash)


def some_trail(rng, many, rows):
    """A trail by chance, mostly not whole, that may go on behind a row that bars."""
    found, ahead = [], []
    for _ in range(rng.randint(0, many + 2)):
        forced = [(l, k) for k, row in enumerate(rows) for l in helper.forced(row, ahead)]
        free = [(l, None) for l in range(-many, many + 1) if l and l not in ahead and -l not in ahead]
        pairs = forced if forced and rng.random() < 0.6 else free
        if pairs:
            found.append(rng.choice(pairs))
            ahead.append(found[-1][0])
    return tuple(found)


class TrailTest(Case):
    def test_by_hand(self):
        self.same(is_trail(3, HAND, TRAIL), True)
        self.same(is_whole(3, HAND, TRAIL), False)
        self.same(is_whole(3, HAND, ((1, 0), (2, None), (3, 1))), True)
        self.same(is_trail(many=3, rows=HAND, thing=()), True)
        self.same(is_whole(many=3, rows=HAND, thing=()), True)
        self.same(is_whole(3, HAND, None), False)
        self.same(is_trail(3, HAND, ((2, None), (3, 1), (1, 0))), True)
        self.same(is_trail(3, HAND, ((3, 1), (2, None))), False)
        self.same(is_trail(3, HAND, ((1, 0), (1, 0))), False)
        self.same(is_trail(3, HAND, ((1, 0), (-1, None))), False)
        self.same(is_trail(3, HAND, ((1, -2),)), False)
        self.same(is_trail(3, HAND, ((1, 2),)), False)
        self.same(is_trail(3, HAND, ((1, False),)), False)
        self.same(is_trail(3, [], ((1, None), (-3, None))), True)
        self.same(is_trail(1, [], ((1, 0),)), False)

    def test_of_any_value(self):
        for thing in helper.odd_values():
            self.same(is_trail(2, [ROW], thing), trail(2, [ROW], thing), thing)
            self.same(is_whole(2, [ROW], thing), whole(2, [ROW], thing), thing)
        for good in (TRAIL, ((1, 0), (2, None), (3, 1)), ((-2, None), (1, 0))):
            self.same(is_trail(3, HAND, good), True)
            for thing in helper.variants(good):
                self.same(is_trail(3, HAND, thing), trail(3, HAND, thing), thing)
                self.same(is_whole(3, HAND, thing), whole(3, HAND, thing), thing)

    def test_by_chance(self):
        counts = {True: 0, False: 0}
        for _ in range(1000):
            many = self.rng.randint(1, 4)
            rows = some_rows(self.rng, many)
            thing = some_trail(self.rng, many, rows)
            self.same(is_trail(many, rows, thing), True)
            self.same(is_whole(many, rows, thing), whole(many, rows, thing), (rows, thing))
            counts[whole(many, rows, thing)] += 1
            for other in (thing[::-1], thing[1:], tuple((l, 0) for l, _ in thing)):
                self.same(is_trail(many, rows, other), trail(many, rows, other), (rows, other))
        self.assertTrue(min(counts.values()) > 100)

    def test_bars_ahead_of_a_choice(self):
        self.same(is_whole(2, [((), 1)], ((1, None),)), False)
        self.same(is_trail(2, [((), 1)], ((1, None),)), True)
        self.same(is_whole(2, [((), 1)], ()), True)

    def test_errors(self):
        for call in (is_trail, is_whole, trail_of, levels):
            for many in BAD_MANYS:
                self.refuses(BadMany, call, many, None, None)
            for rows in BAD_LISTS:
                self.refuses(BadRows, call, 2, rows, None)
        for call in (literals_to, reason_row, reason_paper):
            for many in BAD_MANYS:
                self.refuses(BadMany, call, many, None, None, None)
            for rows in BAD_LISTS:
                self.refuses(BadRows, call, 2, rows, None, None)
        for bad in (None, [], [(1, 0)], ((1, 1),), ([1, 0],), ((3, 0),), ((1, True),), ((2, None), (2, None)), {}):
            self.refuses(BadTrail, levels, 3, HAND, bad)
            for call in (literals_to, reason_row, reason_paper):
                self.refuses(BadTrail, call, 3, HAND, bad, None)
        for level in (-1, 2, None, True, False, "0", [0]):
            self.refuses(BadLevel, literals_to, 3, HAND, TRAIL, level)
        for spot in (-1, 0, 3, None, True, False, "1", (1,)):
            self.refuses(BadSpot, reason_row, 3, HAND, TRAIL, spot)
            self.refuses(BadSpot, reason_paper, 3, HAND, TRAIL, spot)
        self.refuses(BadSpot, reason_row, 3, HAND, (), 0)
        for choices in (None, 0, "", {}, [0], [4], [-4], [True], [None], ["1"], [[1]]):
            self.refuses(BadChoices, trail_of, 3, HAND, choices)


class TrailOfTest(Case):
    def test_by_hand(self):
        self.same(trail_of(3, HAND, [2]), (((1, 0), (2, None), (3, 1)), None))
        self.same(trail_of(3, CLASHING, (2,)), (((1, 0), (2, None), (3, 1)), 2))
        self.same(trail_of(3, CLASHING, [1, -1, -3, 2]), (((1, 0), (-3, None), (2, 0)), 1))
        self.same(trail_of(many=3, rows=HAND, choices=()), (((1, 0),), None))
        self.same(trail_of(2, [((), 1)], [1, 2]), ((), 0))
        self.same(trail_of(2, [], [1, 1, -1, -2, 2]), (((1, None), (-2, None)), None))

    def test_by_chance(self):
        clashes = 0
        for _ in range(1000):
            many = self.rng.randint(1, 5)
            rows = some_rows(self.rng, many)
            choices = [self.rng.choice([l for l in range(-many, many + 1) if l])
                       for _ in range(self.rng.randint(0, 7))]
            found = trail_of(many, rows, choices)
            self.same(found, chosen_trail(rows, choices), (rows, choices))
            self.same(trail_of(many, tuple(rows), tuple(choices)), found)
            self.same(is_whole(many, rows, found[0]), True)
            clashes += found[1] is not None
        self.assertTrue(200 < clashes < 800)

    def test_passed_stays(self):
        rows, choices = list(HAND), [2]
        found = trail_of(3, rows, choices)
        self.same((rows, choices), (HAND, [2]))
        rows.clear()
        choices.clear()
        self.same(found, (((1, 0), (2, None), (3, 1)), None))


class AlongTrailTest(Case):
    def test_by_hand(self):
        self.same(levels(3, HAND, TRAIL), [0, 3])
        self.same(levels(3, HAND, ()), [0])
        self.same(literals_to(3, HAND, TRAIL, 0), ())
        self.same(literals_to(3, HAND, TRAIL, 1), (2, 1, 3))
        self.same(literals_to(3, HAND, (), 0), ())
        self.same(reason_row(3, HAND, TRAIL, 2), (((1, -2), (1, 3)), 1))
        self.same(reason_row(3, HAND, TRAIL, 1), (((1, 1),), 1))
        self.same(levels(many=3, rows=HAND, trail=TRAIL), [0, 3])
        self.same(literals_to(many=3, rows=HAND, trail=TRAIL, level=0), ())
        self.same(reason_row(many=3, rows=HAND, trail=TRAIL, spot=1), (((1, 1),), 1))
        self.same(derived(3, HAND, reason_paper(many=3, rows=HAND, trail=TRAIL, spot=1)), (((1, 1),), 1))

    def test_all_levels_and_spots(self):
        for _ in range(800):
            many = self.rng.randint(1, 5)
            rows = some_rows(self.rng, many)
            thing = some_trail(self.rng, many, rows)
            level_of = [sum(reason is None for _, reason in thing[:k + 1]) for k in range(len(thing))]
            most = max(level_of, default=0)
            self.same(levels(many, rows, thing), [level_of.count(k) for k in range(most + 1)])
            for level in range(most + 1):
                self.same(literals_to(many, rows, thing, level),
                          tuple(l for (l, _), own in zip(thing, level_of) if own <= level))
            self.refuses(BadLevel, literals_to, many, rows, thing, most + 1)
            for spot, (l, reason) in enumerate(thing):
                if reason is None:
                    self.refuses(BadSpot, reason_row, many, rows, thing, spot)
                    self.refuses(BadSpot, reason_paper, many, rows, thing, spot)
                    continue
                self.check_reason(many, rows, thing, spot)

    def check_reason(self, many, rows, thing, spot):
        l, reason = thing[spot]
        ahead = [other for other, _ in thing[:spot]]
        wanted = (tuple((1, other) for _, other in rows[reason][0] if other == l or -other in ahead), 1)
        row = reason_row(many, rows, thing, spot)
        self.same(row, wanted)
        self.assertTrue(all(helper.holds(row, at) for at in helper.where(many, [rows[reason]])))
        paper = reason_paper(many, rows, thing, spot)
        self.same(derived(many, rows, paper), row)
        self.assertTrue(len(paper) <= many + 7)

    def test_long_reasons(self):
        row = (tuple((10 ** 29 + v, v) for v in range(1, 601)), 10 ** 29 + 1)
        thing = tuple((-v, None) for v in range(1, 600)) + ((600, 0),)
        paper = reason_paper(600, [row], thing, 599)
        self.same(derived(600, [row], paper), (tuple((1, v) for v in range(1, 601)), 1))
        row = (tuple((10 ** 29, v) for v in range(1, 601)), 600 * 10 ** 29)
        paper = reason_paper(600, [row], ((1, 0),), 0)
        self.same(derived(600, [row], paper), (((1, 1),), 1))
        self.assertTrue(len(paper) <= 607)


class ClashPaperTest(Case):
    def test_by_hand(self):
        paper = clash_paper(3, CLASHING, (2,))
        self.same(derived(3, CLASHING, paper), (((1, -2),), 1))
        self.assertTrue(len(paper) <= 3 * 12)
        self.same(clash_paper(3, HAND, (2,)), None)
        self.same(derived(1, [((), 5)], clash_paper(many=1, rows=[((), 5)], literals=[1])), ((), 1))

    def test_by_chance(self):
        counts = {True: 0, False: 0}
        for _ in range(1500):
            many = self.rng.randint(1, 5)
            rows = [helper.some_row(self.rng, many, self.rng.choice((2, 9, 10 ** 30 - 1)))
                    for _ in range(self.rng.randint(0, 6))]
            literals = helper.some_literals(self.rng, many, self.rng.randint(0, min(2, many)))
            steps, clash = helper.followed(rows, literals)
            paper = clash_paper(many, rows, literals)
            self.same(clash_paper(many, tuple(rows), tuple(literals)), paper)
            counts[paper is None] += 1
            self.assertEqual(paper is None, clash is None)
            if paper is not None:
                pairs, bound = derived(many, rows, paper)
                self.same(bound, 1)
                self.assertTrue(all(weight == 1 and -l in literals for weight, l in pairs))
                self.assertTrue(len(paper) <= (len(steps) + 1) * (many + 9))
        self.assertTrue(min(counts.values()) > 200)

    def test_refuted_rows(self):
        for _ in range(300):
            many = self.rng.randint(1, 4)
            rows = some_rows(self.rng, many)
            if helper.followed(rows, [])[1] is not None:
                self.same(is_refutation(many, rows, clash_paper(many, rows, [])), True)
                continue
            for l in range(1, many + 1):
                one, other = clash_paper(many, rows, (l,)), clash_paper(many, rows, (-l,))
                if one is not None and other is not None:
                    self.same(derived(many, rows, one + other + [("sum",)]), ((), 1))

    def test_chains(self):
        rows = [(((1, -v), (1, v + 1)), 1) for v in range(1, 400)] + [(((1, -1), (1, -400)), 1)]
        paper = clash_paper(600, rows, (1,))
        self.same(derived(600, rows, paper), (((1, -1),), 1))
        self.assertTrue(len(paper) <= 400 * 609)
        wide = tuple((10 ** 29, v) for v in range(1, 601))
        rows = [(wide, 600 * 10 ** 29), (tuple((w, -l) for w, l in wide), 1)]
        paper = clash_paper(600, rows, [])
        self.same(derived(600, rows, paper), ((), 1))
        self.assertTrue(len(paper) <= 601 * 609)

    def test_names_stand_for_all_rows(self):
        paper = clash_paper(3, CLASHING, (2,))
        self.same(is_derivation(3, CLASHING, paper), True)
        self.same(is_derivation(3, dict(enumerate(CLASHING)), paper), True)

    def test_errors(self):
        for many in BAD_MANYS:
            self.refuses(BadMany, clash_paper, many, None, None)
        for rows in BAD_LISTS:
            self.refuses(BadRows, clash_paper, 2, rows, None)
        for literals in BAD_LITERALS:
            self.refuses(BadLiterals, clash_paper, 2, [ROW], literals)
