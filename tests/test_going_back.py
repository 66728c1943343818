from tests import helper
from tests.helper import Case
from tests.test_following import some_rows
from tests.test_learning import LEARNED, PAIR, TRAIL, barring_trails, level_back, levels_of, loose_rows, wide
from tests.test_proving import BAD_LISTS, parity
from tests.test_rows import BAD_MANYS, BAD_ROWS
from tests.test_trails import chosen_trail, trail, whole
from witnesslog.derivations import derived
from witnesslog.errors import BadChoices, BadMany, BadRow, BadRows, BadTrail, NoClash
from witnesslog.going_back import gone_back, is_new, settled
from witnesslog.learning import learned


def covers(one, other):
    weights = {l: w for w, l in other[0]}
    return one[1] - sum(max(0, w - weights.get(l, 0)) for w, l in one[0]) >= other[1]


def level_counts(thing):
    counts = [0]
    for _, reason in thing:
        if reason is None:
            counts.append(0)
        counts[-1] += 1
    return counts


class GoneBackTest(Case):
    def test_by_hand(self):
        self.same(gone_back(2, PAIR, TRAIL, LEARNED[0]), (((1, 2),), None))
        self.same(gone_back(many=2, rows=PAIR, trail=TRAIL, row=PAIR[1]), (TRAIL, 1))
        self.same(is_new(2, PAIR, LEARNED[0]), True)
        self.same(is_new(many=2, rows=PAIR, row=PAIR[1]), False)
        self.same(is_new(2, PAIR, (((2, 1), (1, 2)), 1)), False)
        self.same(is_new(2, [], ((), 0)), True)
        self.same(is_new(2, [((), 0)], ((), 0)), False)

    def test_is_new(self):
        for _ in range(1000):
            many = self.rng.randint(1, 3)
            rows = some_rows(self.rng, many)
            row = helper.some_row(self.rng, many)
            self.same(is_new(many, rows, row), not any(covers(one, row) for one in rows))

    def test_as_described(self):
        for many, rows, thing in barring_trails(self.rng, 300):
            on = [l for l, _ in thing]
            for row in rows + [helper.some_row(self.rng, many) for _ in range(3)]:
                if helper.slack(row, on) >= 0:
                    self.refuses(NoClash, gone_back, many, rows, thing, row)
                    continue
                kept = thing[:len(levels_of(thing)[level_back(thing, row)])]
                steps, clash = helper.followed(list(rows) + [row], [l for l, _ in kept])
                self.same(gone_back(many, rows, thing, row), (kept + steps, clash))

    def test_progress(self):
        done = 0
        for many, rows, thing in barring_trails(self.rng, 600):
            before = level_counts(thing)
            if len(before) == 1 or not whole(many, rows, thing):
                continue
            done += 1
            row, _, level = learned(many, rows, thing)
            self.same(is_new(many, rows, row), True)
            found, clash = gone_back(many, rows, thing, row)
            self.assertTrue(trail(many, rows + [row], found))
            if clash is None or len(found) > sum(before[:level + 1]):
                after = level_counts(found)
                self.assertTrue(whole(many, rows + [row], found))
                self.assertEqual(len(after), level + 1)
                self.assertEqual(after[:level], before[:level])
                self.assertGreater(after[level], before[level])
        self.assertGreater(done, 100)

    def test_errors(self):
        for many in BAD_MANYS:
            self.refuses(BadMany, is_new, many, None, None)
            self.refuses(BadMany, gone_back, many, None, None, None)
        for rows in BAD_LISTS:
            self.refuses(BadRows, is_new, 2, rows, None)
            self.refuses(BadRows, gone_back, 2, rows, None, None)
        for row in BAD_ROWS:
            self.refuses(BadRow, is_new, 2, PAIR, row)
            self.refuses(BadRow, gone_back, 2, PAIR, TRAIL, row)
        for thing in (None, [], list(TRAIL), ((1, 0),), ((-1, None), (2, 1)), ((True, None),), ((-1, False),)):
            self.refuses(BadTrail, gone_back, 2, PAIR, thing, None)
        self.refuses(NoClash, gone_back, 2, PAIR, TRAIL, PAIR[0])


class SettledTest(Case):
    def check(self, many, rows, choices):
        found = settled(many, rows, choices)
        self.assertIs(type(found), tuple)
        word, thing, more = found
        self.assertIs(type(more), tuple)
        known = list(rows)
        for row, derivation in more:
            self.assertFalse(any(covers(one, row) for one in known))
            self.assertTrue(helper.row(many, row))
            self.same(derived(many, known, derivation), row)
            known.append(row)
        for row in known:
            for at in helper.where(many, rows) if many <= 6 else []:
                self.assertTrue(helper.holds(row, at))
        if word == "none":
            self.assertTrue(helper.impossible(derived(many, known, thing)))
            self.assertTrue(many > 6 or helper.where(many, rows) == [])
        else:
            self.assertEqual(word, "filling")
            self.assertTrue(helper.filling(many, thing))
            self.assertTrue(all(helper.holds(row, thing) for row in rows))
            on, clash = chosen_trail(known, choices)
            self.assertIsNone(clash)
            self.assertTrue(all(helper.worth(l, thing) for l, _ in on))
        return word

    def test_small(self):
        words = []
        for k in range(500):
            many = self.rng.randint(1, 5)
            rows = some_rows(self.rng, many, 9) if k % 2 else loose_rows(self.rng, many, 4 * many)
            choices = [self.rng.choice([l for l in range(-many, many + 1) if l]) for _ in range(self.rng.randint(0, 7))]
            words.append(self.check(many, wide(self.rng, rows) if k % 3 == 0 else rows, choices))
        self.assertGreater(words.count("none"), 50)
        self.assertGreater(words.count("filling"), 50)

    def test_parity(self):
        for many in range(2, 6):
            for choices in ([], [1, 2], (-2, 1, -1)):
                rows = parity(many, True)
                self.assertEqual(self.check(many, rows, choices), "filling")
                self.assertEqual(self.check(many, rows + parity(many, False), choices), "none")

    def test_wide_rows_learned_from_learned_rows(self):
        # Rows of thirty digits that leave no filling, so that much is learned.
        for k in range(6):
            rows = wide(self.rng, [helper.some_row(self.rng, 8, 9, 8) for _ in range(12)])
            rows = [(row[0], min(row[1], helper.weights(row) * 3 // 5)) for row in rows]
            self.check(8, rows, helper.some_literals(self.rng, 8))

    def test_by_hand(self):
        self.assertEqual(self.check(2, PAIR, [-1]), "filling")
        self.assertEqual(settled(many=2, rows=PAIR, choices=[-1])[1][0], 1)
        self.assertEqual(self.check(2, PAIR + [(((1, -1),), 1)], [-1]), "none")
        self.assertEqual(settled(1, [], [1]), ("filling", (1,), ()))
        self.assertEqual(settled(1, [], [-1]), ("filling", (0,), ()))
        self.assertEqual(self.check(600, [(((1, 300), (1, 600)), 1)], [-600]), "filling")

    def test_errors(self):
        for many in BAD_MANYS:
            self.refuses(BadMany, settled, many, None, None)
        for rows in BAD_LISTS:
            self.refuses(BadRows, settled, 2, rows, None)
        for choices in (None, {}, "", 1, [0], [3], [True], [None], ["1"], [[1]], (1, -3)):
            self.refuses(BadChoices, settled, 2, PAIR, choices)
