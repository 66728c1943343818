from tests import helper
from tests.helper import Case
from tests.test_following import some_rows
from tests.test_going_back import covers
from tests.test_orders import BAD_ORDERS, HAND, some_order
from tests.test_rows import BAD_MANYS, BAD_ROWS, ROW
from witnesslog.errors import BadMany, BadNamed, BadOrder, BadPrice, BadRow, BadWitness
from witnesslog.goals import dominance_goals, strict_rows, unmet, witness_goals
from witnesslog.orders import rows_at
from witnesslog.witnesses import led_filling, led_row

KNOWN = {1: (((1, 1), (1, 2)), 1), 0: (((1, -1),), 0), 7: (((2, -2),), 1), 3: ((), 0)}
PRICE = (((3, 1), (1, -2)), 5)
BAD_KNOWNS = (None, 0, [], (), [ROW], (ROW,), "", {True: ROW}, {None: ROW}, {"1": ROW}, {(1,): ROW}, {1: None},
              {1: list(ROW)}, {1: ((), True)}, {1: (((1, 3),), 1)}, {False: ((), 0)})
BAD_PRICES = (None, 0, (), ((),), ((), True), ((), None), ([], 0), [(), 0], ((), 0, 0), (((1, 3),), 0), (((0, 1),), 0))
BAD_WITNESSES = (None, 0, [1, 2], (1,), (1, 2, 2), (1, 3), (1, 0), (1, True), (1, "maybe"), (1, None), {}, "no")


def price_goal(many, pairs, witness):
    """The row that says that the led price is not above the price, by what it must say."""
    images = [witness[abs(l) - 1] for _, l in pairs]
    sums, bound = list(pairs), 0
    for (w, l), image in zip(pairs, images):
        if image in ("yes", "no"):
            bound += w if (image == "yes") == (l > 0) else 0
        else:
            sums.append((-w, image if l > 0 else -image))
    return helper.normal(many, sums, bound)


def told_goals(many, known, price, order, witness, own):
    """The goals in their sequence; own is None, or the row that is led."""
    found = {("row", k): led_row(many, witness, known[k]) for k in sorted(known) if k != 0}
    if own is not None:
        found[("own",)] = led_row(many, witness, own)
    found[("price",)] = price_goal(many, price[0], witness)
    same = tuple(range(1, many + 1))
    for k, row in enumerate(rows_at(many, order, witness, same)):
        found[("order", k)] = row
    return found


def met(assumed, goal):
    """Whether goal is met without papers by the assumed rows, a list."""
    if goal[1] == 0 or any(covers(row, goal) for row in assumed):
        return True
    return helper.followed(list(assumed) + [helper.opposite(goal)], [])[1] is not None


class GoalsTest(Case):
    def test_by_hand(self):
        found = witness_goals(2, KNOWN, PRICE, HAND, ROW, (2, "yes"))
        self.same(found, {
            ("row", 1): (((1, 2),), 0), ("row", 3): ((), 0), ("row", 7): ((), 1), ("own",): (((2, 2),), 4),
            ("price",): (((3, 1), (4, -2)), 3), ("order", 0): (((2, 1), (1, -2)), 2)})
        self.same(list(found), [("row", 1), ("row", 3), ("row", 7), ("own",), ("price",), ("order", 0)])
        found = dominance_goals(many=2, core=KNOWN, price=PRICE, order=HAND, row=ROW, witness=(2, "yes"))
        self.same(list(found), [("row", 1), ("row", 3), ("row", 7), ("price",), ("order", 0)])
        self.same(strict_rows(many=2, order=HAND, witness=(2, "yes")), [(((2, -1), (1, 2)), 1)])
        self.same(strict_rows(2, ((), ()), (2, 1)), [])
        self.same(witness_goals(many=2, known={}, price=((), 0), order=((), ()), row=((), 0), witness=(1, 2)),
                  {("own",): ((), 0), ("price",): ((), 0)})

    def test_as_described(self):
        for _ in range(300):
            many = self.rng.randint(1, 3)
            names = self.rng.sample(range(-3, 9), self.rng.randint(0, 4))
            known = {name: helper.some_row(self.rng, many) for name in names}
            price = (helper.some_row(self.rng, many)[0], self.rng.randint(-5, 5))
            thing, witness = some_order(self.rng, many), helper.some_witness(self.rng, many)
            row = helper.some_row(self.rng, many)
            wanted = told_goals(many, known, price, thing, witness, row)
            self.same(witness_goals(many, known, price, thing, row, witness), wanted)
            del wanted[("own",)]
            self.same(dominance_goals(many, known, price, thing, row, witness), wanted)
            strict = strict_rows(many, thing, witness)
            self.same(strict, rows_at(many, thing, tuple(range(1, many + 1)), witness))
            for at in helper.all_fillings(many):
                led = led_filling(many, witness, at)
                self.assertEqual(helper.holds(wanted[("price",)], at),
                                 helper.comes_to(price[0], led) <= helper.comes_to(price[0], at))

    def test_unmet(self):
        count = 0
        for _ in range(600):
            many = self.rng.randint(1, 4)
            rows = some_rows(self.rng, many, 4)
            known = dict(zip(self.rng.sample(range(-5, 5), len(rows)), rows))
            row = helper.some_row(self.rng, many)
            goals = {k: helper.some_row(self.rng, many, 4, 3) for k in self.rng.sample(range(9), 4)}
            goals["text"] = self.rng.choice(rows + [row, helper.opposite(row)])
            goals[("own", None)] = ((), 0)
            assumed = [known[k] for k in sorted(known)] + [helper.opposite(row)]
            found = unmet(many, known, row, goals)
            self.same(found, [key for key in goals if not met(assumed, goals[key])])
            count += len(found)
        self.assertGreater(count, 100)

    def test_unmet_by_hand(self):
        goals = {"b": (((1, 2),), 1), "a": (((1, 1),), 1), 5: (((1, 1), (1, 2)), 1), (): ((), 0)}
        self.same(unmet(2, KNOWN, (((1, 1),), 0), goals), [])
        self.same(unmet(2, {1: KNOWN[1]}, (((1, 1),), 1), goals), ["a"])
        self.same(unmet(many=2, known={}, row=((), 1), goals=goals), ["b", "a", 5])
        self.same(unmet(2, {-1: (((1, 2),), 1)}, ((), 1), goals), ["a"])
        # Covered by no row, and yet refuted by following.
        self.same(unmet(2, {4: (((1, 1),), 1), 2: (((1, -1), (1, 2)), 1)}, ((), 1), {1: (((1, 2),), 1)}), [])

    def test_covered_but_not_followed(self):
        known = {1: (tuple((1, v) for v in range(1, 6)), 3)}
        goals = {"more": (tuple((1, v) for v in range(1, 7)), 3), "less": (tuple((1, v) for v in range(2, 6)), 2),
                 "not": (tuple((1, v) for v in range(1, 6)) + ((1, -6),), 4)}
        for goal in goals.values():
            self.assertIsNone(helper.followed([known[1], helper.opposite(goal)], [])[1])
        self.same(unmet(6, known, (((1, 6),), 0), {}), [])
        self.same(unmet(6, known, (((1, -6),), 1), goals), ["not"])
        # The opposite of the row covers a goal as well.
        self.same(unmet(6, {}, helper.opposite(known[1]), goals), ["not"])

    def test_errors(self):
        for many in BAD_MANYS:
            self.refuses(BadMany, witness_goals, many, None, None, None, None, None)
            self.refuses(BadMany, dominance_goals, many, None, None, None, None, None)
            self.refuses(BadMany, strict_rows, many, None, None)
            self.refuses(BadMany, unmet, many, None, None, None)
        for known in BAD_KNOWNS:
            self.refuses(BadNamed, unmet, 2, known, None, None)
        for call in (witness_goals, dominance_goals):
            for known in BAD_KNOWNS:
                self.refuses(BadNamed, call, 2, known, None, None, None, None)
            for price in BAD_PRICES:
                self.refuses(BadPrice, call, 2, KNOWN, price, None, None, None)
            for thing in BAD_ORDERS:
                self.refuses(BadOrder, call, 2, KNOWN, PRICE, thing, None, None)
            for row in BAD_ROWS:
                self.refuses(BadRow, call, 2, KNOWN, PRICE, HAND, row, None)
            for witness in BAD_WITNESSES:
                self.refuses(BadWitness, call, 2, KNOWN, PRICE, HAND, ROW, witness)
        for thing in BAD_ORDERS:
            self.refuses(BadOrder, strict_rows, 2, thing, None)
        for witness in BAD_WITNESSES:
            self.refuses(BadWitness, strict_rows, 2, HAND, witness)
        for row in BAD_ROWS:
            self.refuses(BadRow, unmet, 2, KNOWN, row, None)
        for goals in (None, 0, [], (), [ROW], {1: None}, {1: list(ROW)}, {"a": ROW, "b": ((), True)}):
            self.refuses(BadNamed, unmet, 2, KNOWN, ROW, goals)
