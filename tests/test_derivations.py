from tests import helper
from tests.helper import Case
from tests.test_rows import BAD_MANYS, BAD_ROWS, ROW
from witnesslog.derivations import derived, is_derivation
from witnesslog.errors import BadDerivation, BadMany, BadNamed

START = (((2, 1), (3, 2)), 4)
BIG = 10 ** 40


class DerivedTest(Case):
    def ends_in(self, row, named, derivation, many=3):
        self.same(derived(many, named, derivation), row)
        self.same(derived(many, named, tuple(derivation)), row)
        self.same(is_derivation(many, named, derivation), True)

    def stops_at(self, index, named, derivation, many=3):
        self.refuses(BadDerivation, derived, many, named, derivation, index=index)
        self.same(is_derivation(many, named, derivation), False)

    def test_by_hand(self):
        told = [("row", 0), ("divided", 2), ("weakened", 1), ("capped",)]
        for count, row in enumerate([START, (((1, 1), (2, 2)), 2), (((2, 2),), 1), (((1, 2),), 1)]):
            self.ends_in(row, [START], told[:count + 1])

    def test_two_of_three_pairs(self):
        rows = [(((1, 1), (1, 2)), 1), (((1, 1), (1, 3)), 1), (((1, 2), (1, 3)), 1)]
        told = [("row", 0), ("row", 1), ("sum",), ("row", 2), ("sum",), ("divided", 2)]
        self.ends_in((((1, 1), (1, 2), (1, 3)), 2), rows, told)

    def test_each_kind(self):
        self.ends_in((((1, -2),), 0), [], [("literal", -2)])
        self.ends_in((((10, 1), (15, 2)), 20), [START], [("row", 0), ("times", 5)])
        self.ends_in(START, [START], [("row", 0), ("times", 1)])
        self.ends_in(START, [START], [("row", 0), ("divided", 1)])
        self.ends_in((((1, 1), (1, 2)), 2), [START], [("row", 0), ("divided", 3)])
        self.ends_in((((1, 1), (1, 2)), 1), [START], [("row", 0), ("divided", 10 ** 39)])
        self.ends_in((((1, 1),), 0), [(((7, 1),), 0)], [("row", 0), ("divided", 7)])
        self.ends_in((((1, 1), (3, 2), (3, 3)), 3), [(((1, 1), (3, 2), (9, 3)), 3)], [("row", 0), ("capped",)])
        self.ends_in(((), 0), [(((2, 1),), 0)], [("row", 0), ("capped",)])
        self.ends_in(((), 2), [((), 2)], [("row", 0), ("capped",)])
        self.ends_in((((2, 1),), 1), [START], [("row", 0), ("weakened", 2)])
        self.ends_in((((2, 1),), 0), [(((2, 1), (3, -2)), 2)], [("row", 0), ("weakened", 2)])
        self.ends_in(START, [START], [("row", 0), ("weakened", 3)])
        self.ends_in((((3, 2),), 5), [(((3, 1), (3, -2)), 4), (((3, -1), (6, 2)), 7)],
                     [("row", 0), ("row", 1), ("sum",)])
        self.ends_in(((), 0), [], [("literal", 1), ("literal", -1), ("sum",)])

    def test_sum_takes_the_upper_two(self):
        rows = [(((1, 1),), 1), (((1, 2),), 1), (((1, 3),), 1)]
        told = [("row", 0), ("row", 1), ("row", 2), ("sum",), ("times", 2), ("sum",)]
        self.ends_in((((1, 1), (2, 2), (2, 3)), 5), rows, told)

    def test_upper_row_alone(self):
        rows = [(((1, 1),), 1), (((4, 2),), 2)]
        for word, row in ((("times", 3), (((1, 1), (12, 2)), 7)), (("divided", 2), (((1, 1), (2, 2)), 2)),
                          (("capped",), (((1, 1), (2, 2)), 3)), (("weakened", 2), (((1, 1),), 1))):
            self.ends_in(row, rows, [("row", 0), ("row", 1), word, ("sum",)])

    def test_ten_to_the_forty(self):
        below = BIG - 1
        self.ends_in((((below, 1),), 1), [(((below, 1),), 1)], [("row", 0)])
        self.stops_at(0, [(((BIG, 1),), 1)], [("row", 0)])
        self.ends_in((((1, 1),), below), [(((1, 1),), below)], [("row", 0)])
        self.stops_at(0, [(((1, 1),), BIG)], [("row", 0)])
        half = 5 * 10 ** 39
        self.stops_at(1, [(((half, 1),), 1)], [("row", 0), ("times", 2)])
        self.stops_at(1, [(((1, 1),), half)], [("row", 0), ("times", 2)])
        self.ends_in((((2 * half - 2, 1),), 0), [(((half - 1, 1),), 0)], [("row", 0), ("times", 2)])
        self.ends_in(((), 2 * half - 2), [((), half - 1)], [("row", 0), ("times", 2)])
        self.stops_at(2, [(((half, 1),), 0)], [("row", 0), ("row", 0), ("sum",)])
        self.stops_at(2, [((), half)], [("row", 0), ("row", 0), ("sum",)])
        self.ends_in((((1, 1),), 0), [(((1, 1),), 0)], [("row", 0), ("divided", BIG)])
        # What is put counts, not what is added up for it.
        self.ends_in((((1, 1),), half + 1), [(((half, 1),), half + 1), (((half - 1, -1),), half - 1)],
                     [("row", 0), ("row", 1), ("sum",)])

    def test_second_pair_is_wide(self):
        self.stops_at(0, [(((1, 1), (BIG, 2), (1, 3)), 1)], [("row", 0)])

    def test_number_of_instructions(self):
        told = [("literal", 1)] + [("times", 1)] * 399999
        self.ends_in((((1, 1),), 0), [], told)
        self.stops_at(400000, [], told + [("times", 1)])
        self.stops_at(400000, [], told + [None, None])

    def test_stack_at_the_end(self):
        self.stops_at(0, [START], [])
        self.stops_at(0, [], ())
        self.stops_at(2, [START], [("row", 0), ("row", 0)])
        self.stops_at(4, [START], [("row", 0), ("row", 0), ("row", 0), ("sum",)])

    def test_too_few_rows(self):
        self.stops_at(0, [START], [("sum",)])
        self.stops_at(1, [START], [("row", 0), ("sum",), ("row", 0)])
        self.stops_at(0, [START], [("capped",), ("row", 0)])
        self.stops_at(0, [START], [("times", 2), ("row", 0)])
        self.stops_at(0, [START], [("divided", 2), ("row", 0)])
        self.stops_at(0, [START], [("weakened", 1), ("row", 0)])

    def test_no_instructions(self):
        for bad in (None, 0, True, "row", "sum", (), [], {}, ["row", 0], ["sum"], ("row",), ("row", 0, 0), ("row", 1),
                    ("row", -1), ("row", False), ("row", None), ("row", "0"), ("row", (0,)), ("row", []), ("ROW", 0),
                    (0, "row"), (["row"], 0), ("sum", 0), ("sum", None), ("capped", 1), ("literal",), ("literal", 0),
                    ("literal", 4), ("literal", -4), ("literal", True), ("literal", None), ("times", 0), ("times", -1),
                    ("times", True), ("times",), ("times", 2, 2), ("divided", 0), ("divided", -2), ("divided", True),
                    ("divided", None), ("divided", 2.0), ("weakened", 0), ("weakened", -1), ("weakened", 4),
                    ("weakened", True), ("weakened",), ("weakened", 1, 1), ("doubled",), ("", 0), ("plan", 1), (None,)):
            self.stops_at(2, [START], [("row", 0), ("times", 1), bad, None])

    def test_no_list(self):
        for bad in (None, 0, True, "row", {}, {0: ("row", 0)}, START[1]):
            self.stops_at(0, [START], bad)

    def test_names(self):
        named = {7: START, -3: ROW, 0: ((), 1)}
        for name, row in named.items():
            self.ends_in(row, named, [("row", name)])
        for name in (1, 6, 8, -1, -7):
            self.stops_at(0, named, [("row", name)])
        self.ends_in(ROW, [START, ROW], [("row", 1)])
        self.ends_in(ROW, (START, ROW), [("row", 1)])
        self.stops_at(0, [START, ROW], [("row", 2)])
        self.stops_at(0, [START, ROW], [("row", -1)])
        self.stops_at(0, {}, [("row", 0)])
        self.stops_at(0, {1: START}, [("row", True)])


class ByChanceTest(Case):
    def test_as_the_document_says(self):
        for _ in range(1500):
            many = self.rng.randint(1, 4)
            rows = [helper.some_row(self.rng, many, 9) for _ in range(3)]
            named = rows if self.rng.random() < 0.5 else dict(zip((5, -2, 0), rows))
            told = helper.some_derivation(self.rng, many, list(helper.named_dict(named)), self.rng.randint(1, 12))
            if self.rng.random() < 0.2:
                told.insert(self.rng.randrange(len(told)), self.rng.choice([("sum",), ("row", 3), ("times", 10 ** 39)]))
            word, thing = helper.end(many, helper.named_dict(named), told)
            if word == "bad":
                self.refuses(BadDerivation, derived, many, named, told, index=thing)
            else:
                self.same(derived(many, named, told), thing)
            self.same(is_derivation(many, named, told), word == "end")

    def test_fact(self):
        for _ in range(500):
            many = self.rng.randint(1, 4)
            rows = [helper.some_row(self.rng, many) for _ in range(3)]
            told = helper.some_derivation(self.rng, many, [0, 1, 2], 10)
            row = derived(many, rows, told)
            for filling in helper.where(many, rows):
                self.assertTrue(helper.holds(row, filling))

    def test_of_any_value(self):
        named = {1: START}
        good = [("row", 1), ("literal", -3), ("sum",), ("times", 2), ("divided", 2), ("capped",), ("weakened", 1)]
        self.same(is_derivation(3, named, good), True)
        for thing in helper.odd_values() + helper.variants(good) + helper.variants(tuple(good)):
            self.same(is_derivation(3, named, thing), helper.end(3, named, thing)[0] == "end", thing)


class ErrorsTest(Case):
    def test_left_to_right(self):
        for many in BAD_MANYS:
            self.refuses(BadMany, derived, many, None, None)
            self.refuses(BadMany, is_derivation, many, None, None)
        for named in (None, 0, True, "", START, [START, None], {True: START}, {None: START}, {"0": START}, {0: None},
                      {(1,): START}, {0: list(START)}, [list(START)], {1.0: START}, {0: START, False: None}):
            self.refuses(BadNamed, derived, 3, named, None)
            self.refuses(BadNamed, is_derivation, 3, named, None)
        for row in BAD_ROWS:
            self.refuses(BadNamed, derived, 2, [ROW, row], None)
            self.refuses(BadNamed, derived, 2, {1: row}, None)
        self.refuses(BadDerivation, derived, 3, [START], None, index=0)

    def test_named_parameters(self):
        told = [("row", 0)]
        self.same(derived(many=2, named=[START], derivation=told), START)
        self.same(is_derivation(many=2, named=[START], thing=told), True)

    def test_passed_stays(self):
        named, told = {4: START}, [("row", 4), ("times", 2), ("row", 4), ("sum",)]
        row = derived(2, named, told)
        self.same((named, told), ({4: START}, [("row", 4), ("times", 2), ("row", 4), ("sum",)]))
        named.clear()
        told.clear()
        self.same(row, (((6, 1), (9, 2)), 12))
        rows = [START]
        derived(2, rows, [("row", 0), ("capped",)])
        self.same(rows, [START])
