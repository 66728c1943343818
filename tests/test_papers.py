from tests import helper
from tests.helper import Case
from tests.test_rows import BAD_MANYS, BAD_ROWS, ROW
from witnesslog.derivations import derived
from witnesslog.errors import BadGoal, BadMany, BadNamed, BadPaper, TooMany
from witnesslog.papers import flat, is_paper, results

A_OR_B = (((1, 1), (1, 2)), 1)
A_OR_NOT_B = (((1, 1), (1, -2)), 1)
A = (((1, 1),), 1)
ROWS = [A_OR_B, A_OR_NOT_B]
HALVED = [("row", 0), ("row", 1), ("sum",), ("divided", 2)]
BAD_NAMEDS = (None, 0, True, "", ROW, {True: ROW}, {None: ROW}, {"0": ROW}, {0: None}, [None], [list(ROW)],
              {(0,): ROW}, {0: ROW, 1: list(ROW)})


def some_named(rng, many):
    """Rows by chance, as a list, or as a dict with gaps among its names."""
    rows = [helper.some_row(rng, many) for _ in range(rng.randint(0, 3))]
    return rows if rng.random() < 0.5 else dict(zip(rng.sample(range(-5, 9), len(rows)), rows))


def some_paper(rng, many, named, length):
    names = list(helper.named_dict(named))
    paper = []
    for k in range(length):
        told = helper.some_derivation(rng, many, names, rng.randint(1, 5))
        paper.append(tuple(told) if rng.random() < 0.5 else told)
        names.append(helper.free(named) + k)
    return tuple(paper)


class ResultsTest(Case):
    def test_names_of_results(self):
        paper = (HALVED, [("row", 2), ("times", 3)], [("row", 3), ("row", 2), ("sum",)])
        self.same(results(2, ROWS, paper), [A, (((3, 1),), 3), (((4, 1),), 4)])
        self.same(results(2, tuple(ROWS), tuple(tuple(told) for told in paper)), [A, (((3, 1),), 3), (((4, 1),), 4)])

    def test_gaps(self):
        named = {9: A_OR_NOT_B, 4: A_OR_B}
        halved = [("row", 4), ("row", 9), ("sum",), ("divided", 2)]
        self.same(results(2, named, (halved, [("row", 10)], [("row", 11)])), [A, A, A])
        for name in (0, 2, 5, 8, 12):
            self.refuses(BadPaper, results, 2, named, (halved, [("row", 10)], [("row", name)]), index=2)
        self.same(results(2, {-7: A, -9: ROW}, ([("row", -7)], [("row", -6)], [("row", -5)])), [A, A, A])
        self.same(results(2, {-1: A}, ([("row", -1)], [("row", 0)])), [A, A])

    def test_nothing_named(self):
        for named in ([], (), {}):
            self.same(results(2, named, ([("literal", 1)], [("row", 0), ("times", 2)], [("row", 1)])),
                      [(((1, 1),), 0), (((2, 1),), 0), (((2, 1),), 0)])
            self.refuses(BadPaper, results, 2, named, ([("row", 0)],), index=0)

    def test_no_later_results(self):
        self.refuses(BadPaper, results, 2, ROWS, ([("row", 2)],), index=0)
        self.refuses(BadPaper, results, 2, ROWS, (HALVED, [("row", 3)], HALVED), index=1)

    def test_bad_paper(self):
        for bad in (None, 0, True, "", (), [], [HALVED], {0: HALVED}, HALVED[0][:0]):
            self.refuses(BadPaper, results, 2, ROWS, bad, index=0)
            self.refuses(BadPaper, flat, 2, ROWS, bad, index=0)
        for bad in (None, 0, "", [], (), {}, ("row", 0), [("row", True)], [("row", 0), ("row", 0)], [["row", 0]]):
            self.refuses(BadPaper, results, 2, ROWS, (bad,), index=0)
            self.refuses(BadPaper, results, 2, ROWS, (HALVED, HALVED, bad, bad), index=2)
            self.refuses(BadPaper, flat, 2, ROWS, (HALVED, HALVED, bad), index=2)

    def test_length(self):
        one = (("literal", 1),)
        self.same(len(results(1, [], (one,) * 5000)), 5000)
        self.refuses(BadPaper, results, 1, [], (one,) * 5001, index=0)
        self.same(is_paper(1, [], (((1, 1),), 0), (one,) * 5000), True)
        self.same(is_paper(1, [], (((1, 1),), 0), (one,) * 5001), False)

    def test_by_chance(self):
        for _ in range(500):
            many = self.rng.randint(1, 3)
            named = some_named(self.rng, many)
            paper = some_paper(self.rng, many, named, self.rng.randint(1, 6))
            if self.rng.random() < 0.2:
                paper += ([("row", self.rng.randint(-3, 12))],)
            word, thing = helper.ends(many, named, paper)
            if word == "bad":
                self.refuses(BadPaper, results, many, named, paper, index=thing)
            else:
                self.same(results(many, named, paper), thing)

    def test_passed_stays(self):
        named = {3: A}
        told = [("row", 3)]
        found = results(2, named, (told, [("row", 4)]))
        self.same((named, told), ({3: A}, [("row", 3)]))
        found.append(None)
        self.same(results(2, named, (told, [("row", 4)])), [A, A])


class IsPaperTest(Case):
    def test_goal(self):
        self.same(is_paper(2, ROWS, A, (HALVED,)), True)
        self.same(is_paper(2, ROWS, A, (HALVED, [("row", 0)])), False)
        self.same(is_paper(2, ROWS, A_OR_B, (HALVED, [("row", 0)])), True)
        for goal in (A_OR_B, (((1, 1),), 0), (((2, 1),), 2), ((), 0)):
            self.same(is_paper(2, ROWS, goal, (HALVED,)), False)
        self.same(is_paper(many=2, named=ROWS, goal=A, thing=(HALVED,)), True)

    def test_of_any_value(self):
        paper = (HALVED, [("row", 2)])
        for thing in helper.odd_values() + helper.variants(paper) + [(other,) for other in helper.odd_values()]:
            word, found = helper.ends(2, ROWS, thing)
            self.same(is_paper(2, ROWS, A, thing), word == "ends" and found[-1] == A, thing)
        self.same(is_paper(2, [], (((1, 1),), 0), ([("literal", 1)],)), True)

    def test_errors(self):
        for many in BAD_MANYS:
            self.refuses(BadMany, is_paper, many, None, None, None)
        for named in BAD_NAMEDS:
            self.refuses(BadNamed, is_paper, 2, named, None, None)
        for goal in BAD_ROWS:
            self.refuses(BadGoal, is_paper, 2, ROWS, goal, None)


class FlatTest(Case):
    def test_by_hand(self):
        paper = (HALVED, [("row", 0)], [("row", 2), ("row", 2), ("sum",)], [("row", 4), ("times", 2)])
        found = flat(2, ROWS, paper)
        self.same(found, HALVED + HALVED + [("sum",), ("times", 2)])
        self.same(derived(2, ROWS, found), (((4, 1),), 4))
        self.same(flat(many=2, named=ROWS, paper=(tuple(HALVED),)), HALVED)

    def test_by_chance(self):
        for _ in range(500):
            many = self.rng.randint(1, 3)
            named = some_named(self.rng, many)
            paper = some_paper(self.rng, many, named, self.rng.randint(1, 7))
            word, thing = helper.ends(many, named, paper)
            if word == "ends":
                found = flat(many, named, paper)
                self.assertIs(type(found), list)
                names = [told[1] for told in found if told[0] == "row"]
                self.assertTrue(set(names) <= set(helper.named_dict(named)))
                self.same(derived(many, named, found), thing[-1])
                self.same(found, self.exchanged_again_and_again(named, paper))

    def exchanged_again_and_again(self, named, paper):
        found = list(paper[-1])
        while any(told[0] == "row" and told[1] >= helper.free(named) for told in found):
            found = [other for told in found for other in (
                paper[told[1] - helper.free(named)]
                if told[0] == "row" and told[1] >= helper.free(named) else [told])]
        return found

    def test_too_long(self):
        one = [("literal", 1)] + [("times", 1)] * 199998
        twice = [("row", 0), ("row", 0), ("sum",)]
        found = flat(1, [], (one, twice + [("times", 1)]))
        self.same(len(found), 400000)
        self.same(derived(1, [], found), (((2, 1),), 0))
        self.refuses(TooMany, flat, 1, [], (one, twice + [("times", 1)] * 2), most=400000)
        self.refuses(TooMany, flat, 1, [], (one, twice, [("row", 1), ("times", 1), ("times", 1)]), most=400000)
        self.same(len(flat(1, [], (one, twice, twice, [("row", 1), ("times", 1)]))), 400000)
        doubling = ([("literal", 1)],) + tuple([("row", k), ("row", k), ("sum",)] for k in range(90))
        self.refuses(TooMany, flat, 1, [], doubling, most=400000)
        chain = ([("literal", 1)],) + tuple([("row", k), ("times", 1)] for k in range(4999))
        self.same(flat(1, [], chain), [("literal", 1)] + [("times", 1)] * 4999)

    def test_unneeded_ones_do_not_count(self):
        long = [("literal", 1)] + [("times", 1)] * 399999
        self.same(flat(1, [], (long, [("row", 0), ("row", 0), ("sum",)], [("literal", -1)])), [("literal", -1)])

    def test_errors(self):
        for many in BAD_MANYS:
            for call in (results, flat):
                self.refuses(BadMany, call, many, None, None)
        for named in BAD_NAMEDS:
            for call in (results, flat):
                self.refuses(BadNamed, call, 2, named, None)
        self.same(results(many=2, named=ROWS, paper=(HALVED,)), [A])

    def test_new(self):
        told = [("row", 0)]
        found = flat(2, ROWS, (told,))
        found.append(("sum",))
        self.same(told, [("row", 0)])
