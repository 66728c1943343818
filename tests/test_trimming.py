from tests import helper
from tests.helper import Case
from tests.test_papers import A, BAD_NAMEDS, HALVED, ROWS, some_named, some_paper
from tests.test_rows import BAD_MANYS
from tests.test_witnesses import BAD_WITNESSES
from witnesslog.errors import BadMany, BadNamed, BadPaper, BadWitness
from witnesslog.papers import results
from witnesslog.trimming import exchanged, needed, trimmed
from witnesslog.witnesses import led_row


def needed_places(named, paper):
    """Which derivations are needed, as the document says it."""
    free = helper.free(named)
    found = [len(paper) - 1]
    for place in range(len(paper) - 2, -1, -1):
        if any(("row", free + place) in [tuple(told) for told in paper[other]] for other in found):
            found.append(place)
    return sorted(found)


class TrimmedTest(Case):
    def test_by_hand(self):
        paper = ([("literal", 2)], HALVED, [("row", 1)], [("row", 3), ("times", 2)])
        self.same(needed(2, ROWS, paper), (0, 1))
        self.same(trimmed(2, ROWS, paper), (tuple(HALVED), (("row", 2), ("times", 2))))
        self.same(needed(2, ROWS, paper[:3]), (1,))
        self.same(trimmed(2, ROWS, paper[:3]), ((("row", 1),),))
        self.same(needed(2, ROWS, paper[:1]), ())
        self.same(trimmed(2, ROWS, paper[:1]), ((("literal", 2),),))

    def test_dict(self):
        named = {7: ROWS[0], 3: ROWS[1], 12: A}
        paper = ([("row", 12)], [("row", 7), ("row", 3), ("sum",)], [("row", 13)], [("row", 14), ("divided", 2)])
        self.same(needed(2, named, paper), (3, 7))
        self.same(trimmed(2, named, paper),
                  ((("row", 7), ("row", 3), ("sum",)), (("row", 13), ("divided", 2))))
        self.same(named, {7: ROWS[0], 3: ROWS[1], 12: A})
        self.same(paper[3], [("row", 14), ("divided", 2)])

    def test_facts(self):
        for _ in range(600):
            many = self.rng.randint(1, 3)
            named = some_named(self.rng, many)
            paper = some_paper(self.rng, many, named, self.rng.randint(1, 7))
            word, found = helper.ends(many, named, paper)
            if word == "bad":
                continue
            places = needed_places(named, paper)
            short = trimmed(many, named, paper)
            self.assertTrue(type(short) is tuple and all(type(told) is tuple for told in short))
            self.same(results(many, named, short), [found[place] for place in places])
            self.same(trimmed(many, named, short), short)
            names = needed(many, named, paper)
            wanted = {told[1] for place in places for told in paper[place] if told[0] == "row"}
            self.same(names, tuple(sorted(wanted & set(helper.named_dict(named)))))
            rows = {name: helper.named_dict(named)[name] for name in names}
            if named:
                rows.setdefault(helper.free(named) - 1, ((), 0))
            self.same(results(many, rows, short)[-1], found[-1])

    def test_named_parameters(self):
        self.same(needed(many=2, named=ROWS, paper=(HALVED,)), (0, 1))
        self.same(trimmed(many=2, named=ROWS, paper=(HALVED,)), (tuple(HALVED),))
        self.same(exchanged(many=2, named=ROWS, paper=(HALVED,), witness=(1, 2)), (tuple(HALVED),))


class ExchangedTest(Case):
    def test_by_hand(self):
        paper = ([("literal", -1), ("row", 0), ("sum",), ("weakened", 2), ("times", 2)], [("row", 2), ("literal", 2),
                 ("sum",), ("capped",), ("divided", 3)])
        self.same(exchanged(2, ROWS, paper, (-2, 1)),
                  ((("literal", 2), ("row", 0), ("sum",), ("weakened", 1), ("times", 2)),
                   (("row", 2), ("literal", 1), ("sum",), ("capped",), ("divided", 3))))

    def test_fact(self):
        for _ in range(500):
            many = self.rng.randint(1, 4)
            named = some_named(self.rng, many)
            paper = some_paper(self.rng, many, named, self.rng.randint(1, 5))
            word, found = helper.ends(many, named, paper)
            if word == "ends":
                witness = helper.some_exchange(self.rng, many)
                rows = {name: led_row(many, witness, row) for name, row in helper.named_dict(named).items()}
                told = exchanged(many, named, paper, witness)
                self.assertTrue(type(told) is tuple and all(type(item) is tuple for item in told))
                self.same(results(many, rows, told), [led_row(many, witness, row) for row in found])


class ErrorsTest(Case):
    def test_left_to_right(self):
        for many in BAD_MANYS:
            self.refuses(BadMany, needed, many, None, None)
            self.refuses(BadMany, trimmed, many, None, None)
            self.refuses(BadMany, exchanged, many, None, None, None)
        for named in BAD_NAMEDS:
            self.refuses(BadNamed, needed, 2, named, None)
            self.refuses(BadNamed, trimmed, 2, named, None)
            self.refuses(BadNamed, exchanged, 2, named, None, None)
        for paper, index in ((None, 0), ([HALVED], 0), ((), 0), ((HALVED, [("row", 3)]), 1), ((HALVED, None), 1)):
            self.refuses(BadPaper, needed, 2, ROWS, paper, index=index)
            self.refuses(BadPaper, trimmed, 2, ROWS, paper, index=index)
            self.refuses(BadPaper, exchanged, 2, ROWS, paper, None, index=index)
        for witness in BAD_WITNESSES + ((1, 1), (1, -1), ("yes", 1), ("no", "yes")):
            self.refuses(BadWitness, exchanged, 2, ROWS, (HALVED,), witness)
