from itertools import product

from tests import helper
from tests.helper import Case
from tests.test_rows import BAD_MANYS, BAD_ROWS, ROW
from witnesslog.errors import BadExchange, BadFilling, BadLiteral, BadMany, BadRow, BadWitness
from witnesslog.rows import holds
from witnesslog.witnesses import behind, is_exchange, is_witness, led_filling, led_literal, led_row, turned

IMAGES = [-2, -1, 1, 2, "yes", "no"]
OPPOSITE = {"yes": "no", "no": "yes"}
BAD_WITNESSES = (None, [1, 2], (1,), (1, 2, 1), (1, 0), (1, 3), (1, True), (1, None), ("yes", "maybe"), {}, "yesno",
                 ((1,), 2), (1, 2.0))


class WitnessTest(Case):
    def test_of_any_value(self):
        for many in (1, 2):
            self.judges(is_witness, lambda thing: helper.witness(many, thing), helper.odd_values(), many)
            self.judges(is_exchange, lambda thing: helper.exchange(many, thing), helper.odd_values(), many)
        for thing in product(IMAGES + [0, 3, True, None, "", (1,), "1"], repeat=2):
            self.same(is_witness(2, thing), helper.witness(2, thing), thing)
            self.same(is_exchange(2, thing), helper.exchange(2, thing), thing)
        for thing in ((1, "yes"), (-2, 1), ("no", "yes")):
            self.judges(is_witness, lambda other: helper.witness(2, other), helper.variants(thing), 2)
            self.judges(is_exchange, lambda other: helper.exchange(2, other), helper.variants(thing), 2)

    def test_bad_many(self):
        for many in BAD_MANYS:
            for call in (is_witness, is_exchange, turned):
                self.refuses(BadMany, call, many, None)
            for call in (led_literal, led_row, led_filling, behind):
                self.refuses(BadMany, call, many, None, None)

    def test_errors(self):
        good = (2, "yes")
        for bad in BAD_WITNESSES:
            self.same(is_witness(2, bad), False)
            for call in (led_literal, led_row, led_filling, behind):
                self.refuses(BadWitness, call, 2, bad, None)
            self.refuses(BadWitness, behind, 2, bad, good)
            self.refuses(BadWitness, behind, 2, good, bad)
        for literal in (0, 3, True, None, "yes"):
            self.refuses(BadLiteral, led_literal, 2, good, literal)
        for row in BAD_ROWS:
            self.refuses(BadRow, led_row, 2, good, row)
        for filling in (None, [0, 0], (0, True), (0,), (0, 2)):
            self.refuses(BadFilling, led_filling, 2, good, filling)
        for bad in BAD_WITNESSES + ((1, 1), (1, -1), (1, "yes"), ("no", "yes")):
            self.same(is_exchange(2, bad), False)
            self.refuses(BadExchange, turned, 2, bad)

    def test_named_parameters(self):
        self.same(is_witness(many=1, thing=("yes",)), True)
        self.same(is_exchange(many=1, thing=("yes",)), False)
        self.same(led_literal(many=1, witness=(-1,), literal=1), -1)
        self.same(led_row(many=1, witness=(-1,), row=(((1, 1),), 1)), (((1, -1),), 1))
        self.same(led_filling(many=1, witness=(-1,), filling=(0,)), (1,))
        self.same(behind(many=1, one=(-1,), other=("no",)), ("yes",))
        self.same(turned(many=1, exchange=(-1,)), (-1,))


class LedTest(Case):
    def test_by_hand(self):
        self.same(led_row(2, (-2, "yes"), (((3, 1), (1, -2)), 2)), (((3, -2),), 2))
        self.same(led_filling(2, (-2, "yes"), (0, 1)), (0, 1))

    def test_images(self):
        for witness in product(IMAGES, repeat=2):
            for v in (1, 2):
                image = witness[v - 1]
                self.same(led_literal(2, witness, v), image)
                self.same(led_literal(2, witness, -v), OPPOSITE[image] if image in OPPOSITE else -image)

    def test_led_row_is_normal(self):
        for _ in range(1500):
            many = self.rng.randint(1, 4)
            witness, row = helper.some_witness(self.rng, many), helper.some_row(self.rng, many)
            images = [(weight, led_literal(many, witness, literal)) for weight, literal in row[0]]
            bound = row[1] - sum(weight for weight, image in images if image == "yes")
            wanted = helper.normal(many, [pair for pair in images if pair[1] not in OPPOSITE], bound)
            self.same(led_row(many, witness, row), wanted)

    def test_heart(self):
        for _ in range(1000):
            many = self.rng.randint(1, 4)
            witness, row = helper.some_witness(self.rng, many), helper.some_row(self.rng, many)
            led = led_row(many, witness, row)
            for filling in helper.all_fillings(many):
                other = led_filling(many, witness, filling)
                self.assertTrue(helper.filling(many, other))
                self.same(holds(many, led, filling), holds(many, row, other))

    def test_led_filling(self):
        for witness in product(IMAGES, repeat=2):
            for filling in helper.all_fillings(2):
                wanted = tuple({"yes": 1, "no": 0}[image] if image in OPPOSITE else helper.worth(image, filling)
                               for image in witness)
                self.same(led_filling(2, witness, filling), wanted)


class BehindTest(Case):
    def test_facts(self):
        for one, other in product(product(IMAGES, repeat=2), repeat=2):
            both = behind(2, one, other)
            self.assertTrue(helper.witness(2, both))
            for filling in helper.all_fillings(2):
                self.same(led_filling(2, both, filling), led_filling(2, one, led_filling(2, other, filling)))
            row = helper.some_row(self.rng, 2)
            sums = led_row(2, other, led_row(2, one, row))
            for filling in helper.all_fillings(2):
                self.same(holds(2, led_row(2, both, row), filling), holds(2, sums, filling))
            for literal in (-2, -1, 1, 2):
                image = led_literal(2, one, literal)
                wanted = image if image in OPPOSITE else led_literal(2, other, image)
                self.same(led_literal(2, both, literal), wanted)

    def test_rows_of_exchanges(self):
        for _ in range(300):
            one, other = (helper.some_exchange(self.rng, 4) for _ in range(2))
            row = helper.some_row(self.rng, 4)
            self.same(led_row(4, behind(4, one, other), row), led_row(4, other, led_row(4, one, row)))

    def test_turned(self):
        for _ in range(300):
            many = self.rng.randint(1, 5)
            exchange = helper.some_exchange(self.rng, many)
            back = turned(many, exchange)
            self.assertTrue(helper.exchange(many, back))
            same = tuple(range(1, many + 1))
            self.same(behind(many, exchange, back), same)
            self.same(behind(many, back, exchange), same)
            row, filling = helper.some_row(self.rng, many), helper.some_filling(self.rng, many)
            self.same(led_row(many, back, led_row(many, exchange, row)), row)
            self.same(led_filling(many, back, led_filling(many, exchange, filling)), filling)

    def test_row_and_plain(self):
        self.same(led_row(2, (1, 2), ROW), ROW)
        self.same(turned(3, (2, -3, 1)), (3, 1, -2))
