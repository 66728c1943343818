"""The least price, from above by plans and from below by lots that cannot all be left out."""
from witnesslog.checks import check_few, is_list, is_number
from witnesslog.counting import counting
from witnesslog.derivations import summed_steps
from witnesslog.errors import BadLog, BadWays
from witnesslog.guides import check_guide
from witnesslog.judge import Judge, check_read, read_by
from witnesslog.meaning import floor_of, has_impossible
from witnesslog.problems import MOST_OF_PROBLEM, check_problem, is_plan_of, price_at
from witnesslog.seeking import Search, Wishes, bar, close, seek

MOST_WAYS = 400
MOST_WEIGHT = 999999999


def least(problem, ways, guide):
    """("least", price, filling, log) with a plan of the least price, or ("none", log)."""
    check_problem(problem)
    check_ways(ways)
    check_guide(guide)
    check_price_weights(problem)
    return least_from(Search(problem, []), ways, guide)


def is_least(problem, thing):
    """Whether thing is such a tuple as least tells."""
    check_problem(problem)
    if not isinstance(thing, tuple) or len(thing) not in (2, 4):
        return False
    judge, index = read_by(problem, thing[-1])
    if index is not None:
        return False
    if len(thing) == 2:
        return thing[0] == "none" and has_impossible(judge) and judge.best is None
    word, price, filling, _ = thing
    if word != "least" or not is_number(price) or not is_plan_of(problem, filling):
        return False
    return price == price_at(problem, filling) and price == judge.best and price == floor_of(judge)


def moments(problem, log):
    """The list of the pairs (floor, best) behind 0, 1, and so on to all steps of log."""
    check_problem(problem)
    if not is_list(log):
        raise BadLog(0)
    judge = Judge(problem)
    found = [(floor_of(judge), judge.best)]
    for index, step in enumerate(log):
        check_read(judge, index, step)
        found.append((floor_of(judge), judge.best))
    return found


def check_ways(ways):
    if not are_ways(ways):
        raise BadWays("ways are a list of at most 400 texts above or below")


def are_ways(thing):
    return is_list(thing) and len(thing) <= MOST_WAYS and all([way in ("above", "below") for way in thing])


def check_price_weights(problem):
    check_few(max([weight for weight, _ in problem.price[0]], default=0), MOST_WEIGHT)


def least_from(search, ways, guide):
    """As least, but the search may have read a log, with which the log told begins."""
    rounds = Rounds(search, guide)
    done = 0
    while not rounds.is_done():
        if done < len(ways) and ways[done] == "above":
            rounds.above()
        else:
            rounds.below()
        done += 1
    log = search.log()
    if search.reader.best is None:
        return ("none", log)
    plan = [step[1] for step in log if step[0] == "plan"][-1]
    return ("least", search.reader.best, plan, log)


def _opposites_by_weight(pairs):
    """The opposites of the literals of pairs, those of heavy ones ahead."""
    heavy = sorted([(-weight, abs(literal), literal) for weight, literal in pairs])
    return [-literal for _, _, literal in heavy]


class Rounds:
    """Rounds of a search that go on till the least price is known, or that there is no plan.

    The price is low and the weights of those literals of rest that are worth 1, at each filling where the known rows
    hold. parts are pairs of a weight and the id of a row: these rows, so many times each, say that it is so at least.
    """

    def __init__(self, search, guide):
        terms, base = search.reader.problem.price
        self.search = search
        self.wishes = Wishes(guide)
        self.low = base
        self.rest = {literal: weight for weight, literal in terms}
        self.parts = []
        # The low and best for which rest was bounded last.
        self.hardened = None

    def is_done(self):
        judge = self.search.reader
        return has_impossible(judge) or judge.best is not None and floor_of(judge) == judge.best

    def above(self):
        self.harden()
        if seek(self.search, self.wishes, (), self.saving()) is None:
            self.search.take()
        else:
            close(self.search)

    def below(self):
        # Heavy literals come first, so that lots are of heavy ones. The price stands by what is assumed, so that behind
        # it literals of the price may as well be worth 1.
        assumed = tuple(_opposites_by_weight([(weight, literal) for literal, weight in self.rest.items()]))
        lot = seek(self.search, self.wishes, assumed, [-literal for literal in reversed(self.saving())])
        if lot is None:
            self.search.take()
        elif len(lot) == 0:
            close(self.search)
        else:
            lot = self.shrunk(lot)
            bar(self.search, lot)
            if self.search.reader.many + len(lot) - 1 > MOST_OF_PROBLEM:
                self.above()
            else:
                self.count_on([-literal for literal in lot])

    def saving(self):
        """The list of the literals by which the price is low, those that save most ahead."""
        return _opposites_by_weight(self.search.reader.problem.price[0])

    def shrunk(self, lot):
        """Those literals of lot that are left if one after the other goes out, the light ones first.

        One goes out where following from the others clashes, too, so that fewer new variables come.
        """
        self.search.restart()
        path = self.search.path()
        left = list(lot)
        for literal in reversed(lot):
            others = [other for other in left if other != literal]
            if path.clashes_with(others):
                left = others
        return tuple(left)

    def count_on(self, lot):
        """Let new variables come for lot, of which at least one is worth 1, as the last row says."""
        many = self.search.reader.many
        self.search.begin(counting(self.search.reader, self.search.last_id()))
        least_weight = min([self.rest[literal] for literal in lot])
        self.low += least_weight
        for literal in lot:
            self.rest[literal] -= least_weight
            if self.rest[literal] == 0:
                del self.rest[literal]
        self.rest.update({variable: least_weight for variable in range(many + 1, self.search.reader.many + 1)})
        self.parts.append((least_weight, self.search.last_id() - 1))
        self.search.begin([("derive", self.derivation())])

    def derivation(self):
        """Instructions to the row that says that the price is low at least."""
        many = self.search.reader.problem.many
        return tuple(summed_steps(self.parts) + [("weakened", literal) for literal in sorted(self.rest)
                                                 if literal > many])

    def harden(self):
        """Let the row come that says how little the weights of rest may come to for a price below best."""
        bounds = (self.low, self.search.reader.best)
        if len(self.parts) > 0 and bounds[1] is not None and bounds != self.hardened:
            self.hardened = bounds
            self.search.begin([("derive", tuple(summed_steps(self.parts + [(1, 0)])))])
