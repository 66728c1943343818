"""Searches, whose work is written down in a log, and what they find."""
from witnesslog.checks import are_literals_of, are_unlike, check_many, is_list, is_literal_of
from witnesslog.back import filling_led_back
from witnesslog.errors import BadId, BadLiteral, BadLot, Clashes, Closed, IsReason, NoClash, NotFree, NotWhole
from witnesslog.guides import check_guide
from witnesslog.judge import Judge, judged
from witnesslog.learning import learned_clause, learned_row, level_back
from witnesslog.meaning import has_impossible, spared
from witnesslog.problems import check_problem, is_plan_of
from witnesslog.proving import blamed_by, clause_of_opposites
from witnesslog.rows import worth_of
from witnesslog.trails import Path, choices_behind

# The steps of the log of a search.
PLAIN_WORDS = ("derive", "follow", "refute", "leave")


class Search:
    """A judge that has read a log, choices, and the trail that follows from them."""

    def __init__(self, problem, log):
        self.reader = judged(problem, log)
        self.made = []
        # The path along the choices and the ids of its rows; None while they are to be made anew.
        self.present = None
        self.ids = []

    def choices(self):
        return tuple(self.made)

    def trail(self):
        return tuple([literal for literal, _ in self.path().pairs])

    def reasons(self):
        pairs = self.path().pairs
        return tuple([None if reason is None else self.ids[reason] for _, reason in pairs])

    def clash(self):
        barring = self.path().barring
        if barring is None:
            return None
        return self.ids[barring]

    def known(self):
        return self.reader.known()

    def log(self):
        return self.reader.log()

    def judge(self):
        return self.reader.copy()

    def is_closed(self):
        return has_impossible(self.reader)

    def found(self):
        path = self.path()
        if path.barring is not None or len(path.pairs) < self.reader.many:
            return None
        given = path.taken()
        return tuple([1 if variable in given else 0 for variable in range(1, self.reader.many + 1)])

    def choose(self, literal):
        if not is_literal_of(self.reader.many, literal):
            raise BadLiteral("no literal of the judge's variables")
        clash = self.clash()
        if clash is not None:
            raise Clashes(clash)
        if not self.is_free(literal):
            raise NotFree(literal)
        self.path().choose(literal)
        self.made.append(literal)

    def learn(self):
        path = self.path()
        if path.barring is None:
            raise NoClash("there is no clash")
        if len(self.made) == 0 and self.is_closed():
            raise Closed("it is known that nothing is left")
        row, told = learned_row(path.rows, path.pairs)
        if not self.derives(told):
            row, told = learned_clause(path.rows, path.pairs)
            self.derives(told)
        level = level_back(path.pairs, row)
        del self.made[level:]
        path.learn(row, level)
        self.ids.append(self.last_id())
        return self.last_id()

    def forget(self, number):
        if not self.reader.is_derived(number):
            raise BadId("no id of a derived row")
        if number in self.reasons() or number == self.clash():
            raise IsReason(number)
        self.write([("leave", number)])

    def restart(self):
        self.made = []
        self.path().go_back(0)

    def take(self):
        found = self.found()
        if found is None:
            raise NotWhole("there is no filling by now")
        plan = filling_led_back(self.reader, found)
        self.begin([("plan", plan)])
        return plan

    def path(self):
        if self.present is None:
            known = self.reader.known()
            self.ids = list(known)
            self.present = Path(list(known.values()), self.made)
        return self.present

    def write(self, steps):
        """Let the judge read steps, behind which the trail along the choices is made anew."""
        for step in steps:
            self.reader.step(step)
        self.present = None

    def begin(self, steps):
        """Begin again without choices, behind steps."""
        self.made = []
        self.write(steps)

    def derives(self, told):
        """Whether the judge lets by the derivation of instructions that name rows by their indexes."""
        named = [("row", self.ids[one[1]]) if one[0] == "row" else one for one in told]
        return self.reader.reads(("derive", tuple(named)))

    def last_id(self):
        return self.reader.next_id - 1

    def is_free(self, literal):
        given = self.path().taken()
        return literal not in given and -literal not in given


class Wishes:
    """The wishes of a guide that are left, and the ids of the rows that have been learned."""

    def __init__(self, guide):
        self.guide = tuple(guide)
        self.done = 0
        self.learned = []

    def carry_out(self, search, rather):
        """Carry the next wish out.

        If there is none, choose the first free literal of rather, or else the opposite of the least free variable.
        """
        if self.done >= len(self.guide):
            opposites = [-variable for variable in range(1, search.reader.many + 1)]
            search.choose([literal for literal in rather + opposites if search.is_free(literal)][0])
            return
        wish = self.guide[self.done]
        self.done += 1
        if wish == "restart":
            search.restart()
        elif isinstance(wish, tuple):
            self.forget(search, wish[1])
        elif abs(wish) <= search.reader.problem.many and search.is_free(wish):
            search.choose(wish)

    def forget(self, search, count):
        kept = list(search.reasons())
        names = [name for name in self.learned if name not in kept]
        gone = spared(search.reader, names, count)
        search.write([("leave", name) for name in gone])
        self.learned = [name for name in self.learned if name not in gone]


def clause(many, lot):
    """The row that says that not all literals of lot are worth 1."""
    check_many(many)
    check_lot(many, lot)
    return clause_of_opposites(lot)


def solve(problem, guide):
    """("plan", filling, log) with a plan, or ("none", log) that shows that there is none."""
    check_problem(problem)
    check_guide(guide)
    search = Search(problem, [])
    if seek(search, Wishes(guide), (), []) is None:
        plan = search.take()
        return ("plan", plan, search.log())
    close(search)
    return ("none", search.log())


def is_solved(problem, thing):
    """Whether thing is such a tuple as solve tells."""
    check_problem(problem)
    if not isinstance(thing, tuple) or len(thing) == 0:
        return False
    if thing[0] == "plan":
        return is_planned(problem, thing)
    if thing[0] != "none" or len(thing) != 2:
        return False
    judge = judge_of_search(problem, thing[1])
    return judge is not None and has_impossible(judge)


def solve_with(problem, assumed, guide):
    """("plan", filling, log) with assumed worth 1, or ("barred", lot, log) with some of assumed that cannot be."""
    check_problem(problem)
    check_lot(problem.many, assumed)
    check_guide(guide)
    search = Search(problem, [])
    lot = seek(search, Wishes(guide), assumed, [])
    if lot is None:
        plan = search.take()
        return ("plan", plan, search.log())
    bar(search, lot)
    return ("barred", lot, search.log())


def is_solved_with(problem, assumed, thing):
    """Whether thing is such a tuple as solve_with tells."""
    check_problem(problem)
    check_lot(problem.many, assumed)
    if not isinstance(thing, tuple) or len(thing) != 3:
        return False
    if thing[0] == "plan":
        return is_planned(problem, thing) and all([worth_of(literal, thing[1]) == 1 for literal in assumed])
    return thing[0] == "barred" and is_barred(problem, assumed, thing[1], thing[2])


def check_lot(many, lot):
    if not is_lot(many, lot):
        raise BadLot("a lot is a tuple of literals of unlike variables")


def is_lot(many, thing):
    return isinstance(thing, tuple) and are_literals_of(many, thing) and are_unlike(thing)


def seek(search, wishes, assumed, rather):
    """Go on with search till it has found a filling, all of assumed chosen ahead: then None.

    Otherwise a tuple of some of assumed, in their sequence, from which following clashes, whatever else is chosen.
    Behind the wishes the literals of rather, a list, are chosen ahead of others.
    """
    first = {literal: True for literal in assumed}
    while True:
        path = search.path()
        given = path.taken()
        ahead = [literal for literal in assumed if literal not in given]
        against = [literal for literal in ahead if -literal in given]
        if path.barring is not None:
            if all([literal in first for literal in search.made]):
                return _lot_behind(path, assumed, blamed_by(path.rows[path.barring], given), ())
            wishes.learned.append(search.learn())
        elif against:
            return _lot_behind(path, assumed, [-against[0]], against[:1])
        elif ahead:
            search.choose(ahead[0])
        elif search.found() is not None:
            return None
        else:
            wishes.carry_out(search, rather)


def close(search):
    """Learn at a clash without choices, if that is not learned yet."""
    if not search.is_closed():
        search.learn()


def bar(search, lot):
    """Let the clause of lot come, which following shows."""
    search.begin([("follow", clause_of_opposites(lot))])


def is_planned(problem, thing):
    """Whether thing, a tuple, is a word, a plan, and the log of a search that found it."""
    if len(thing) != 3 or not is_plan_of(problem, thing[1]) or not is_list(thing[2]) or len(thing[2]) == 0:
        return False
    last = thing[2][-1]
    if not isinstance(last, tuple) or len(last) != 2 or last[0] != "plan" or last[1] != thing[1]:
        return False
    judge = judge_of_search(problem, thing[2][:-1])
    return judge is not None and judge.reads(last)


def is_barred(problem, assumed, lot, log):
    """Whether lot are some of assumed, in their sequence, and log shows by its last step that they are barred."""
    if not is_lot(problem.many, lot) or lot != tuple([literal for literal in assumed if literal in lot]):
        return False
    judge = judge_of_search(problem, log)
    if judge is None or len(judge) == 0 or log[-1][0] == "leave":
        return False
    return judge.derived()[judge.next_id - 1] == clause_of_opposites(lot)


def judge_of_search(problem, thing):
    """The judge behind thing, a log of a search without a plan; None if it is no such log."""
    if not is_list(thing):
        return None
    judge = Judge(problem)
    for step in thing:
        if not judge.reads(step) or step[0] not in PLAIN_WORDS or len(step) == 4:
            return None
    return judge


def _lot_behind(path, assumed, blamed, more):
    """Those of assumed that are in more or that are choices behind the literals blamed."""
    found = choices_behind(path.rows, path.pairs, blamed)
    return tuple([literal for literal in assumed if literal in found or literal in more])
