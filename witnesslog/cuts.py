"""Logs cut anywhere, logs from which no step can be left out, and problems and logs with literals exchanged."""
from witnesslog.checks import is_list
from witnesslog.errors import BadLog
from witnesslog.judge import Judge, check_read, judged
from witnesslog.meaning import floor_of, has_impossible
from witnesslog.problems import Problem, check_problem
from witnesslog.trimming import exchanged_instructions
from witnesslog.witnesses import check_exchange, exchange_turned, filling_led, image_of, row_led, witness_behind


def cuts(problem, log):
    """The list of the judges behind 0, 1, and so on to all steps of log."""
    check_problem(problem)
    return _judges_along(problem, log)


def trimmed(problem, log):
    """A log that shows as much as log, and no more so without any one of its steps."""
    check_problem(problem)
    judges = _judges_along(problem, log)
    whole = judges[-1]
    steps = whole.log()
    shorter = _trimmed_once(judges, steps, whole)
    # What was needed for a step that is gone may be left out now.
    while len(shorter) < len(steps):
        steps = shorter
        shorter = _trimmed_once(_judges_along(problem, steps), steps, whole)
    return steps


def renamed(problem, exchange):
    """The problem with its rows and its price led by exchange."""
    check_problem(problem)
    check_exchange(problem.many, exchange)
    terms, base = problem.price
    rows = [row_led(exchange, row) for row in problem.rows]
    return Problem(problem.many, rows, (row_led(exchange, (terms, 0))[0], base))


def renamed_log(problem, log, exchange):
    """The log for the renamed problem."""
    steps = judged(problem, log).log()
    check_exchange(problem.many, exchange)
    told = []
    images = exchange
    for step in steps:
        if step[0] == "plan":
            told.append(("plan", filling_led(exchange_turned(exchange), step[1])))
        else:
            told.append(_renamed_step(images, step))
        if step[0] == "new":
            images = images + (len(images) + 1,)
    return told


def _judges_along(problem, log):
    if not is_list(log):
        raise BadLog(0)
    judges = [Judge(problem)]
    for index, step in enumerate(log):
        judge = judges[-1].copy()
        check_read(judge, index, step)
        judges.append(judge)
    return judges


def _trimmed_once(judges, steps, whole):
    """The steps without those that can be left out, the last one first; judges are those ahead of each step."""
    left = steps
    for index in reversed(range(len(steps))):
        shorter = _without(judges[index], left[index:], whole)
        if shorter is not None:
            left = left[:index] + shorter
    return left


def _without(judge, steps, whole):
    """The steps but the first one, behind judge, if they show as much as whole; otherwise None.

    The ids above the missing one are moved down. A step that names the missing id is left as it is; so that it does
    not matter whether its other ids are, both are tried. Such steps are hardly ever let by.
    """
    gone = None
    if steps[0][0] in ("derive", "follow", "refute", "witness", "dominate"):
        gone = judge.next_id
    tries = [_moved_steps(steps[1:], gone, True)]
    other = _moved_steps(steps[1:], gone, False)
    if other not in tries:
        tries.append(other)
    for told in tries:
        reader = judge.copy()
        if _reads_all(reader, told) and _shows_as_much(reader, whole):
            return told
    return None


def _moved_steps(steps, gone, with_missing):
    """The steps, with the ids above gone moved down; with_missing: also in steps that name gone."""
    if gone is None:
        return steps
    return [_moved_step(step, gone) if with_missing or gone not in _named_ids(step) else step for step in steps]


def _reads_all(judge, steps):
    for step in steps:
        if not judge.reads(step):
            return False
    return True


def _shows_as_much(judge, other):
    if judge.best != other.best:
        return False
    if has_impossible(judge):
        return True
    return not has_impossible(other) and floor_of(judge) >= floor_of(other)


def _papers_of(step):
    """The papers of a step whose keys and derivations may name known rows."""
    if step[0] in ("witness", "dominate", "leave") and len(step) == 4:
        return step[3]
    return {}


def _named_ids(step):
    papers = _papers_of(step)
    derivations = [papers[key] for key in papers]
    ids = [key[1] for key in papers if key[0] == "row"]
    if step[0] in ("derive", "refute"):
        derivations.append(step[-1])
    if step[0] == "leave":
        ids.append(step[1])
    if step[0] == "core":
        ids.extend(step[1])
    return ids + [told[1] for derivation in derivations for told in derivation if told[0] == "row"]


def _moved_step(step, gone):
    word = step[0]
    if word in ("derive", "refute"):
        return step[:-1] + (_moved_derivation(step[-1], gone),)
    if word == "core":
        return (word, tuple([_moved_id(name, gone) for name in step[1]]))
    papers = {_moved_row(key, gone): _moved_derivation(told, gone) for key, told in _papers_of(step).items()}
    if word == "leave":
        step = (word, _moved_id(step[1], gone)) + step[2:]
    if word in ("witness", "dominate", "leave") and len(step) == 4:
        return step[:3] + (papers,)
    return step


def _moved_id(name, gone):
    if name > gone:
        return name - 1
    return name


def _moved_row(thing, gone):
    """A key or an instruction, with the id of its row moved."""
    if thing[0] == "row":
        return ("row", _moved_id(thing[1], gone))
    return thing


def _moved_derivation(derivation, gone):
    return _alike(derivation, [_moved_row(told, gone) for told in derivation])


def _alike(derivation, told):
    """What is told, a tuple where the derivation was one."""
    if isinstance(derivation, tuple):
        return tuple(told)
    return told


def _renamed_step(images, step):
    """The step but for plans, images being the exchange for all variables that there are."""
    word = step[0]
    if word == "derive":
        return (word, _renamed_derivation(images, step[1]))
    if word == "follow":
        return (word, row_led(images, step[1]))
    if word == "refute":
        return (word, row_led(images, step[1]), _renamed_derivation(images, step[2]))
    if word in ("witness", "dominate"):
        return (word, row_led(images, step[1])) + _renamed_reason(images, step)
    if word == "leave" and len(step) == 4:
        return step[:2] + _renamed_reason(images, step)
    if word == "order":
        literals, rows = step[1]
        return (word, (tuple([image_of(images, literal) for literal in literals]), rows), step[2])
    return step


def _renamed_reason(images, step):
    """The witness and the papers of the step."""
    witness = witness_behind(witness_behind(exchange_turned(images), step[2]), images)
    return (witness, {key: _renamed_derivation(images, told) for key, told in step[3].items()})


def _renamed_derivation(images, derivation):
    return _alike(derivation, exchanged_instructions(images, derivation))
