"""The way back, from a filling at which the core rows hold to a plan of the problem."""
from witnesslog.checks import check_filling
from witnesslog.judge import check_judge
from witnesslog.rows import holds_at
from witnesslog.witnesses import filling_led


def left(judge):
    """The tuple of the pairs of a row that left the core and the witness by which it did."""
    check_judge(judge)
    return tuple(judge.gone)


def led_back(judge, filling):
    """The filling, led by the witness of each row that left and does not hold; the problem's variables alone."""
    check_judge(judge)
    check_filling(judge.many, filling)
    return filling_led_back(judge, filling)


def filling_led_back(judge, filling):
    at = filling
    for row, witness in reversed(judge.gone):
        if not holds_at(row, at):
            # A witness leaves the variables that came later as they are.
            at = filling_led(witness, at) + at[len(witness):]
    return at[:judge.problem.many]
