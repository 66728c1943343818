"""The earliest fillings of several, and a way down to one of them."""
from witnesslog.checks import check_few, check_filling, check_many, is_filling_of, is_list
from witnesslog.errors import BadFillings, NotSound
from witnesslog.orders import MOST_WORTHS, check_order, is_earlier, is_sound_order, shares_at

MOST_FILLINGS = 400


def earliest(many, order, several):
    """The ascending list of those fillings of several than which none of them is strictly earlier."""
    check_many(many)
    check_order(many, order)
    _check_fillings(many, several)
    found = sorted({filling for filling in several})
    shares = [shares_at(order, filling) for filling in found]
    return [filling for filling, own in zip(found, shares)
            if not any([is_earlier(order, other, own) for other in shares])]


def way_down(many, order, several, start):
    """From start on, again and again the first filling of several that is strictly earlier than the last one."""
    check_many(many)
    check_order(many, order)
    _check_fillings(many, several)
    check_filling(many, start)
    check_few(len(order[0]), MOST_WORTHS)
    if not is_sound_order(order):
        raise NotSound("the order is not sound")
    found = sorted({filling for filling in several})
    way = []
    ahead = start
    while ahead is not None:
        way.append(ahead)
        ahead = _first_earlier(order, found, ahead)
    return way


def _check_fillings(many, several):
    if not is_list(several) or len(several) > MOST_FILLINGS:
        raise BadFillings("fillings are a list of at most 400")
    if not all([is_filling_of(many, filling) for filling in several]):
        raise BadFillings("one of them is no filling")


def _first_earlier(order, fillings, last):
    own = shares_at(order, last)
    for filling in fillings:
        if is_earlier(order, shares_at(order, filling), own):
            return filling
    return None
