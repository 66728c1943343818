"""Witnesses: told exchanges of each variable for a literal, yes or no."""
from witnesslog.checks import check_filling, check_literal, check_many, check_row, are_unlike, is_literal_of
from witnesslog.errors import BadExchange, BadWitness
from witnesslog.rows import normal_row, worth_of


def is_witness(many, thing):
    """Whether thing is a witness of many variables."""
    check_many(many)
    return is_witness_of(many, thing)


def led_literal(many, witness, literal):
    """The image of literal: a literal, "yes" or "no"."""
    check_many(many)
    check_witness(many, witness)
    check_literal(many, literal)
    return image_of(witness, literal)


def led_row(many, witness, row):
    """The row that holds at a filling exactly if row holds at the led filling."""
    check_many(many)
    check_witness(many, witness)
    check_row(many, row)
    return row_led(witness, row)


def led_filling(many, witness, filling):
    """The filling at which each variable is worth what its image is worth at filling."""
    check_many(many)
    check_witness(many, witness)
    check_filling(many, filling)
    return filling_led(witness, filling)


def behind(many, one, other):
    """The witness by which a row is led as by one and then by other."""
    check_many(many)
    check_witness(many, one)
    check_witness(many, other)
    return witness_behind(one, other)


def is_exchange(many, thing):
    """Whether thing is a witness whose images are literals of unlike variables."""
    check_many(many)
    return is_exchange_of(many, thing)


def turned(many, exchange):
    """The exchange by which what is led by exchange is led back."""
    check_many(many)
    check_exchange(many, exchange)
    return exchange_turned(exchange)


def _is_image(many, thing):
    return is_literal_of(many, thing) or thing in ("yes", "no")


def is_witness_of(many, thing):
    if not isinstance(thing, tuple) or len(thing) != many:
        return False
    return all([_is_image(many, image) for image in thing])


def is_exchange_of(many, thing):
    if not is_witness_of(many, thing) or "yes" in thing or "no" in thing:
        return False
    return are_unlike(thing)


def check_witness(many, witness):
    if not is_witness_of(many, witness):
        raise BadWitness("a witness is a tuple of many images")


def check_exchange(many, exchange):
    if not is_exchange_of(many, exchange):
        raise BadExchange("an exchange has literals of unlike variables for its images")


def check_exchange_witness(many, witness):
    if not is_exchange_of(many, witness):
        raise BadWitness("the witness is no exchange")


def image_of(witness, literal):
    image = witness[abs(literal) - 1]
    if literal > 0:
        return image
    return _opposite_image(image)


def row_led(witness, row):
    """The row led by witness, which may be of other variables than its images."""
    sums = []
    bound = row[1]
    for weight, literal in row[0]:
        image = image_of(witness, literal)
        if image == "yes":
            bound = bound - weight
        elif image != "no":
            sums.append((weight, image))
    return normal_row(sums, bound)


def witness_behind(one, other):
    return tuple([_led_image(other, image) for image in one])


def exchange_turned(exchange):
    back = {}
    for index, image in enumerate(exchange):
        if image > 0:
            back[image] = index + 1
        else:
            back[-image] = -(index + 1)
    return tuple([back[variable] for variable in sorted(back)])


def unchanged_but_for(many, literal, image):
    """The witness that leads literal to image, "yes" or "no", and each other variable to itself."""
    images = list(unchanged(many))
    if literal > 0:
        images[literal - 1] = image
    else:
        images[-literal - 1] = _opposite_image(image)
    return tuple(images)


def filling_led(witness, filling):
    return tuple([_worth_of_image(image, filling) for image in witness])


def unchanged(many):
    """The witness that leads each variable to itself."""
    return tuple(range(1, many + 1))


def _opposite_image(image):
    if image == "yes":
        return "no"
    if image == "no":
        return "yes"
    return -image


def _led_image(witness, image):
    if image in ("yes", "no"):
        return image
    return image_of(witness, image)


def _worth_of_image(image, filling):
    if image == "yes":
        return 1
    if image == "no":
        return 0
    return worth_of(image, filling)
