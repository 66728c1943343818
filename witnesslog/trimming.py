"""Papers without the derivations that are not needed, and papers whose literals are exchanged."""
from witnesslog.checks import check_many
from witnesslog.derivations import first_free, rows_by_name
from witnesslog.papers import checked_ends, names_result
from witnesslog.witnesses import check_exchange_witness, image_of


def needed(many, named, paper):
    """The ascending tuple of the names of named that the last derivation of paper needs."""
    check_many(many)
    rows = rows_by_name(many, named)
    checked_ends(many, rows, paper)
    places = _needed_places(first_free(rows), paper)
    told = [instruction for place in places for instruction in paper[place]]
    return tuple(sorted({instruction[1] for instruction in told if instruction[0] == "row" and instruction[1] in rows}))


def trimmed(many, named, paper):
    """The paper of those derivations alone that the last one needs."""
    check_many(many)
    rows = rows_by_name(many, named)
    checked_ends(many, rows, paper)
    free = first_free(rows)
    places = _needed_places(free, paper)
    names = {free + place: free + index for index, place in enumerate(places)}
    return tuple([_renamed(names, paper[place]) for place in places])


def exchanged(many, named, paper, witness):
    """The paper that leads from the rows led by witness to the results led by it."""
    check_many(many)
    checked_ends(many, rows_by_name(many, named), paper)
    check_exchange_witness(many, witness)
    return tuple([tuple(exchanged_instructions(witness, derivation)) for derivation in paper])


def _needed_places(free, paper):
    """The ascending list of the indexes of the needed derivations."""
    marks = [False] * len(paper)
    marks[-1] = True
    for place in reversed(range(len(paper))):
        if marks[place]:
            for instruction in paper[place]:
                if names_result(free, instruction):
                    marks[instruction[1] - free] = True
    return [place for place in range(len(paper)) if marks[place]]


def _renamed(names, derivation):
    told = []
    for instruction in derivation:
        if instruction[0] == "row" and instruction[1] in names:
            told.append(("row", names[instruction[1]]))
        else:
            told.append(instruction)
    return tuple(told)


def exchanged_instructions(witness, derivation):
    """The list of the instructions, their literals and variables exchanged for their images."""
    return [_exchanged_one(witness, instruction) for instruction in derivation]


def _exchanged_one(witness, instruction):
    if instruction[0] == "literal":
        return ("literal", image_of(witness, instruction[1]))
    if instruction[0] == "weakened":
        return ("weakened", abs(image_of(witness, instruction[1])))
    return instruction
