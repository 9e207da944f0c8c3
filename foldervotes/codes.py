"""Codes and numbers of the trees that can be made of a forest's pieces (3.3)."""


def many_of(forest):
    """How many trees can be made of the pieces."""
    many = 1
    for choices in _choices(forest):
        many *= len(choices)
    return many


def _choices(forest):
    """For each item of a code the ascending list of the places that it can be."""
    # Without another piece than the head's the code is empty.
    if len(forest.pieces) == 1:
        return []
    anywhere = sorted([place for lot in forest.open_places for place in lot])
    return [anywhere] * (len(forest.pieces) - 2) + [list(forest.open_places[0])]


def code_of(forest, hung):
    """The places under which the tops hang, in the order of striking."""
    left = forest.tops[1:]
    found = []
    while left:
        needed = [forest.top_of[hung[top - 1]] for top in left]
        top = _first_free(left, needed)
        found.append(hung[top - 1])
        left.remove(top)
    return tuple(found)


def hung_of(forest, code):
    """The hung of the tree that has a code."""
    ties = dict(forest.ties)
    left = forest.tops[1:]
    for at, place in enumerate(code):
        needed = [forest.top_of[later] for later in code[at:]]
        top = _first_free(left, needed)
        ties[top] = place
        left.remove(top)
    return tuple([ties[block] for block in sorted(ties)])


def _first_free(tops, needed):
    """The least top whose piece no other one needs any more."""
    return min([top for top in tops if top not in needed])


def number_of_code(forest, code):
    """How many codes are less."""
    number = 0
    for place, choices in zip(code, _choices(forest)):
        number = number * len(choices) + choices.index(place)
    return number


def code_of_number(forest, number):
    """The code that has a number; it is one of many_of."""
    backwards = []
    for choices in reversed(_choices(forest)):
        number, at = divmod(number, len(choices))
        backwards.append(choices[at])
    return tuple(backwards[::-1])


def hung_of_number(forest, number):
    """The hung of the tree that has a number; it is one of many_of."""
    return hung_of(forest, code_of_number(forest, number))
