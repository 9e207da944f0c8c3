"""How many trees have so many wrong words (5.3).

The trees are counted by a determinant: with some number x, let a tie of cost k weigh
x to the power k, and a tree the product of its ties. The matrix that has for each block
the sum of its ties' weights on the diagonal, and less the weight of the tie from row's to
column's block elsewhere, has the sum of all trees' weights as its determinant. That
is a polynomial in x, whose coefficients are the numbers that are sought; it is
found from its worths at 1, 2, 3 and so on.
"""

from foldervotes.errors import TooMany
from foldervotes.words import costs

MOST_BLOCKS_COUNTED = 10


def many_by_wrong(words):
    """At index k how many trees have just k wrong words, to the greatest with some."""
    if words.blocks > MOST_BLOCKS_COUNTED:
        raise TooMany(MOST_BLOCKS_COUNTED)
    table = [costs(words, block) for block in range(1, words.blocks + 1)]
    most = sum([max([wrong for wrong in row if wrong is not None]) for row in table])
    worths = [_determinant(_matrix(table, x)) for x in range(1, most + 2)]
    many = _polynomial(worths)
    while many[-1] == 0:
        many.pop()
    return tuple(many)


def _matrix(table, x):
    matrix = []
    for at, row in enumerate(table):
        weights = [0 if wrong is None else _power(x, wrong) for wrong in row]
        line = [-weight for weight in weights[1:]]
        line[at] = sum(weights)
        matrix.append(line)
    return matrix


def _power(x, exponent):
    power = 1
    for _ in range(exponent):
        power *= x
    return power


def _determinant(matrix):
    """The determinant of a matrix that has no 0 among its leading minors.

    All divisions leave no rest, as what is divided is a minor of two rows more.
    """
    rows = matrix
    last = 1
    while len(rows) > 1:
        first = rows[0]
        rows = [[(row[at] * first[0] - row[0] * first[at]) // last for at in range(1, len(row))]
                for row in rows[1:]]
        last = first[0]
    return rows[0][0]


def _polynomial(worths):
    """The coefficients of the polynomial with integers that has these worths at 1, 2, .."""
    slopes = list(worths)
    for step in range(1, len(slopes)):
        for at in range(len(slopes) - 1, step - 1, -1):
            slopes[at] = (slopes[at] - slopes[at - 1]) // step
    found = [0] * len(slopes)
    for at in range(len(slopes) - 1, -1, -1):
        # What was found so far is taken times x - (at + 1), and the slope added.
        found = [low - (at + 1) * here for low, here in zip([0] + found[:-1], found)]
        found[0] += slopes[at]
    return found
