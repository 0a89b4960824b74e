"""Rows of whole numbers brought to a diagonal, which tells what whole weights make of them."""


def block_of(rows, many):
    """The rows, beside each a 1 in a column of its own; below them a row with a 1 for each of their columns."""
    beside = [[*row, *[1 if one == at else 0 for one in range(len(rows))]] for at, row in enumerate(rows)]
    return beside + [[1 if one == at else 0 for one in range(many)] for at in range(many)]


def least_corner(block, at, rows, columns):
    """Where the number nearest to 0, but not 0, stands behind the corners up to at; None if all are 0."""
    there = [(i, j) for i in range(at, rows) for j in range(at, columns) if block[i][j] != 0]
    return min([(abs(block[i][j]), i, j) for i, j in there], default=(0, None, None))[1:]


def bring_to(block, at, i, j):
    """Brings what stands in row i and column j to the corner with this number."""
    block[at], block[i] = block[i], block[at]
    for number in range(len(block)):
        block[number][at], block[number][j] = block[number][j], block[number][at]


def lessen(block, at, rows, columns):
    """Takes the row, and the column, of the corner from those behind it as often as it goes."""
    for i in range(at + 1, rows):
        times = block[i][at] // block[at][at]
        block[i] = [one - times * other for one, other in zip(block[i], block[at])]
    for j in range(at + 1, columns):
        times = block[at][j] // block[at][at]
        for number in range(len(block)):
            block[number][j] = block[number][j] - times * block[number][at]


def is_done(block, at, rows, columns):
    """Whether nothing but 0 stands below and beside the corner."""
    below = all([block[i][at] == 0 for i in range(at + 1, rows)])
    return below and all([block[at][j] == 0 for j in range(at + 1, columns)])


def brought(rows, many):
    """The block of the rows, of so many columns, brought to a diagonal by steps that can be taken back.

    Each turn leaves 0 beside and below the corner, or a number nearer to 0 for the next turn; so it ends.
    """
    block = block_of(rows, many)
    at = 0
    i, j = least_corner(block, at, len(rows), many)
    while i is not None:
        bring_to(block, at, i, j)
        lessen(block, at, len(rows), many)
        if is_done(block, at, len(rows), many):
            at += 1
        i, j = least_corner(block, at, len(rows), many)
    return block


class Diagonal:
    """Rows of whole numbers, brought to a diagonal.

    numbers tells what stands in the diagonal, for each column, 0 where no row is left;
    makers the weights of the rows that make each row of the diagonal; columns what each
    of its columns is made of.
    """

    def __init__(self, rows, many):
        block = brought(rows, many)
        self.numbers = [block[at][at] if at < len(rows) else 0 for at in range(many)]
        self.makers = [block[at][many:] for at in range(min(len(rows), many))]
        self.columns = [[block[len(rows) + one][at] for one in range(many)] for at in range(many)]


def images_of(diagonal, row):
    """The row, in the columns of the diagonal."""
    return [sum([one * other for one, other in zip(row, column)]) for column in diagonal.columns]


def is_made(number, image):
    """Whether the image is a whole number of times the number in its column."""
    return image == 0 if number == 0 else image % number == 0


def weights_making(diagonal, many, row):
    """The list of whole weights, one for each of so many rows, that make the row; None if there are none."""
    weights = [0 for _ in range(many)]
    for at, image in enumerate(images_of(diagonal, row)):
        number = diagonal.numbers[at]
        if not is_made(number, image):
            return None
        if image != 0:
            times = image // number
            weights = [one + times * other for one, other in zip(weights, diagonal.makers[at])]
    return weights
