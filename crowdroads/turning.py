"""Turning: complementary pivoting, Lemke's method, over whole numbers.

Sought are amounts from nought on, one for each row of a square matrix, such that the gap of each row (its offset
and its things by the amounts, added) is from nought on, and of each row's gap and amount one at least is nought.
"""

from crowdroads.fractions import NOUGHT, common_divisor, lowest, product_of


def common_bottom(amounts):
    """The least bottom over which all of the fractions can be written."""
    bottom = 1
    for amount in amounts:
        bottom = bottom // common_divisor(bottom, amount[1]) * amount[1]
    return bottom


def tops_over(amounts, bottom):
    """The tops of fractions, all of them written over one bottom, which is a common one."""
    return [amount[0] * (bottom // amount[1]) for amount in amounts]


def is_ahead(row, other, column, many):
    """Whether a row's first things, parted by its thing at the column, are ahead of another's in dictionary order.

    Both have a thing above nought at the column.
    """
    for place in range(many):
        mine = row[place] * other[column]
        theirs = other[place] * row[column]
        if mine != theirs:
            return mine < theirs
    return False


class Table:
    """Equations solved for as many unknowns as there are rows, all other unknowns being nought.

    The unknowns are gaps, amounts and a helper, which is added to all gaps so that they can be from nought on. A row
    begins with what its solved unknown comes to, then stands what each unknown takes from it. All things are whole
    numbers over one bottom: behind each turn they are determinants of the first rows, so that parting them by the
    bottom ahead leaves no rest. What unknowns come to is in a unit of its own: offsets with great bottoms would
    make all things long otherwise.
    """

    def __init__(self, matrix, offsets):
        bottoms = [common_bottom(row) for row in matrix]
        grown = [product_of(offset, (bottom, 1)) for offset, bottom in zip(offsets, bottoms)]
        self.many = len(offsets)
        self.helper = 2 * self.many + 1
        self.unit = common_bottom(grown)
        self.rows = []
        for number, first in enumerate(tops_over(grown, self.unit)):
            gaps = [1 if other == number else 0 for other in range(self.many)]
            things = [-thing for thing in tops_over(matrix[number], bottoms[number])]
            self.rows.append([first] + gaps + things + [-1])
        self.solved = list(range(1, self.many + 1))
        self.bottom = 1

    def partner(self, column):
        """The column of a gap's amount, or of an amount's gap."""
        if column <= self.many:
            return column + self.many
        return column - self.many

    def deepest_row(self):
        least = min([row[0] for row in self.rows])
        # Of equal ones the last is the least in dictionary order too, as its own gap stands behind the others'.
        return [number for number, row in enumerate(self.rows) if row[0] == least][-1]

    def leaving_row(self, column):
        """The row whose unknown is the first to come down to nought as the column's grows."""
        found = None
        for number, row in enumerate(self.rows):
            if row[column] > 0:
                # Where first things alone were asked, equal ones could lead the turns round for ever.
                if found is None or is_ahead(row, self.rows[found], column, self.many + 1):
                    found = number
        return found

    def turn(self, number, column):
        """Solves a row for the column's unknown; tells the column for which it was solved ahead."""
        turned = self.rows[number]
        found = []
        for row in self.rows:
            found.append([
                (thing * turned[column] - row[column] * other) // self.bottom for thing, other in zip(row, turned)
            ])
        found[number] = turned
        self.rows = found
        self.bottom = turned[column]
        left = self.solved[number]
        self.solved[number] = column
        return left

    def begin(self):
        """Solves the row that needs the helper most for it; then no unknown is below nought."""
        number = self.deepest_row()
        self.rows[number] = [-thing for thing in self.rows[number]]
        return self.turn(number, self.helper)

    def amounts(self):
        found = [NOUGHT for number in range(self.many)]
        for row, column in zip(self.rows, self.solved):
            if column > self.many:
                found[column - self.many - 1] = lowest(row[0], self.bottom * self.unit)
        return found


def complementary_amounts(matrix, offsets):
    """The amounts sought, for a matrix and offsets of fractions, one offset at least below nought.

    The turns come to them where some amounts make all gaps from nought on, and where, whatever the amounts, the sum
    of each row's amount by its things by the amounts is not below nought.
    """
    table = Table(matrix, offsets)
    left = table.begin()
    while left != table.helper:
        column = table.partner(left)
        left = table.turn(table.leaving_row(column), column)
    return table.amounts()
