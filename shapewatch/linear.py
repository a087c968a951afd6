"""Exact solution of systems of linear equations over whole numbers."""


# Each unknown is its share divided by the divisor. One divisor for all spares fractions where values are compared.
class Solution:
    def __init__(self, shares, divisor):
        self.shares = shares
        self.divisor = divisor


def without_unknown(row, pivot_row, column, previous):
    pivot = pivot_row[column]
    factor = row[column]
    # The division leaves no rest: every number here is a minor of the system, and this keeps it one.
    return [(pivot * number - factor * other) // previous for number, other in zip(row, pivot_row)]


# A row is the coefficients and then the right side. The diagonal must be positive and outweigh the rest of each
# row: then no pivot is 0, no rows need to change places, and the divisor (the determinant) is positive.
def solved(rows):
    system = rows
    previous = 1
    for column in range(len(rows)):
        pivot_row = system[column]
        system = [
            row if place == column else without_unknown(row, pivot_row, column, previous)
            for place, row in enumerate(system)
        ]
        previous = pivot_row[column]
    return Solution([row[-1] for row in system], previous)
