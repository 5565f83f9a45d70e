"""Linear equations and fractions over whole numbers, without rounding."""


def common_divisor(one, other):
    """Return the greatest common divisor of two numbers that are not negative."""
    while other > 0:
        rest = one % other
        one = other
        other = rest
    return one


def lowest_terms(numerator, denominator):
    """Return the fraction as [numerator, denominator]; neither may be negative."""
    divisor = common_divisor(numerator, denominator)
    return [numerator // divisor, denominator // divisor]


def without_unknown(row, pivot_row, unknown, last_pivot):
    """Return the row freed of the unknown by means of the pivot row."""
    pivot = pivot_row[unknown]
    factor = row[unknown]
    freed = []
    for value, pivot_value in zip(row, pivot_row):
        # Bareiss: dividing by the last pivot leaves no rest and keeps the numbers short.
        freed.append((value * pivot - factor * pivot_value) // last_pivot)
    return freed


def first_unknown(rows):
    """Return the row that is left for unknown 0 when all the other unknowns are gone.

    A row has a number for each unknown, as many as there are rows, and then the
    right sides. The rows must be such that each pivot is positive; what is left
    says that number 0 times the unknown is each of the right sides.
    """
    left = rows
    last_pivot = 1
    for unknown in range(len(rows) - 1, 0, -1):
        pivot_row = left[unknown]
        left = [without_unknown(row, pivot_row, unknown, last_pivot) for row in left[:unknown]]
        last_pivot = pivot_row[unknown]
    return left[0]
