"""Sums of the products of two rows, each product and each sum rounded by itself."""

from floatmixer.singles import MOST_BITS, PRODUCT_FINER, is_finite, plus, rounded, single, steps, times


def sum_of_products(a, b):
    """0, plus a's first times b's first, plus a's second times b's second, and so on."""
    total = 0
    for left, right in zip(a, b):
        total = plus(total, times(left, right))
    return total


def steps_of_row(row):
    """The row's numbers as steps, or None where one of them is infinite or no number."""
    if not all([is_finite(bits) for bits in row]):
        return None
    return [steps(bits) for bits in row]


def finite_sum_of_products(a, b):
    """As sum_of_products, of rows of steps; None where a product or a sum is beyond the largest single.

    Steps don't know a zero's sign, and needn't here: a sum that starts at the zero above never becomes the
    zero below, and which zero is added to it makes no difference.
    """
    total = 0
    for left, right in zip(a, b):
        product = rounded(left * right, PRODUCT_FINER)
        total = rounded(total + product, 0)
        if product.bit_length() > MOST_BITS or total.bit_length() > MOST_BITS:
            return None
    return total


def sliding_sums(row, other, n):
    """For each i below n the sum of row's products with as many numbers of other, from its i-th on.

    Such sums are by far the most work there is, so each number is made steps once, not for each product.
    """
    row_steps = steps_of_row(row)
    other_steps = steps_of_row(other)
    results = []
    for i in range(n):
        total = None
        if row_steps is not None and other_steps is not None:
            total = finite_sum_of_products(row_steps, other_steps[i:i + len(row)])
        if total is None:
            results.append(sum_of_products(row, other[i:i + len(row)]))
        else:
            results.append(single(total))
    return results
