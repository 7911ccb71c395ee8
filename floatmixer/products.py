"""Sums of the products of two rows, each product and each sum rounded by itself."""

from floatmixer.singles import FINER, PRECISION, is_finite, is_no_number, plus, single, steps, times

# A total that rounding takes more bits from than this is 2 ** 127 at least: it may be beyond the largest single.
MOST_DROPPED = 252
# No product of two finite singles is longer than 554 bits.
MOST_DROPPED_OF_PRODUCT = 530


def sum_of_products(a, b):
    """0, plus a's first times b's first, plus a's second times b's second, and so on."""
    total = 0
    for left, right in zip(a, b):
        total = plus(total, times(left, right))
        # It stays no number, whatever comes behind.
        if is_no_number(total):
            return total
    return total


def finite_sum_of_products(a, b, below_half):
    """As sum_of_products, of rows of steps; None where a product or a total may be beyond the largest single.

    Steps don't know a zero's sign, and needn't here: a sum that starts at the zero above never becomes the
    zero below, and which zero is added to it makes no difference.
    """
    total = 0
    for left, right in zip(a, b):
        # Both roundings are written out, as calls would take longer than the rest; rounding.nearest says how.
        product = left * right
        drop = product.bit_length() - PRECISION
        if drop < FINER:
            drop = FINER
        total += (product + below_half[drop] + (product >> drop & 1)) >> drop << (drop - FINER)
        drop = total.bit_length() - PRECISION
        if drop > 0:
            # This sees a product of 2 ** 128 or more too: the total ahead of it was 2 ** 127 at the most.
            if drop > MOST_DROPPED:
                return None
            total = (total + below_half[drop] + (total >> drop & 1)) >> drop << drop
    return total


def one_less_than_halves():
    """For each number of bits that may be dropped: one less than half of the last bit that is kept."""
    return [0] + [(1 << (drop - 1)) - 1 for drop in range(1, MOST_DROPPED_OF_PRODUCT + 1)]


def steps_of_row(row):
    """The row's numbers as steps; what is not finite has 0 in its place."""
    return [steps(bits) if is_finite(bits) else 0 for bits in row]


def not_finite_before(row):
    """For each place, the one behind the last too, how many numbers ahead of it are infinite or no number."""
    counts = [0]
    for bits in row:
        counts.append(counts[-1] if is_finite(bits) else counts[-1] + 1)
    return counts


def sliding_sums(row, other, n):
    """For each i below n the sum of row's products with as many numbers of other, from its i-th on.

    Such sums are by far the most work there is, so each number is made steps once, not for each product.
    """
    size = len(row)
    row_steps = steps_of_row(row)
    other_steps = steps_of_row(other)
    not_finite = not_finite_before(other)
    is_row_finite = not_finite_before(row)[size] == 0
    below_half = one_less_than_halves()
    results = []
    for i in range(n):
        total = None
        if is_row_finite and not_finite[i] == not_finite[i + size]:
            total = finite_sum_of_products(row_steps, other_steps[i:i + size], below_half)
        if total is None:
            results.append(sum_of_products(row, other[i:i + size]))
        else:
            results.append(single(total))
    return results
