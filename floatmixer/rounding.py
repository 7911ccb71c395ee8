"""How an exact whole number becomes a shorter one: what all the floats' rounding rests on."""


def nearest(count, drop):
    """The whole number nearest to count over 2 ** drop, of two as near the even one; drop is 0 at least."""
    if drop == 0:
        return count
    # One less than half, and one more where the last kept bit is odd: so a tie goes to the even one.
    return (count + (1 << (drop - 1)) - 1 + (count >> drop & 1)) >> drop
