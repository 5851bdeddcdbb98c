"""Ways between grid points: where a way is cut, a point of the surface lies on it."""


def is_cut(first, second, level):
    """Tell whether one of a way's two values is the level or above and the other is below."""
    return (first >= level) != (second >= level)


def common_divisor(larger, smaller):
    """Give the greatest number that divides two numbers, neither below 0 and not both 0."""
    while smaller != 0:
        rest = larger % smaller
        larger = smaller
        smaller = rest
    return larger


def part_of_way(first, second, level):
    """Give how far along a way that is cut its point lies: a fraction in lowest terms, what's divided first."""
    # The level is passed on the way from the first value to the second, so the two differences never have
    # opposite signs: without their signs the fraction is the same.
    gone = abs(level - first)
    whole = abs(second - first)
    divisor = common_divisor(whole, gone)
    return [gone // divisor, whole // divisor]
