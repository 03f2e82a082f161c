"""What the tests share: an own reckoning with fractions, and lists that can't be changed."""

from fractions import Fraction
from itertools import combinations

PLAN_FOR_FOUR = [0, 1, 2, 3, 0, 2, 1, 3]
PLAN_FOR_EIGHT = [0, 1, 2, 3, 4, 5, 6, 7,
                  0, 2, 1, 3, 4, 6, 5, 7,
                  0, 4, 1, 5, 2, 6, 3, 7]
PLANS = {1: [], 2: [0, 1], 4: PLAN_FOR_FOUR, 8: PLAN_FOR_EIGHT}

VALUES_OUTSIDE_LIMITS = {
    "empty": [],
    "9 elements": [1] * 9,
    "10 elements": [1] * 10,
    "element 100": [100],
    "element 100, first": [100, 0],
    "element 100, last": [0, 1, 2, 3, 4, 5, 6, 100],
    "element 4294967295": [4294967295],
    "element 4294967295, last": [0, 4294967295],
}

# Each holds for any number of values from 2 on.
PAIRS_OUTSIDE_LIMITS = {
    "odd length, 1": [0],
    "odd length, 3": [0, 1, 0],
    "odd length, 39": [0, 1] * 19 + [0],
    "odd length, 41": [0, 1] * 20 + [0],
    "index 8, as i": [8, 0],
    "index 8, as j": [0, 8],
    "largest index, as i": [4294967295, 0],
    "largest index, as j": [0, 4294967295],
    "index 8, in the 20th pair": [0, 1] * 19 + [0, 8],
    "index 0 twice": [0, 0],
    "index 1 twice": [1, 1],
    "index 1 twice, in the 20th pair": [0, 1] * 19 + [1, 1],
    "21 pairs": [0, 1] * 21,
    "22 pairs": [0, 1] * 22,
}


def refuse_change(*arguments, **options):
    raise AssertionError("a list that was handed in is changed")


class FixedList(list):
    """A list that fails the test on any change, even on one that would be taken back."""

    append = clear = extend = insert = pop = remove = reverse = sort = refuse_change
    __setitem__ = __delitem__ = __iadd__ = __imul__ = refuse_change


def reckon(values, pairs):
    """The values after the averages, as fractions."""
    result = [Fraction(value) for value in values]
    for i, j in zip(pairs[::2], pairs[1::2]):
        result[i] = result[j] = (result[i] + result[j]) / 2
    return result


def flat(fractions):
    """The fractions as an answer tells them: each numerator, then its denominator."""
    return [number for fraction in fractions for number in (fraction.numerator, fraction.denominator)]


def fractions_of(numbers):
    """The fractions that a flat list of numerators and denominators tells."""
    return [Fraction(*pair) for pair in zip(numbers[::2], numbers[1::2], strict=True)]


def mixed_pairs(count, pair_count, seed):
    """A fixed sequence of pairs of two different indices, in both orders; the same for the same arguments."""
    pairs = []
    for _ in range(pair_count):
        seed = (seed * 1103515245 + 12345) % 2**31
        i = (seed >> 8) % count
        j = (i + 1 + (seed >> 16) % (count - 1)) % count
        pairs += [i, j]
    return pairs


def mixed_values(count, seed):
    """Fixed values from 0 to 99; the same for the same arguments."""
    return [(seed * 37 + place * place * 29 + place * 11) % 100 for place in range(count)]


def assert_whole_numbers(case, answer):
    """Fail unless the answer is a list of int, none of them True or False."""
    case.assertIs(type(answer), list)
    for number in answer:
        case.assertIs(type(number), int)


def greedy_pairs(values, steps):
    """The best pairs, one behind the other in one flat list, that so many greedy averages take."""
    pairs = []
    for _ in range(steps if len(values) > 1 else 0):
        standing = reckon(values, pairs)
        differences = {(i, j): abs(standing[i] - standing[j]) for i, j in combinations(range(len(values)), 2)}
        largest = max(differences.values())
        pairs += min(pair for pair, difference in differences.items() if difference == largest)
    return pairs
