"""Sequences of averages: two values at a time are replaced by their mean."""

MOST_VALUES = 8
LARGEST_VALUE = 99
MOST_PAIRS = 20
MOST_STEPS = 12
COUNTS_WITH_PLAN = (1, 2, 4, 8)

NO_SUCH_INDEX = -2
OUTSIDE_LIMITS = -22
NO_PLAN = -33


def apply_averages(values, pairs):
    """Answer whether all values are equal after the averages (1 or 0), then the values."""
    if not values_are_allowed(values) or not pairs_are_allowed(pairs, len(values)):
        return [OUTSIDE_LIMITS]
    averaged = values_after(rationals_from(values), pairs)
    return [equality_of(averaged)] + numbers_from(averaged)


def influence(count, index, pairs):
    """Answer count, then the values after the averages if the value at index is 1 and all others are 0 at first."""
    if not is_count(count):
        return [OUTSIDE_LIMITS]
    if not is_index(index, count):
        return [NO_SUCH_INDEX]
    if not pairs_are_allowed(pairs, count):
        return [OUTSIDE_LIMITS]
    return [count] + numbers_from(influence_after(count, index, pairs))


def always_equalizes(count, pairs):
    """Answer whether the averages make all values equal, whatever they are (1 or 0)."""
    if not is_count(count) or not pairs_are_allowed(pairs, count):
        return [OUTSIDE_LIMITS]
    # Averages are linear: if every influence comes out equal, so does every sum of multiples of them.
    return [min([equality_of(influence_after(count, index, pairs)) for index in range(count)])]


def plan(count):
    """Answer the number of pairs in the plan for count values, then the pairs."""
    if not is_count(count):
        return [OUTSIDE_LIMITS]
    if count not in COUNTS_WITH_PLAN:
        return [NO_PLAN]
    pairs = planned_pairs(count)
    return [len(pairs) // 2] + pairs


def spread(values, pairs):
    """Answer 0, then the largest minus the smallest value after the averages, then the sum of their squares."""
    if not values_are_allowed(values) or not pairs_are_allowed(pairs, len(values)):
        return [OUTSIDE_LIMITS]
    averaged = values_after(rationals_from(values), pairs)
    return [0] + numbers_from([largest_difference(averaged), sum_of_squares(averaged)])


def greedy_averaging(steps, values):
    """Answer whether all values are equal after so many greedy averages (1 or 0), then the values."""
    if not values_are_allowed(values) or not is_step_count(steps):
        return [OUTSIDE_LIMITS]
    averaged = values_after_greedy(rationals_from(values), steps)
    return [equality_of(averaged)] + numbers_from(averaged)


def values_are_allowed(values):
    """Tell whether the number of values and every value lie within the limits."""
    if not is_count(len(values)):
        return False
    return all([0 <= value <= LARGEST_VALUE for value in values])


def is_count(count):
    """Tell whether there may be so many values."""
    return 1 <= count <= MOST_VALUES


def is_step_count(steps):
    """Tell whether there may be so many greedy averages."""
    return 0 <= steps <= MOST_STEPS


def pairs_are_allowed(pairs, count):
    """Tell whether the flat list holds whole pairs, not too many, of two different existing indices."""
    if len(pairs) % 2 != 0 or len(pairs) > 2 * MOST_PAIRS:
        return False
    for i, j in split_pairs(pairs):
        if i == j or not is_index(i, count) or not is_index(j, count):
            return False
    return True


def is_index(index, count):
    """Tell whether there is a value with this index."""
    return 0 <= index < count


def split_pairs(pairs):
    """Give the flat list as a list of tuples of two indices."""
    return [(pairs[k], pairs[k + 1]) for k in range(0, len(pairs), 2)]


def planned_pairs(count):
    """Give the plan as a flat list; count is a power of two."""
    pairs = []
    distance = 1
    while distance < count:
        for i in range(count):
            # Only the lower half of each block of twice the distance: the upper half is its partners.
            if i // distance % 2 == 0:
                pairs.extend([i, i + distance])
        distance = 2 * distance
    return pairs


def rationals_from(integers):
    """Give each whole number as a numerator and a denominator."""
    return [(integer, 1) for integer in integers]


def values_after(rationals, pairs):
    """Give the rational numbers that stand after all averages, in a new list."""
    result = list(rationals)
    for i, j in split_pairs(pairs):
        middle = mean(result[i], result[j])
        result[i] = middle
        result[j] = middle
    return result


def values_after_greedy(rationals, steps):
    """Give the rational numbers that stand after so many greedy averages, in a new list."""
    result = list(rationals)
    for step in range(steps):
        result = values_after(result, best_pair(result))
    return result


def best_pair(rationals):
    """Give the two indices of the best pair as a list; it is empty where there is but one rational number."""
    best = []
    largest = (0, 1)
    for i in range(len(rationals)):
        for j in range(i + 1, len(rationals)):
            difference = absolute_difference(rationals[i], rationals[j])
            # Of several best pairs the first one stays, so a later one has to exceed it.
            if best == [] or is_less(largest, difference):
                best = [i, j]
                largest = difference
    return best


def influence_after(count, index, pairs):
    """Give the rational numbers that stand after all averages if the value at index is 1 and all others are 0."""
    initial = [1 if place == index else 0 for place in range(count)]
    return values_after(rationals_from(initial), pairs)


def mean(first, second):
    """Give the mean of two rational numbers."""
    total = added(first, second)
    return in_lowest_terms(total[0], 2 * total[1])


def added(first, second):
    """Give the sum of two rational numbers."""
    return in_lowest_terms(first[0] * second[1] + second[0] * first[1], first[1] * second[1])


def absolute_difference(first, second):
    """Give how far two rational numbers lie from each other."""
    return in_lowest_terms(abs(first[0] * second[1] - second[0] * first[1]), first[1] * second[1])


def is_less(first, second):
    """Tell whether the first rational number is less than the second."""
    # Denominators are positive, so multiplying by both of them keeps the order.
    return first[0] * second[1] < second[0] * first[1]


def largest_difference(rationals):
    """Give the largest rational number minus the smallest one."""
    smallest = rationals[0]
    largest = rationals[0]
    for rational in rationals:
        if is_less(rational, smallest):
            smallest = rational
        if is_less(largest, rational):
            largest = rational
    return absolute_difference(smallest, largest)


def sum_of_squares(rationals):
    """Give the sum of the squares of the rational numbers."""
    total = (0, 1)
    for numerator, denominator in rationals:
        total = added(total, (numerator * numerator, denominator * denominator))
    return total


def in_lowest_terms(numerator, denominator):
    """Give the rational number whose numerator and denominator have no common divisor but 1."""
    divisor = greatest_common_divisor(numerator, denominator)
    return (numerator // divisor, denominator // divisor)


def greatest_common_divisor(larger, smaller):
    """Give the greatest whole number that divides both; not both are 0."""
    while smaller != 0:
        rest = larger % smaller
        larger = smaller
        smaller = rest
    return larger


def equality_of(rationals):
    """Answer 1 if all rational numbers are equal, otherwise 0."""
    # Lowest terms are unique, so equal numbers are equal tuples.
    if all([rational == rationals[0] for rational in rationals]):
        return 1
    return 0


def numbers_from(rationals):
    """Give each numerator and its denominator, one behind the other in one flat list."""
    numbers = []
    for numerator, denominator in rationals:
        numbers.append(numerator)
        numbers.append(denominator)
    return numbers
