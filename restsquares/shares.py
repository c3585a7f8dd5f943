"""Shares of pairs and of kinds.

A generation is a list of weights, whole numbers, one for each pair in order: a pair's share is
its weight by the sum of all. So the plants of a field, counted, are weights too, and nothing
has to be divided before the end.
"""

HUNDRED = 100


def common_divisor(a, b):
    while b > 0:
        left = a % b
        a = b
        b = left
    return a


def fraction(upper, lower):
    divisor = common_divisor(upper, lower)
    return [upper // divisor, lower // divisor]


def pair_count(kinds):
    return kinds * (kinds + 1) // 2


def pair_place(kinds, i, j):
    low = min(i, j)
    high = max(i, j)
    # Ahead of the pairs that begin with low are those of each lower kind: kinds, kinds - 1, ..
    return low * kinds - low * (low - 1) // 2 + high - low


# A weight for each kind; all together are twice the sum of the pairs' weights.
def kind_weights(kinds, weights):
    found = []
    for i in range(kinds):
        once_or_twice = sum([weights[pair_place(kinds, i, j)] for j in range(kinds)])
        # A plant that is the kind twice has come once so far, and counts double.
        found.append(once_or_twice + weights[pair_place(kinds, i, i)])
    return found


# The children if she is always of the one, he of the other; their sum is four times the product of both sums.
def weights_crossed(kinds, hers, his):
    of_hers = kind_weights(kinds, hers)
    of_his = kind_weights(kinds, his)
    children = []
    for i in range(kinds):
        children.append(of_hers[i] * of_his[i])
        for j in range(i + 1, kinds):
            # Either kind of the pair may come from her.
            children.append(of_hers[i] * of_his[j] + of_hers[j] * of_his[i])
    return children


# The next generation if any two meet alike; its sum is four times the square of the old one.
def weights_by_any(kinds, weights):
    return weights_crossed(kinds, weights, weights)


# The next generation if each meets itself alone; its sum is four times the old one.
def weights_by_themselves(kinds, weights):
    of_kinds = kind_weights(kinds, weights)
    children = []
    for i in range(kinds):
        # Four of each plant that is i twice, one of each that is i once: of_kinds has two and one.
        children.append(of_kinds[i] + 2 * weights[pair_place(kinds, i, i)])
        for j in range(i + 1, kinds):
            children.append(2 * weights[pair_place(kinds, i, j)])
    return children


def next_weights(kinds, weights, s):
    alone = weights_by_themselves(kinds, weights)
    mingled = weights_by_any(kinds, weights)
    # Both must have one sum before they are put together, and that of mingled is
    # the other one's times the old sum.
    total = sum(weights)
    return [s * total * own + (HUNDRED - s) * other for own, other in zip(alone, mingled)]


def later_weights(kinds, weights, s, n):
    later = list(weights)
    for generation in range(n):
        later = next_weights(kinds, later, s)
    return later


def weights_together(one, other):
    return [first + second for first, second in zip(one, other)]


def is_at_rest(kinds, weights):
    children = weights_by_any(kinds, weights)
    total = sum(weights)
    children_total = sum(children)
    return all([own * children_total == child * total for own, child in zip(weights, children)])


# After how many generations, at most n, the weights are at rest first; None if they aren't by then.
def generations_to_rest(kinds, weights, n):
    later = list(weights)
    for generation in range(n + 1):
        if is_at_rest(kinds, later):
            return generation
        later = weights_by_any(kinds, later)
    return None


def share_of_pair(kinds, weights, i, j):
    return fraction(weights[pair_place(kinds, i, j)], sum(weights))


def share_of_kind(kinds, weights, i):
    return fraction(kind_weights(kinds, weights)[i], 2 * sum(weights))


def share_mixed(kinds, weights):
    total = sum(weights)
    alike = sum([weights[pair_place(kinds, i, i)] for i in range(kinds)])
    return fraction(total - alike, total)


def share_expected(kinds, weights):
    return share_mixed(kinds, weights_by_any(kinds, weights))


# One less mixed by expected; there is none if expected is 0.
def lack_of_mixed(mixed, expected):
    whole = expected[0] * mixed[1]
    return fraction(whole - mixed[0] * expected[1], whole)


def rarest_kind(kinds, weights):
    of_kinds = kind_weights(kinds, weights)
    return of_kinds.index(min(of_kinds))


# What is left of 1 when half of s hundredths is taken away, n times with itself.
def left_by_halves(s, n):
    # Half of s hundredths is s by twice as many; that way nothing is divided before the end.
    whole = 2 * HUNDRED
    upper = 1
    lower = 1
    for step in range(n):
        upper = upper * (whole - s)
        lower = lower * whole
    return fraction(upper, lower)
