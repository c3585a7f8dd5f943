"""The same calls told another way: by fractions, and by who meets whom, plant by plant."""

from fractions import Fraction


def key(i, j):
    return (min(i, j), max(i, j))


def met(one, other):
    """What children two plants have, by the one of two kinds that each hands on."""
    children = {}
    for i in one:
        for j in other:
            children[key(i, j)] = children.get(key(i, j), 0) + Fraction(1, 4)
    return children


def by_any(shares):
    children = {pair: Fraction(0) for pair in shares}
    for one, first in shares.items():
        for other, second in shares.items():
            for pair, part in met(one, other).items():
                children[pair] += first * second * part
    return children


def by_themselves(shares):
    children = {pair: Fraction(0) for pair in shares}
    for one, first in shares.items():
        for pair, part in met(one, one).items():
            children[pair] += first * part
    return children


def generation(shares, s):
    alone = by_themselves(shares)
    mingled = by_any(shares)
    part = Fraction(s, 100)
    return {pair: part * alone[pair] + (1 - part) * mingled[pair] for pair in shares}


def mixed(shares):
    return sum((share for pair, share in shares.items() if pair[0] != pair[1]), Fraction(0))


def kind(shares, i):
    return sum((share * pair.count(i) / 2 for pair, share in shares.items()), Fraction(0))


def told(share):
    return [0, share.numerator, share.denominator]


class Model:
    """One object; each call is a method that gives its answer."""

    def __init__(self):
        self.pairs = None
        self.plants = []

    def answer(self, call):
        if call[0] != "start" and self.pairs is None:
            return [-11]
        return getattr(self, call[0])(*call[1:])

    def shares(self, f):
        total = sum(self.plants[f].values())
        return {pair: Fraction(count, total) for pair, count in self.plants[f].items()}

    def refusal(self, f, kinds, wrong=False):
        if f not in range(len(self.plants)):
            return [-2]
        if not any(self.plants[f].values()):
            return [-6]
        if wrong or any((i, i) not in self.pairs for i in kinds):
            return [-22]
        return None

    def start(self, k):
        if k not in (2, 3, 4):
            return [-22]
        self.pairs = [(i, j) for i in range(k) for j in range(k) if i <= j]
        self.plants = []
        return [0]

    def field(self, counts):
        if len(counts) != len(self.pairs) or [n for n in counts if n > 100]:
            return [-22]
        if len(self.plants) >= 6:
            return [-28]
        self.plants.append(dict(zip(self.pairs, counts)))
        return [len(self.plants) - 1]

    def put(self, f, i, j, n):
        if f not in range(len(self.plants)):
            return [-2]
        if key(i, j) not in self.pairs or not 0 < n <= 100 - self.plants[f][key(i, j)]:
            return [-22]
        self.plants[f][key(i, j)] += n
        return [self.plants[f][key(i, j)]]

    def take(self, f, i, j, n):
        if f not in range(len(self.plants)):
            return [-2]
        if key(i, j) not in self.pairs or n == 0:
            return [-22]
        if n > self.plants[f][key(i, j)]:
            return [-12]
        self.plants[f][key(i, j)] -= n
        return [self.plants[f][key(i, j)]]

    def share(self, f, i, j):
        return self.refusal(f, (i, j)) or told(self.shares(f)[key(i, j)])

    def kind(self, f, i):
        return self.refusal(f, (i,)) or told(kind(self.shares(f), i))

    def next(self, f, i, j):
        return self.refusal(f, (i, j)) or told(by_any(self.shares(f))[key(i, j)])

    def after(self, f, s, n, i, j):
        refusal = self.refusal(f, (i, j), s > 100 or n > 3)
        if refusal:
            return refusal
        shares = self.shares(f)
        for step in range(n):
            shares = generation(shares, s)
        return told(shares[key(i, j)])

    def mixed(self, f):
        return self.refusal(f, ()) or told(mixed(self.shares(f)))

    def expected(self, f):
        return self.refusal(f, ()) or told(mixed(by_any(self.shares(f))))
