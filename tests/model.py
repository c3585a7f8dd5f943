"""The same calls told another way: by fractions, and by who meets whom, plant by plant."""

from fractions import Fraction


def key(i, j):
    return (min(i, j), max(i, j))


def met(one, other):
    """What children two plants have, by the one of two kinds that each hands on."""
    children = {}
    for i in one:
        for j in other:
            children[key(i, j)] = children.get(key(i, j), 0) + Fraction(1, 4)
    return children


def crossed(hers, his):
    children = {pair: Fraction(0) for pair in hers}
    for one, first in hers.items():
        for other, second in his.items():
            for pair, part in met(one, other).items():
                children[pair] += first * second * part
    return children


def by_any(shares):
    return crossed(shares, shares)


def by_themselves(shares):
    children = {pair: Fraction(0) for pair in shares}
    for one, first in shares.items():
        for pair, part in met(one, one).items():
            children[pair] += first * part
    return children


def generation(shares, s):
    alone = by_themselves(shares)
    mingled = by_any(shares)
    part = Fraction(s, 100)
    return {pair: part * alone[pair] + (1 - part) * mingled[pair] for pair in shares}


def mixed(shares):
    return sum((share for pair, share in shares.items() if pair[0] != pair[1]), Fraction(0))


def kind(shares, i):
    return sum((share * pair.count(i) / 2 for pair, share in shares.items()), Fraction(0))


def told(*shares):
    found = [0]
    for share in shares:
        found += [share.numerator, share.denominator]
    return found


def rests(shares):
    return int(by_any(shares) == shares)


def by_all(plants):
    total = sum(plants.values())
    return {pair: Fraction(count, total) for pair, count in plants.items()}


class Model:
    """One object; each call is a method that gives its answer."""

    def __init__(self):
        self.kinds = 0
        self.pairs = None
        self.plants = []

    def answer(self, call):
        if call[0] != "start" and self.pairs is None:
            return [-11]
        return getattr(self, call[0])(*call[1:])

    def shares(self, f):
        return by_all(self.plants[f])

    def refusal(self, f, kinds, wrong=False):
        if f not in range(len(self.plants)):
            return [-2]
        if not any(self.plants[f].values()):
            return [-6]
        if wrong or any((i, i) not in self.pairs for i in kinds):
            return [-22]
        return None

    def refusal_of_two(self, f, g, kinds):
        return self.refusal(f, ()) or self.refusal(g, ()) or self.refusal(f, kinds)

    def start(self, k):
        if k not in (2, 3, 4):
            return [-22]
        self.kinds = k
        self.pairs = [(i, j) for i in range(k) for j in range(k) if i <= j]
        self.plants = []
        return [0]

    def field(self, counts):
        if len(counts) != len(self.pairs) or [n for n in counts if n > 100]:
            return [-22]
        if len(self.plants) >= 6:
            return [-28]
        self.plants.append(dict(zip(self.pairs, counts)))
        return [len(self.plants) - 1]

    def put(self, f, i, j, n):
        if f not in range(len(self.plants)):
            return [-2]
        if key(i, j) not in self.pairs or not 0 < n <= 100 - self.plants[f][key(i, j)]:
            return [-22]
        self.plants[f][key(i, j)] += n
        return [self.plants[f][key(i, j)]]

    def take(self, f, i, j, n):
        if f not in range(len(self.plants)):
            return [-2]
        if key(i, j) not in self.pairs or n == 0:
            return [-22]
        if n > self.plants[f][key(i, j)]:
            return [-12]
        self.plants[f][key(i, j)] -= n
        return [self.plants[f][key(i, j)]]

    def share(self, f, i, j):
        return self.refusal(f, (i, j)) or told(self.shares(f)[key(i, j)])

    def kind(self, f, i):
        return self.refusal(f, (i,)) or told(kind(self.shares(f), i))

    def next(self, f, i, j):
        return self.refusal(f, (i, j)) or told(by_any(self.shares(f))[key(i, j)])

    def after(self, f, s, n, i, j):
        refusal = self.refusal(f, (i, j), s > 100 or n > 3)
        if refusal:
            return refusal
        shares = self.shares(f)
        for step in range(n):
            shares = generation(shares, s)
        return told(shares[key(i, j)])

    def mixed(self, f):
        return self.refusal(f, ()) or told(mixed(self.shares(f)))

    def expected(self, f):
        return self.refusal(f, ()) or told(mixed(by_any(self.shares(f))))

    def lack(self, f):
        refusal = self.refusal(f, ())
        if refusal:
            return refusal
        expected = mixed(by_any(self.shares(f)))
        return told(1 - mixed(self.shares(f)) / expected) if expected else [-33]

    def rest(self, f):
        return self.refusal(f, ()) or [rests(self.shares(f))]

    def soon(self, f, n):
        refusal = self.refusal(f, (), n > 3)
        if refusal:
            return refusal
        shares = self.shares(f)
        behind = 0
        while behind <= n:
            if rests(shares):
                return [behind]
            shares = by_any(shares)
            behind += 1
        return [-33]

    def together(self, f, g):
        refusal = self.refusal_of_two(f, g, ())
        if refusal:
            return refusal
        shares = by_all({pair: self.plants[f][pair] + self.plants[g][pair] for pair in self.pairs})
        return told(mixed(by_any(shares)), mixed(shares))

    def cross(self, f, g, i, j):
        return self.refusal_of_two(f, g, (i, j)) or told(crossed(self.shares(f), self.shares(g))[key(i, j)])

    def crossNext(self, f, g):
        refusal = self.refusal_of_two(f, g, ())
        if refusal:
            return refusal
        children = crossed(self.shares(f), self.shares(g))
        return [rests(children), rests(by_any(children))]

    def rarest(self, f):
        refusal = self.refusal(f, ())
        if refusal:
            return refusal
        share, i = min((kind(self.shares(f), i), i) for i in range(self.kinds))
        return [i, share.numerator, share.denominator]

    def size(self, f):
        return [sum(self.plants[f].values())] if f in range(len(self.plants)) else [-2]

    def half(self, s, n):
        return [-22] if s > 100 or n > 10 else told((1 - Fraction(s, 100) / 2) ** n)

    def state(self):
        return [self.kinds, len(self.plants)]
