"""The document's words once more, as plainly as they can be written, to compare the program with.

It goes by recursion from each stand and by Python's own fractions, where the program goes by tables and loops.
"""

from fractions import Fraction


class Model:
    def __init__(self):
        self.n = 0

    def answer(self, number, given):
        if number != 0 and not self.n:
            return [-11]
        names = ["begin", "act", "unact", "turn", "lock", "addtwins", "stand", "who", "does", "lights", "cost",
                 "lonely", "go"]
        if names[number] == "act":
            return self.act(given[0], given[1:])
        return getattr(self, names[number])(*given)

    def begin(self, n, v):
        if n not in (2, 3, 4) or v not in (1, 2, 3):
            return [-22]
        self.n, self.v, self.entries, self.at = n, v, 0, (0, 0, 0)
        self.acts = {place: [] for place in range(n)}
        return [0]

    def act(self, p, row):
        if p >= self.n:
            return [-2]
        pays, weights = row[:self.v], row[self.v:]
        fits = len(pays) == self.v and len(weights) == self.n and any(weights)
        if not fits or any(abs(pay) > 9 for pay in pays) or any(weight not in range(10) for weight in weights):
            return [-22]
        if len(self.acts[p]) >= 3:
            return [-28]
        self.acts[p].append({"pays": pays, "weights": weights, "turn": 0, "lock": 0})
        return [len(self.acts[p]) - 1]

    def no_act(self, p, a):
        return p >= self.n or a >= len(self.acts[p])

    def unact(self, p, a):
        if self.no_act(p, a):
            return [-2]
        del self.acts[p][a]
        return [len(self.acts[p])]

    def turn(self, p, a, t):
        return self.put(p, a, "turn", t, self.v)

    def lock(self, p, a, b):
        return self.put(p, a, "lock", b, 1)

    def put(self, p, a, name, value, most):
        if self.no_act(p, a):
            return [-2]
        if value > most:
            return [-22]
        was = self.acts[p][a][name]
        self.acts[p][a][name] = value
        return [was]

    def twin(self, p, a):
        one = self.acts[p][a]
        return {"pays": one["pays"], "weights": one["weights"], "turn": 0, "lock": 0} in self.acts[p]

    def addtwins(self, p):
        if p >= self.n:
            return [-2]
        before = len(self.acts[p])
        for a in range(before):
            one = self.acts[p][a]
            if one["turn"] and not self.twin(p, a) and len(self.acts[p]) < 3:
                self.acts[p].append({"pays": one["pays"], "weights": one["weights"], "turn": 0, "lock": 0})
        return [len(self.acts[p]) - before]

    def lonely(self):
        found = [[p, a] for p in range(self.n) for a, one in enumerate(self.acts[p])
                 if one["turn"] and not self.twin(p, a)]
        return [len(found)] + sum(found, [])

    def stand(self, p, s, l):
        if p >= self.n or s >= self.v:
            return [-2]
        if l > 1:
            return [-22]
        was, self.at = self.at, (p, s, l)
        return [0, *was]

    def who(self):
        return [0, *self.at]

    def behind(self, one, q, s, l):
        return q, (one["turn"] - 1 if one["turn"] and not l else s), (1 if l or one["lock"] else 0)

    def brings(self, u, p, s, l, a, k):
        one = self.acts[p][a]
        mean = sum((Fraction(weight, sum(one["weights"])) * self.worth(u, *self.behind(one, q, s, l), k - 1)
                    for q, weight in enumerate(one["weights"]) if weight), Fraction(0))
        return one["pays"][u] + mean

    def best(self, p, s, l, k):
        brought = [self.brings(s, p, s, l, a, k) for a in range(len(self.acts[p]))]
        return brought.index(max(brought))

    def worth(self, u, p, s, l, k):
        if k == 0 or not self.acts[p]:
            return Fraction(0)
        return self.brings(u, p, s, l, self.best(p, s, l, k), k)

    def ideal(self, u, p, k):
        if k == 0 or not self.acts[p]:
            return Fraction(0)
        return max(one["pays"][u] + sum(Fraction(weight, sum(one["weights"])) * self.ideal(u, q, k - 1)
                                        for q, weight in enumerate(one["weights"]) if weight)
                   for one in self.acts[p])

    def does(self, p, s, l, k):
        if p >= self.n or s >= self.v:
            return [-2]
        if l > 1 or k > 4 or k == 0:
            return [-22]
        return [self.best(p, s, l, k)] if self.acts[p] else [-33]

    def lights(self, p, s, l, k):
        if p >= self.n or s >= self.v:
            return [-2]
        if l > 1 or k > 4:
            return [-22]
        return [self.v] + sum([list(self.worth(u, p, s, l, k).as_integer_ratio()) for u in range(self.v)], [])

    def cost(self, s, t, p, l, k):
        if p >= self.n or s >= self.v or t >= self.v:
            return [-2]
        if l > 1 or k > 4:
            return [-22]
        return [0, *(self.worth(s, p, s, l, k) - self.worth(s, p, t, l, k)).as_integer_ratio()]

    def go(self, k, luck):
        if k > 4 or k == 0 or luck > 999:
            return [-22]
        if self.entries == 16:
            return [-28]
        p, s, l = self.at
        if not self.acts[p]:
            return [-33]
        a = self.best(p, s, l, k)
        one = self.acts[p][a]
        upto = [Fraction(1000 * sum(one["weights"][:q + 1]), sum(one["weights"])) for q in range(self.n)]
        q = [luck < edge for edge in upto].index(True)
        self.at = self.behind(one, q, s, l)
        self.entries += 1
        return [a, *self.at]
