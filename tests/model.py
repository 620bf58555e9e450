"""The document's words once more, as plainly as they can be written, to compare the program with.

It goes by recursion from each stand and by Python's own fractions, where the program goes by tables and loops; who it
is behind some steps it finds forward, step by step, where the program goes backward from the end.
"""

import copy
from fractions import Fraction

NAMES = """begin act unact turn lock addtwins stand who does lights cost lonely go ifgo run entry paid became still
           promisenever promisestay promiseworth promiseis unpromise holds count""".split()
CHANGES = ("act", "unact", "turn", "lock", "addtwins")
# Of the calls that have a row, how many numbers stand ahead of it.
AHEAD_OF_ROW = {"act": 1, "run": 1, "promiseworth": 4}


class Model:
    def __init__(self):
        self.n = 0

    def answer(self, number, given):
        name = NAMES[number]
        if name != "begin" and not self.n:
            return [-11]
        if name in AHEAD_OF_ROW:
            given = [*given[:AHEAD_OF_ROW[name]], given[AHEAD_OF_ROW[name]:]]
        if name not in CHANGES:
            return getattr(self, name)(*given)
        before = copy.deepcopy(self.acts)
        told = getattr(self, name)(*given)
        self.known = {}
        if told[0] < 0 or all(self.kept(*promise) for promise in self.promises):
            return told
        self.acts, self.known = before, {}
        return [-30]

    def begin(self, n, v):
        if n not in (2, 3, 4) or v not in (1, 2, 3):
            return [-22]
        self.n, self.v, self.at = n, v, (0, 0, 0)
        self.acts = {place: [] for place in range(n)}
        self.entries, self.promises = [], []
        # Worths that were worked out since the acts were last changed.
        self.known = {}
        return [0]

    def act(self, p, row):
        if p >= self.n:
            return [-2]
        pays, weights = row[:self.v], row[self.v:]
        fits = len(pays) == self.v and len(weights) == self.n and any(weights)
        if not fits or any(abs(pay) > 9 for pay in pays) or any(weight not in range(10) for weight in weights):
            return [-22]
        if len(self.acts[p]) >= 3:
            return [-28]
        self.acts[p].append({"pays": pays, "weights": weights, "turn": 0, "lock": 0})
        return [len(self.acts[p]) - 1]

    def no_act(self, p, a):
        return p >= self.n or a >= len(self.acts[p])

    def unact(self, p, a):
        if self.no_act(p, a):
            return [-2]
        del self.acts[p][a]
        return [len(self.acts[p])]

    def turn(self, p, a, t):
        return self.put(p, a, "turn", t, self.v)

    def lock(self, p, a, b):
        return self.put(p, a, "lock", b, 1)

    def put(self, p, a, name, value, most):
        if self.no_act(p, a):
            return [-2]
        if value > most:
            return [-22]
        was = self.acts[p][a][name]
        self.acts[p][a][name] = value
        return [was]

    def twin(self, p, a):
        one = self.acts[p][a]
        return {"pays": one["pays"], "weights": one["weights"], "turn": 0, "lock": 0} in self.acts[p]

    def addtwins(self, p):
        if p >= self.n:
            return [-2]
        before = len(self.acts[p])
        for a in range(before):
            one = self.acts[p][a]
            if one["turn"] and not self.twin(p, a) and len(self.acts[p]) < 3:
                self.acts[p].append({"pays": one["pays"], "weights": one["weights"], "turn": 0, "lock": 0})
        return [len(self.acts[p]) - before]

    def lonely(self):
        found = [[p, a] for p in range(self.n) for a, one in enumerate(self.acts[p])
                 if one["turn"] and not self.twin(p, a)]
        return [len(found)] + sum(found, [])

    def stand(self, p, s, l):
        if p >= self.n or s >= self.v:
            return [-2]
        if l > 1:
            return [-22]
        was, self.at = self.at, (p, s, l)
        return [0, *was]

    def who(self):
        return [0, *self.at]

    def behind(self, one, q, s, l):
        return q, (one["turn"] - 1 if one["turn"] and not l else s), (1 if l or one["lock"] else 0)

    def brings(self, u, p, s, l, a, k):
        one = self.acts[p][a]
        mean = sum((Fraction(weight, sum(one["weights"])) * self.worth(u, *self.behind(one, q, s, l), k - 1)
                    for q, weight in enumerate(one["weights"]) if weight), Fraction(0))
        return one["pays"][u] + mean

    def best(self, p, s, l, k):
        brought = [self.brings(s, p, s, l, a, k) for a in range(len(self.acts[p]))]
        return brought.index(max(brought))

    def worth(self, u, p, s, l, k):
        if k == 0 or not self.acts[p]:
            return Fraction(0)
        if (u, p, s, l, k) not in self.known:
            self.known[u, p, s, l, k] = self.brings(u, p, s, l, self.best(p, s, l, k), k)
        return self.known[u, p, s, l, k]

    def ideal(self, u, p, k):
        if k == 0 or not self.acts[p]:
            return Fraction(0)
        return max(one["pays"][u] + sum(Fraction(weight, sum(one["weights"])) * self.ideal(u, q, k - 1)
                                        for q, weight in enumerate(one["weights"]) if weight)
                   for one in self.acts[p])

    def does(self, p, s, l, k):
        if p >= self.n or s >= self.v:
            return [-2]
        if l > 1 or k > 4 or k == 0:
            return [-22]
        return [self.best(p, s, l, k)] if self.acts[p] else [-33]

    def lights(self, p, s, l, k):
        if p >= self.n or s >= self.v:
            return [-2]
        if l > 1 or k > 4:
            return [-22]
        return [self.v] + sum([list(self.worth(u, p, s, l, k).as_integer_ratio()) for u in range(self.v)], [])

    def cost(self, s, t, p, l, k):
        if p >= self.n or s >= self.v or t >= self.v:
            return [-2]
        if l > 1 or k > 4:
            return [-22]
        return [0, *(self.worth(s, p, s, l, k) - self.worth(s, p, t, l, k)).as_integer_ratio()]

    def wrong_step(self, k, luck):
        return k not in (1, 2, 3, 4) or luck > 999

    def step(self, k, luck):
        """The act that is done from where it stands, how it stands behind it, and what is paid."""
        a = self.best(*self.at, k)
        one = self.acts[self.at[0]][a]
        upto = [Fraction(1000 * sum(one["weights"][:q + 1]), sum(one["weights"])) for q in range(self.n)]
        q = [luck < edge for edge in upto].index(True)
        return a, self.behind(one, q, *self.at[1:]), one["pays"]

    def ifgo(self, k, luck):
        if self.wrong_step(k, luck):
            return [-22]
        if not self.acts[self.at[0]]:
            return [-33]
        a, behind, pays = self.step(k, luck)
        return [a, *behind]

    def go(self, k, luck):
        if len(self.entries) == 16 and not self.wrong_step(k, luck):
            return [-28]
        told = self.ifgo(k, luck)
        if told[0] >= 0:
            self.entries.append(([told[0], k, *self.at, *told[1:]], list(self.step(k, luck)[2])))
            self.at = tuple(told[1:])
        return told

    def run(self, k, row):
        if k == 0 or k > 4 or len(row) != k or max(row) > 999:
            return [-22]
        if len(self.entries) + k > 16:
            return [-28]
        before = len(self.entries)
        for left, luck in zip(range(k, 0, -1), row):
            self.go(left, luck)
        return [len(self.entries) - before, *self.at]

    def entry(self, i):
        return self.entries[i][0] if i < len(self.entries) else [-2]

    def paid(self):
        return [len(self.entries), *[sum(pays[u] for told, pays in self.entries) for u in range(self.v)]]

    def became(self):
        return [sum(1 for told, pays in self.entries if told[3] != told[6])]

    def spread(self, at, k, steps):
        """How likely it stands how behind so many steps, if it stands so, with k left at first."""
        found = {at: Fraction(1)}
        for left in range(k, k - steps, -1):
            later = {}
            for (p, s, l), chance in found.items():
                if not self.acts[p]:
                    later[p, s, l] = later.get((p, s, l), 0) + chance
                    continue
                one = self.acts[p][self.best(p, s, l, left)]
                for q, weight in enumerate(one["weights"]):
                    then = self.behind(one, q, s, l)
                    later[then] = later.get(then, 0) + chance * Fraction(weight, sum(one["weights"]))
            found = later
        return found

    def likely(self, at, k, steps):
        return sum((chance for then, chance in self.spread(at, k, steps).items() if then[1] == at[1]), Fraction(0))

    def still(self, k):
        return [-22] if k > 4 else [0, *self.likely(self.at, k, k).as_integer_ratio()]

    def turns(self, s, k):
        done = [self.acts[p][self.best(p, s, 0, k)]["turn"] for p in range(self.n) if self.acts[p]]
        return any(turn not in (0, s + 1) for turn in done)

    def kept(self, w, u, s, p, k, x):
        if w == 0:
            return not any(self.turns(s, steps) for steps in range(1, k + 1))
        if w == 1:
            return all(self.likely((p, s, 0), k, steps) == 1 for steps in range(k + 1))
        return self.worth(u, p, s, 0, k) >= x

    def promise(self, refused, promise):
        if refused:
            return refused
        if promise in self.promises:
            return [-17]
        if not self.kept(*promise):
            return [-30]
        if len(self.promises) == 4:
            return [-28]
        self.promises.append(promise)
        return [self.promises.index(promise)]

    def wrong(self, selves, places, k):
        if max(selves) >= self.v or max(places) >= self.n:
            return [-2]
        return [] if k in range(1, 5) else [-22]

    def promisenever(self, s, k):
        return self.promise(self.wrong([s], [0], k), [0, 0, s, 0, k, 0])

    def promisestay(self, s, p, k):
        return self.promise(self.wrong([s], [p], k), [1, 0, s, p, k, 0])

    def promiseworth(self, u, s, p, k, row):
        refused = self.wrong([u, s], [p], k)
        if not refused and (len(row) != 1 or abs(row[0]) > 99):
            refused = [-22]
        return self.promise(refused, [2, u, s, p, k, *row])

    def promiseis(self, i):
        return list(self.promises[i]) if i < len(self.promises) else [-2]

    def unpromise(self, i):
        if i >= len(self.promises):
            return [-2]
        del self.promises[i]
        return [len(self.promises)]

    def holds(self, w, s, p, k):
        refused = self.wrong([s], [p], k)
        if refused or w > 1:
            return refused or [-22]
        return [int(self.kept(w, 0, s, p, k, 0))]

    def count(self):
        return [4, self.n, self.v, len(self.promises), len(self.entries)]
