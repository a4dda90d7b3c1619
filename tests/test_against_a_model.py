"""The program beside a model that is built another way: worlds as sets of letters, claims as sets of worlds."""

import itertools
import random
import unittest

from tests.lines import BIGGEST, BUILT, NAMES, WIDTHS, ask


def flipped(world, letter):
    return world ^ frozenset([letter])


def spread(claim, letters):
    """The claim with each of the letters forgotten, one at a time."""
    for letter in letters:
        claim = claim | frozenset(flipped(world, letter) for world in claim)
    return claim


def depends_on(claim, letter):
    return any(flipped(world, letter) not in claim for world in claim)


def partitions(things):
    """All ways to put the things into heaps."""
    if not things:
        yield []
        return
    for rest in partitions(things[1:]):
        yield [[things[0]]] + rest
        for k in range(len(rest)):
            yield rest[:k] + [[things[0]] + rest[k]] + rest[k + 1:]


class Model:
    def __init__(self):
        self.m = None

    def claim(self, number):
        return frozenset(world for k, world in enumerate(self.worlds) if number >> k & 1)

    def number(self, claim):
        return sum(1 << sum(1 << letter for letter in world) for world in claim)

    def letters(self, number):
        return frozenset(i for i in range(self.m) if number >> i & 1)

    def others(self, letters):
        return frozenset(range(self.m)) - letters

    def finest(self, claim):
        """The heaps, as many as can be, of which the claim is made up."""
        best = []
        for heaps in partitions(list(range(self.m))):
            made = self.always
            for heap in heaps:
                made = made & spread(claim, self.others(frozenset(heap)))
            if made == claim and len(heaps) > len(best):
                best = heaps
        return best

    def answer(self, name, given):
        if name == "begin":
            return self.begin(*given)
        if self.m is None:
            return [-11]
        if name in ("back", "again", "shared"):
            return getattr(self, name)()
        w = given[0]
        if w not in (0, 1):
            return [-2]
        own, known = self.states[self.at]
        if name in ("learn", "revise", "follows", "is_open"):
            if given[1] >= 2 ** 2 ** self.m:
                return [-22]
            q = self.claim(given[1])
            if any(depends_on(q, letter) for letter in self.others(own[w])):
                return [-62]
            return getattr(self, name)(w, q)
        if name in ("forget", "tellof", "tells"):
            if given[1] >= 2 ** self.m:
                return [-22]
            s = self.letters(given[1])
            if name != "forget" and not s <= own[0] & own[1]:
                return [-62]
            return getattr(self, name)(w, s)
        return getattr(self, name)(*given)

    def begin(self, m, a, b):
        if m not in (1, 2, 3, 4) or a >= 2 ** m or b >= 2 ** m:
            return [-22]
        self.m = m
        self.worlds = [frozenset(i for i in range(m) if k >> i & 1) for k in range(2 ** m)]
        self.always = frozenset(self.worlds)
        # Every state since the begin; the one that is so now; the least one that can be gone back to.
        self.states = [((self.letters(a), self.letters(b)), (self.always, self.always))]
        self.at = 0
        return [0]

    def now(self):
        return self.states[self.at]

    def go_on(self, own=None, known=None):
        before = self.now()
        self.states = self.states[:self.at + 1] + [(own or before[0], known or before[1])]
        self.states = self.states[-21:]
        self.at = len(self.states) - 1

    def hold(self, w, claim):
        known = list(self.now()[1])
        known[w] = claim
        self.go_on(known=tuple(known))

    def learn(self, w, q):
        both = self.now()[1][w] & q
        if not both:
            return [-33]
        self.hold(w, both)
        return [len(both)]

    def forget(self, w, s):
        self.hold(w, spread(self.now()[1][w], s))
        return [self.number(self.now()[1][w])]

    def revise(self, w, q):
        known = self.now()[1][w]
        if not q:
            return [-33]
        result = known & q
        if not result:
            result = q
            for heap in self.finest(known):
                if not any(depends_on(q, letter) for letter in heap):
                    result = result & spread(known, self.others(frozenset(heap)))
        self.hold(w, result)
        return [self.number(result)]

    def tell(self, w):
        own = self.now()[0]
        return self.tellof(w, own[0] & own[1])

    def tellof(self, w, s):
        known = self.now()[1]
        told = spread(known[w], self.others(s))
        if not told & known[1 - w]:
            return [-33]
        self.hold(1 - w, told & known[1 - w])
        return [self.number(told), self.number(told & known[1 - w])]

    def teach(self, w, i):
        if i >= self.m:
            return [-2]
        own = list(self.now()[0])
        if i in own[w]:
            return [-17]
        own[w] = own[w] | {i}
        self.go_on(own=tuple(own))
        return self.own(w)

    def back(self):
        if self.at == 0:
            return [-6]
        self.at -= 1
        return [self.at]

    def again(self):
        if self.at == len(self.states) - 1:
            return [-6]
        self.at += 1
        return [len(self.states) - 1 - self.at]

    def knows(self, w):
        known = self.now()[1][w]
        return [self.number(known), len(known)]

    def follows(self, w, q):
        return [int(self.now()[1][w] <= q)]

    def is_open(self, w, q):
        known = self.now()[1][w]
        return [1] if known <= q else [0] if not known & q else [2]

    def shared(self):
        own = self.now()[0]
        return [sum(1 << i for i in own[0] & own[1])]

    def own(self, w):
        return [sum(1 << i for i in self.now()[0][w])]

    def tells(self, w, s):
        return [self.number(spread(self.now()[1][w], self.others(s)))]


class Lines:
    """Lines of calls, from a seed: most of what is given is right, some of it is not."""

    def __init__(self, seed):
        self.random = random.Random(seed)

    def person(self):
        return self.random.choice([0, 1] * 12 + [2, BIGGEST])

    def letters(self, m, most):
        pick = self.random.random()
        if pick < 0.05:
            return self.random.choice([1 << m, (1 << m) + 1, BIGGEST])
        return self.random.randrange(1 << m) & (most if pick < 0.85 else BIGGEST)

    def claim(self, m, most):
        pick = self.random.random()
        if pick < 0.03:
            return self.random.choice([1 << (1 << m), (1 << (1 << m)) + 5, BIGGEST])
        if pick < 0.1:
            return self.random.randrange(1 << (1 << m))
        # Told in the letters of most: what these letters are decides.
        so = {}
        chance = self.random.choice([0.2, 0.5, 0.7, 0.9])
        return sum(1 << world for world in range(1 << m)
                   if so.setdefault(world & most, self.random.random() < chance))

    def begin(self):
        m = self.random.choice([1, 2, 2, 3, 3, 3, 4, 4])
        every = (1 << m) - 1
        sets = [self.random.choice([every, self.random.randrange(1 << m)]) for unused in range(2)]
        if self.random.random() < 0.1:
            return ("begin", self.random.choice([0, m, 5, BIGGEST]), sets[0], self.random.choice([sets[1], every + 1]))
        return ("begin", m, sets[0], sets[1])

    def call(self, model):
        name = self.random.choice(BUILT[1:] + ["learn", "revise", "revise", "tell", "back", "again"])
        if model.m is None or self.random.random() < 0.02:
            name = self.random.choice(["begin", "begin", name])
        if name == "begin":
            return self.begin()
        width = WIDTHS[NAMES.index(name)]
        if width == 0:
            return (name,)
        w = self.person()
        if width == 1:
            return (name, w)
        m = model.m or 2
        own = model.now()[0] if model.m else (frozenset([0]), frozenset([0]))
        if name in ("forget", "tellof", "tells"):
            return (name, w, self.letters(m, sum(1 << i for i in own[0] & own[1])))
        if name == "teach":
            return (name, w, self.random.choice([0, 1, 2, 3, m, BIGGEST]))
        return (name, w, self.claim(m, sum(1 << i for i in own[w % 2])))


class AgainstTheModel(unittest.TestCase):
    def test_many_lines(self):
        met = {}
        for seed in range(3000):
            lines = Lines(seed)
            model = Model()
            line = []
            expected = []
            for unused in range(lines.random.randint(1, 45)):
                line.append(lines.call(model))
                expected.append(model.answer(line[-1][0], line[-1][1:]))
                key = (line[-1][0], min(expected[-1][0], 0))
                met[key] = met.get(key, 0) + 1
            self.assertEqual(ask(*line), expected, (seed, line))
        due = [(name, 0) for name in BUILT] + [(name, -11) for name in BUILT[1:]]
        due += [("begin", -22), ("back", -6), ("again", -6), ("teach", -17)]
        due += [(name, -33) for name in ("learn", "revise", "tell", "tellof")]
        due += [(name, -2) for name in BUILT[1:] if name not in ("back", "again", "shared")]
        due += [(name, -22) for name in ("learn", "revise", "follows", "is_open", "forget", "tellof", "tells")]
        due += [(name, -62) for name in ("learn", "revise", "follows", "is_open", "tellof", "tells")]
        self.assertEqual(sorted(met), sorted(due), "every answer that is due is met, and no other")

    def test_every_revision_over_two_letters(self):
        for known, q in itertools.product(range(1, 16), range(16)):
            line = [("begin", 2, 3, 3), ("learn", 0, known), ("revise", 0, q), ("knows", 0)]
            model = Model()
            self.assertEqual(ask(*line), [model.answer(call[0], call[1:]) for call in line], line)

    def test_every_claim_over_three_letters_revised(self):
        for known in range(1, 256):
            against = 255 ^ known
            for q in (against, against & 0xAA, against & 0x0F, against & 0xCC, against & -against):
                line = [("begin", 3, 7, 0), ("learn", 0, known), ("revise", 0, q), ("knows", 0)]
                model = Model()
                self.assertEqual(ask(*line), [model.answer(call[0], call[1:]) for call in line], line)


if __name__ == "__main__":
    unittest.main()
