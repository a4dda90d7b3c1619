"""The program beside a model that is built another way: worlds as sets of letters, claims as sets of worlds."""

import itertools
import random
import unittest

from tests.lines import BARE_CALLS, BIGGEST, CLAIM_CALLS, LETTERS_CALLS, NAMES, WIDTHS, ask


def flipped(world, letter):
    return world ^ frozenset([letter])


def spread(claim, letters):
    """The claim with each of the letters forgotten, one at a time."""
    for letter in letters:
        claim = claim | frozenset(flipped(world, letter) for world in claim)
    return claim


def depends_on(claim, letter):
    return any(flipped(world, letter) not in claim for world in claim)


def partitions(things):
    """All ways to put the things into heaps."""
    if not things:
        yield []
        return
    for rest in partitions(things[1:]):
        yield [[things[0]]] + rest
        for k in range(len(rest)):
            yield rest[:k] + [[things[0]] + rest[k]] + rest[k + 1:]


class Model:
    def __init__(self):
        self.m = None

    def claim(self, number):
        return frozenset(world for k, world in enumerate(self.worlds) if number >> k & 1)

    def number(self, claim):
        return sum(1 << sum(1 << letter for letter in world) for world in claim)

    def letters(self, number):
        return frozenset(i for i in range(self.m) if number >> i & 1)

    def others(self, letters):
        return frozenset(range(self.m)) - letters

    def finest(self, claim):
        """The heaps, as many as can be, of which the claim is made up."""
        best = []
        for heaps in partitions(list(range(self.m))):
            made = self.always
            for heap in heaps:
                made = made & spread(claim, self.others(frozenset(heap)))
            if made == claim and len(heaps) > len(best):
                best = heaps
        return best

    def answer(self, name, given):
        if name == "begin":
            return self.begin(*given)
        if self.m is None:
            return [-11]
        if name in BARE_CALLS:
            return getattr(self, name)()
        own, known = self.now()
        if name == "agreed":
            return self.of_letters(name, given, own[0] & own[1])
        w = given[0]
        if w not in (0, 1):
            return [-2]
        if name in CLAIM_CALLS:
            if given[1] >= 2 ** 2 ** self.m:
                return [-22]
            q = self.claim(given[1])
            if any(depends_on(q, letter) for letter in self.others(own[w])):
                return [-62]
            return getattr(self, name)(w, q)
        if name in LETTERS_CALLS:
            return self.of_letters(name, given, frozenset(range(self.m)) if name == "forget" else own[0] & own[1])
        return getattr(self, name)(*given)

    def of_letters(self, name, given, most):
        """What the call answers, whose last number is a set of letters within most."""
        if given[-1] >= 2 ** self.m:
            return [-22]
        s = self.letters(given[-1])
        if not s <= most:
            return [-62]
        return getattr(self, name)(*given[:-1], s)

    def begin(self, m, a, b):
        if m not in (1, 2, 3, 4) or a >= 2 ** m or b >= 2 ** m:
            return [-22]
        self.m = m
        self.worlds = [frozenset(i for i in range(m) if k >> i & 1) for k in range(2 ** m)]
        self.always = frozenset(self.worlds)
        # Every state since the begin; the one that is so now; the least one that can be gone back to.
        self.states = [((self.letters(a), self.letters(b)), (self.always, self.always))]
        self.at = 0
        return [0]

    def now(self):
        return self.states[self.at]

    def go_on(self, own=None, known=None):
        before = self.now()
        self.states = self.states[:self.at + 1] + [(own or before[0], known or before[1])]
        self.states = self.states[-21:]
        self.at = len(self.states) - 1

    def hold(self, w, claim):
        known = list(self.now()[1])
        known[w] = claim
        self.go_on(known=tuple(known))

    def learn(self, w, q):
        both = self.now()[1][w] & q
        if not both:
            return [-33]
        self.hold(w, both)
        return [len(both)]

    def forget(self, w, s):
        self.hold(w, spread(self.now()[1][w], s))
        return [self.number(self.now()[1][w])]

    def revise(self, w, q):
        known = self.now()[1][w]
        if not q:
            return [-33]
        result = known & q
        if not result:
            result = q
            for heap in self.finest(known):
                if not any(depends_on(q, letter) for letter in heap):
                    result = result & spread(known, self.others(frozenset(heap)))
        self.hold(w, result)
        return [self.number(result)]

    def tell(self, w):
        own = self.now()[0]
        return self.tellof(w, own[0] & own[1])

    def tellof(self, w, s):
        known = self.now()[1]
        told = spread(known[w], self.others(s))
        if not told & known[1 - w]:
            return [-33]
        self.hold(1 - w, told & known[1 - w])
        return [self.number(told), self.number(told & known[1 - w])]

    def teach(self, w, i):
        if i >= self.m:
            return [-2]
        own = list(self.now()[0])
        if i in own[w]:
            return [-17]
        own[w] = own[w] | {i}
        self.go_on(own=tuple(own))
        return self.own(w)

    def back(self):
        if self.at == 0:
            return [-6]
        self.at -= 1
        return [self.at]

    def again(self):
        if self.at == len(self.states) - 1:
            return [-6]
        self.at += 1
        return [len(self.states) - 1 - self.at]

    def knows(self, w):
        known = self.now()[1][w]
        return [self.number(known), len(known)]

    def follows(self, w, q):
        return [int(self.now()[1][w] <= q)]

    def is_open(self, w, q):
        known = self.now()[1][w]
        return [1] if known <= q else [0] if not known & q else [2]

    def shared(self):
        own = self.now()[0]
        return [sum(1 << i for i in own[0] & own[1])]

    def own(self, w):
        return [sum(1 << i for i in self.now()[0][w])]

    def told(self, w, s):
        return spread(self.now()[1][w], self.others(frozenset(s)))

    def tells(self, w, s):
        return [self.number(self.told(w, s))]

    def news(self, w, s):
        return [int(not self.now()[1][1 - w] <= self.told(w, s))]

    def common_letters(self):
        own = self.now()[0]
        return sorted(own[0] & own[1])

    def would(self, w):
        return [self.number(self.now()[1][w] & self.told(1 - w, self.common_letters()))]

    def both(self):
        known = self.now()[1]
        return [self.number(known[0] & known[1]), len(known[0] & known[1])]

    def common(self):
        most = self.common_letters()
        return [self.number(world for world in self.always if world in self.told(0, most) or world in self.told(1, most))]

    def agreed(self, s):
        return [int(self.told(0, s) == self.told(1, s))]

    def could(self, w, q):
        known = self.now()[1]
        return [int(not (known[0] & known[1]) - q)]

    def sets(self, right):
        """The sets of shared letters that are right, as sets."""
        most = self.common_letters()
        every = [frozenset(s) for size in range(len(most) + 1) for s in itertools.combinations(most, size)]
        return [s for s in every if right(s)]

    def listed(self, sets):
        return [len(sets)] + sorted(sum(1 << letter for letter in s) for s in sets)

    def least(self, sets):
        return self.listed([s for s in sets if not any(other < s for other in sets)])

    def greatest(self, sets):
        return self.listed([s for s in sets if not any(other > s for other in sets)])

    def asks(self, w, q):
        if self.could(w, q) == [0]:
            return [-33]
        return self.least(self.sets(lambda s: self.now()[1][w] & self.told(1 - w, s) <= q))

    def safe(self, w, q):
        if self.now()[1][w] <= q:
            return [-33]
        return self.greatest(self.sets(lambda s: not self.now()[1][w] & self.told(1 - w, s) <= q))

    def fight(self):
        return self.sets(lambda s: not self.told(0, s) & self.told(1, s))

    def quarrel(self):
        known = self.now()[1]
        return [int(not known[0] & known[1])]

    def quarrels(self):
        return self.least(self.fight()) if self.fight() else [-33]

    def heaps(self, w):
        return sorted(sorted(heap) for heap in self.finest(self.now()[1][w]))

    def parts(self, w):
        return [len(self.heaps(w))] + [sum(1 << letter for letter in heap) for heap in self.heaps(w)]

    def matter(self, w):
        most = self.common_letters()
        found = [sum(1 << letter for letter in heap) for heap in self.heaps(w) if any(letter in most for letter in heap)]
        return [len(found)] + found

    def settled(self, w, letter):
        held = {letter in world for world in self.now()[1][w]}
        return 2 if len(held) == 2 else int(held == {True})

    def settles(self, w):
        return [self.m] + [self.settled(w, letter) for letter in range(self.m)]

    def unsure(self, w):
        found = [letter for letter in sorted(self.now()[0][w]) if self.settled(w, letter) == 2]
        return [len(found)] + found

    def state(self):
        return [self.m] + self.own(0) + self.own(1) + [self.at, len(self.states) - 1 - self.at]


class Lines:
    """Lines of calls, from a seed: most of what is given is right, some of it is not."""

    def __init__(self, seed):
        self.random = random.Random(seed)

    def person(self):
        return self.random.choice([0, 1] * 12 + [2, BIGGEST])

    def letters(self, m, most):
        pick = self.random.random()
        if pick < 0.05:
            return self.random.choice([1 << m, (1 << m) + 1, BIGGEST])
        return self.random.randrange(1 << m) & (most if pick < 0.85 else BIGGEST)

    def claim(self, m, most):
        pick = self.random.random()
        if pick < 0.03:
            return self.random.choice([1 << (1 << m), (1 << (1 << m)) + 5, BIGGEST])
        if pick < 0.1:
            return self.random.randrange(1 << (1 << m))
        # Told in the letters of most: what these letters are decides.
        so = {}
        chance = self.random.choice([0.2, 0.5, 0.7, 0.9])
        return sum(1 << world for world in range(1 << m)
                   if so.setdefault(world & most, self.random.random() < chance))

    def begin(self):
        m = self.random.choice([1, 2, 2, 3, 3, 3, 4, 4])
        every = (1 << m) - 1
        sets = [self.random.choice([every, self.random.randrange(1 << m)]) for unused in range(2)]
        if self.random.random() < 0.1:
            return ("begin", self.random.choice([0, m, 5, BIGGEST]), sets[0], self.random.choice([sets[1], every + 1]))
        return ("begin", m, sets[0], sets[1])

    def call(self, model):
        name = self.random.choice(NAMES[1:] + ["learn", "learn", "learn", "revise", "revise", "tell", "back", "again"])
        if model.m is None or self.random.random() < 0.02:
            name = self.random.choice(["begin", "begin", name])
        if name == "begin":
            return self.begin()
        width = WIDTHS[NAMES.index(name)]
        if width == 0:
            return (name,)
        m = model.m or 2
        own = model.now()[0] if model.m else (frozenset([0]), frozenset([0]))
        most = sum(1 << i for i in own[0] & own[1])
        if name == "agreed":
            return (name, self.letters(m, most))
        w = self.person()
        if width == 1:
            return (name, w)
        if name in LETTERS_CALLS:
            return (name, w, self.letters(m, most))
        if name == "teach":
            return (name, w, self.random.choice([0, 1, 2, 3, m, BIGGEST]))
        return (name, w, self.claim(m, sum(1 << i for i in own[w % 2])))


class AgainstTheModel(unittest.TestCase):
    def test_many_lines(self):
        met = {}
        for seed in range(3000):
            lines = Lines(seed)
            model = Model()
            line = []
            expected = []
            for unused in range(lines.random.randint(1, 45)):
                line.append(lines.call(model))
                expected.append(model.answer(line[-1][0], line[-1][1:]))
                key = (line[-1][0], min(expected[-1][0], 0))
                met[key] = met.get(key, 0) + 1
            self.assertEqual(ask(*line), expected, (seed, line))
        due = [(name, 0) for name in NAMES] + [(name, -11) for name in NAMES[1:]]
        due += [("begin", -22), ("back", -6), ("again", -6), ("teach", -17), ("agreed", -22), ("agreed", -62)]
        due += [(name, -33) for name in ("learn", "revise", "tell", "tellof", "asks", "safe", "quarrels")]
        due += [(name, -2) for name in NAMES[1:] if name not in BARE_CALLS + ("agreed",)]
        due += [(name, -22) for name in CLAIM_CALLS + LETTERS_CALLS]
        due += [(name, -62) for name in CLAIM_CALLS + LETTERS_CALLS if name != "forget"]
        self.assertEqual(sorted(met), sorted(due), "every answer that is due is met, and no other")

    def beside_the_model(self, start, calls):
        """Each of the calls, in lines that are not too long, each behind the start."""
        room = 45 - len(start)
        for place in range(0, len(calls), room):
            line = start + calls[place:place + room]
            model = Model()
            self.assertEqual(ask(*line), [model.answer(call[0], call[1:]) for call in line], line)

    def questions(self, m):
        """Every question of the calls 15 to 29 that is given no claim."""
        calls = [("quarrel",), ("quarrels",), ("both",), ("common",), ("state",)]
        for s in range(1 << m):
            calls.append(("agreed", s))
            calls += [("news", w, s) for w in (0, 1)]
        calls += [(name, w) for name in ("would", "parts", "matter", "settles", "unsure") for w in (0, 1)]
        return calls

    def test_every_question_over_two_letters(self):
        told = {0: [15], 1: [5, 10, 15], 2: [3, 12, 15], 3: list(range(1, 16))}
        for a, b in itertools.product(range(4), repeat=2):
            for known_0, known_1 in itertools.product(told[a], told[b]):
                calls = self.questions(2)
                for w in (0, 1):
                    for q in [0] + told[(a, b)[w]]:
                        calls += [("could", w, q), ("asks", w, q), ("safe", w, q)]
                self.beside_the_model([("begin", 2, a, b), ("learn", 0, known_0), ("learn", 1, known_1)], calls)

    def test_many_questions_over_three_and_four_letters(self):
        for seed in range(600):
            lines = Lines(seed)
            m = lines.random.choice([3, 4])
            a, b = [lines.random.choice([(1 << m) - 1, lines.random.randrange(1 << m)]) for unused in range(2)]
            start = [("begin", m, a, b), ("learn", 0, lines.claim(m, a)), ("learn", 1, lines.claim(m, b))]
            if seed % 2:
                # What the one holds the other one holds not to be so: else they'd seldom quarrel.
                quarrel = lines.claim(m, a & b)
                start += [("revise", 0, quarrel), ("revise", 1, quarrel ^ (1 << (1 << m)) - 1)]
            calls = self.questions(m)
            for w in (0, 1):
                for unused in range(6):
                    q = lines.claim(m, (a, b)[w])
                    calls += [("could", w, q), ("asks", w, q), ("safe", w, q)]
            self.beside_the_model(start, calls)

    def test_every_revision_over_two_letters(self):
        for known, q in itertools.product(range(1, 16), range(16)):
            line = [("begin", 2, 3, 3), ("learn", 0, known), ("revise", 0, q), ("knows", 0)]
            model = Model()
            self.assertEqual(ask(*line), [model.answer(call[0], call[1:]) for call in line], line)

    def test_every_claim_over_three_letters_revised(self):
        for known in range(1, 256):
            against = 255 ^ known
            for q in (against, against & 0xAA, against & 0x0F, against & 0xCC, against & -against):
                line = [("begin", 3, 7, 0), ("learn", 0, known), ("revise", 0, q), ("knows", 0)]
                model = Model()
                self.assertEqual(ask(*line), [model.answer(call[0], call[1:]) for call in line], line)


if __name__ == "__main__":
    unittest.main()
