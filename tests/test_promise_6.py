"""Promise 6, what holds over the whole program: each sentence over many people and what they know."""

import itertools
import random
import unittest

from tests.lines import BIGGEST, CHANGES, CLAIM_CALLS, LETTERS_CALLS, NAMES, WIDTHS, ask, last


def is_told_in(q, letters, m):
    """Whether q never hangs on a letter that isn't one of these."""
    return all(q >> world & 1 == q >> (world ^ 1 << i) & 1
               for world in range(1 << m) for i in range(m) if not letters >> i & 1)


def claims_in(letters, m):
    """All claims that are told in these letters."""
    ways = [some for some in range(1 << m) if some & letters == some]
    spread = [sum(1 << world for world in range(1 << m) if world & letters == way) for way in ways]
    found = [0]
    for claim in spread:
        found += [other | claim for other in found]
    return found


def follows(q, known):
    return known & ~q == 0


def over_two_letters():
    """Everything that two people can have and know of two letters: m, own letters, claims."""
    for own in itertools.product(range(4), repeat=2):
        for known in itertools.product(claims_in(own[0], 2)[1:], claims_in(own[1], 2)[1:]):
            yield 2, own, known


def over_more_letters(count):
    """Some of what they can have and know of three and four letters."""
    for seed in range(count):
        chance = random.Random(seed)
        m = chance.choice([3, 4])
        own = [chance.randrange(1 << m) | chance.choice([0, chance.randrange(1 << m)]) for w in (0, 1)]
        known = []
        for w in (0, 1):
            told = [chance.random() < chance.choice([0.2, 0.5, 0.8]) for unused in range(1 << m)]
            claim = sum(1 << world for world in range(1 << m) if told[world & own[w]])
            known.append(claim or (1 << (1 << m)) - 1)
        yield m, tuple(own), tuple(known)


def everyone():
    return itertools.chain(over_two_letters(), over_more_letters(400))


def start_of(m, own, known):
    return [("begin", m, *own), ("learn", 0, known[0]), ("learn", 1, known[1])]


class ToldIsEnough(unittest.TestCase):
    def test_who_is_told_knows_all_that_both_know_together_and_nothing_more(self):
        met = 0
        for m, own, known in everyone():
            claims = [claims_in(own[w], m) if own[w] != 15 else range(0, 65536, 97) for w in (0, 1)]
            for w in (0, 1):
                got = ask(*start_of(m, own, known), ("both",), ("tell", 1 - w), ("knows", w))[3:]
                if got[1] == [-33]:
                    continue
                met += 1
                for q in claims[w]:
                    self.assertEqual(follows(q, got[2][0]), follows(q, got[0][0]), (m, own, known, w, q))
        self.assertGreater(met, 1000)

    def test_what_could_follow_is_what_follows_then(self):
        for m, own, known in over_two_letters():
            for w in (0, 1):
                claims = claims_in(own[w], m)
                got = ask(*start_of(m, own, known), *[("could", w, q) for q in claims], ("tell", 1 - w),
                          *[("follows", w, q) for q in claims])[3:]
                if got[len(claims)] != [-33]:
                    self.assertEqual(got[:len(claims)], got[len(claims) + 1:], (own, known, w))

    def test_what_would_be_known_is_known_then(self):
        for m, own, known in everyone():
            for w in (0, 1):
                got = ask(*start_of(m, own, known), ("would", w), ("tell", 1 - w), ("knows", w))[3:]
                self.assertEqual(got[0], [0] if got[1] == [-33] else got[2][:1], (m, own, known, w))

    def test_what_could_follow_is_asked_in_some_letters_and_what_is_not_known_is_safe_in_some(self):
        for m, own, known in over_two_letters():
            for w in (0, 1):
                for q in claims_in(own[w], m):
                    got = ask(*start_of(m, own, known), ("could", w, q), ("asks", w, q), ("follows", w, q), ("safe", w, q))[3:]
                    self.assertEqual(got[0] == [1], got[1][0] > 0, (own, known, w, q))
                    self.assertEqual(got[2] == [0], got[3][0] > 0, (own, known, w, q))


class BothRight(unittest.TestCase):
    def test_they_can_not_both_be_right_just_if_they_quarrel(self):
        met = {True: 0, False: 0}
        for m, own, known in everyone():
            start = start_of(m, own, known)
            got = ask(*start, ("both",), ("quarrel",), ("quarrels",), ("would", 0), ("would", 1))[3:]
            never = known[0] & known[1] == 0
            met[never] += 1
            where = (m, own, known)
            self.assertEqual(got[0][0] == 0, never, where)
            self.assertEqual(got[0][1] == 0, never, where)
            self.assertEqual(got[1], [1 if never else 0], where)
            self.assertEqual(got[2] == [-33], not never, where)
            self.assertEqual([got[3][0] == 0, got[4][0] == 0], [never, never], where)
            told = [last(*start, ("tell", w)) for w in (0, 1)]
            self.assertEqual([told[0] == [-33], told[1] == [-33]], [never, never], where)
        self.assertGreater(min(met.values()), 60)


class WhatBothKnow(unittest.TestCase):
    def test_it_is_the_strongest_that_both_know(self):
        for m, own, known in everyone():
            got = ask(*start_of(m, own, known), ("common",), ("shared",))[3:]
            common = got[0][0]
            shared = got[1][0]
            where = (m, own, known)
            self.assertTrue(is_told_in(common, shared, m), where)
            self.assertTrue(follows(common, known[0]) and follows(common, known[1]), where)
            for q in claims_in(shared, m) if shared != 15 else range(0, 65536, 97):
                if follows(q, known[0]) and follows(q, known[1]):
                    self.assertTrue(follows(q, common), where)

    def test_both_know_it_by_the_calls(self):
        for m, own, known in over_two_letters():
            common = ask(*start_of(m, own, known), ("common",))[3][0]
            got = ask(*start_of(m, own, known), ("follows", 0, common), ("follows", 1, common))[3:]
            self.assertEqual(got, [[1], [1]], (own, known))


class PartsWithoutASharedLetter(unittest.TestCase):
    def test_they_are_never_told(self):
        met = 0
        for m, own, known in everyone():
            start = start_of(m, own, known)
            sets = [s for s in range(1 << m) if s & own[0] & own[1] == s]
            for w in (0, 1):
                got = ask(*start, ("parts", w), ("matter", w))[3:]
                untold = [part for part in got[0][1:] if part not in got[1][1:]]
                self.assertTrue(all(part & own[0] & own[1] == 0 for part in untold), (m, own, known))
                letters = sum(untold)
                met += letters & own[w] != 0
                look = [("tells", w, s) for s in sets]
                plain = ask(*start, *look)[3:]
                # Whatever is forgotten, or learnt besides, of these letters: what is told stays the same.
                changes = [("forget", w, letters)] + [("learn", w, q) for q in claims_in(letters & own[w], m)[1:8]]
                for change in changes:
                    behind = ask(*start, change, *look)
                    if behind[3][0] >= 0:
                        self.assertEqual(behind[4:], plain, (m, own, known, w, change))
        self.assertGreater(met, 100)

    def test_what_is_told_is_told_of_the_other_parts(self):
        for m, own, known in everyone():
            for w in (0, 1):
                start = start_of(m, own, known)
                matter = last(*start, ("matter", w))[1:]
                others = ((1 << m) - 1) ^ sum(matter)
                told = last(*start, ("tell", w))
                self.assertEqual(last(*start, ("forget", w, others), ("tell", w)), told, (m, own, known, w))


def some_line(seed):
    """A line with much that is refused: m, its calls."""
    chance = random.Random(seed)
    m = chance.choice([1, 2, 2, 3, 4])
    own = [chance.choice([(1 << m) - 1, chance.randrange(1 << m)]) for w in (0, 1)]
    line = [("begin", m, *own)]
    while len(line) < 40:
        name = chance.choice(NAMES[1:] + list(CHANGES) * 3 + ["back"] * 3 + ["again"] * 3)
        w = chance.choice([0, 1] * 8 + [2, BIGGEST])
        if name in CLAIM_CALLS:
            told = [chance.random() < 0.6 for unused in range(1 << m)]
            letters = own[w % 2] if chance.random() < 0.8 else (1 << m) - 1
            q = sum(1 << world for world in range(1 << m) if told[world & letters])
            line.append((name, w, chance.choice([q] * 12 + [1 << (1 << m), BIGGEST])))
        elif name in LETTERS_CALLS or name == "teach":
            line.append((name, w, chance.choice([0, 1, own[0] & own[1], own[0], m - 1, 1 << m, BIGGEST])))
        elif name == "agreed":
            line.append((name, chance.choice([0, own[0] & own[1], own[1], 1 << m, BIGGEST])))
        else:
            line.append((name, w)[:1 + WIDTHS[NAMES.index(name)]])
    return m, line


class Always(unittest.TestCase):
    def test_what_somebody_knows_is_told_in_their_own_letters_and_can_be_so(self):
        for seed in range(300):
            m, line = some_line(seed)
            for count in range(1, len(line) + 1):
                if line[count - 1][0] not in CHANGES + ("back", "again"):
                    continue
                got = ask(*line[:count], ("knows", 0), ("own", 0), ("knows", 1), ("own", 1))[count:]
                for known, own in (got[:2], got[2:]):
                    self.assertTrue(is_told_in(known[0], own[0], m), (seed, count))
                    self.assertGreater(known[0], 0, (seed, count))
                    self.assertEqual(known[1], bin(known[0]).count("1"), (seed, count))

    def test_what_is_refused_changes_nothing(self):
        refused = {}
        for seed in range(1500):
            m, line = some_line(seed)
            line += [("begin", 7, 1, 1), ("state",), ("knows", 0), ("knows", 1), ("both",)]
            got = ask(*line)
            kept = [k for k, answer in enumerate(got) if answer[0] >= 0]
            for k, answer in enumerate(got):
                if answer[0] < 0:
                    self.assertEqual(len(answer), 1, (seed, k))
                    refused[line[k][0]] = refused.get(line[k][0], 0) + 1
            self.assertEqual(ask(*[line[k] for k in kept]), [got[k] for k in kept], seed)
        # Each call that can be refused behind a begin was.
        never = {"shared", "quarrel", "both", "common", "state"}
        self.assertEqual(set(NAMES) - set(refused), never)


if __name__ == "__main__":
    unittest.main()
