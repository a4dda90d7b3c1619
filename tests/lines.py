"""Calls by name, and the answers call by call, for the tests."""

from sharedwords.letters import answers

NAMES = (
    "begin learn forget revise tell tellof teach back again knows follows is_open shared own tells news would "
    "could asks safe quarrel quarrels both common agreed parts matter settles unsure state"
).split()
WIDTHS = (3, 2, 2, 2, 1, 2, 2, 0, 0, 1, 2, 2, 0, 1, 2, 2, 1, 2, 2, 2, 0, 0, 0, 0, 1, 1, 1, 1, 1, 0)
BIGGEST = 4294967295

# By what they are given: a person and a claim; a person and letters; a person alone; nothing.
CLAIM_CALLS = ("learn", "revise", "follows", "is_open", "could", "asks", "safe")
LETTERS_CALLS = ("forget", "tellof", "tells", "news")
LONE_CALLS = ("tell", "knows", "own", "would", "parts", "matter", "settles", "unsure")
BARE_CALLS = ("back", "again", "shared", "quarrel", "quarrels", "both", "common", "state")
CHANGES = ("learn", "forget", "revise", "tell", "tellof", "teach")


def flat(line):
    """A line of calls like ("learn", 0, 5) as the one list that is handed in."""
    calls = []
    for call in line:
        assert len(call) == 1 + WIDTHS[NAMES.index(call[0])], call
        calls.append(NAMES.index(call[0]))
        calls.extend(call[1:])
    assert len(line) <= 45 and len(calls) <= 180, "no such line is handed in"
    return calls


def apart(answered, count):
    """The answers of so many calls, one list each."""
    found = []
    place = 0
    for unused in range(count):
        behind = place + 1 + answered[place]
        found.append(answered[place + 1:behind])
        place = behind
    assert place == len(answered), "more is answered than was asked"
    return found


def ask(*line):
    """What each call of the line answers, one list each."""
    return apart(answers(flat(line)), len(line))


def last(*line):
    """What the last call of the line answers."""
    return ask(*line)[-1]


def claim(m, so):
    """The claim that is so where so(letter 0, letter 1, ..) is."""
    return sum(1 << world for world in range(1 << m) if so(*[bool(world >> i & 1) for i in range(m)]))


SHOW = [("knows", 0), ("knows", 1), ("own", 0), ("own", 1), ("shared",)]


def changes_nothing(before, refused):
    """Whether the line before shows, does again and takes back the same with the refused calls behind it."""
    show = SHOW + [("state",)]
    for look in (show + [("again",)] * 4 + show, show + [("back",)] * 6 + show):
        plain = ask(*before, *look)[len(before):]
        behind = ask(*before, *refused, *look)[len(before) + len(refused):]
        if plain != behind:
            return False
    return True
