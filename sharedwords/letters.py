"""The calls on two people who each know something, and what the calls answer."""

from sharedwords.claims import all_letters, always, is_told_in, revised, says, without, worlds
from sharedwords.people import People

NO_SUCH = -2
NONE_THERE = -6
NOT_BEGUN = -11
THEIRS_ALREADY = -17
NOT_RIGHT = -22
CANNOT_BE = -33
NOT_TOLD_IN = -62

MOST_LETTERS = 4
BEGIN = 0

# What each call is given, sign by sign, by the call's number: w a person, q a claim in that person's own
# letters, s letters that are shared, f any letters, i a letter. The calls behind 14 are listed so that they,
# too, are refused before a begin.
FORMS = (
    "mab", "wq", "wf", "wq", "w", "ws", "wi", "", "", "w",
    "wq", "wq", "", "w", "ws", "ws", "w", "wq", "wq", "wq",
    "", "", "", "", "f", "w", "w", "w", "w", "",
)


def begin(people, m, a, b):
    """0, and all is new."""
    if m < 1 or m > MOST_LETTERS:
        return [NOT_RIGHT]
    if a > all_letters(m) or b > all_letters(m):
        return [NOT_RIGHT]
    people.begin_anew(m, a, b)
    return [0]


def learn(people, w, q):
    """In how many worlds it is so what w knows then."""
    known = people.known[w] & q
    if known == 0:
        return [CANNOT_BE]
    people.hold(w, known)
    return [len(worlds(known, people.m))]


def forget(people, w, s):
    """What w knows then."""
    known = without(people.known[w], s, people.m)
    people.hold(w, known)
    return [known]


def revise(people, w, q):
    """What w knows then."""
    if q == 0:
        return [CANNOT_BE]
    known = revised(people.known[w], q, people.m)
    people.hold(w, known)
    return [known]


def tell(people, w):
    """What was told in all letters they share; then what the other one knows."""
    return tellof(people, w, people.common_letters())


def tellof(people, w, s):
    """What was told in the letters of s; then what the other one knows."""
    other = 1 - w
    told = says(people.known[w], s, people.m)
    known = people.known[other] & told
    if known == 0:
        return [CANNOT_BE]
    people.hold(other, known)
    return [told, known]


def teach(people, w, i):
    """The own letters of w then."""
    if (people.own_letters[w] >> i) & 1 == 1:
        return [THEIRS_ALREADY]
    people.own_more(w, i)
    return [people.own_letters[w]]


def back(people):
    """How many changes can still be taken back."""
    if len(people.past) == 0:
        return [NONE_THERE]
    people.go_back()
    return [len(people.past)]


def again(people):
    """How many changes can still be done again."""
    if len(people.undone) == 0:
        return [NONE_THERE]
    people.go_again()
    return [len(people.undone)]


def knows(people, w):
    """What w knows; then in how many worlds it is so."""
    known = people.known[w]
    return [known, len(worlds(known, people.m))]


def follows(people, w, q):
    """1 if q follows of what w knows, else 0."""
    known = people.known[w]
    return [1 if (known & q) == known else 0]


def is_open(people, w, q):
    """1 if q follows of what w knows, 0 if it can't be beside it, else 2."""
    known = people.known[w]
    if (known & q) == known:
        return [1]
    return [0 if (known & q) == 0 else 2]


def shared(people):
    """The letters that they share."""
    return [people.common_letters()]


def own(people, w):
    """The own letters of w."""
    return [people.own_letters[w]]


def tells(people, w, s):
    """The most that w can tell in the letters of s."""
    return [says(people.known[w], s, people.m)]


# By the call's number.
CALLS = (
    begin, learn, forget, revise, tell, tellof, teach, back, again, knows,
    follows, is_open, shared, own, tells,
)


def claim_refusal(people, w, q):
    """The refusal that is due for q as a claim of person w, or 0."""
    if q > always(people.m):
        return NOT_RIGHT
    if not is_told_in(q, people.own_letters[w], people.m):
        return NOT_TOLD_IN
    return 0


def letters_refusal(people, s, must_be_shared):
    """The refusal that is due for s as a set of letters, or 0."""
    if s > all_letters(people.m):
        return NOT_RIGHT
    if must_be_shared and (s & people.common_letters()) != s:
        return NOT_TOLD_IN
    return 0


def person_refusal(people, form, given):
    """The refusal that is due, where a person is given, before the call itself is looked at, or 0."""
    if given[0] > 1:
        return NO_SUCH
    if form == "wq":
        return claim_refusal(people, given[0], given[1])
    if form == "ws" or form == "wf":
        return letters_refusal(people, given[1], form == "ws")
    if form == "wi" and given[1] >= people.m:
        return NO_SUCH
    return 0


def carry_out(people, call, given):
    """What the call answers to what it is given."""
    if len(given) == 0:
        return call(people)
    if len(given) == 1:
        return call(people, given[0])
    if len(given) == 2:
        return call(people, given[0], given[1])
    return call(people, given[0], given[1], given[2])


def answer_of(people, number, given):
    """What the call of this number answers: its numbers, or its refusal alone."""
    form = FORMS[number]
    if number != BEGIN and people.m == 0:
        return [NOT_BEGUN]
    if form.startswith("w"):
        refusal = person_refusal(people, form, given)
        if refusal != 0:
            return [refusal]
    return carry_out(people, CALLS[number], given)


def answers(calls):
    """For each call how many numbers it answers, then these."""
    people = People()
    answered = []
    place = 0
    while place < len(calls):
        number = calls[place]
        behind = place + 1 + len(FORMS[number])
        answer = answer_of(people, number, calls[place + 1:behind])
        answered.append(len(answer))
        answered.extend(answer)
        place = behind
    return answered
