"""The calls on two people who each know something, and what the calls answer."""

from sharedwords.claims import NEITHER, all_letters, all_parts, always, follows_of, is_told_in, letter_is_so, revised
from sharedwords.claims import stands_to, without, worlds
from sharedwords.people import People
from sharedwords.sets_of_letters import greatest_sets, least_sets, members, sets_within

NO_SUCH = -2
NONE_THERE = -6
NOT_BEGUN = -11
THEIRS_ALREADY = -17
NOT_RIGHT = -22
CANNOT_BE = -33
NOT_TOLD_IN = -62

MOST_LETTERS = 4
BEGIN = 0

# What each call is given, sign by sign, by the call's number: w a person, q a claim in that person's own
# letters, s letters that are shared, f any letters, i a letter.
FORMS = (
    "mab", "wq", "wf", "wq", "w", "ws", "wi", "", "", "w",
    "wq", "wq", "", "w", "ws", "ws", "w", "wq", "wq", "wq",
    "", "", "", "", "s", "w", "w", "w", "w", "",
)


def counted(found):
    """How many were found; then each."""
    return [len(found)] + found


def begin(people, m, a, b):
    """0, and all is new."""
    if m < 1 or m > MOST_LETTERS:
        return [NOT_RIGHT]
    if a > all_letters(m) or b > all_letters(m):
        return [NOT_RIGHT]
    people.begin_anew(m, a, b)
    return [0]


def learn(people, w, q):
    """In how many worlds it is so what w knows then."""
    known = people.known[w] & q
    if known == 0:
        return [CANNOT_BE]
    people.hold(w, known)
    return [len(worlds(known, people.m))]


def forget(people, w, s):
    """What w knows then."""
    known = without(people.known[w], s, people.m)
    people.hold(w, known)
    return [known]


def revise(people, w, q):
    """What w knows then."""
    if q == 0:
        return [CANNOT_BE]
    known = revised(people.known[w], q, people.m)
    people.hold(w, known)
    return [known]


def tell(people, w):
    """What was told in all letters they share; then what the other one knows."""
    return tellof(people, w, people.common_letters())


def tellof(people, w, s):
    """What was told in the letters of s; then what the other one knows."""
    other = 1 - w
    told = people.most_told(w, s)
    known = people.known_if_told(other, s)
    if known == 0:
        return [CANNOT_BE]
    people.hold(other, known)
    return [told, known]


def teach(people, w, i):
    """The own letters of w then."""
    if (people.own_letters[w] >> i) & 1 == 1:
        return [THEIRS_ALREADY]
    people.own_more(w, i)
    return [people.own_letters[w]]


def back(people):
    """How many changes can still be taken back."""
    if len(people.past) == 0:
        return [NONE_THERE]
    people.go_back()
    return [len(people.past)]


def again(people):
    """How many changes can still be done again."""
    if len(people.undone) == 0:
        return [NONE_THERE]
    people.go_again()
    return [len(people.undone)]


def knows(people, w):
    """What w knows; then in how many worlds it is so."""
    known = people.known[w]
    return [known, len(worlds(known, people.m))]


def follows(people, w, q):
    """1 if q follows of what w knows, else 0."""
    return [1 if follows_of(q, people.known[w]) else 0]


def is_open(people, w, q):
    """1 if q follows of what w knows, 0 if it can't be so beside it, else 2."""
    return [stands_to(q, people.known[w])]


def shared(people):
    """The letters that they share."""
    return [people.common_letters()]


def own(people, w):
    """The own letters of w."""
    return [people.own_letters[w]]


def tells(people, w, s):
    """The most that w can tell in the letters of s."""
    return [people.most_told(w, s)]


def news(people, w, s):
    """0 if what w tells in the letters of s follows of what the other one knows, else 1."""
    return [0 if follows_of(people.most_told(w, s), people.known[1 - w]) else 1]


def would(people, w):
    """What w would know, told the most in all letters they share."""
    return [people.known_if_told(w, people.common_letters())]


def could(people, w, q):
    """1 if q follows of what both know together, else 0."""
    # What both know together is the same for each: w is given only for the letters that q must be told in.
    return [1 if follows_of(q, people.known_together()) else 0]


def asks(people, w, q):
    """How many least sets of shared letters w must be told in, so that q follows; then each."""
    if not follows_of(q, people.known_together()):
        return [CANNOT_BE]
    enough = [s for s in sets_within(people.common_letters()) if follows_of(q, people.known_if_told(w, s))]
    return counted(least_sets(enough))


def safe(people, w, q):
    """How many greatest sets of shared letters w may be told in, so that q doesn't follow; then each."""
    if follows_of(q, people.known[w]):
        return [CANNOT_BE]
    most = people.common_letters()
    harmless = [s for s in sets_within(most) if not follows_of(q, people.known_if_told(w, s))]
    return counted(greatest_sets(harmless, most))


def quarrel(people):
    """1 if they quarrel in all letters they share, else 0."""
    return [1 if people.quarrel_in(people.common_letters()) else 0]


def quarrels(people):
    """How many least sets of shared letters they quarrel in; then each."""
    most = people.common_letters()
    if not people.quarrel_in(most):
        return [CANNOT_BE]
    return counted(least_sets([s for s in sets_within(most) if people.quarrel_in(s)]))


def both(people):
    """What both know together; then in how many worlds it is so."""
    known = people.known_together()
    return [known, len(worlds(known, people.m))]


def common(people):
    """What both know in all letters they share."""
    most = people.common_letters()
    return [people.most_told(0, most) | people.most_told(1, most)]


def agreed(people, s):
    """1 if both can tell the same in the letters of s, else 0."""
    return [1 if people.most_told(0, s) == people.most_told(1, s) else 0]


def parts(people, w):
    """How many parts what w knows has; then each."""
    return counted(all_parts(people.known[w], people.m))


def matter(people, w):
    """How many parts of what w knows have a shared letter; then each."""
    most = people.common_letters()
    return counted([part for part in all_parts(people.known[w], people.m) if (part & most) != 0])


def settles(people, w):
    """How many letters there are; then of each what w knows of it: 1 it is so, 0 it isn't, 2 neither."""
    return counted([stands_to(letter_is_so(i, people.m), people.known[w]) for i in range(people.m)])


def unsure(people, w):
    """How many own letters of w are neither so nor not so by what w knows; then these."""
    known = people.known[w]
    own_ones = members(people.own_letters[w])
    return counted([i for i in own_ones if stands_to(letter_is_so(i, people.m), known) == NEITHER])


def state(people):
    """How many letters there are; the own letters of 0, of 1; how many changes to take back, to do again."""
    letters = people.own_letters
    return [people.m, letters[0], letters[1], len(people.past), len(people.undone)]


# By the call's number.
CALLS = (
    begin, learn, forget, revise, tell, tellof, teach, back, again, knows,
    follows, is_open, shared, own, tells, news, would, could, asks, safe,
    quarrel, quarrels, both, common, agreed, parts, matter, settles, unsure, state,
)


def claim_refusal(people, w, q):
    """The refusal that is due for q as a claim of person w, or 0."""
    if q > always(people.m):
        return NOT_RIGHT
    if not is_told_in(q, people.own_letters[w], people.m):
        return NOT_TOLD_IN
    return 0


def letters_refusal(people, s, must_be_shared):
    """The refusal that is due for s as a set of letters, or 0."""
    if s > all_letters(people.m):
        return NOT_RIGHT
    if must_be_shared and (s & people.common_letters()) != s:
        return NOT_TOLD_IN
    return 0


def refusal_of(people, form, given):
    """The refusal that is due for what is given, before the call itself is looked at, or 0."""
    if form.startswith("w") and given[0] > 1:
        return NO_SUCH
    if form == "wq":
        return claim_refusal(people, given[0], given[1])
    if form == "wf":
        return letters_refusal(people, given[1], False)
    if form == "ws":
        return letters_refusal(people, given[1], True)
    if form == "s":
        return letters_refusal(people, given[0], True)
    if form == "wi" and given[1] >= people.m:
        return NO_SUCH
    return 0


def carry_out(people, call, given):
    """What the call answers to what it is given."""
    if len(given) == 0:
        return call(people)
    if len(given) == 1:
        return call(people, given[0])
    if len(given) == 2:
        return call(people, given[0], given[1])
    return call(people, given[0], given[1], given[2])


def answer_of(people, number, given):
    """What the call of this number answers: its numbers, or its refusal alone."""
    form = FORMS[number]
    if number != BEGIN and people.m == 0:
        return [NOT_BEGUN]
    refusal = refusal_of(people, form, given)
    if refusal != 0:
        return [refusal]
    return carry_out(people, CALLS[number], given)


def answers(calls):
    """For each call how many numbers it answers, then these."""
    people = People()
    answered = []
    place = 0
    while place < len(calls):
        number = calls[place]
        behind = place + 1 + len(FORMS[number])
        answer = answer_of(people, number, calls[place + 1:behind])
        answered.append(len(answer))
        answered.extend(answer)
        place = behind
    return answered
