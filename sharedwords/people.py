"""Two people: their own letters, what they know, and the changes that can be taken back."""

from sharedwords.claims import always, says

MOST_BACK = 20


def with_one(pair, w, value):
    """The pair, with this value for person w."""
    return (value, pair[1]) if w == 0 else (pair[0], value)


class People:
    """Persons 0 and 1; m is 0 until they begin."""

    def __init__(self):
        self.m = 0
        self.own_letters = (0, 0)
        self.known = (0, 0)
        self.past = []
        self.undone = []

    def begin_anew(self, m, a, b):
        """With m letters, and a and b as own letters; nothing of before is left."""
        self.m = m
        self.own_letters = (a, b)
        self.known = (always(m), always(m))
        self.past = []
        self.undone = []

    def common_letters(self):
        """The letters that they share."""
        return self.own_letters[0] & self.own_letters[1]

    def known_together(self):
        """What both know together; 0 if it is never so."""
        return self.known[0] & self.known[1]

    def most_told(self, w, letters):
        """The most that person w can tell in these letters."""
        return says(self.known[w], letters, self.m)

    def known_if_told(self, w, letters):
        """What person w knows, and the most that the other one can tell in these letters, both; 0 if never so."""
        return self.known[w] & self.most_told(1 - w, letters)

    def quarrel_in(self, letters):
        """Whether they quarrel in these letters."""
        return (self.most_told(0, letters) & self.most_told(1, letters)) == 0

    def hold(self, w, claim):
        """A change: person w knows the claim now."""
        self.keep_for_back()
        self.known = with_one(self.known, w, claim)

    def own_more(self, w, letter):
        """A change: the letter is one of person w's own, too."""
        self.keep_for_back()
        self.own_letters = with_one(self.own_letters, w, self.own_letters[w] | (1 << letter))

    def keep_for_back(self):
        """Keep what is so ahead of a change; what was taken back before it can't be done again."""
        self.past.append((self.own_letters, self.known))
        if len(self.past) > MOST_BACK:
            self.past.pop(0)
        self.undone = []

    def go_back(self):
        """Take the last change back; there must be one."""
        self.undone.append((self.own_letters, self.known))
        self.restore(self.past.pop())

    def go_again(self):
        """Do again what was taken back last; there must be something."""
        self.past.append((self.own_letters, self.known))
        self.restore(self.undone.pop())

    def restore(self, kept):
        """Make that so which was kept."""
        self.own_letters = kept[0]
        self.known = kept[1]
