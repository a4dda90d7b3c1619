"""Sets of letters, as numbers, and which of several are the least and the greatest."""


def members(letters):
    """The letters of the set, rising."""
    return [letter for letter in range(letters.bit_length()) if (letters >> letter) & 1 == 1]


def sets_within(letters):
    """All sets of these letters, rising."""
    return [some for some in range(letters + 1) if (some & letters) == some]


def with_one_less(letters):
    """The sets that are left if any one letter is left out."""
    return [letters ^ (1 << letter) for letter in members(letters)]


def with_one_more(letters, most):
    """The sets that there are with any one more letter of most."""
    return [letters | (1 << letter) for letter in members(most ^ letters)]


def has_any(found, wanted):
    """Whether any of the wanted sets is among the found ones."""
    return any([some in found for some in wanted])


def least_sets(found):
    """The found sets that are none if any one letter is left out."""
    return [some for some in found if not has_any(found, with_one_less(some))]


def greatest_sets(found, most):
    """The found sets, all within most, that are none with any one more letter of most."""
    return [some for some in found if not has_any(found, with_one_more(some, most))]
