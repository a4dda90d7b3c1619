"""Claims over m letters, as numbers: in which worlds they are so, in which letters they are told."""

FOLLOWS = 1
CANNOT_BE_SO = 0
NEITHER = 2


def all_letters(m):
    """The set of all letters."""
    return (1 << m) - 1


def always(m):
    """The claim that is so in every world."""
    return (1 << (1 << m)) - 1


def worlds(claim, m):
    """The worlds in which the claim is so, rising."""
    return [world for world in range(1 << m) if (claim >> world) & 1 == 1]


def letter_is_so(letter, m):
    """The claim that the letter is so."""
    claim = 0
    for world in range(1 << m):
        if (world >> letter) & 1 == 1:
            claim += 1 << world
    return claim


def follows_of(claim, known):
    """Whether the claim follows of what is known."""
    return (known & claim) == known


def stands_to(claim, known):
    """Whether the claim follows of what is known, can't be so beside it, or neither."""
    if follows_of(claim, known):
        return FOLLOWS
    if (known & claim) == 0:
        return CANNOT_BE_SO
    return NEITHER


def says(claim, letters, m):
    """What the claim says of these letters."""
    seen = [world & letters for world in worlds(claim, m)]
    said = 0
    for world in range(1 << m):
        if (world & letters) in seen:
            said += 1 << world
    return said


def without(claim, letters, m):
    """What the claim becomes when these letters are forgotten."""
    return says(claim, all_letters(m) ^ letters, m)


def is_told_in(claim, letters, m):
    """Whether the claim is told in these letters."""
    return says(claim, letters, m) == claim


def falls_apart(claim, letters, m):
    """Whether the claim falls apart by these letters."""
    return (says(claim, letters, m) & without(claim, letters, m)) == claim


def part_with(claim, letter, m):
    """The letter's part of the claim."""
    part = all_letters(m)
    for letters in range(1 << m):
        if (letters >> letter) & 1 == 1 and falls_apart(claim, letters, m):
            part = part & letters
    return part


def all_parts(claim, m):
    """The claim's parts, by their least letters, rising."""
    found = []
    for letter in range(m):
        part = part_with(claim, letter, m)
        if part not in found:
            found.append(part)
    return found


def touches(claim, part, m):
    """Whether the claim touches the part."""
    # Letters that can each be left out can be left out together, so one look at the whole part is enough.
    return without(claim, part, m) != claim


def revised(known, claim, m):
    """What is known when the claim is taken in, against what was known if both can't be."""
    if (known & claim) != 0:
        return known & claim
    held = claim
    for part in all_parts(known, m):
        if not touches(claim, part, m):
            held = held & says(known, part, m)
    return held
