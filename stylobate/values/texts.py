"""Operations on texts."""

MOST = 10000


def is_digits(text):
    """Tell whether a text is one or more digits from 0 to 9."""
    return text.isdigit() and text.isascii()


def _pattern_parts(pattern):
    """Return the characters of a pattern (None for any one), and where stars stand in front of them.

    The second list tells for each place, the end included, whether a star stands there.
    """
    signs = []
    stars = [False]
    at = 0
    while at < len(pattern):
        sign = pattern[at]
        if sign == "*":
            stars[len(signs)] = True
        else:
            if sign == "\\" and at + 1 < len(pattern):
                at += 1
                signs.append(pattern[at])
            else:
                signs.append(None if sign == "?" else sign)
            stars.append(False)
        at += 1
    return signs, stars


def _places_of(signs, wanted):
    """Return the integer whose bits tell at which places the wanted character may stand."""
    bits = 0
    for at, sign in enumerate(signs):
        if sign is None or sign == wanted:
            bits |= 1 << at
    return bits


def is_like(text, pattern):
    """Tell whether the whole text matches the pattern."""
    signs, stars = _pattern_parts(pattern)
    loops = 0
    for at, star in enumerate(stars):
        if star:
            loops |= 1 << at
    takes = {}
    # Bit k of `reached` tells whether the first k characters of the pattern match what was read:
    # all ways to divide the text among the stars are followed at once.
    reached = 1
    for sign in text:
        if sign not in takes:
            takes[sign] = _places_of(signs, sign)
        reached = ((reached & takes[sign]) << 1) | (reached & loops)
        if reached == 0:
            return False
    return reached >> len(signs) == 1


def pieces(text, separator):
    """Return the list of the pieces of a text between the places of the separator."""
    if separator == "":
        return [text]
    return text.split(separator)


def lowered(text):
    """Return the text with small letters."""
    return text.lower()


def raised(text):
    """Return the text with capital letters."""
    return text.upper()
