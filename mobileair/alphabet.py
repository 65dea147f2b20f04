"""The signs of texts, and the septets as which they are written."""

from mobileair.errors import BadText

# A septet that makes one sign together with the septet behind it.
ESCAPE = 27
# What is read where no sign is written.
UNKNOWN = "?"

# The signs that are written as their own character codes.
PLAIN = "\n !\"#&'()*+,-./0123456789:;<=>?ABCDEFGHIJKLMNOPQRSTUVWXYZabcdefghijklmnopqrstuvwxyz"
# The signs that are written as another septet.
MOVED = {"@": 0, "$": 2, "_": 17}
# The signs that are written as 27 and this septet.
ESCAPED = {"^": 20, "{": 40, "}": 41, "\\": 47, "[": 60, "~": 61, "]": 62, "|": 64}


def septets(text):
    """Return the list of the septets as which a text is written."""
    row = []
    for sign in text:
        row.extend(_written(sign))
    return row


def text_of(row):
    """Return the text that a list of septets is read as."""
    singles = _singles()
    seconds = {ESCAPED[sign]: sign for sign in ESCAPED}
    signs = []
    escaped = False
    for septet in row:
        if escaped:
            signs.append(seconds.get(septet, UNKNOWN))
            escaped = False
        elif septet == ESCAPE:
            escaped = True
        else:
            signs.append(singles.get(septet, UNKNOWN))
    if escaped:
        signs.append(UNKNOWN)
    return "".join(signs)


def _written(sign):
    """Return the list of the one or two septets of a sign."""
    if sign in ESCAPED:
        return [ESCAPE, ESCAPED[sign]]
    if sign in MOVED:
        return [MOVED[sign]]
    if sign in PLAIN:
        return [ord(sign)]
    raise BadText()


def _singles():
    """Return the signs that are written as one septet, by that septet."""
    signs = {ord(sign): sign for sign in PLAIN}
    for sign in MOVED:
        signs[MOVED[sign]] = sign
    return signs
