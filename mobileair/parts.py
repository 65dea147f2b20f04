"""Parts: the tuples of octets as which a text is sent."""

from mobileair.alphabet import ESCAPE, septets
from mobileair.checks import check_range
from mobileair.errors import BadText
from mobileair.packing import pack, unpack

MOST_PARTS = 4
MOST_MARK = 255
# The most septets of a part that is a whole text, and of one of several.
MOST_ALONE = 160
MOST_SHARED = 153

# What a part begins with that is a whole text, and one of several.
ALONE = 0
SHARED = 1
# What stands in each part of several in front of the mark; it counts as HEAD septets.
JOINT = (5, 0, 3)
HEAD = 7
# The mark of a part that is a whole text.
NO_MARK = -1


def cut(text, mark):
    """Return the list of the parts of a text."""
    check_range(mark, 0, MOST_MARK, "mark")
    row = septets(text)
    if len(row) <= MOST_ALONE:
        return [(ALONE, len(row)) + pack(row, 0)]
    shares = _shares(row)
    if len(shares) > MOST_PARTS:
        raise BadText()
    return [_shared_part(share, mark, len(shares), number) for number, share in enumerate(shares, start=1)]


def read_part(octets):
    """Return the mark, how many parts there are, the number and the septets of a part."""
    if octets[:1] == (ALONE,):
        return NO_MARK, 1, 1, _alone_septets(octets)
    if len(octets) < 8 or octets[0] != SHARED or octets[2:5] != JOINT:
        raise BadText()
    mark, many, number = octets[5:8]
    if not 0 <= mark <= MOST_MARK or not 2 <= many <= MOST_PARTS or not 1 <= number <= many:
        raise BadText()
    count = octets[1] - HEAD
    if not 1 <= count <= MOST_SHARED:
        raise BadText()
    return mark, many, number, _packed_septets(octets[8:], 1, count)


def _shares(row):
    """Return the lists of septets into which a row is cut, each as long as it may be."""
    shares = []
    at = 0
    while at < len(row):
        end = at + MOST_SHARED
        if end < len(row) and row[end - 1] == ESCAPE:
            end -= 1
        shares.append(row[at:end])
        at = end
    return shares


def _shared_part(row, mark, many, number):
    """Return the part of several that holds these septets."""
    return (SHARED, len(row) + HEAD) + JOINT + (mark, many, number) + pack(row, 1)


def _alone_septets(octets):
    """Return the septets of a part that begins like a whole text."""
    if len(octets) < 2 or not 0 <= octets[1] <= MOST_ALONE:
        raise BadText()
    return _packed_septets(octets[2:], 0, octets[1])


def _packed_septets(octets, start, count):
    """Return the septets that are packed into exactly these octets."""
    row = unpack(octets, start, count)
    # Packing them again finds octets that are too many and bits that no septet takes.
    if pack(row, start) != octets:
        raise BadText()
    return row
