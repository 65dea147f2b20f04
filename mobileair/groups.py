"""Groups for pages, and the frames in which they are paged.

blocks is how many of the last common blocks of a multiframe are used for pages,
turns over how many multiframes of 51 frames the groups are spread.
"""

from mobileair.calendar import FRAMES
from mobileair.checks import check_range


def group_of(digits, blocks, turns):
    """Return the group of subscriber digits."""
    _check_cell(blocks, turns)
    return int(digits[-3:]) % (blocks * turns)


def is_page_frame(frame, group, blocks, turns):
    """Return True if the frame is a page frame of the group, otherwise False."""
    _check_page(frame, group, blocks, turns)
    in_place = frame % 51 == _place(group, blocks)
    return in_place and (frame // 51) % turns == group // blocks


def page_frame(frame, group, blocks, turns):
    """Return the next page frame of the group from a frame on."""
    _check_page(frame, group, blocks, turns)
    place = _place(group, blocks)
    multiframe = frame // 51
    if frame % 51 > place:
        multiframe = _behind(multiframe)
    while multiframe % turns != group // blocks:
        multiframe = _behind(multiframe)
    return 51 * multiframe + place


def _behind(multiframe):
    """Return the multiframe behind this one; behind the last one comes 0."""
    return (multiframe + 1) % (FRAMES // 51)


def _place(group, blocks):
    """Return the place in a multiframe at which the common block of the group begins."""
    block = 9 - blocks + group % blocks
    # Each ten frames hold an odd block at 2 and the even one behind it at 6; block 0 is at 6.
    return 10 * ((block + 1) // 2) + (2 if block % 2 == 1 else 6)


def _check_cell(blocks, turns):
    """Raise OutOfRange unless a cell may have so many blocks over so many turns."""
    check_range(blocks, 1, 9, "blocks")
    check_range(turns, 2, 9, "turns")


def _check_page(frame, group, blocks, turns):
    """Raise OutOfRange for the first of blocks, turns, group and frame that is wrong."""
    _check_cell(blocks, turns)
    check_range(group, 0, blocks * turns - 1, "group")
    check_range(frame, 0, FRAMES - 1, "frame")
