"""The calendar of frames: their counters, and what their slots are used for."""

from mobileair.checks import check_range
from mobileair.errors import OutOfRange

FRAMES = 2715648


def counters(frame):
    """Return the counters (t1, t2, t3) of a frame."""
    check_range(frame, 0, FRAMES - 1, "frame")
    return frame // 1326, frame % 26, frame % 51


def frame_of(t1, t2, t3):
    """Return the frame that has these counters."""
    check_range(t1, 0, 2047, "t1")
    check_range(t2, 0, 25, "t2")
    check_range(t3, 0, 50, "t3")
    # 51 is -1 modulo 26, so each 51 frames leave t3 and take 1 from t2.
    return 1326 * t1 + 51 * ((t3 - t2) % 26) + t3


def reduced(frame):
    """Return the reduced number of a frame, or None if it has none."""
    t1, t2, t3 = counters(frame)
    if t3 % 10 != 1:
        return None
    return 256 * t1 + 8 * t2 + (t3 - 1) // 10


def frame_of_reduced(number):
    """Return the frame that has this reduced number."""
    t1 = number // 256
    t2 = number % 256 // 8
    t3 = 10 * (number % 8) + 1
    if not 0 <= t1 <= 2047 or t2 > 25 or t3 > 41:
        raise OutOfRange("reduced")
    return frame_of(t1, t2, t3)


def control_slot(frame):
    """Return what the control slot of a frame is used for."""
    t3 = counters(frame)[2]
    if t3 == 50:
        return "idle"
    if t3 % 10 == 0:
        return "frequency"
    if t3 % 10 == 1:
        return "sync"
    if t3 <= 5:
        return "broadcast"
    return "common"


def common_block(frame):
    """Return the number of the common block of a frame, or None if it is in none."""
    if control_slot(frame) != "common":
        return None
    tens, rest = divmod(frame % 51, 10)
    # The four frames that would be the first block of the first ten are broadcast.
    return 2 * tens - 1 if rest <= 5 else 2 * tens


def traffic_slot(frame):
    """Return what a traffic slot is used for in a frame."""
    t2 = counters(frame)[1]
    if t2 == 12:
        return "slow"
    if t2 == 25:
        return "idle"
    return "speech"


def frames_between(first, second):
    """Return how many steps lead from the first frame to the second."""
    check_range(first, 0, FRAMES - 1, "frame")
    check_range(second, 0, FRAMES - 1, "frame")
    return (second - first) % FRAMES
