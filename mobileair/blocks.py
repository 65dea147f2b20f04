"""Frames of a link, written as blocks of 23 octets."""

FILL = (43, 43, 43, 43, 43, 43, 43, 43, 43, 43, 43, 43, 43, 43, 43, 43, 43, 43, 43, 43, 43, 43, 43)

# The first octet of setup and info, and of accept and ready.
COMMAND = 3
ANSWER = 1
# The second octet of a setup and of an accept.
SETUP = 63
ACCEPT = 115


def pack_frame(frame):
    """Return the block of 23 octets as which a frame is written."""
    kind = frame[0]
    if kind == "setup":
        return _block(COMMAND, SETUP, False, frame[1])
    if kind == "accept":
        return _block(ANSWER, ACCEPT, False, ())
    if kind == "ready":
        return _block(ANSWER, 32 * frame[1] + 1, False, ())
    _, s, r, more, octets = frame
    return _block(COMMAND, 32 * r + 2 * s, more, octets)


def unpack_frame(block):
    """Return the frame that is written as this block, or None if it holds no frame."""
    if len(block) != len(FILL) or any([not 0 <= octet <= 255 for octet in block]):
        return None
    frame = _likely_frame(block)
    # Writing the frame again finds whatever in the block is not of it.
    if frame is None or pack_frame(frame) != block:
        return None
    return frame


def _block(first, second, more, octets):
    """Return the block with these two octets in front and the octets of the frame."""
    content = (first, second, 4 * len(octets) + (3 if more else 1)) + octets
    return content + FILL[len(content):]


def _likely_frame(block):
    """Return the only frame as which the block may be written, or None."""
    if block[0] == ANSWER:
        return ("accept",) if block[1] == ACCEPT else ("ready", block[1] // 32)
    octets = block[3:3 + block[2] // 4]
    if len(octets) == 0:
        return None
    if block[1] == SETUP:
        return ("setup", octets)
    return ("info", block[1] // 2 % 8, block[1] // 32, block[2] % 4 == 3, octets)
