"""Frames of one name and channel: written as bytes, and found in a message's bytes."""

PAST_BIT = 32
CONTROL_BIT = 16
# All of a frame's first byte but the two bits above.
NAME_MASK = 207
HEAD_BYTES = 5
SUM_BYTES = 2


class Frame:
    """A whole frame with its sum."""

    def __init__(self, past, control, number, body):
        self.past = past
        self.control = control
        self.number = number
        self.body = body


def frame_sum(data):
    """The sixteen bits of the sum over these bytes."""
    total = 0xFFFF
    for byte in data:
        total = total ^ (byte << 8)
        for step in range(8):
            total = total << 1
            if total > 0xFFFF:
                total = (total ^ 0x1021) & 0xFFFF
    return total


def frame_bytes(frame, name, channel):
    """The five bytes, the body and the sum of this frame."""
    first = name >> 8
    if frame.past:
        first = first + PAST_BIT
    if frame.control:
        first = first + CONTROL_BIT
    less_one = HEAD_BYTES + len(frame.body) + SUM_BYTES - 1
    head = [first, name & 255, 4 * channel + (less_one >> 8), less_one & 255, frame.number]
    data = head + frame.body
    total = frame_sum(data)
    return data + [total >> 8, total & 255]


def frame_end(data, start, name, channel):
    """Where the frame that begins at start ends; -1 if no whole one of this name and channel is there."""
    if start + HEAD_BYTES + SUM_BYTES > len(data):
        return -1
    if (data[start] & NAME_MASK) != (name >> 8) or data[start + 1] != (name & 255):
        return -1
    if (data[start + 2] >> 2) != channel:
        return -1
    length = (data[start + 2] & 3) * 256 + data[start + 3] + 1
    end = start + length
    if length < HEAD_BYTES + SUM_BYTES or end > len(data):
        return -1
    if frame_sum(data[start:end - SUM_BYTES]) != data[end - 2] * 256 + data[end - 1]:
        return -1
    return end


def frames_of(data, name, channel):
    """The frames of a message, one behind another, till something isn't one of this name and channel."""
    frames = []
    start = 0
    end = frame_end(data, start, name, channel)
    while end > 0:
        past = (data[start] & PAST_BIT) != 0
        control = (data[start] & CONTROL_BIT) != 0
        body = data[start + HEAD_BYTES:end - SUM_BYTES]
        frames.append(Frame(past, control, data[start + 4], body))
        start = end
        end = frame_end(data, start, name, channel)
    return frames
