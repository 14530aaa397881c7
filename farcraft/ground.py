"""The ground: bodies that are to reach the craft in their order."""

MOST_BODIES = 64


class Ground:
    """A ground for the craft of one name and channel, with its window."""

    def __init__(self, name, channel, window):
        self.name = name
        self.channel = channel
        self.window = window
        self.bodies = []

    def has_place(self):
        return len(self.bodies) < MOST_BODIES

    def add_body(self, body):
        self.bodies.append(body)
