"""The valley as it stands: its villages, their roads, and where calls are to be made.

It is kept in three rows, told by a village's number: its up, how long its road is, and 1 for a call there, else 0.
"""


class Valley:
    def __init__(self):
        self.start_anew()

    def start_anew(self):
        # Village 0 has no road: it stands as its own up with a road of 0, so that the three rows are of one length.
        self.ups = [0]
        self.lengths = [0]
        self.called = [0]

    def size(self):
        return len(self.ups)

    def has(self, v):
        return v < len(self.ups)

    def add_village(self, up, far):
        self.ups.append(up)
        self.lengths.append(far)
        self.called.append(0)
        return len(self.ups) - 1

    def set_road(self, v, n):
        was = self.lengths[v]
        self.lengths[v] = n
        return was

    def set_call(self, v, o):
        self.called[v] = o
        return sum(self.called)

    def clear_calls(self):
        were = sum(self.called)
        self.called = [0 for v in self.called]
        return were
