"""The valley as it stands, and as it stood ahead of its last changes.

It is kept in three rows, told by a village's number: its up, how long its road is, and 1 for a call there, else 0.
A change keeps the rows as they were ahead of it, so all kinds of changes are taken back in the same way.
"""

MOST_TAKEN_BACK = 20


class Valley:
    def __init__(self):
        self.start_anew()

    def start_anew(self):
        # Village 0 has no road: it stands as its own up with a road of 0, so that the three rows are of one length.
        self.ups = [0]
        self.lengths = [0]
        self.called = [0]
        self.earlier = []
        self.later = []

    def size(self):
        return len(self.ups)

    def has(self, v):
        return v < len(self.ups)

    def rows(self):
        return (list(self.ups), list(self.lengths), list(self.called))

    def set_rows(self, rows):
        self.ups = rows[0]
        self.lengths = rows[1]
        self.called = rows[2]

    def with_call(self, v, o):
        other = Valley()
        other.set_rows(self.rows())
        other.called[v] = o
        return other

    def keep_rows(self):
        self.earlier.append(self.rows())
        if len(self.earlier) > MOST_TAKEN_BACK:
            self.earlier.pop(0)
        self.later = []

    def add_village(self, up, far):
        self.keep_rows()
        self.ups.append(up)
        self.lengths.append(far)
        self.called.append(0)
        return len(self.ups) - 1

    def set_road(self, v, n):
        self.keep_rows()
        was = self.lengths[v]
        self.lengths[v] = n
        return was

    def set_call(self, v, o):
        self.keep_rows()
        self.called[v] = o
        return sum(self.called)

    def clear_calls(self):
        self.keep_rows()
        were = sum(self.called)
        self.called = [0 for v in self.called]
        return were

    def take_back(self):
        self.later.append(self.rows())
        self.set_rows(self.earlier.pop())
        return len(self.earlier)

    def do_again(self):
        self.earlier.append(self.rows())
        self.set_rows(self.later.pop())
        return len(self.later)
