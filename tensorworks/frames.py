"""The loops that code is in while it is executed."""


class Frames:
    """The open loops, the innermost one last."""

    def __init__(self):
        self.rows = []

    def begin(self, first, instruction):
        """Open a loop whose first instruction has an index; return the slot and the number that it sets."""
        _, slot, start, step, count = instruction
        self.rows.append([first, slot, start, step, count])
        return (slot, start)

    def turn(self):
        """End a turn; return the index to go on at, the slot and the number that is set, or None."""
        row = self.rows[-1]
        row[4] -= 1
        if row[4] == 0:
            self.rows.pop()
            return None
        row[2] += row[3]
        return (row[0], row[1], row[2])
