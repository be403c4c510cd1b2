"""Where the execution of code stands."""


class Cursor:
    """The index of the next instruction, and the loops around it."""

    def __init__(self):
        self.place = 0
        self._loops = []

    def go_on(self, skipped):
        """Go behind the next instruction and the instructions that it skips."""
        self.place = self.place + 1 + skipped

    def begin(self, instruction):
        """Begin the first turn of a loop, and return its slot and the number for it."""
        _, slot, start, step, count = instruction
        self.place = self.place + 1
        # Held are the begin of the body, the slot, the number of the next turn, the step, and how many turns remain.
        self._loops.append((self.place, slot, start + step, step, count - 1))
        return (slot, start)

    def turn(self):
        """Go to the next turn of the innermost loop, and return its slot and the number for it.

        Go behind the loop and return None if there are no turns left.
        """
        begin, slot, n, step, left = self._loops.pop()
        if left == 0:
            self.place = self.place + 1
            return None
        self.place = begin
        self._loops.append((begin, slot, n + step, step, left - 1))
        return (slot, n)
