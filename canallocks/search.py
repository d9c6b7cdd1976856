"""The search for the plan that's before all others."""

from canallocks.operations import tell_operations

MOST_STANDS = 4000


class Search:
    """Rows of operations, gone through in the order in which one is before another.

    Each stand is gone on from once, behind the first row that comes to it: any
    other row to it, and all that goes on from there, is behind that one's.
    """

    def __init__(self, steps, goals):
        self.steps = steps
        self.goals = goals
        # Rows not gone through: by their use, then by how many operations.
        self.waiting = {}
        # The stands that rows before every plan come to.
        self.reached = {}

    def answer(self, start):
        """Tell the first plan from a stand (use, length, operations), or a refusal."""
        self.waiting[0] = {0: [("", start)]}
        while len(self.waiting) > 0:
            used = min(self.waiting.keys())
            told = self.go_through(used, self.take_rows(used))
            if len(told) > 0:
                return told
        return [-3]

    def take_rows(self, used):
        """Take the shortest waiting rows of a use, in their order."""
        by_length = self.waiting[used]
        rows = by_length.pop(min(by_length.keys()))
        if len(by_length) == 0:
            self.waiting.pop(used)
        return sorted(rows)

    def go_through(self, used, rows):
        """Go through rows of one use and length; tell the answer, if it's found."""
        for signs, stand in rows:
            if stand in self.reached:
                continue
            if self.is_as_wanted(stand):
                return [used] + tell_operations(self.steps.row_of(signs))
            self.reached[stand] = True
            if len(self.reached) > MOST_STANDS:
                return [-8]
            self.go_on(used, signs, stand)
        return []

    def is_as_wanted(self, stand):
        """Tell whether each boat of the goals is in its pound."""
        places = stand[1]
        for boat, place in self.goals:
            if places[boat] != place:
                return False
        return True

    def go_on(self, used, signs, stand):
        """Let the rows wait that are one operation longer."""
        length = len(signs) + 1
        for sign, use, then in self.steps.steps_from(stand):
            if then not in self.reached:
                by_length = self.waiting.setdefault(used + use, {})
                by_length.setdefault(length, []).append((signs + sign, then))
