"""Greatest values under linear conditions, found exactly by the simplex method."""


class Tableau:
    """Unknowns from 0 on whose sum, each times its worth, is to be as great as can be.

    Each condition is a row of integers: the sum of the unknowns, each times its entry, is at most 1. What is left of
    this 1 is the slack of the condition. Some unknowns and slacks stand at the left, one for each row of the cells,
    and all others above the columns: these are 0. All cells are integers over one bottom, so that no fraction is
    needed; the last column has the values of those at the left, the last row the prices of those above.

    The unknowns have the labels from 0 on, the slacks those from the number of unknowns on.
    """

    def __init__(self, conditions, worths):
        self.unknowns = len(worths)
        self.cells = [list(row) + [1] for row in conditions] + [[-worth for worth in worths] + [0]]
        self.bottom = 1
        self.left = [self.unknowns + at for at in range(len(conditions))]
        self.above = list(range(self.unknowns))

    def exchange(self, r, c):
        """Exchange what stands at the left of a row and above a column."""
        chosen = self.cells[r]
        pivot = chosen[c]
        exchanged = []
        for row in self.cells:
            # Without remainder: each cell is a minor of the cells at the outset.
            following = [(cell * pivot - row[c] * beside) // self.bottom for cell, beside in zip(row, chosen)]
            following[c] = -row[c]
            exchanged.append(following)
        exchanged[r] = list(chosen)
        exchanged[r][c] = self.bottom
        self.cells = exchanged
        self.bottom = pivot
        self.left[r], self.above[c] = self.above[c], self.left[r]

    def is_sooner(self, r, other, c):
        """Whether the value of a row reaches 0 ahead of that of another one if what stands above a column grows; of
        two that reach it at once, the one with the lesser label at the left counts as the sooner one.
        """
        first = self.cells[r][-1] * self.cells[other][c]
        second = self.cells[other][-1] * self.cells[r][c]
        return first < second or (first == second and self.left[r] < self.left[other])

    def leaving_row(self, c):
        """The row whose value is the first one to reach 0 if what stands above a column grows."""
        best = None
        for r in range(len(self.left)):
            if self.cells[r][c] > 0 and (best is None or self.is_sooner(r, best, c)):
                best = r
        return best

    def best_exchange(self, free):
        """The row and the column of the exchange that raises the value most, or None if none can.

        Of the unknowns only those of the dict `free` may come to the left. If no exchange raises the value at once,
        the least label that can comes to the left, and the least one that has to leaves it (known as the rule of
        Bland): so the search never comes back to where it was, and ends.
        """
        best = None
        gain, over = 0, 1
        for label, c in sorted([(above, at) for at, above in enumerate(self.above)]):
            if self.cells[-1][c] < 0 and (label in free or label >= self.unknowns):
                r = self.leaving_row(c)
                raised, below = -self.cells[-1][c] * self.cells[r][-1], self.cells[r][c]
                if best is None or raised * over > gain * below:
                    best = (r, c)
                    gain, over = raised, below
        return best

    def climb(self, free):
        """Raise the value as far as it can be with the unknowns of the dict `free`, all others being 0."""
        found = self.best_exchange(free)
        while found is not None:
            self.exchange(*found)
            found = self.best_exchange(free)

    def value(self):
        """What the value, times the bottom, is now."""
        return self.cells[-1][-1]

    def unknown_values(self):
        """The list of the values of the unknowns, times the bottom."""
        found = [0] * self.unknowns
        for row, label in zip(self.cells, self.left):
            if label < self.unknowns:
                found[label] = row[-1]
        return found

    def prices(self):
        """The list, for each condition, of what the value rises by if its 1 does, times the bottom."""
        found = [0] * len(self.left)
        for price, label in zip(self.cells[-1], self.above):
            if label >= self.unknowns:
                found[label - self.unknowns] = price
        return found
