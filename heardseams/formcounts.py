"""Counts of forms, and forms by their indexes in order."""

from heardseams.numbers import spots_of
from heardseams.shapes import together


def _first_near(spots, m):
    """For each seam the first one that is nearer than m to it."""
    return [
        min([other for other in range(seam + 1) if spots[seam] - spots[other] < m])
        for seam in range(len(spots))
    ]


class FormCounts:
    """How many forms there are of each part of a row of words."""

    def __init__(self, lengths, m):
        self.seams = len(lengths) - 1
        self.first_near = _first_near(spots_of(lengths), m)
        # whole[start][end]: of the seams from start on and below end;
        # under[start][top]: of those below top, if they stand under it.
        self.whole = [[1] * (self.seams + 1) for _ in range(self.seams + 1)]
        self.under = [[1] * (self.seams + 1) for _ in range(self.seams + 1)]
        for start in range(self.seams - 1, -1, -1):
            self._fill(start)

    def _fill(self, start):
        """Counts the forms of the seams from the start on."""
        whole, under = self.whole, self.under[start]
        for top in range(start + 1, self.seams):
            least = self.least_under(start, top)
            under[top] = sum([under[seam] * whole[seam + 1][top] for seam in range(least, top)])
        for end in range(start + 1, self.seams + 1):
            whole[start][end] = sum([under[top] * whole[top + 1][end] for top in range(start, end)])

    def least_under(self, start, top):
        """The first of the seams from the start on that a form may have directly under this one."""
        return max(start, self.first_near[top])

    def many(self):
        """How many forms there are."""
        return self.whole[0][self.seams]

    def form_at(self, number):
        """The form with this index in order."""
        return self._part_at(0, self.seams, 0, number)

    def _part_at(self, start, end, top, number):
        """The one with this index, of the seams from start on and below end, the outermost not ahead of top."""
        if start == end:
            return ()
        while number >= self.under[start][top] * self.whole[top + 1][end]:
            number -= self.under[start][top] * self.whole[top + 1][end]
            top += 1
        ahead, behind = divmod(number, self.whole[top + 1][end])
        return together(
            self._part_at(start, top, self.least_under(start, top), ahead),
            self._part_at(top + 1, end, top + 1, behind),
        )

    def index_of(self, form):
        """The index of the form in order."""
        return self._part_index(form, 0, self.seams, 0)

    def _part_index(self, form, start, end, least):
        """The index of the form's part, the outermost seams being counted from the least one on."""
        if start == end:
            return 0
        top = form.index(min(form[start:end]), start)
        before = sum([self.under[start][seam] * self.whole[seam + 1][end] for seam in range(least, top)])
        ahead = self._part_index(form, start, top, self.least_under(start, top))
        behind = self._part_index(form, top + 1, end, top + 1)
        return before + ahead * self.whole[top + 1][end] + behind
