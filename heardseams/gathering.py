"""Summaries of all phrases of told words, gathered by the fewest words that they need."""

from heardseams.errors import NoList, TooMany
from heardseams.rows import are_words
from heardseams.saying import meet
from heardseams.shapes import together

MOST_IN_LIST = 12
MOST_SUMMARIES = 400


def need_list(book, thing):
    """Raises NoList unless the thing is a tuple of 1 to 12 words of the book."""
    if not are_words(thing, book.sounds(), MOST_IN_LIST):
        raise NoList()


def summary_of(row, first, last):
    """The summary of a said row with so many first and so many last sounds."""
    if len(row) < first + last:
        return row, ()
    return row[:first], row[-last:]


def row_of(told):
    """The shortest row with this summary."""
    # It stands for all of them: what is left out is looked at by no joining
    # of this phrase or of one that it is in.
    return told[0] + told[1]


class Gathering:
    """The summaries of all phrases that some books say alike, with all phrases within them."""

    def __init__(self, books, words):
        self.books = books
        self.first = max([book.behind() for book in books])
        self.last = max([book.ahead() for book in books])
        # found[summary]: (the fewest words that it needs, one, other), one and
        # other being the summaries of the phrases that are joined to such a
        # phrase; of a single word they are the word itself and None.
        self.found = {}
        # Two summaries whose phrases, joined, the books say unlike, with as
        # few words as can be; None if there are none.
        self.unlike = None
        for word in words:
            self.found.setdefault(summary_of(word, self.first, self.last), (1, word, None))
        self._gather()

    def _gather(self):
        """Joins what is found until nothing new can come about."""
        # levels[many]: the summaries that need just so many words.
        levels = [[], list(self.found)]
        last = 1
        while len(levels) <= 2 * last:
            fresh = self._fresh_level(levels)
            if fresh != []:
                last = len(levels)
            levels.append(fresh)

    def _fresh_level(self, levels):
        """The summaries that need as many words as there are levels; they are put into found."""
        many = len(levels)
        fresh = []
        for ahead in range(1, many):
            for one in levels[ahead]:
                for other in levels[many - ahead]:
                    told = self._joined(one, other)
                    if told is not None and told not in self.found:
                        self.found[told] = (many, one, other)
                        fresh.append(told)
                        if len(self.found) > MOST_SUMMARIES:
                            raise TooMany(MOST_SUMMARIES)
        return fresh

    def _joined(self, one, other):
        """The summary of two phrases with these summaries, joined, None if the books say them unlike."""
        ahead, behind = row_of(one), row_of(other)
        rows = [meet(book, ahead, behind) for book in self.books]
        if rows.count(rows[0]) == len(rows):
            return summary_of(rows[0], self.first, self.last)
        if self.unlike is None:
            self.unlike = (one, other)
        return None

    def words_needed(self, told):
        """The fewest words that a phrase with this summary needs."""
        return self.found[told][0]

    def phrase(self, told):
        """The words and the shape of a phrase with this summary, with the fewest words."""
        _, one, other = self.found[told]
        if other is None:
            return (one,), ()
        return self.phrase_joined(one, other)

    def phrase_joined(self, one, other):
        """The words and the shape of two phrases with these summaries, joined."""
        words, shape = self.phrase(one)
        more, behind = self.phrase(other)
        return words + more, together(shape, behind)
