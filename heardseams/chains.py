"""Endless chains of one word, and words that are doubled again and again.

Of a chain only the last sounds, as many as the book looks at ahead of a seam,
can still become others when one word more is joined. They are its TAIL; what
falls out of the tail is SETTLED.
"""

from heardseams.checks import need_number
from heardseams.rows import need_word
from heardseams.saying import meet

MOST_TIMES = 10 ** 30


class Tails:
    """The tails of the chains of 0, 1, 2 .. words, as far as they come round."""

    def __init__(self, book, word):
        # tails[k]: of the chain of k words; settled[k]: what falls out of it
        # when the next word is joined.
        self.tails = []
        self.settled = []
        numbers = {}
        tail = ()
        while tail not in numbers:
            numbers[tail] = len(self.tails)
            self.tails.append(tail)
            row = meet(book, tail, word)
            self.settled.append(row[:-book.ahead()])
            tail = row[-book.ahead():]
        self.before = numbers[tail]
        self.length = len(self.tails) - self.before

    def tail_of(self, times):
        """The tail of the chain of so many words."""
        if times > self.before:
            times = self.before + (times - self.before) % self.length
        return self.tails[times]

    def count_in(self, times, sound):
        """How often the sound stands in the chain of so many words."""
        counts = [row.count(sound) for row in self.settled]
        ahead = min(times, self.before)
        rings, rest = divmod(times - ahead, self.length)
        settled = sum(counts[:ahead]) + rings * sum(counts[self.before:])
        return settled + sum(counts[self.before:self.before + rest]) + self.tail_of(times).count(sound)


def _chain_row(book, row, word, times):
    """The row that is said when the word is joined to the row so many times."""
    for _ in range(times):
        row = meet(book, row, word)
    return row


def _need_chain(book, word, times):
    """Checks the word and how many times it stands in the chain."""
    need_word(book, word)
    need_number(times, 1, MOST_TIMES)


def chain_ends(book, word, times):
    """The first and the last sounds of the chain, as many as a book looks at from there."""
    _need_chain(book, word, times)
    # So many words have so many sounds or more: none of the first ones is in
    # the tail.
    first = _chain_row(book, (), word, min(times, book.reach()))
    return first[:book.behind()], Tails(book, word).tail_of(times)


def chain_sound(book, word, times, place):
    """The sound at a place of the chain."""
    _need_chain(book, word, times)
    need_number(place, 0, times * len(word) - 1)
    ahead = place // len(word)
    tail = Tails(book, word).tail_of(ahead)
    # Behind the word with this place and so many words more it is settled.
    row = _chain_row(book, tail, word, min(times - ahead, 1 + book.ahead()))
    return row[len(tail) + place - ahead * len(word)]


def chain_count(book, word, times, sound):
    """How often the sound stands in the chain."""
    _need_chain(book, word, times)
    need_number(sound, 0, book.sounds() - 1)
    return Tails(book, word).count_in(times, sound)


def chain_ring(book, word):
    """From how many words on the last sounds come round, and after how many words more."""
    need_word(book, word)
    # Tails that are shorter than the book looks do not come round: they grow.
    tails = Tails(book, word)
    return tails.before, tails.length


def doubled_ends(book, word, times):
    """The first and the last sounds of the word that is doubled so many times."""
    need_word(book, word)
    need_number(times, 0, MOST_TIMES)
    row = word
    # Where the row is as long as the reach, no joining of two such rows looks
    # at the first sounds of the one or the last sounds of the other.
    while times > 0 and len(row) < book.reach():
        row = meet(book, row, row)
        times -= 1
    return row[:book.behind()], row[-book.ahead():]
