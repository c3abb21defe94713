"""What a book can do to phrases of told words alone."""

from heardseams.checks import MOST_WORDS, is_integer
from heardseams.errors import TooMany
from heardseams.gathering import Gathering, need_list, row_of, summary_of
from heardseams.rows import need_row
from heardseams.saying import unlike_threes


def _found(book, words):
    """The dict that has the summaries of all phrases of these words as its keys."""
    return Gathering([book], words).found


def summary(book, row):
    """The summary of a said row."""
    need_row(book, row)
    return summary_of(row, book.behind(), book.ahead())


def summaries(book, words):
    """The ascending list of the summaries of all phrases of these words."""
    need_list(book, words)
    return sorted(list(_found(book, words)))


def _unlike_three(book, found):
    """Three of the summaries found whose rows are said unlike, None if there are none."""
    # Of the first row only the last sounds matter, of the third one only the
    # first ones, and of the second one all: if it is longer, no sound of it
    # is looked at from both sides.
    tails, heads = {}, {}
    for each in found:
        tails.setdefault(row_of(each)[-book.ahead():], each)
        heads.setdefault(row_of(each)[:book.behind()], each)
    for each in found:
        if each[1] == ():
            unlike = unlike_threes(book, list(tails), [each[0]], list(heads))
            if unlike != []:
                return tails[unlike[0][0]], each, heads[unlike[0][2]]
    return None


def ever_matters(book, words):
    """Three summaries whose rows are said unlike as x (y z) and (x y) z, None if there are none."""
    need_list(book, words)
    return _unlike_three(book, _found(book, words))


def blamed(book, words):
    """The ascending list of the indexes of the words without which brackets never matter."""
    need_list(book, words)
    if _unlike_three(book, _found(book, words)) is None or len(words) == 1:
        return []
    return [
        at for at in range(len(words))
        if _unlike_three(book, _found(book, words[:at] + words[at + 1:])) is None
    ]


def _is_summary(thing):
    """Whether the thing is a pair of tuples of integers."""
    if not isinstance(thing, tuple) or len(thing) != 2:
        return False
    return all([isinstance(row, tuple) and all([is_integer(sound) for sound in row]) for row in thing])


def phrase_for(book, words, thing):
    """A phrase of as few of the words as can be that has this summary, None if none has."""
    need_list(book, words)
    gathering = Gathering([book], words)
    if not _is_summary(thing) or thing not in gathering.found:
        return None
    if gathering.words_needed(thing) > MOST_WORDS:
        raise TooMany(MOST_WORDS)
    return gathering.phrase(thing)
