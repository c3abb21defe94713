"""What a book can do to phrases of told words alone."""

from heardseams.checks import MOST_WORDS, is_integer
from heardseams.errors import NoList, TooMany
from heardseams.rows import are_words, need_row
from heardseams.saying import meet, unlike_threes
from heardseams.shapes import together

MOST_IN_LIST = 12
MOST_SUMMARIES = 400


def _need_list(book, thing):
    """Raises NoList unless the thing is a tuple of 1 to 12 words of the book."""
    if not are_words(thing, book.sounds(), MOST_IN_LIST):
        raise NoList()


def _summary_of(book, row):
    """The summary of a said row."""
    if len(row) < book.reach():
        return row, ()
    return row[:book.behind()], row[-book.ahead():]


def _row_of(told):
    """The shortest row with this summary."""
    # It stands for all of them: what is left out is looked at by no joining
    # of this phrase or of one that it is in.
    return told[0] + told[1]


def _joined_summary(book, one, other):
    """The summary of two phrases with these summaries, joined."""
    return _summary_of(book, meet(book, _row_of(one), _row_of(other)))


def _gathered(book, words):
    """A dict from each summary to (the fewest words that it needs, one, other).

    One and other are the summaries of the phrases that are joined to such a
    phrase; of a single word they are the word itself and None.
    """
    found = {}
    for word in words:
        found.setdefault(_summary_of(book, word), (1, word, None))
    # levels[many]: the summaries that need just so many words.
    levels = [[], list(found)]
    last = 1
    while len(levels) <= 2 * last:
        fresh = _fresh_level(book, found, levels)
        if fresh != []:
            last = len(levels)
        levels.append(fresh)
    return found


def _fresh_level(book, found, levels):
    """The summaries that need as many words as there are levels; they are put into found."""
    many = len(levels)
    fresh = []
    for ahead in range(1, many):
        for one in levels[ahead]:
            for other in levels[many - ahead]:
                summary_found = _joined_summary(book, one, other)
                if summary_found not in found:
                    found[summary_found] = (many, one, other)
                    fresh.append(summary_found)
                    if len(found) > MOST_SUMMARIES:
                        raise TooMany(MOST_SUMMARIES)
    return fresh


def summary(book, row):
    """The summary of a said row."""
    need_row(book, row)
    return _summary_of(book, row)


def summaries(book, words):
    """The ascending list of the summaries of all phrases of these words."""
    _need_list(book, words)
    return sorted(list(_gathered(book, words)))


def _unlike_three(book, found):
    """Three of the summaries found whose rows are said unlike, None if there are none."""
    # Of the first row only the last sounds matter, of the third one only the
    # first ones, and of the second one all: if it is longer, no sound of it
    # is looked at from both sides.
    tails, heads = {}, {}
    for each in found:
        tails.setdefault(_row_of(each)[-book.ahead():], each)
        heads.setdefault(_row_of(each)[:book.behind()], each)
    for each in found:
        if each[1] == ():
            unlike = unlike_threes(book, list(tails), [each[0]], list(heads))
            if unlike != []:
                return tails[unlike[0][0]], each, heads[unlike[0][2]]
    return None


def ever_matters(book, words):
    """Three summaries whose rows are said unlike as x (y z) and (x y) z, None if there are none."""
    _need_list(book, words)
    return _unlike_three(book, _gathered(book, words))


def blamed(book, words):
    """The ascending list of the indexes of the words without which brackets never matter."""
    _need_list(book, words)
    if _unlike_three(book, _gathered(book, words)) is None or len(words) == 1:
        return []
    return [
        at for at in range(len(words))
        if _unlike_three(book, _gathered(book, words[:at] + words[at + 1:])) is None
    ]


def _is_summary(thing):
    """Whether the thing is a pair of tuples of integers."""
    if not isinstance(thing, tuple) or len(thing) != 2:
        return False
    return all([isinstance(row, tuple) and all([is_integer(sound) for sound in row]) for row in thing])


def _phrase_with(found, each):
    """The words and the shape of a phrase with this summary."""
    _, one, other = found[each]
    if other is None:
        return (one,), ()
    words, shape = _phrase_with(found, one)
    more, behind = _phrase_with(found, other)
    return words + more, together(shape, behind)


def phrase_for(book, words, thing):
    """A phrase of as few of the words as can be that has this summary, None if none has."""
    _need_list(book, words)
    found = _gathered(book, words)
    if not _is_summary(thing) or thing not in found:
        return None
    if found[thing][0] > MOST_WORDS:
        raise TooMany(MOST_WORDS)
    return _phrase_with(found, thing)
