"""Books: what becomes of the sounds on both sides of a seam."""

from heardseams.checks import is_within
from heardseams.errors import NoBook, OtherBook, TooMany
from heardseams.rows import all_rows, is_row, is_sound, rows_many

MOST_SOUNDS = 8
MOST_LOOKED = 4
MOST_ENTRIES = 4000
MOST_RULES = 40
MOST_PAIRS = 20000


def _need_sizes(sounds, ahead, behind):
    """Raises NoBook for the first of the sizes that is wrong."""
    if not is_within(sounds, 1, MOST_SOUNDS):
        raise NoBook("sounds")
    if not is_within(ahead, 1, MOST_LOOKED):
        raise NoBook("ahead")
    if not is_within(behind, 1, MOST_LOOKED):
        raise NoBook("behind")


def _is_pair(thing, sounds, ahead, behind):
    """Whether the thing is a pair of rows of at most so many sounds."""
    if not isinstance(thing, tuple) or len(thing) != 2:
        return False
    return is_row(thing[0], sounds, ahead) and is_row(thing[1], sounds, behind)


def _is_pair_like(thing, sounds, left, right):
    """Whether the thing is a pair of rows as long as these."""
    if not _is_pair(thing, sounds, len(left), len(right)):
        return False
    return len(thing[0]) == len(left) and len(thing[1]) == len(right)


def _is_table(thing, sounds, ahead, behind):
    """Whether the thing is a dict that tells what becomes of what."""
    if not isinstance(thing, dict) or len(thing) > MOST_ENTRIES:
        return False
    if not all([_is_pair(key, sounds, ahead, behind) for key in thing]):
        return False
    return all([_is_pair_like(thing[left, right], sounds, left, right) for left, right in thing])


def _telling(table):
    """A new dict of the entries that change something."""
    return {key: table[key] for key in table if table[key] != key}


class Book:
    """What becomes of the last sounds ahead of a seam and the first ones behind it."""

    def __init__(self, sounds, ahead, behind, table):
        _need_sizes(sounds, ahead, behind)
        if not _is_table(table, sounds, ahead, behind):
            raise NoBook("table")
        self._sounds = sounds
        self._ahead = ahead
        self._behind = behind
        self._table = _telling(table)

    def __eq__(self, other):
        return (
            isinstance(other, Book) and self._sounds == other._sounds and self._ahead == other._ahead
            and self._behind == other._behind and self._table == other._table
        )

    def sounds(self):
        """How many sounds there are."""
        return self._sounds

    def ahead(self):
        """How many sounds the book looks at ahead of a seam."""
        return self._ahead

    def behind(self):
        """How many sounds the book looks at behind a seam."""
        return self._behind

    def table(self):
        """A new dict of the entries that change something."""
        return {key: self._table[key] for key in self._table}

    def reach(self):
        """How many sounds the book looks at on both sides."""
        return self._ahead + self._behind

    def becomes(self, left, right):
        """The pair of rows that the two rows at a seam become."""
        return self._table.get((left, right), (left, right))


def _book_of(sounds, ahead, behind, entries):
    """The book of entries that are known to be right."""
    # Only a table that is handed in has a limit: two books one behind
    # another, or all pairs of rows, may have more entries.
    book = Book(sounds, ahead, behind, {})
    book._table = _telling(entries)
    return book


def _all_pairs(sounds, ahead, behind):
    """All pairs of rows at which such a book looks."""
    rights = all_rows(sounds, behind)
    return [(left, right) for left in all_rows(sounds, ahead) for right in rights]


def _need_few_pairs(sounds, ahead, behind):
    """Raises TooMany if such a book looks at too many pairs of rows."""
    if rows_many(sounds, ahead) * rows_many(sounds, behind) > MOST_PAIRS:
        raise TooMany(MOST_PAIRS)


def _is_lot(thing, sounds):
    """Whether the thing is a strictly ascending tuple of sounds."""
    if not isinstance(thing, tuple) or not all([is_sound(sound, sounds) for sound in thing]):
        return False
    return all([thing[at] < thing[at + 1] for at in range(len(thing) - 1)])


def _are_lots(thing, sounds, most):
    """Whether the thing is a tuple of 1 to so many lots."""
    if not isinstance(thing, tuple) or not 1 <= len(thing) <= most:
        return False
    return all([_is_lot(lot, sounds) for lot in thing])


def _is_put(thing, sounds, many):
    """Whether the thing is a tuple of so many sounds and None."""
    if not isinstance(thing, tuple) or len(thing) != many:
        return False
    return all([sound is None or is_sound(sound, sounds) for sound in thing])


def _is_rule(thing, sounds, ahead, behind):
    """Whether the thing is a rule for a book of these sizes."""
    if not isinstance(thing, tuple) or len(thing) != 4:
        return False
    lefts, rights, new_left, new_right = thing
    if not _are_lots(lefts, sounds, ahead) or not _are_lots(rights, sounds, behind):
        return False
    return _is_put(new_left, sounds, len(lefts)) and _is_put(new_right, sounds, len(rights))


def _are_rules(thing, sounds, ahead, behind):
    """Whether the thing is a tuple of at most 40 rules."""
    if not isinstance(thing, tuple) or len(thing) > MOST_RULES:
        return False
    return all([_is_rule(rule, sounds, ahead, behind) for rule in thing])


def _fits(rule, left, right):
    """Whether the rule fits where these two rows meet."""
    lefts, rights = rule[0], rule[1]
    if len(lefts) > len(left) or len(rights) > len(right):
        return False
    if not all([sound in lot for sound, lot in zip(left[-len(lefts):], lefts)]):
        return False
    return all([sound in lot for sound, lot in zip(right, rights)])


def _put(new, old):
    """The old row with the new sounds put there, None leaving what stands."""
    return tuple([old[at] if new[at] is None else new[at] for at in range(len(new))])


def _by_rule(rule, left, right):
    """What the two rows become by a rule that fits."""
    new_left, new_right = rule[2], rule[3]
    cut = len(left) - len(new_left)
    return (
        left[:cut] + _put(new_left, left[cut:]),
        _put(new_right, right[:len(new_right)]) + right[len(new_right):],
    )


def _by_rules(rules, left, right):
    """What the two rows become by the first rule that fits."""
    for rule in rules:
        if _fits(rule, left, right):
            return _by_rule(rule, left, right)
    return left, right


def from_rules(sounds, ahead, behind, rules):
    """The book that does what the first of the rules that fits tells."""
    _need_sizes(sounds, ahead, behind)
    if not _are_rules(rules, sounds, ahead, behind):
        raise NoBook("table")
    _need_few_pairs(sounds, ahead, behind)
    pairs = _all_pairs(sounds, ahead, behind)
    return _book_of(sounds, ahead, behind, {(left, right): _by_rules(rules, left, right) for left, right in pairs})


def by_function(sounds, ahead, behind, function):
    """The book in which two rows become what the function gives for them."""
    _need_sizes(sounds, ahead, behind)
    _need_few_pairs(sounds, ahead, behind)
    entries = {}
    for left, right in _all_pairs(sounds, ahead, behind):
        given = function(left, right)
        if not _is_pair_like(given, sounds, left, right):
            raise NoBook("table")
        entries[left, right] = given
    return _book_of(sounds, ahead, behind, entries)


def _are_alike_in_size(book, other):
    """Whether the other thing is a book with as many sounds that looks as far on each side."""
    if not isinstance(other, Book):
        return False
    sizes = book.sounds(), book.ahead(), book.behind()
    return sizes == (other.sounds(), other.ahead(), other.behind())


def one_behind_another(book, other):
    """The book that does what the first does, then what the second does to that."""
    if not _are_alike_in_size(book, other):
        raise OtherBook()
    entries = {}
    for left, right in list(book.table()) + list(other.table()):
        new_left, new_right = book.becomes(left, right)
        entries[left, right] = other.becomes(new_left, new_right)
    return _book_of(book.sounds(), book.ahead(), book.behind(), entries)


def mirrored(book):
    """The book that does to rows read from behind what this one does to rows."""
    table = book.table()
    entries = {}
    for left, right in table:
        new_left, new_right = table[left, right]
        entries[right[::-1], left[::-1]] = (new_right[::-1], new_left[::-1])
    return _book_of(book.sounds(), book.behind(), book.ahead(), entries)
