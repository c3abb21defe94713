"""What the tests share: bracketings as nested pairs, reckoned without the package, and wrong arguments.

A tree is the number of a word, or a pair of trees.
"""

import random

from heardseams.books import Book
from heardseams.errors import NoBook, NoShape, SeamError, TooMany


def trees(first, last):
    """All trees of the words first to last: outermost seam, then part ahead, then part behind."""
    if first == last:
        return [first]
    return [
        (ahead, behind)
        for seam in range(first, last)
        for ahead in trees(first, seam)
        for behind in trees(seam + 1, last)
    ]


def random_tree(chance, first, last):
    if first == last:
        return first
    seam = chance.randrange(first, last)
    return (random_tree(chance, first, seam), random_tree(chance, seam + 1, last))


def words_of(tree):
    if isinstance(tree, int):
        return [tree]
    return words_of(tree[0]) + words_of(tree[1])


def seam_of(tree):
    return words_of(tree[0])[-1]


def phrases(tree, depth=0):
    """A dict from each seam to (first word, last word, depth) of its phrase."""
    if isinstance(tree, int):
        return {}
    words = words_of(tree)
    found = {seam_of(tree): (words[0], words[-1], depth)}
    found.update(phrases(tree[0], depth + 1))
    found.update(phrases(tree[1], depth + 1))
    return found


def shape_of(tree):
    found = phrases(tree)
    return tuple(found[seam][2] for seam in sorted(found))


def standing(tree, one, other):
    """How one seam stands to the other: whose phrase lies within whose."""
    found = phrases(tree)
    a, b, _ = found[one]
    c, d, _ = found[other]
    if a <= c and d <= b:
        return "over"
    if c <= a and b <= d:
        return "under"
    return "neither"


def rotations(tree):
    """A dict from each regrouping (one, other) to the tree behind it."""
    if isinstance(tree, int):
        return {}
    ahead, behind = tree
    found = {}
    if isinstance(ahead, tuple):
        found[seam_of(tree), seam_of(ahead)] = (ahead[0], (ahead[1], behind))
    if isinstance(behind, tuple):
        found[seam_of(tree), seam_of(behind)] = ((ahead, behind[0]), behind[1])
    for step, other in rotations(ahead).items():
        found[step] = (other, behind)
    for step, other in rotations(behind).items():
        found[step] = (ahead, other)
    return found


def ballot_of(tree):
    if isinstance(tree, int):
        return ()
    return (1,) + ballot_of(tree[0]) + (-1,) + ballot_of(tree[1])


def left_comb(words):
    """The shape (..((A B) C)..)."""
    return tuple(range(words - 2, -1, -1))


def right_comb(words):
    """The shape (..(A (B C))..)."""
    return tuple(range(words - 1))


def zigzag(words):
    """The shape whose outermost seam is the first, then the last, then the second, and so on."""
    depths = [0] * (words - 1)
    low, high = 0, words - 2
    for depth in range(words - 1):
        if depth & 1:
            depths[high] = depth
            high -= 1
        else:
            depths[low] = depth
            low += 1
    return tuple(depths)


def long_trees(many, seed):
    """Some trees of 40 words, the same ones each time."""
    chance = random.Random(seed)
    return [random_tree(chance, 0, 39) for _ in range(many)]


def some_lengths(words, seed):
    """Lengths of so many words: all the least, all the greatest, near each other, and far apart."""
    chance = random.Random(seed)
    return [
        (1,) * words, (10 ** 6,) * words, tuple(chance.randint(1, 3) for _ in range(words)),
        tuple(chance.choice((1, 2, 5, 40, 1000, 10 ** 6)) for _ in range(words)),
    ]


def distances(lengths):
    """A dict from each pair of seams p < q to their distance."""
    return {(p, q): sum(lengths[p + 1:q + 1]) for q in range(len(lengths) - 1) for p in range(q)}


def some_m(lengths):
    """Numbers m for which classes come out in all ways that they can, 1 and the greatest among them."""
    found = {1, 10 ** 9}
    for distance in distances(lengths).values():
        found.update((distance, distance + 1))
    return sorted(found)


def near_by_hand(lengths, tree, m):
    """How all seams nearer than m stand, as a dict."""
    return {pair: standing(tree, *pair) for pair, distance in distances(lengths).items() if distance < m}


def classes_by_hand(lengths, m):
    """The classes of all trees of the words: a list of lists of shapes, all in order of their first shapes."""
    found = {}
    for tree in trees(0, len(lengths) - 1):
        key = tuple(sorted(near_by_hand(lengths, tree, m).items()))
        found.setdefault(key, []).append(shape_of(tree))
    return list(found.values())


def far_steps(lengths, tree, m):
    """The regroupings of the tree whose middles are m or more."""
    far = distances(lengths)
    return [step for step in rotations(tree) if far[min(step), max(step)] >= m]


def all_rows_by_hand(sounds, most):
    """All rows of 1 to so many sounds."""
    found = []
    for length in range(1, most + 1):
        for number in range(sounds ** length):
            found.append(tuple(number // sounds ** (length - 1 - at) % sounds for at in range(length)))
    return found


def random_row(chance, sounds, length):
    return tuple(chance.randrange(sounds) for _ in range(length))


def random_table(chance, sounds, ahead, behind, many):
    """A table with at most so many entries, also ones that change nothing."""
    table = {}
    for _ in range(many):
        left, right = chance.randint(1, ahead), chance.randint(1, behind)
        key = (random_row(chance, sounds, left), random_row(chance, sounds, right))
        table[key] = (random_row(chance, sounds, left), random_row(chance, sounds, right))
    return table


def random_book(chance, sounds, ahead, behind, many):
    return Book(sounds, ahead, behind, random_table(chance, sounds, ahead, behind, many))


def full_book(chance, sounds, ahead, behind):
    """A book that tells for each pair of rows what it becomes."""
    return Book(sounds, ahead, behind, {
        (left, right): (random_row(chance, sounds, len(left)), random_row(chance, sounds, len(right)))
        for left in all_rows_by_hand(sounds, ahead) for right in all_rows_by_hand(sounds, behind)
    })


def meet_by_hand(book, one, other):
    """Two rows joined, by the parts of the book alone."""
    left = one[max(0, len(one) - book.ahead()):]
    right = other[:book.behind()]
    new_left, new_right = book.table().get((left, right), (left, right))
    return one[:len(one) - len(left)] + new_left + new_right + other[len(right):]


def say_by_hand(book, words, tree):
    """The words joined as the tree tells."""
    if isinstance(tree, int):
        return words[tree]
    return meet_by_hand(book, say_by_hand(book, words, tree[0]), say_by_hand(book, words, tree[1]))


def some_book(chance):
    """A book of any size: of one or two sounds it tells for each pair of rows what it becomes."""
    sounds, ahead, behind = chance.choice((1, 2, 3, 8)), chance.randint(1, 4), chance.randint(1, 4)
    if sounds <= 2:
        return full_book(chance, sounds, ahead, behind)
    return random_book(chance, sounds, ahead, behind, 4000)


def some_phrases(seed, many, words, longest):
    """Books with words of theirs, some shorter than what the book looks at."""
    chance = random.Random(seed)
    found = []
    for _ in range(many):
        book = some_book(chance)
        found.append((book, tuple(random_row(chance, book.sounds(), chance.randint(1, longest)) for _ in range(words))))
    return found


def joinings_by_hand(tree):
    """The seams in the order of their joinings, each with the first and the last word."""
    if isinstance(tree, int):
        return []
    seam = [seam for seam, found in phrases(tree).items() if found[2] == 0][0]
    first, last, _ = phrases(tree)[seam]
    return joinings_by_hand(tree[0]) + joinings_by_hand(tree[1]) + [(seam, first, last)]


def nested(kind, depth):
    thing = kind()
    for _ in range(depth - 1):
        thing = kind([thing])
    return thing


def odd_things():
    """Values of all kinds; the only integers that are no flags are the last three."""
    return [
        None, True, False, "", "0", "(0, 1)", " \n\t~", [], [0], [0, 1], [[0]], (), (None,), (True,),
        (False,), ("0",), ([],), ({},), ((),), ((0,),), {}, {0: 0}, {"a": [1]}, {(0, 1): "over"},
        SeamError(), NoShape(), NoBook([1]), TooMany(40), (NoShape(),), nested(tuple, 30), nested(list, 30),
        Book(1, 1, 1, {}), (Book(2, 1, 1, {}),), {nested(tuple, 30): nested(list, 29)}, {NoShape(): 1}, {None: {}},
        -1, 10 ** 40, -10 ** 40,
    ]


def is_plain_integer(thing):
    return isinstance(thing, int) and not isinstance(thing, bool)


def no_integers():
    return [thing for thing in odd_things() if not is_plain_integer(thing)]


def no_shapes():
    """Values that are shapes of no number of words."""
    return [thing for thing in odd_things() if thing != ()] + [
        [1, 0], (1,), (2,), (-1,), (0, 0), (1, 1), (0, 2), (2, 0), (1, 2), (0, -1), (0, 1, 1), (1, 1, 0),
        (0, 2, 2), (1, 0, 0), (0, 1, 3), (1, 0, 2), (2, 0, 1), (0, 1, 0), (3, 1, 0), (1, 0, 1, 1),
        (1, False), (False, 1), (0, True), (True, 0), (0, "1"), (0, None), (0, (1,)), (0, [1]), (10 ** 30, 0),
        right_comb(41), left_comb(41), zigzag(41), right_comb(42), (0,) * 39, (0,) * 1000, (1,) * 39,
        left_comb(40)[:-1], right_comb(40)[1:], right_comb(40)[:-1] + ("38",), right_comb(40)[:-1] + (39,),
    ]


def no_lengths():
    return odd_things() + [
        [1, 1], (0,), (-1,), (1, 0), (0, 1), (1, -1), (10 ** 6 + 1,), (1, 10 ** 6 + 1), (10 ** 40, 1), (1, True),
        (True, 1), (1, None), (1, "1"), (1, (1,)), (1, [1]), (1,) * 41, (1,) * 1000, (1,) * 39 + (0,),
    ]


def no_words(sounds):
    """Values that are no words of a book of so many sounds."""
    return [thing for thing in odd_things() if thing != ((0,),)] + [
        [(0,)], ([0],), ((0,), [0]), ((0,), ()), ((0,), None), ((0,), 0), ((0,), (None,)), ((0,), (True,)),
        ((False,),), ((0,), ("0",)), ((0,), ((0,),)), ((sounds,),), ((0,), (0, sounds)), ((-1,),), ((0, -1),),
        ((10 ** 40,),), ((0,) * 201,), ((0,), (0,) * 201), ((0,),) * 41, ((0,),) * 1000, ("0", "0"), {0: (0,)},
    ]


def no_rows(sounds):
    """Values that are no rows of a book of so many sounds."""
    return odd_things() + [
        [0], [0, 0], (0, None), (0, True), (False, 0), (0, "0"), (0, (0,)), (0, [0]), (sounds,), (0, sounds), (-1,),
        (0, -1), (10 ** 40,), (0,) * 4001, (0,) * 4000 + (sounds,), (0,) * 3999 + (None,), {0: 0}, "0",
    ]


def raised(function, *arguments):
    """The error that the call raises, None if it raises none."""
    try:
        function(*arguments)
    except Exception as error:
        return error
    return None


def error_kind(function, *arguments):
    """The class of the error that the call raises."""
    return raised(function, *arguments).__class__
