"""Letters, words and their pieces."""

from watchkinds.base.values import ascends, need_number
from watchkinds.errors import InvalidOperation, InvalidWord

MAX_LETTERS = 3


def is_letters(value):
    """Whether the value is a set of letters."""
    return is_word(value) and 1 <= len(value) <= MAX_LETTERS and ascends(value)


def is_word(value):
    """Whether the value is a word."""
    if not isinstance(value, str):
        return False
    return value == "" or (value.isascii() and value.isalpha() and value.islower())


def is_letter(letters, value):
    """Whether the value is a letter of a set of letters."""
    return isinstance(value, str) and len(value) == 1 and value in letters


def is_over(letters, word):
    """Whether all letters of a word are in a set of letters."""
    return all([letter in letters for letter in sorted(set(word))])


def need_letters(letters):
    """Raise the error of what should be a set of letters, and is none."""
    if not is_letters(letters):
        raise InvalidOperation("no set of letters")


def need_word(word):
    """Raise the error of what should be a word, and is none."""
    if not is_word(word):
        raise InvalidWord("no word")


def need_over(letters, word):
    """Raise the error of a word that has a letter which is not in the set."""
    if not is_over(letters, word):
        raise InvalidOperation("a letter of the word is not in the set of letters")


def all_words(letters, most):
    """All words of at most so many letters of a set, the first one first."""
    need_letters(letters)
    need_number(most, 0, 7)
    layer = [""]
    yield ""
    for _ in range(most):
        layer = [word + letter for word in layer for letter in letters]
        yield from layer


def power(word, times):
    """The word, repeated so often."""
    need_word(word)
    need_number(times, 0, 60)
    return word * times


def counts(letters, word):
    """How often each letter of the set stands in the word."""
    need_letters(letters)
    need_word(word)
    need_over(letters, word)
    return tuple([word.count(letter) for letter in letters])


def pieces(word, most):
    """The pieces of a word with at most so many letters, the first one first."""
    need_word(word)
    need_number(most, 0, 4)
    letters = sorted(set(word))
    # Each piece stands beside the end of its first place in the word, so that it is found just once.
    layer = [("", 0)]
    found = [""]
    for _ in range(most):
        layer = [(piece + letter, word.find(letter, end) + 1)
                 for piece, end in layer for letter in letters if word.find(letter, end) >= 0]
        found.extend([piece for piece, _ in layer])
    return tuple(found)


def is_piece(word, other):
    """Whether the word is a piece of the other one."""
    need_word(word)
    need_word(other)
    end = 0
    for letter in word:
        end = other.find(letter, end) + 1
        if end == 0:
            return False
    return True


def last_letters(word, number):
    """The last so many letters of the word, or the word itself if it has fewer."""
    need_word(word)
    need_number(number, 0, 400)
    return word[max(0, len(word) - number):]


def first_letters(word, number):
    """The first so many letters of the word, or the word itself if it has fewer."""
    need_word(word)
    need_number(number, 0, 400)
    return word[:number]
