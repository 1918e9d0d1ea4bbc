"""Blurs of all sorts: found, judged, made into words, and turned into blurs for lower sorts."""

from watchkinds.base.joined import common_word, is_word_blur
from watchkinds.base.machines import need_machines, need_same_letters
from watchkinds.base.values import need_number
from watchkinds.counts.finding import counts_blur
from watchkinds.counts.rings import COUNT_SORTS, counts_words, is_counts_blur
from watchkinds.ends.ends import first_blur, first_words, is_first_blur, is_last_blur, last_blur, last_words
from watchkinds.errors import InvalidOperation, Refused
from watchkinds.ladder.sorts import is_below, need_sort
from watchkinds.latches.finding import latches_blur, latches_words
from watchkinds.latches.papers import is_latches_blur
from watchkinds.pieces.blocks import is_pieces_blur, pieces_words
from watchkinds.pieces.finding import pieces_blur
from watchkinds.turners.finding import turners_blur
from watchkinds.turners.walks import is_turners_blur, turners_words

_MAX_NUMBER = 6


def tells(one, other, sort):
    """Whether some box of a sort tells two machines apart."""
    return blur_of(one, other, sort) is None


def blur_of(one, other, sort):
    """Any blur of two machines for a sort, or None."""
    _need(one, other, sort)
    need_same_letters(one.letters, other.letters)
    if sort in COUNT_SORTS:
        return counts_blur(one, other, sort)
    if sort == "last":
        return last_blur(one, other)
    if sort == "first":
        return first_blur(one, other)
    if sort == "pieces":
        return pieces_blur(one, other)
    if sort == "latches":
        return latches_blur(one, other)
    if sort == "turners":
        return turners_blur(one, other)
    word = common_word(one, other)
    return None if word is None else ("word", word)


def is_blur(one, other, sort, value):
    """Whether the value is a blur of two machines for a sort."""
    _need(one, other, sort)
    need_same_letters(one.letters, other.letters)
    if sort in COUNT_SORTS:
        return is_counts_blur(one, other, sort, value)
    if sort == "last":
        return is_last_blur(one, other, value)
    if sort == "first":
        return is_first_blur(one, other, value)
    if sort == "pieces":
        return is_pieces_blur(one, other, value)
    if sort == "latches":
        return is_latches_blur(one, other, value)
    if sort == "turners":
        return is_turners_blur(one, other, value)
    return is_word_blur(one, other, value)


def words_against(one, other, sort, blur, number):
    """Any words of both machines that each box of the sort with this number at most leads alike."""
    _need(one, other, sort)
    need_number(number, 1, _MAX_NUMBER)
    need_same_letters(one.letters, other.letters)
    _need_blur(one, other, sort, blur)
    if blur[0] == "word":
        return blur[1], blur[1]
    if sort in COUNT_SORTS:
        return counts_words(one, other, sort, blur, number)
    if sort == "last":
        return last_words(one, other, blur, number)
    if sort == "first":
        return first_words(one, other, blur, number)
    if sort == "pieces":
        return pieces_words(one, other, blur, number)
    if sort == "latches":
        return latches_words(one, other, blur, number)
    return turners_words(one, other, blur, number)


def turned(one, other, sort, blur, lower):
    """Any blur for a sort that is below the sort of a blur."""
    _need(one, other, sort)
    need_sort(lower)
    need_same_letters(one.letters, other.letters)
    _need_blur(one, other, sort, blur)
    if not is_below(lower, sort):
        raise Refused(lower)
    if lower == sort or blur[0] == "word":
        return blur
    if sort == "clerks":
        # Caps do not see more than clerks do; rests see nothing of which letters come seldom.
        return blur if lower == "caps" else (blur[0], one.letters, blur[2], blur[3])
    # No box of the sort tells the machines apart, so none of the lower one does: a blur of its own is there.
    return blur_of(one, other, lower)


def _need(one, other, sort):
    need_machines((one, other))
    need_sort(sort)


def _need_blur(one, other, sort, blur):
    if not is_blur(one, other, sort, blur):
        raise InvalidOperation("no blur of the machines for the sort")
