"""What clerks see of words, which of them tell machines apart, and counts blurs where none does."""

from watchkinds.base.joined import common_word
from watchkinds.base.machines import need_machines, need_same_letters
from watchkinds.base.values import is_number, is_pair, need_number
from watchkinds.base.words import counts, need_letters, need_over, need_word
from watchkinds.counts.blurs import found_blur
from watchkinds.counts.rings import need_count_sort
from watchkinds.errors import TooMany

MAX_SEARCHED = 4
MAX_CLERK = 12

_MAX_SEEN = 40
_SMALL = 6


def sight(letters, cap, modulus, word):
    """What a clerk sees of a word: of the count of each letter."""
    need_letters(letters)
    need_number(cap, 0, _MAX_SEEN)
    need_number(modulus, 1, _MAX_SEEN)
    need_word(word)
    need_over(letters, word)
    return tuple([many if many < cap + modulus else cap + (many - cap) % modulus for many in counts(letters, word)])


def sights(machine, cap, modulus):
    """The ascending tuple of all that a clerk sees of words of a machine."""
    need_machines((machine,))
    need_number(cap, 0, MAX_CLERK)
    need_number(modulus, 1, MAX_CLERK)
    size = cap + modulus
    found = _seen(machine, cap, modulus)
    places = [size * size, size, 1][3 - len(machine.letters):]
    return tuple([tuple([number // place % size for place in places]) for number in sorted(list(found))])


def counts_blur(one, other, sort):
    """Any counts blur of two machines for a sort, or None."""
    _need(one, other, sort)
    need_same_letters(one.letters, other.letters)
    if max(len(one), len(other)) > MAX_SEARCHED:
        raise TooMany(MAX_SEARCHED)
    word = common_word(one, other)
    return ("word", word) if word is not None else found_blur(one, other, sort)


def clerk_for(one, other, sort, most):
    """Any clerk for the sort within the bound that tells two machines apart, or None."""
    return first_clerk(one, other, sort, most)


def is_clerk_for(one, other, sort, value):
    """Whether the value is a clerk for the sort, of at most 12, that tells two machines apart."""
    _need(one, other, sort)
    need_same_letters(one.letters, other.letters)
    if not is_pair(value) or not is_number(value[0], 0, MAX_CLERK) or not is_number(value[1], 1, MAX_CLERK):
        return False
    cap, modulus = value
    if (sort == "caps" and modulus != 1) or (sort == "sums" and cap != 0):
        return False
    return _tells(one, other, cap, modulus)


def first_clerk(one, other, sort, most):
    """The clerk for the sort with the least sum, and then the least cap, that tells two machines apart, or None."""
    _need(one, other, sort)
    need_number(most, 1, MAX_CLERK)
    need_same_letters(one.letters, other.letters)
    # A blur is soon found, where there is one; to try all clerks would take long.
    if _is_blurred(one, other, sort):
        return None
    greatest = 0 if sort == "sums" else most
    moduli = list(range(1, 2 if sort == "caps" else most + 1))
    clerks = [(cap + modulus, cap, modulus) for cap in range(greatest + 1) for modulus in moduli]
    able = None
    for size, cap, modulus in sorted(clerks):
        # Small clerks are soon tried; ahead of the greater ones it is better to see which moduli can tell at all.
        if size > _SMALL and able is None:
            able = _able_moduli(one, other, greatest, moduli)
        if (able is None or modulus in able) and _tells(one, other, cap, modulus):
            return cap, modulus
    return None


def _need(one, other, sort):
    need_machines((one, other))
    need_count_sort(sort)


def _is_blurred(one, other, sort):
    """Whether a counts blur is found, for machines of few states; for others, whether they have a word in common."""
    if max(len(one), len(other)) > MAX_SEARCHED:
        return common_word(one, other) is not None
    return counts_blur(one, other, sort) is not None


def _able_moduli(one, other, cap, moduli):
    """Those of the moduli with which this cap tells two machines apart."""
    able = []
    failed = []
    for modulus in moduli[::-1]:
        # If a multiple does not, this one does not either.
        if not any([multiple % modulus == 0 for multiple in failed]):
            if _tells(one, other, cap, modulus):
                able.append(modulus)
            else:
                failed.append(modulus)
    return able


def _tells(one, other, cap, modulus):
    left = _seen(one, cap, modulus)
    return not any([number in left for number in _seen(other, cap, modulus)])


def _seen(machine, cap, modulus):
    """A dict of the numbers of all sights of words: what is seen of the letters are the figures of the number."""
    many = len(machine)
    size = cap + modulus
    units = [many, size * many, size * size * many][:len(machine.letters)][::-1]
    met = [False for _ in range(size * units[0])]
    met[0] = True
    queue = [0]
    while queue:
        key = queue.pop()
        for unit, after in zip(units, machine.table[key % many]):
            figure = key // unit % size
            step = unit if figure + 1 < size else (1 - modulus) * unit
            longer = key - key % many + step + after
            if not met[longer]:
                met[longer] = True
                queue.append(longer)
    return {key // many: True for key, held in enumerate(met) if held and key % many in machine.ends}
