"""What latches tell apart: the greatest clouds, blurs, clear papers, and words that latches cannot tell apart."""

from watchkinds.base.joined import common_word
from watchkinds.base.machines import need_machines, need_two
from watchkinds.base.values import need_number
from watchkinds.errors import InvalidOperation, TooMany
from watchkinds.latches.closing import Closing
from watchkinds.latches.images import hits_of, is_map_of
from watchkinds.latches.making import Making
from watchkinds.latches.papers import is_latches_blur, last_cloud, need_recipe

MAX_LENGTH = 100000
MAX_NUMBER = 6


def greatest_clouds(one, other):
    """The ascending tuple of the greatest clouds."""
    need_two(one, other)
    closing = Closing(one, other)
    closing.close(False)
    return closing.greatest()


def latches_blur(one, other):
    """Any latches blur, or None."""
    need_two(one, other)
    closing = Closing(one, other)
    word = common_word(one, other)
    if word is not None:
        return ("word", word)
    closing.close(True)
    bad = closing.bad_cloud()
    return None if bad is None else ("recipe", closing.recipe(bad))


def latches_clear(one, other):
    """Any clear paper, or None."""
    need_two(one, other)
    closing = Closing(one, other)
    closing.close(True)
    return closing.greatest() if closing.bad_cloud() is None else None


def are_told_by_latches(one, other):
    """Whether some box of the sort of the latches tells the machines apart."""
    return latches_clear(one, other) is not None


def latches_words(one, other, blur, number):
    """Any words of both machines, words for the recipe of a blur at a number."""
    if not is_latches_blur(one, other, blur):
        raise InvalidOperation("no latches blur of the machines")
    need_number(number, 1, MAX_NUMBER)
    if blur[0] == "word":
        return blur[1], blur[1]
    making = Making(one, other, blur[1], number, MAX_LENGTH)
    sizes = making.last()
    return tuple([_shortest(making, [held for held in sizes if hits_of(one, other, held)[side]])
                  for side in range(2)])


def latch_word(one, other, recipe, map_, number):
    """Any word for a recipe at a number that makes a map of its cloud."""
    need_machines((one, other))
    need_recipe(one, other, recipe)
    if not is_map_of(one, other, map_) or map_ not in last_cloud(one, other, recipe):
        raise InvalidOperation("no map of the cloud of the recipe")
    need_number(number, 1, MAX_NUMBER)
    making = Making(one, other, recipe, number, MAX_LENGTH)
    return _shortest(making, [held for held in making.last() if held == map_])


def _shortest(making, maps):
    """The shortest word for a recipe that makes one of some maps; TooMany if it is too long to be made."""
    if not maps:
        raise TooMany(MAX_LENGTH)
    sizes = making.last()
    return making.word(min(maps, key=lambda held: sizes[held]))
