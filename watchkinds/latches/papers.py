"""Clouds, the recipes that make them, latches blurs, and clear papers."""

from watchkinds.base.joined import is_word_blur
from watchkinds.base.machines import need_machines, need_same_letters, need_two
from watchkinds.base.values import ascends, is_number, is_pair
from watchkinds.base.words import is_over, is_word
from watchkinds.errors import InvalidOperation
from watchkinds.latches.clouds import Clouds
from watchkinds.latches.images import MAX_READINGS, hits_of, is_map_of, word_map

MAX_STEPS = 400
MAX_WORD = 60


def is_cloud(one, other, value):
    """Whether the value is a cloud."""
    need_two(one, other)
    return _is_cloud(one, other, value)


def cloud_behind(one, other, left, right):
    """The cloud of two, the second one behind the first one."""
    _need_clouds(one, other, (left, right))
    clouds = Clouds()
    return clouds.uncoded(clouds.product(clouds.coded(left), clouds.coded(right)))


def often(one, other, cloud):
    """The cloud often."""
    _need_clouds(one, other, (cloud,))
    clouds = Clouds()
    return clouds.uncoded(clouds.often(clouds.coded(cloud))[0])


def often_number(one, other, cloud):
    """How many times a cloud is taken, and once more, to make the cloud often."""
    _need_clouds(one, other, (cloud,))
    clouds = Clouds()
    return clouds.often(clouds.coded(cloud))[1]


def is_bad_cloud(one, other, cloud):
    """Whether some map in a cloud hits the one machine, and some map in it the other one."""
    _need_clouds(one, other, (cloud,))
    return _is_bad(one, other, cloud)


def recipe_clouds(one, other, recipe):
    """The clouds of all steps of a recipe."""
    need_machines((one, other))
    need_recipe(one, other, recipe)
    clouds = Clouds()
    return tuple([clouds.uncoded(made) for made in _made(one, other, clouds, recipe, list(range(len(recipe))))])


def is_recipe(one, other, value):
    """Whether the value is a recipe."""
    need_two(one, other)
    return _is_recipe(one.letters, value)


def is_latches_blur(one, other, value):
    """Whether the value is a latches blur."""
    need_two(one, other)
    if is_word_blur(one, other, value):
        return True
    if not is_pair(value) or value[0] != "recipe" or not _is_recipe(one.letters, value[1]):
        return False
    return _is_bad(one, other, last_cloud(one, other, value[1]))


def is_latches_clear(one, other, value):
    """Whether the value is a clear paper."""
    need_two(one, other)
    if not isinstance(value, tuple) or not all([_is_cloud(one, other, cloud) for cloud in value]):
        return False
    if not ascends(value) or any([_is_bad(one, other, cloud) for cloud in value]):
        return False
    clouds = Clouds()
    # What comes of a part of a cloud is a part of what comes of the cloud, so the greatest ones are enough.
    greatest, having = _greatest([clouds.coded(cloud) for cloud in value])
    singles = [clouds.coded((word_map(one, other, word),)) for word in ["", *one.letters]]
    return (all([_is_within(having, single) for single in singles])
            and all([_is_within(having, clouds.often(cloud)[0]) for cloud in greatest])
            and all([_is_within(having, clouds.product(left, right)) for left in greatest for right in greatest]))


def need_recipe(one, other, value):
    """Raise the error of what should be a recipe for machines with the same letters, and is none."""
    need_same_letters(one.letters, other.letters)
    if not _is_recipe(one.letters, value):
        raise InvalidOperation("no recipe")


def last_cloud(one, other, recipe):
    """The cloud of the last step of a recipe."""
    clouds = Clouds()
    return clouds.uncoded(_made(one, other, clouds, recipe, needed_steps(recipe))[-1])


def needed_steps(recipe):
    """The ascending list of the indices of the steps of which the cloud of the last one is made."""
    needed = {len(recipe) - 1: True}
    for at in reversed(range(len(recipe))):
        if at in needed and recipe[at][0] != "word":
            for index in recipe[at][1:]:
                needed[index] = True
    return sorted(list(needed))


def _need_clouds(one, other, values):
    """Raise the errors of two machines, and of values that should be clouds of them, small enough."""
    need_machines((one, other))
    for value in values:
        if not _is_cloud(one, other, value) or len(value) > MAX_READINGS:
            raise InvalidOperation("no cloud of at most sixty-four maps")
    need_same_letters(one.letters, other.letters)


def _is_cloud(one, other, value):
    """Whether the value is a cloud of two machines, whatever their letters are."""
    if not isinstance(value, tuple) or value == ():
        return False
    return all([is_map_of(one, other, held) for held in value]) and ascends(value)


def _is_bad(one, other, cloud):
    hits = [hits_of(one, other, held) for held in cloud]
    return any([left for left, _ in hits]) and any([right for _, right in hits])


def _is_recipe(letters, value):
    if not isinstance(value, tuple) or not 1 <= len(value) <= MAX_STEPS:
        return False
    return all([_is_step(letters, at, step) for at, step in enumerate(value)])


def _is_step(letters, at, value):
    """Whether the value is a step behind so many other steps."""
    if not isinstance(value, tuple) or value == ():
        return False
    if value[0] == "word":
        return len(value) == 2 and is_word(value[1]) and len(value[1]) <= MAX_WORD and is_over(letters, value[1])
    if not (value[0] == "both" and len(value) == 3) and not (value[0] == "often" and len(value) == 2):
        return False
    return all([is_number(index, 0, at - 1) for index in value[1:]])


def _made(one, other, clouds, recipe, needed):
    """The clouds of these steps of a recipe, in their order."""
    made = {}
    oftens = {}
    for at in needed:
        step = recipe[at]
        if step[0] == "word":
            made[at] = clouds.coded((word_map(one, other, step[1]),))
        elif step[0] == "both":
            made[at] = clouds.behind(made[step[1]], made[step[2]])
        else:
            cloud = made[step[1]]
            if cloud not in oftens:
                oftens[cloud] = clouds.often(cloud)[0]
            made[at] = oftens[cloud]
    return [made[at] for at in needed]


def _greatest(clouds):
    """Those of some clouds that are no part of another one, and a dict from their maps to those that have them."""
    found = []
    having = {}
    for cloud in sorted(clouds, key=len)[::-1]:
        if not _is_within(having, cloud):
            found.append(cloud)
            held = {pair: True for pair in cloud}
            for pair in cloud:
                having[pair] = having.get(pair, []) + [held]
    return found, having


def _is_within(having, cloud):
    """Whether one of the clouds of which a dict tells the maps has all maps of a cloud."""
    return any([all([pair in held for pair in cloud]) for held in having.get(cloud[0], [])])
