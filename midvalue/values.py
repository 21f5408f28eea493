"""Numbers alone: the one in the middle, one moved towards another, those that are near."""


def is_whole(thing):
    # To Python True and False are ints; here they are no numbers.
    return isinstance(thing, int) and not isinstance(thing, bool)


def is_within(number, value, threshold):
    return abs(number - value) <= threshold


def middle(numbers, near):
    # Of no numbers none can be told; near is then what a voter goes on with.
    if len(numbers) == 0:
        return near
    ordered = sorted(numbers)
    # Of an odd length both are the same one.
    lesser = ordered[(len(ordered) - 1) // 2]
    greater = ordered[len(ordered) // 2]
    if abs(greater - near) < abs(lesser - near):
        return greater
    return lesser


def moved(one, goal, most):
    if goal > one:
        return min(one + most, goal)
    return max(one - most, goal)


def agree(numbers, value, threshold):
    return [place for place, number in enumerate(numbers) if is_within(number, value, threshold)]
