"""Liars: how far others, fewer than the right ones, can push the middle one of all, and by what they say."""

from midvalue.errors import BadStep


def farthest(rights, others):
    refuse_too_many(rights, others)
    ordered = sorted(rights)
    half = (len(ordered) + others) // 2
    # The others reach furthest if all lie below the right ones, or all above them.
    return (ordered[half - others], ordered[half])


def worst(rights, others, is_great):
    refuse_too_many(rights, others)
    # Beside the outermost right one a liar pushes as far as from anywhere beyond it.
    said = max(rights) if is_great else min(rights)
    return [said] * others


def refuse_too_many(rights, others):
    if others >= len(rights):
        raise BadStep("the others are to be fewer than the right ones")
    if (len(rights) + others) % 2 == 0:
        raise BadStep("of an even number of all no one lies in the middle")
