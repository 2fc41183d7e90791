"""What each form of sentence comes down to: plain truths, or a next, an until or an again."""

from waysaid.labels import everywhere, turned
from waysaid.worlds import marks_of


def other_who(who):
    """All in the place of some, and some in the place of all."""
    return "all" if who == "some" else "some"


def plain_truths(world, part, own):
    """The truths of a part that is not about ways; own are the truths of its own parts."""
    word = part[0]
    if word == "mark":
        return [part[1] in marks_of(world, place) for place in range(len(world))]
    if word == "not":
        return turned(own[0])
    if word == "and":
        return [first and second for first, second in zip(own[0], own[1])]
    return [first or second for first, second in zip(own[0], own[1])]


def root_form(world, part, own):
    """A part about ways as (word, who, truths, turn): the next, until or again whose labels it has.

    The truths are those of that one's own parts; turn is True where the truths of its labels are to be turned.
    """
    word = part[0]
    who = part[1]
    if word == "last":
        return ("until", who, [everywhere(world), own[0]], False)
    if word == "always":
        return ("until", other_who(who), [everywhere(world), turned(own[0])], True)
    if word == "settle":
        return ("again", other_who(who), [turned(own[0])], True)
    return (word, who, own, False)
