"""Checking: whether a table stands, label by label, each seen beside those that its doors lead to."""

from waysaid.forms import plain_truths, root_form
from waysaid.labels import truths_of, turned_labels
from waysaid.sentences import is_about_ways, own_places, parts_of
from waysaid.worlds import check_world, doors_of


def behind_doors(world, values, place):
    """The values of the states that the doors of this state lead to."""
    return [values[door] for door in doors_of(world, place)]


def is_least(number, bound):
    """True where a number is told, and is the bound or more."""
    return number is not None and number >= bound


def is_below(number, bound):
    """True where a number is told, and is less than the bound."""
    return number is not None and number < bound


def all_behind(world, labels, place, truth):
    """True where all doors lead to labels with this truth."""
    return all([label[0] == truth for label in behind_doors(world, labels, place)])


def all_below(world, labels, place, bound):
    """True where all doors lead to labels with numbers less than the bound."""
    return all([is_below(label[1], bound) for label in behind_doors(world, labels, place)])


def leads_to(world, labels, place, truth):
    """True where the label at this place has a door of the state's own, to a label with this truth."""
    door = labels[place][2]
    return door in doors_of(world, place) and labels[door][0] == truth


def number_behind(labels, place):
    """The number of the label that the door of the label at this place leads to."""
    return labels[labels[place][2]][1]


def some_next_fits(world, labels, place, here):
    """True where the label is one of a next for some."""
    truth, number, door = labels[place]
    if number is not None:
        return False
    if truth:
        return door in doors_of(world, place) and here[door]
    return door is None and not any(behind_doors(world, here, place))


def all_next_fits(world, labels, place, here):
    """True where the label is one of a next for all."""
    truth, number, door = labels[place]
    if number is not None:
        return False
    if truth:
        return door is None and all(behind_doors(world, here, place))
    return door in doors_of(world, place) and not here[door]


def some_until_fits(world, labels, place, left, right):
    """True where the label is one of an until for some."""
    truth, number, door = labels[place]
    if not truth:
        closed = not left[place] or all_behind(world, labels, place, False)
        return number is None and door is None and not right[place] and closed
    if number == 0:
        return door is None and right[place]
    if not is_least(number, 1) or not left[place]:
        return False
    return leads_to(world, labels, place, True) and number_behind(labels, place) == number - 1


def all_until_fits(world, labels, place, left, right):
    """True where the label is one of an until for all."""
    truth, number, door = labels[place]
    if not truth:
        if number is not None or right[place]:
            return False
        return leads_to(world, labels, place, False) if left[place] else door is None
    if door is not None:
        return False
    if number == 0:
        return right[place]
    if not is_least(number, 1) or not left[place]:
        return False
    return all_behind(world, labels, place, True) and all_below(world, labels, place, number)


def some_again_fits(world, labels, place, here):
    """True where the label is one of an again for some."""
    truth, number, door = labels[place]
    if not is_least(number, 0):
        return False
    if not truth:
        bound = number if here[place] else number + 1
        below = all_behind(world, labels, place, False) and all_below(world, labels, place, bound)
        return door is None and below
    if not leads_to(world, labels, place, True):
        return False
    return here[place] if number == 0 else number_behind(labels, place) == number - 1


def all_again_fits(world, labels, place, here):
    """True where the label is one of an again for all."""
    truth, number, door = labels[place]
    if not is_least(number, 0):
        return False
    if truth:
        below = here[place] or all_below(world, labels, place, number)
        return door is None and all_behind(world, labels, place, True) and below
    if not leads_to(world, labels, place, False):
        return False
    if number == 0:
        return not here[place] and number_behind(labels, place) == 0
    return number_behind(labels, place) == number - 1


def root_fits(world, labels, place, word, who, truths):
    """True where the label is one of a next, an until or an again whose own parts have these truths."""
    for_some = who == "some"
    first = truths[0]
    if word == "next":
        return some_next_fits(world, labels, place, first) if for_some else all_next_fits(world, labels, place, first)
    if word == "again":
        return some_again_fits(world, labels, place, first) if for_some else all_again_fits(world, labels, place, first)
    second = truths[1]
    if for_some:
        return some_until_fits(world, labels, place, first, second)
    return all_until_fits(world, labels, place, first, second)


def labels_stand(world, part, own, labels):
    """True where all labels of the part are as told, its own parts having these truths."""
    if not is_about_ways(part):
        return labels == [(truth, None, None) for truth in plain_truths(world, part, own)]
    word, who, truths, turn = root_form(world, part, own)
    seen = turned_labels(labels) if turn else labels
    return all([root_fits(world, seen, place, word, who, truths) for place in range(len(world))])


def stands(world, sentence, table):
    """True where the table of the sentence stands, else False."""
    check_world(world)
    parts = parts_of(sentence)
    for part, places, labels in zip(parts, own_places(parts), table):
        own = [truths_of(table[place]) for place in places]
        if not labels_stand(world, part, own, labels):
            return False
    return True
