"""Tables: the labels of each part of a sentence, in the order of the parts."""

from waysaid.forms import plain_truths, root_form
from waysaid.labels import all_again, all_next, all_until, some_again, some_next, some_until
from waysaid.labels import truths_of, turned_labels
from waysaid.sentences import is_about_ways, own_places, parts_of
from waysaid.worlds import check_world


def labels_of_root(world, word, who, truths):
    """Labels of a next, an until or an again whose own parts have these truths."""
    for_some = who == "some"
    first = truths[0]
    if word == "next":
        return some_next(world, first) if for_some else all_next(world, first)
    if word == "again":
        return some_again(world, first) if for_some else all_again(world, first)
    return some_until(world, first, truths[1]) if for_some else all_until(world, first, truths[1])


def labels_of(world, part, own):
    """The labels of a part whose own parts have these truths."""
    if not is_about_ways(part):
        return [(truth, None, None) for truth in plain_truths(world, part, own)]
    word, who, truths, turn = root_form(world, part, own)
    labels = labels_of_root(world, word, who, truths)
    return turned_labels(labels) if turn else labels


def table_of(world, sentence):
    """A table of the sentence that stands: a list with the labels of each part."""
    check_world(world)
    parts = parts_of(sentence)
    table = []
    for part, places in zip(parts, own_places(parts)):
        own = [truths_of(table[place]) for place in places]
        table.append(labels_of(world, part, own))
    return table


def true_in(world, sentence):
    """For each state True where the sentence is true in it, else False."""
    return truths_of(table_of(world, sentence)[-1])
