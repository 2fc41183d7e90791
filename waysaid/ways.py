"""Ways that show a sentence, each told as a row of states and the place in it where its ring begins."""

from waysaid.errors import NoState, NoWay
from waysaid.sentences import is_about_ways
from waysaid.tables import table_of
from waysaid.worlds import check_world, doors_of, is_state


def step_from(world, labels, place):
    """The state that the label's door leads to, or the first door's where the label has none."""
    door = labels[place][2]
    return doors_of(world, place)[0] if door is None else door


def follow(world, labels, state):
    """The way from the state that goes through the labels' doors."""
    row = []
    place = state
    # The step from a state is always the same one: with the first state that comes again the ring is closed.
    while place not in row:
        row.append(place)
        place = step_from(world, labels, place)
    return (row, row.index(place))


def way_for(world, sentence, state):
    """A way from the state that shows the sentence to be true for some, or not to be for all."""
    check_world(world)
    if not is_state(world, state):
        raise NoState("there is no such state")
    if not is_about_ways(sentence):
        raise NoWay("the sentence is not about ways")
    labels = table_of(world, sentence)[-1]
    for_some = sentence[1] == "some"
    if labels[state][0] != for_some:
        raise NoWay("no way from the state shows the sentence")
    return follow(world, labels, state)
