"""Labels: tuples (truth, number, door), one for each state, that let anybody see why a part is true or not."""

from waysaid.worlds import doors_of


def truths_of(labels):
    """The list of the labels' truths."""
    return [label[0] for label in labels]


def turned(truths):
    """The list of the opposite truths."""
    return [not truth for truth in truths]


def turned_labels(labels):
    """The labels with all truths turned, and all numbers and doors as they are."""
    return [(not truth, number, door) for truth, number, door in labels]


def everywhere(world):
    """The truths of what is true in all states."""
    return [True for state in world]


def door_to(world, place, wanted):
    """The first door of the state that leads to a wanted one, or None where no door does."""
    for door in doors_of(world, place):
        if wanted[door]:
            return door
    return None


def some_next(world, here):
    """Labels of a next for some whose S has these truths."""
    doors = [door_to(world, place, here) for place in range(len(world))]
    return [(door is not None, None, door) for door in doors]


def all_next(world, here):
    """Labels of a next for all whose S has these truths."""
    return turned_labels(some_next(world, turned(here)))


def joined_label(world, place, reached, number, who):
    """True with the number where some door leads to a reached state, or all doors do; else False."""
    if who == "some":
        door = door_to(world, place, reached)
        return (False, None, None) if door is None else (True, number, door)
    closed = all([reached[door] for door in doors_of(world, place)])
    return (True, number, None) if closed else (False, None, None)


def grown_labels(world, left, right, who):
    """Labels of an until as they come from number to number, the False ones without doors yet."""
    labels = [(True, 0, None) if truth else (False, None, None) for truth in right]
    number = 0
    growing = True
    while growing:
        number = number + 1
        growing = False
        # Those of the numbers before alone: a state that joins now is a door's aim from the next number on.
        reached = truths_of(labels)
        for place in range(len(world)):
            if left[place] and not reached[place]:
                labels[place] = joined_label(world, place, reached, number, who)
                growing = growing or labels[place][0]
    return labels


def with_false_doors(world, left, labels):
    """The labels of an until for all, each False one where S is True now with a door to a False one."""
    missed = turned(truths_of(labels))
    told = []
    for place in range(len(world)):
        if left[place] and missed[place]:
            told.append((False, None, door_to(world, place, missed)))
        else:
            told.append(labels[place])
    return told


def some_until(world, left, right):
    """Labels of an until for some whose S and T have these truths."""
    return grown_labels(world, left, right, "some")


def all_until(world, left, right):
    """Labels of an until for all whose S and T have these truths."""
    return with_false_doors(world, left, grown_labels(world, left, right, "all"))


def reaching(world, here, kept):
    """Labels of: some way comes to a state where S is True and a door leads on to one that is kept."""
    goals = [here[place] and door_to(world, place, kept) is not None for place in range(len(world))]
    return some_until(world, everywhere(world), goals)


def most_times(world, here):
    """For each state how many times S can be True on a way from it, None where that is without end."""
    numbers = [None for state in world]
    number = 0
    falling = True
    while falling:
        falling = False
        # Kept are those where S can be True at least `number` times; those that can't have it once more fall.
        kept = [known is None for known in numbers]
        reached = truths_of(reaching(world, here, kept))
        for place in range(len(world)):
            if kept[place] and not reached[place]:
                numbers[place] = number
                falling = True
        number = number + 1
    return numbers


def some_again(world, here):
    """Labels of an again for some whose S has these truths."""
    numbers = most_times(world, here)
    kept = [number is None for number in numbers]
    labels = reaching(world, here, kept)
    for place in range(len(world)):
        if not kept[place]:
            labels[place] = (False, numbers[place], None)
        elif labels[place][1] == 0:
            labels[place] = (True, 0, door_to(world, place, kept))
    return labels


def all_again(world, here):
    """Labels of an again for all whose S has these truths."""
    once = all_until(world, everywhere(world), here)
    # Where not every way comes to S, a row of doors goes on for ever without it: false is what can come to there.
    without = turned(truths_of(once))
    labels = turned_labels(some_until(world, everywhere(world), without))
    for place in range(len(world)):
        if labels[place][0]:
            labels[place] = (True, once[place][1], None)
        elif labels[place][1] == 0:
            labels[place] = (False, 0, once[place][2])
    return labels
