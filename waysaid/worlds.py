"""Worlds: lists of states, each a tuple (marks, doors), told by their places."""

from waysaid.errors import NoDoor, NoState


def marks_of(world, place):
    """The list of the marks of the state at this place."""
    return world[place][0]


def doors_of(world, place):
    """The list of the states that the doors of the state at this place lead to."""
    return world[place][1]


def is_state(world, number):
    """True where the number is a state's place."""
    return 0 <= number < len(world)


def check_world(world):
    """Refuse the world with NoDoor or NoState, or give back nothing where it is sound."""
    # Every state is asked for a door before any door is followed: where both faults are there, it is NoDoor.
    for place in range(len(world)):
        if not doors_of(world, place):
            raise NoDoor(f"state {place} has no door")
    for place in range(len(world)):
        for door in doors_of(world, place):
            if not is_state(world, door):
                # The door's number is not told: Python refuses to write a very long number as a text.
                raise NoState(f"state {place} has a door to no state")
