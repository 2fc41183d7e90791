"""The document's points taken literally, apart from the program: what the tests hold its answers against."""

import itertools

WHOS = ["some", "all"]
ONE_PART_WORDS = ["next", "last", "always", "again", "settle"]
FAR = 10 ** 5000


# Worlds.

def world_of(doors, marks=None):
    return [(marks[place] if marks else [], list(doors[place])) for place in range(len(doors))]


def ring(size):
    return world_of([[(place + 1) % size] for place in range(size)])


def line_into_ring(size, back):
    return world_of([[place + 1] for place in range(size - 1)] + [[back]])


def each_to_each(size):
    return world_of([list(range(size))] * size)


def ladder(size):
    """From each state on to the next two, the last one back to the first third and to itself."""
    doors = [[min(place + 2, size - 1), place + 1] for place in range(size - 2)]
    return world_of([sorted(set(own), reverse=True) for own in doors] + [[size - 1], [size // 3, size - 1]][-2:])


def down_hill(size):
    """Each state leads to all behind it and none before it; only the last one has a ring, of itself."""
    return world_of([list(range(place + 1, size)) for place in range(size - 1)] + [[size - 1]])


def up_and_back(size):
    """Each state leads one on and to all before it."""
    return world_of([list(range(min(place + 2, size))) for place in range(size)])


class Numbers:
    """A row of numbers that look like chance and are the same each time."""

    def __init__(self, seed):
        self.state = seed * 2654435761 % 2 ** 32 + 1

    def below(self, bound):
        self.state = (self.state * 6364136223846793005 + 1442695040888963407) % 2 ** 64
        return (self.state >> 33) % bound


def mixed_world(size, seed, most_doors=3, marks=3):
    numbers = Numbers(seed)
    states = []
    for place in range(size):
        own = [numbers.below(size) for count in range(1 + numbers.below(most_doors))]
        states.append(([mark for mark in range(marks) if numbers.below(2)], list(dict.fromkeys(own))))
    return states


def mixed_truths(size, seed, odds=2):
    numbers = Numbers(seed)
    return [numbers.below(odds) == 0 for place in range(size)]


def every_world(size):
    """All worlds with this many states, but for the order of doors."""
    some = [list(own) for count in range(1, size + 1) for own in itertools.combinations(range(size), count)]
    return [world_of(doors) for doors in itertools.product(some, repeat=size)]


def every_truths(size):
    return [list(truths) for truths in itertools.product([True, False], repeat=size)]


def marked(world, truths_by_mark):
    """The world with each of these marks where its truths are True."""
    return [([mark for mark, truths in truths_by_mark.items() if truths[place]], list(world[place][1]))
            for place in range(len(world))]


def small_cases(size):
    """Every world of this size with every two lists of truths, as the marks 1 and 2: (states, ways, first, second)."""
    for world in every_world(size):
        ways = all_ways(world)
        for first, second in itertools.product(every_truths(size), repeat=2):
            yield marked(world, {1: first, 2: second}), ways, first, second


# Ways, by points 4 to 6.

def is_way(world, way, state):
    """Point 4: a way from the state, told as (row, back)."""
    if type(way) is not tuple or len(way) != 2:
        return False
    row, back = way
    if type(row) is not list or type(back) is not int or not row or not 0 <= back < len(row):
        return False
    if any(type(place) is not int or not 0 <= place < len(world) for place in row):
        return False
    after = row[1:] + [row[back]]
    return row[0] == state and all(place in world[before][1] for before, place in zip(row, after))


def told_of_way(way, word, own):
    """Points 5 and 6: what the word tells of this way, the sentences within having the truths of own."""
    row, back = way
    if word == "next":
        return own[0][(row + row[back:])[1]]
    if word == "until":
        # Behind the row only states of the ring come, which stand in the row.
        wanted = [place for place, state in enumerate(row) if own[1][state]]
        return bool(wanted) and all(own[0][state] for state in row[:wanted[0]])
    if word == "last":
        return any(own[0][state] for state in row)
    if word == "always":
        return all(own[0][state] for state in row)
    if word == "again":
        return any(own[0][state] for state in row[back:])
    assert word == "settle"
    return all(own[0][state] for state in row[back:])


def ways_from(world, state, longest):
    """All ways from the state whose row is at most so long."""
    rows = [[state]]
    ways = []
    while rows:
        row = rows.pop()
        ways.extend((row, back) for back in range(len(row)) if row[back] in world[row[-1]][1])
        if len(row) < longest:
            rows.extend(row + [place] for place in world[row[-1]][1])
    return ways


def all_ways(world):
    """For each state the ways from it, long enough that each row of truths told by point 5 shows in one of them."""
    return [ways_from(world, state, 2 * len(world)) for state in range(len(world))]


def truths_by_ways(ways, word, who, own):
    """Point 5: true where some way, or every way, is as told."""
    asked = any if who == "some" else all
    return [asked(told_of_way(way, word, own) for way in from_state) for from_state in ways]


# Truths in worlds too great to go through all ways: by what can be come to from where.

def steps_within(world, allowed):
    """For each state those that can be come to in one step or more, all but the last in allowed states."""
    size = len(world)
    reach = [[allowed[one] and other in world[one][1] for other in range(size)] for one in range(size)]
    for middle in range(size):
        for one in range(size):
            if reach[one][middle] and allowed[middle]:
                reach[one] = [old or new for old, new in zip(reach[one], reach[middle])]
    return reach


def some_comes_to(world, left, right):
    reach = steps_within(world, left)
    return [right[one] or any(reach[one][two] and right[two] for two in range(len(world))) for one in range(len(world))]


def some_stays(world, here):
    reach = steps_within(world, here)
    ring_states = [here[one] and reach[one][one] for one in range(len(world))]
    return [here[one] and (ring_states[one] or any(reach[one][two] and ring_states[two] for two in range(len(world))))
            for one in range(len(world))]


def opposite(truths):
    return [not truth for truth in truths]


def truths_by_reach(world, word, who, own):
    """The truths of point 5, for worlds of any size."""
    true = [True] * len(world)
    first = own[0]
    if who == "all" and word != "until":
        other = {"next": "next", "last": "always", "always": "last", "again": "settle", "settle": "again"}[word]
        return opposite(truths_by_reach(world, other, "some", [opposite(first)]))
    if word == "next":
        return [any(first[door] for door in state[1]) for state in world]
    if word == "until" and who == "some":
        return some_comes_to(world, first, own[1])
    if word == "until":
        never = some_stays(world, opposite(own[1]))
        broken = [not left and not right for left, right in zip(first, own[1])]
        before = some_comes_to(world, opposite(own[1]), broken)
        return [not one and not other for one, other in zip(never, before)]
    if word == "last":
        return some_comes_to(world, true, first)
    if word == "always":
        return some_stays(world, first)
    if word == "again":
        reach = steps_within(world, true)
        return some_comes_to(world, true, [first[one] and reach[one][one] for one in range(len(world))])
    return some_comes_to(world, true, some_stays(world, first))


# Labels, by points 8 to 15.

def number_from(number, least):
    return number is not None and number >= least


def next_for_some(label, doors, labels, here):
    truth, number, door = label
    return number is None and any([
        truth and door in doors and here[0][door],
        not truth and door is None and not any(here[0][other] for other in doors)])


def next_for_all(label, doors, labels, here):
    truth, number, door = label
    return number is None and any([
        truth and door is None and all(here[0][other] for other in doors),
        not truth and door in doors and not here[0][door]])


def until_for_some(label, doors, labels, left, right):
    truth, number, door = label
    return any([
        truth and number == 0 and door is None and right,
        truth and number_from(number, 1) and left and door in doors and labels[door][:2] == (True, number - 1),
        not truth and (number, door) == (None, None) and not right and not left,
        not truth and (number, door) == (None, None) and not right and not any(labels[other][0] for other in doors)])


def until_for_all(label, doors, labels, left, right):
    truth, number, door = label
    lower = [labels[other][0] and number_from(labels[other][1], 0) and number_from(number, labels[other][1] + 1)
             for other in doors]
    return any([
        truth and number == 0 and door is None and right,
        truth and number_from(number, 1) and door is None and left and all(lower),
        not truth and number is None and not right and not left and door is None,
        not truth and number is None and not right and left and door in doors and not labels[door][0]])


def again_for_some(label, doors, labels, here):
    truth, number, door = label
    if not number_from(number, 0):
        return False
    if truth:
        if door not in doors or not labels[door][0]:
            return False
        return (number == 0 and here) or (number > 0 and labels[door][1] == number - 1)
    greatest = number - 1 if here else number
    return door is None and all(
        not labels[other][0] and labels[other][1] is not None and labels[other][1] <= greatest for other in doors)


def again_for_all(label, doors, labels, here):
    truth, number, door = label
    if not number_from(number, 0):
        return False
    if not truth:
        if door not in doors or labels[door][0]:
            return False
        return (number == 0 and not here and labels[door][1] == 0) or (number > 0 and labels[door][1] == number - 1)
    return door is None and all(
        labels[other][0] and (here or (labels[other][1] is not None and labels[other][1] < number)) for other in doors)


POINTS = {
    ("until", "some"): until_for_some, ("until", "all"): until_for_all,
    ("again", "some"): again_for_some, ("again", "all"): again_for_all}


def labels_told(world, word, who, labels, own):
    """True where all labels of a part about ways are as points 8 to 15 tell, its own parts having these truths."""
    other = "some" if who == "all" else "all"
    turned = [(not truth, number, door) for truth, number, door in labels]
    if word == "last":
        return labels_told(world, "until", who, labels, [[True] * len(world), own[0]])
    if word == "always":
        return labels_told(world, "last", other, turned, [opposite(own[0])])
    if word == "settle":
        return labels_told(world, "again", other, turned, [opposite(own[0])])
    if word == "next":
        point = next_for_some if who == "some" else next_for_all
        return all(point(label, state[1], labels, own) for label, state in zip(labels, world))
    point = POINTS[word, who]
    return all(point(labels[place], world[place][1], labels, *[truths[place] for truths in own])
               for place in range(len(world)))


def are_labels(world, labels):
    """Point 8, as far as it tells the kinds: a list with a label for each state, numbers nought or more, own doors."""
    if type(labels) is not list or len(labels) != len(world):
        return False
    if any(type(label) is not tuple or len(label) != 3 or type(label[0]) is not bool for label in labels):
        return False
    numbers_fit = all(number is None or (type(number) is int and number >= 0) for truth, number, door in labels)
    return numbers_fit and all(label[2] is None or (type(label[2]) is int and label[2] in state[1])
                               for label, state in zip(labels, world))


def bare(truths):
    return [(truth, None, None) for truth in truths]


def own_parts(sentence):
    return [piece for piece in sentence if type(piece) is tuple]


def table_told(world, sentence, table):
    """Point 16: True where each label of each part is as told, the parts standing as point 7 tells."""
    lists = iter(table)

    def truths_and_told(part):
        below = [truths_and_told(own) for own in own_parts(part)]
        labels = next(lists)
        own = [truths for truths, told in below]
        if part[0] == "mark":
            told = labels == bare([part[1] in state[0] for state in world])
        elif part[0] == "not":
            told = labels == bare(opposite(own[0]))
        elif part[0] in ("and", "or"):
            asked = all if part[0] == "and" else any
            told = labels == bare([asked(pair) for pair in zip(*own)])
        else:
            told = labels_told(world, part[0], part[1], labels, own)
        return [label[0] for label in labels], told and all(fine for truths, fine in below)

    told = truths_and_told(sentence)[1]
    assert next(lists, None) is None
    return told


def truths_of_sentence(sentence, world, truths_of_word):
    """Point 5 over a whole sentence; truths_of_word(word, who, own) says what is so of the ways."""
    own = [truths_of_sentence(part, world, truths_of_word) for part in own_parts(sentence)]
    if sentence[0] == "mark":
        return [sentence[1] in state[0] for state in world]
    if sentence[0] == "not":
        return opposite(own[0])
    if sentence[0] == "and":
        return [one and other for one, other in zip(*own)]
    if sentence[0] == "or":
        return [one or other for one, other in zip(*own)]
    return truths_of_word(sentence[0], sentence[1], own)


# Sentences.

def forms_about_ways(first, second):
    forms = [(word, who, first) for word in ONE_PART_WORDS for who in WHOS]
    return forms + [("until", who, first, second) for who in WHOS]


def forms_of(first, second):
    return [("not", first), ("and", first, second), ("or", first, second)] + forms_about_ways(first, second)


def mixed_sentence(count, seed, marks=3):
    """A sentence of about so many parts, at most so many."""
    numbers = Numbers(seed)
    made = []
    room = count
    while room > 0 or len(made) > 1:
        if len(made) > 1 and (room <= len(made) or numbers.below(3) == 0):
            second = made.pop()
            first = made.pop()
            made.append([("and", first, second), ("or", first, second), ("until", "some", first, second),
                         ("until", "all", first, second)][numbers.below(4)])
        elif made and numbers.below(2):
            forms = [form for form in forms_of(made.pop(), ()) if () not in form]
            made.append(forms[numbers.below(len(forms))])
        elif room <= len(made) + 1 and made:
            made.append(("not", made.pop()))
        else:
            made.append(("mark", numbers.below(marks)))
        room = room - 1
    return made[0]
