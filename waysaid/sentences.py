"""Sentences: tuples that begin with a word, and the order in which their parts are told."""


def is_about_ways(sentence):
    """True where the sentence says something of some way, or of all."""
    return sentence[0] not in ("mark", "not", "and", "or")


def own_parts(sentence):
    """The list of the sentences that stand straight within this one, the first ahead of the second."""
    if sentence[0] == "mark":
        return []
    # In sentences about ways "some" or "all" stands ahead of the sentences within.
    return list(sentence[2:] if is_about_ways(sentence) else sentence[1:])


def parts_of(sentence):
    """The list of the sentence's parts: each behind its own parts, the first of two with its parts ahead."""
    # A list of what still waits, and no recursion: a sentence may be too deep for one.
    waiting = [sentence]
    found = []
    while waiting:
        part = waiting.pop()
        found.append(part)
        waiting.extend(own_parts(part))
    # Each part was found ahead of its own parts, and the second of two ahead of the first.
    found.reverse()
    return found


def own_places(parts):
    """For each of the parts, as parts_of tells them, the list of the places where its own parts stand."""
    told = []
    # The places of those parts, in their order, whose wholes are still to come.
    waiting = []
    for place, part in enumerate(parts):
        rest = len(waiting) - len(own_parts(part))
        told.append(waiting[rest:])
        waiting = waiting[:rest] + [place]
    return told
