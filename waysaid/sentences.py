"""Sentences: tuples that begin with a word, and the order in which their parts are told."""


def own_parts(sentence):
    """The list of the sentences that stand straight within this one, the first ahead of the second."""
    word = sentence[0]
    if word == "mark":
        return []
    if word in ("not", "and", "or"):
        return list(sentence[1:])
    # In all others "some" or "all" stands ahead of the sentences.
    return list(sentence[2:])


def parts_of(sentence):
    """The list of the sentence's parts: each behind its own parts, the first of two with its parts ahead."""
    # A list of what still waits, and no recursion: a sentence may be too deep for one.
    waiting = [sentence]
    found = []
    while waiting:
        part = waiting.pop()
        found.append(part)
        waiting.extend(own_parts(part))
    # Each part was found ahead of its own parts, and the second of two ahead of the first.
    found.reverse()
    return found
