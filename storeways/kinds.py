"""The plain kinds: NUMBERS, WORDS, OPERANDS, OBJECTS."""

LONGEST_WORD = 8


def is_number(thing):
    """Whether any thing is a NUMBER: True and False are none, though Python holds them for ints."""
    return isinstance(thing, int) and not isinstance(thing, bool)


def is_word(thing):
    """Whether any thing is a WORD, and so a NAME."""
    if not isinstance(thing, str) or not 1 <= len(thing) <= LONGEST_WORD:
        return False
    return all(["a" <= sign <= "z" for sign in thing])


def is_operand(thing):
    """Whether any thing is an OPERAND."""
    return is_number(thing) or is_word(thing)


def is_pair(thing):
    """Whether any thing is a tuple of two things."""
    return isinstance(thing, tuple) and len(thing) == 2


def has_rising_firsts(pairs):
    """Whether the first things of pairs rise, none of them twice; then the pairs rise, too."""
    firsts = [pair[0] for pair in pairs]
    return all([one < other for one, other in zip(firsts, firsts[1:])])


def is_object(thing):
    """Whether any thing is a pair of a WORD and a size."""
    return is_pair(thing) and is_word(thing[0]) and is_number(thing[1]) and thing[1] >= 1


def is_objects(thing):
    """Whether any thing is OBJECTS."""
    if not isinstance(thing, tuple) or len(thing) == 0:
        return False
    return all([is_object(pair) for pair in thing]) and has_rising_firsts(thing)
