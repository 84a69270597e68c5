"""VERSIONS of memory in a routine: which one is NOW at a PLACE, and of which others it is made."""

from storeways.codes import blocks_of, is_place, is_place_of
from storeways.dominance import frontier_again, nearest
from storeways.errors import NoPlace
from storeways.graphs import befores, reached
from storeways.kinds import is_number, is_pair

BEGIN = ("begin",)
GIVING = ("store", "call")


def given_in(code, name, block):
    """The VERSIONS of the "store" and "call" ROWS of a block, in the order of the ROWS."""
    rows = blocks_of(code, name)[block][0]
    return [(row[0], (name, block, at)) for at, row in enumerate(rows) if row[0] in GIVING]


def merged_blocks(code, name):
    """The MERGED blocks of a routine, rising."""
    giving = [block for block in reached(code, name) if given_in(code, name, block)]
    return frontier_again(code, name, tuple(giving))


def versions_of(code, name):
    """All VERSIONS of a routine, rising."""
    found = [BEGIN]
    found.extend([("merge", block) for block in merged_blocks(code, name)])
    for block in reached(code, name):
        found.extend(given_in(code, name, block))
    return tuple(sorted(found))


def version_at_first(code, name, block, merged, nearests):
    """The VERSION that is NOW at the first PLACE of a block, by the MERGED blocks and the NEAREST ones of all."""
    while block not in merged:
        if block == 0:
            return BEGIN
        block = nearests[block]
        given = given_in(code, name, block)
        if given:
            return given[-1]
    return ("merge", block)


def versions_at_firsts(code, name):
    """Of each REACHED block of a routine the VERSION that is NOW at its first PLACE."""
    merged = merged_blocks(code, name)
    nearests = {block: nearest(code, name, block) for block in reached(code, name)}
    return {block: version_at_first(code, name, block, merged, nearests) for block in nearests}


def version_now(code, place, firsts):
    """The VERSION that is NOW at a PLACE of a REACHED block, by those at the first PLACES of its routine's blocks."""
    name, block, at = place
    given = [version for version in given_in(code, name, block) if version[1][2] < at]
    return given[-1] if given else firsts[block]


def version_at(code, place):
    """The VERSION that is NOW at a PLACE of a REACHED block."""
    if not is_place(code, place) or place[1] not in reached(code, place[0]):
        raise NoPlace(place)
    return version_now(code, place, versions_at_firsts(code, place[0]))


def has_version(code, name, thing):
    """Whether any thing is a VERSION of a routine; kinds are asked first, as Python takes True for a 1."""
    if thing == BEGIN:
        return True
    if not is_pair(thing):
        return False
    word, where = thing
    if word == "merge":
        return is_number(where) and where in merged_blocks(code, name)
    if word not in GIVING or not is_place_of(code, word, where):
        return False
    return where[0] == name and where[1] in reached(code, name)


def merged_parts(code, name, block, firsts):
    """What comes out of each REACHED block that GOES TO a MERGED one, and ("begin",) of block 0."""
    found = [BEGIN] if block == 0 else []
    for other in befores(code, name, block):
        if other in firsts:
            rows, end = blocks_of(code, name)[other]
            found.append(version_now(code, (name, other, len(rows)), firsts))
    return tuple(sorted(set(found)))


def parts_by(code, name, version, firsts):
    """The PARTS of a VERSION of a routine, by those that are NOW at the first PLACES of its blocks."""
    if version == BEGIN:
        return ()
    word, where = version
    return merged_parts(code, name, where, firsts) if word == "merge" else (version_now(code, where, firsts),)


def parts_of(code, name, version):
    """The PARTS of a VERSION of a routine, rising."""
    if not has_version(code, name, version):
        raise NoPlace(version)
    return parts_by(code, name, version, versions_at_firsts(code, name))
