"""Which operands can tell the same register, as far as answers say."""


def longer_ways(way, k, registers):
    """The ways that add operand k to a way: it tells a register of the way, or the next one if there is one."""
    used = len({way[other] for other in way})
    return [{**way, k: told} for told in range(min(registers, used + 1))]


def is_as_told(way, sames):
    """Whether a way is as answers (i, j, is_same) say, as far as it has the operands."""
    return all([(way[i] == way[j]) == is_same for i, j, is_same in sames if i in way and j in way])


def can_be_told(registers, sames):
    """Whether operands can tell so many registers as answers (i, j, is_same) say."""
    # Each way is a dict from operands to the numbers of their registers, in the order in which they come.
    ways = [{}]
    for k in sorted({told for i, j, _ in sames for told in (i, j)}):
        longer = [added for way in ways for added in longer_ways(way, k, registers)]
        ways = [way for way in longer if is_as_told(way, sames)]
    return ways != []
