"""Tables of the settings of the first variables that make a sentence false.

A table of depth d has one bit for each of the 1 << d settings of the first d variables; bit j of a setting is
the j-th variable's value.
"""

# A table is a list of words, so that no number in it grows beyond 617 decimal digits, however deep it is.
WORD_DEPTH = 11
WORD_BITS = 2048

# Wide enough for the count of all bits of a table of depth 24.
FIELD_BITS = 32


def empty_table(depth):
    return [0] * (1 << max(depth - WORD_DEPTH, 0))


def either(first, second):
    return [one | other for one, other in zip(first, second)]


def both(first, second):
    return [one & other for one, other in zip(first, second)]


# The table of depth + 1 whose halves, by the last variable's value, are these two of depth.
def joined(lower, upper, depth):
    if depth >= WORD_DEPTH:
        return lower + upper
    return [lower[0] | upper[0] << (1 << depth)]


def lower_half(table, depth):
    if depth > WORD_DEPTH:
        return table[:len(table) // 2]
    return [table[0] & ((1 << (1 << (depth - 1))) - 1)]


def upper_half(table, depth):
    if depth > WORD_DEPTH:
        return table[len(table) // 2:]
    return [table[0] >> (1 << (depth - 1))]


def bit_at(table, setting):
    word = table[setting >> WORD_DEPTH]
    return word >> (setting & ((1 << WORD_DEPTH) - 1)) & 1


# A word's mask of every second field of this many bits, the lowest first.
def every_second_field(width):
    mask = (1 << width) - 1
    reach = 2 * width
    while reach < WORD_BITS:
        mask = mask | mask << reach
        reach = 2 * reach
    return mask


# How many bits of a table are 1. In every word at once neighbouring fields are added to one of double width, until
# they are wide enough to add up all words: going bit by bit would take seconds for a deep table.
def ones_in(table):
    words = table
    width = 1
    while width < FIELD_BITS:
        mask = every_second_field(width)
        words = [(word & mask) + (word >> width & mask) for word in words]
        width = 2 * width
    fields = sum(words)
    ones = 0
    while fields > 0:
        ones += fields & ((1 << FIELD_BITS) - 1)
        fields = fields >> FIELD_BITS
    return ones


# The positions in the order of a condition's variables: those that stand plain, those that stand behind -.
def mask_pair(condition, positions):
    plain = 0
    negated = 0
    for literal in condition:
        bit = 1 << positions[abs(literal)]
        if literal > 0:
            plain = plain | bit
        else:
            negated = negated | bit
    return (plain, negated)


# A condition with both x and -x holds however the variables are set: it is left out.
def breakable_pairs(conditions, order):
    positions = {}
    for position, variable in enumerate(order):
        positions[variable] = position
    pairs = [mask_pair(condition, positions) for condition in conditions]
    return [pair for pair in pairs if (pair[0] & pair[1]) == 0]


# The settings of the first depth variables with which one of the conditions or more doesn't hold.
# The conditions are parted by the last variable, all of them at once: going through all settings once for each
# condition would take too long where there are hundreds.
def broken_table(pairs, depth):
    if len(pairs) == 0:
        return empty_table(depth)
    if depth == 0:
        return [1]
    bit = 1 << (depth - 1)
    always = broken_table([pair for pair in pairs if ((pair[0] | pair[1]) & bit) == 0], depth - 1)
    at_zero = broken_table([pair for pair in pairs if (pair[0] & bit) != 0], depth - 1)
    at_one = broken_table([pair for pair in pairs if (pair[1] & bit) != 0], depth - 1)
    return joined(either(always, at_zero), either(always, at_one), depth - 1)


# For each depth from 0 to V the settings with which the sentence is false.
def false_tables(order, kinds, conditions):
    table = broken_table(breakable_pairs(conditions, order), len(order))
    tables = [table]
    for depth in range(len(order), 0, -1):
        lower = lower_half(table, depth)
        upper = upper_half(table, depth)
        table = either(lower, upper) if kinds[depth - 1] == 1 else both(lower, upper)
        tables.append(table)
    tables.reverse()
    return tables
