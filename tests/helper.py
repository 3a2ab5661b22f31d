"""What the tests share: calls as numbers, answers parted, and a slow way to the truth by the document's words."""

from itertools import groupby

from switchrow.desk import answers


def read(chosen, text):
    """The call read; text is a str of one-byte signs or a list of bytes."""
    row = list(text.encode("latin-1")) if isinstance(text, str) else list(text)
    return [0, chosen, len(row)] + row


def order(chosen):
    return [1, chosen]


def true(chosen):
    return [2, chosen]


def holds(chosen, i, values):
    return [3, chosen, i, values]


def move(chosen, i, values):
    return [4, chosen, i, values]


def line(chosen):
    return [5, chosen]


def count(chosen):
    return [6, chosen]


def core(chosen):
    return [7, chosen]


def write(chosen):
    return [8, chosen]


def parted(row):
    """A row of answers as a list of lists, by the counts that stand before them."""
    parts = []
    start = 0
    while start < len(row):
        stop = start + 1 + row[start]
        if stop > len(row):
            raise ValueError("an answer is shorter than its count")
        parts.append(row[start + 1:stop])
        start = stop
    return parts


def ask(*calls):
    """The answers to these calls, handed in as one list, a list each."""
    return parted(answers([number for call in calls for number in call]))


def text_of(variables, blocks, conditions):
    """A text with these blocks, pairs of a kind ('a' or 'e') and variables."""
    rows = [f"p cnf {variables} {len(conditions)}"]
    rows += [" ".join([kind] + [str(x) for x in members] + ["0"]) for kind, members in blocks]
    rows += [" ".join([str(x) for x in condition] + ["0"]) for condition in conditions]
    return "\n".join(rows) + "\n"


def in_order(variables, blocks):
    """The variables in their order, and their kinds."""
    bound = [(x, 1 if kind == "a" else 0) for kind, members in blocks for x in members]
    standing = {x for x, kind in bound}
    pairs = [(x, 0) for x in range(1, variables + 1) if x not in standing] + bound
    return [x for x, kind in pairs], [kind for x, kind in pairs]


def truths(variables, blocks, conditions):
    """levels[i][values]: whether the sentence is true with its first i variables set as values says."""
    row, kinds = in_order(variables, blocks)
    bits = {x: 2 ** j for j, x in enumerate(row)}

    def literal_holds(literal, values):
        return values & bits[literal] != 0 if literal > 0 else values & bits[-literal] == 0

    def all_hold(values):
        return all(any(literal_holds(literal, values) for literal in condition) for condition in conditions)

    levels = [[all_hold(values) for values in range(2 ** variables)]]
    for i in range(variables - 1, -1, -1):
        settle = all if kinds[i] == 1 else any
        below = levels[0]
        levels.insert(0, [settle([below[values], below[values + 2 ** i]]) for values in range(2 ** i)])
    return levels


def reference_move(levels, kinds, i, values):
    for value in (0, 1):
        if levels[i + 1][values + value * 2 ** i] == (kinds[i] == 0):
            return value
    return 0


def reference_line(levels, kinds):
    values = 0
    for i in range(len(kinds)):
        values += reference_move(levels, kinds, i, values) * 2 ** i
    return values


def reference_count(levels, kinds):
    if not kinds:
        return int(levels[0][0])
    size = len(list(next(groupby(kinds))[1]))
    return sum(1 for truth in levels[size] if truth == (kinds[0] == 0))


def reference_text(variables, blocks, conditions):
    row, kinds = in_order(variables, blocks)
    text = "p cnf " + str(variables) + " " + str(len(conditions)) + "\n"
    for kind, run in groupby(zip(kinds, row), lambda pair: pair[0]):
        text += "ea"[kind]
        for pair in run:
            text += " " + str(pair[1])
        text += " 0\n"
    for condition in conditions:
        for literal in condition:
            text += str(literal) + " "
        text += "0\n"
    return text


def made_up(chance, variables, most_conditions, most_literals):
    """A sentence from a seeded source: its blocks and conditions."""
    members = list(range(1, variables + 1))
    chance.shuffle(members)
    bound = members[:chance.randint(0, variables)]
    blocks = []
    while bound:
        size = chance.randint(0, len(bound))
        blocks.append((chance.choice("ae"), bound[:size]))
        bound = bound[size:]
    conditions = []
    for turn in range(chance.randint(0, most_conditions)):
        size = chance.randint(0 if chance.random() < 0.1 else 1, most_literals) if variables else 0
        conditions.append([chance.choice((1, -1)) * chance.randint(1, variables) for turn in range(size)])
    return blocks, conditions
