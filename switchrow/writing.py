"""Writing a sentence as a text."""

# By the kind's number.
KIND_SIGNS = ("e", "a")


def written_text(order, kinds, conditions):
    variables = len(order)
    due = len(conditions)
    lines = [f"p cnf {variables} {due}\n"]
    lines.extend([block_line(kind, members) for kind, members in longest_runs(order, kinds)])
    lines.extend([condition_line(condition) for condition in conditions])
    return [ord(sign) for sign in "".join(lines)]


# Pairs of a kind and the variables of that kind that stand together in the order.
def longest_runs(order, kinds):
    runs = []
    for variable, kind in zip(order, kinds):
        if len(runs) == 0 or runs[-1][0] != kind:
            runs.append((kind, []))
        runs[-1][1].append(variable)
    return runs


def block_line(kind, members):
    return " ".join([KIND_SIGNS[kind]] + [str(variable) for variable in members] + ["0\n"])


def condition_line(condition):
    return " ".join([str(literal) for literal in condition] + ["0\n"])
