"""A sentence: its variables in their order, their kinds, its conditions, and when it is true."""

from switchrow.tables import bit_at, false_tables


# order: the variables' numbers; kinds: of each, in this order, 1 if it's for all, else 0; conditions: lists of
# literals, a number below 0 for one behind -.
class Sentence:
    def __init__(self, order, kinds, conditions):
        self.order = order
        self.kinds = kinds
        self.conditions = conditions
        self.tables = None

    def false_settings(self, depth):
        # Made when first asked for: a sentence that is only read or ordered needs none.
        if self.tables is None:
            self.tables = false_tables(self.order, self.kinds, self.conditions)
        return self.tables[depth]

    # 1 if the sentence is true once the first depth variables are set as values says, else 0.
    def truth(self, depth, values):
        setting = values & ((1 << depth) - 1)
        return 1 - bit_at(self.false_settings(depth), setting)

    # The value for the variable that comes next, once the first depth variables are set as values says.
    def best_move(self, depth, values):
        wanted = 1 - self.kinds[depth]
        setting = values & ((1 << depth) - 1)
        for value in (0, 1):
            if self.truth(depth + 1, setting | value << depth) == wanted:
                return value
        return 0
