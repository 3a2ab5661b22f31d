"""A sentence: its variables in their order, their kinds, its conditions, and what can be asked of it."""

from switchrow.tables import bit_at, false_tables, ones_in
from switchrow.writing import written_text


# order: the variables' numbers; kinds: of each, in this order, 1 if it's for all, else 0; conditions: lists of
# literals, a number below 0 for one behind -.
class Sentence:
    def __init__(self, order, kinds, conditions):
        self.order = order
        self.kinds = kinds
        self.conditions = conditions
        # What is worked out of these is kept once it's asked for: each of the calls may be made hundreds of times.
        self.tables = None
        self.beginnings = None
        self.written = None

    def false_settings(self, depth):
        if self.tables is None:
            self.tables = false_tables(self.order, self.kinds, self.conditions)
        return self.tables[depth]

    # 1 if the sentence is true once the first depth variables are set as values says, else 0.
    def truth(self, depth, values):
        setting = values & ((1 << depth) - 1)
        return 1 - bit_at(self.false_settings(depth), setting)

    # The value for the variable that comes next, once the first depth variables are set as values says.
    def best_move(self, depth, values):
        wanted = 1 - self.kinds[depth]
        setting = values & ((1 << depth) - 1)
        for value in (0, 1):
            if self.truth(depth + 1, setting | value << depth) == wanted:
                return value
        return 0

    # The setting that comes about if each variable in turn is set to its best move.
    def best_line(self):
        setting = 0
        for depth in range(len(self.order)):
            setting = setting | self.best_move(depth, setting) << depth
        return setting

    # How many variables the first party has: those ahead of the first one of the other kind.
    def party_size(self):
        size = 0
        while size < len(self.kinds) and self.kinds[size] == self.kinds[0]:
            size += 1
        return size

    # In how many ways the first party can set its variables so that it gets what it wants.
    def good_beginnings(self):
        if self.beginnings is None:
            size = self.party_size()
            false_ways = ones_in(self.false_settings(size))
            # Without variables the sentence is counted like one for some: its one way is good if it's true.
            for_all = size > 0 and self.kinds[0] == 1
            self.beginnings = false_ways if for_all else (1 << size) - false_ways
        return self.beginnings

    def text(self):
        if self.written is None:
            self.written = written_text(self.order, self.kinds, self.conditions)
        return self.written
