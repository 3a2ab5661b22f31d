"""Reading a text, token by token, into a sentence."""

from switchrow.sentence import Sentence

MOST_VARIABLES = 24
MOST_CONDITIONS = 512
MOST_DIGITS = 9

BLANK = 32
LINE_END = 10
MINUS = 45
DIGIT_ZERO = 48
DIGIT_NINE = 57

# Tokens are tuples of bytes; the text's end is read as a token of none, which is wrong wherever one is missing.
TOKEN_P = (112,)
TOKEN_CNF = (99, 110, 102)
TOKEN_ALL = (97,)
TOKEN_SOME = (101,)
TOKEN_ZERO = (48,)
TOKEN_END = ()

RIGHT = 0
FAULT_HEAD = 1
FAULT_SIZE = 2
FAULT_BLOCK = 3
FAULT_LITERAL = 4
FAULT_SHORT = 5
FAULT_BEHIND = 6

NO_NUMBER = -1
NO_VARIABLE = 0


# Pairs of a place and a token, the text's end last.
def placed_tokens(text):
    pairs = []
    token = []
    for place, byte in enumerate(text):
        if byte != BLANK and byte != LINE_END:
            token.append(byte)
        elif len(token) > 0:
            pairs.append((place - len(token), tuple(token)))
            token = []
    if len(token) > 0:
        pairs.append((len(text) - len(token), tuple(token)))
    pairs.append((len(text), TOKEN_END))
    return pairs


def number_of(token):
    if len(token) == 0 or len(token) > MOST_DIGITS:
        return NO_NUMBER
    if token[0] == DIGIT_ZERO and len(token) > 1:
        return NO_NUMBER
    number = 0
    for byte in token:
        if byte < DIGIT_ZERO or byte > DIGIT_NINE:
            return NO_NUMBER
        number = number * 10 + byte - DIGIT_ZERO
    return number


def variable_of(token, highest):
    number = number_of(token)
    if number < 1 or number > highest:
        return NO_VARIABLE
    return number


# The literal as a number, below 0 if it stands behind -.
def literal_of(token, highest):
    if len(token) > 0 and token[0] == MINUS:
        return -variable_of(token[1:], highest)
    return variable_of(token, highest)


def size_fault(token, most):
    number = number_of(token)
    if number == NO_NUMBER:
        return FAULT_HEAD
    if number > most:
        return FAULT_SIZE
    return RIGHT


# Goes through a text once. Each step answers RIGHT, or a fault, and then stands at the wrong token.
class Reader:
    def __init__(self, text):
        self.pairs = placed_tokens(text)
        self.position = 0
        self.highest = 0
        self.due = 0
        # The kind of each variable that stands in a block, in the blocks' order.
        self.bound = {}
        self.conditions = []

    def place(self):
        return self.pairs[self.position][0]

    def token(self):
        return self.pairs[self.position][1]

    def read_all(self):
        return self.read_head() or self.read_blocks() or self.read_conditions() or self.read_end()

    def read_head(self):
        for expected in (TOKEN_P, TOKEN_CNF):
            if self.token() != expected:
                return FAULT_HEAD
            self.position += 1
        fault = size_fault(self.token(), MOST_VARIABLES)
        if fault != RIGHT:
            return fault
        self.highest = number_of(self.token())
        self.position += 1
        fault = size_fault(self.token(), MOST_CONDITIONS)
        if fault != RIGHT:
            return fault
        self.due = number_of(self.token())
        self.position += 1
        return RIGHT

    def read_blocks(self):
        while self.token() == TOKEN_ALL or self.token() == TOKEN_SOME:
            kind = 1 if self.token() == TOKEN_ALL else 0
            self.position += 1
            fault = self.read_block(kind)
            if fault != RIGHT:
                return fault
        return RIGHT

    def read_block(self, kind):
        while self.token() != TOKEN_ZERO:
            variable = variable_of(self.token(), self.highest)
            if variable == NO_VARIABLE or variable in self.bound:
                return FAULT_BLOCK
            self.bound[variable] = kind
            self.position += 1
        self.position += 1
        return RIGHT

    def read_conditions(self):
        while len(self.conditions) < self.due:
            fault = self.read_condition()
            if fault != RIGHT:
                return fault
        return RIGHT

    def read_condition(self):
        literals = []
        while self.token() != TOKEN_ZERO:
            if self.token() == TOKEN_END:
                return FAULT_SHORT
            literal = literal_of(self.token(), self.highest)
            if literal == NO_VARIABLE:
                return FAULT_LITERAL
            literals.append(literal)
            self.position += 1
        self.conditions.append(literals)
        self.position += 1
        return RIGHT

    def read_end(self):
        return RIGHT if self.token() == TOKEN_END else FAULT_BEHIND

    def sentence(self):
        unbound = [variable for variable in range(1, self.highest + 1) if variable not in self.bound]
        order = unbound + list(self.bound)
        kinds = [self.bound.get(variable, 0) for variable in order]
        return Sentence(order, kinds, self.conditions)
