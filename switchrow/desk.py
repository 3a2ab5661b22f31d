"""The desk: a row of calls in, a row of answers out."""

from switchrow.reading import RIGHT, Reader

CALL_READ = 0
CALL_ORDER = 1
CALL_TRUE = 2
CALL_HOLDS = 3
CALL_MOVE = 4
CALL_LINE = 5
CALL_COUNT = 6
CALL_CORE = 7
CALL_WRITE = 8

DONE = 0
REFUSED = -2
NO_CORE = -1
CORE = -55
TOO_LONG = -1
LONGEST_TEXT = 65536


class UnknownCall(ValueError):
    pass


def answers(calls):
    sentences = [None, None]
    answered = []
    start = 0
    while start < len(calls):
        length = call_length(calls, start)
        answer = call_answer(sentences, calls[start:start + length])
        answered.append(len(answer))
        answered.extend(answer)
        start += length
    return answered


def call_length(calls, start):
    number = calls[start]
    if number == CALL_READ:
        return 3 + calls[start + 2]
    if number == CALL_HOLDS or number == CALL_MOVE:
        return 4
    return 2


def call_answer(sentences, call):
    number = call[0]
    if number == CALL_READ:
        return read_answer(sentences, call[1], call[3:])
    sentence = sentences[call[1]]
    if number == CALL_HOLDS:
        return holds_answer(sentence, call[2], call[3])
    if number == CALL_MOVE:
        return move_answer(sentence, call[2], call[3])
    return whole_answer(sentence, number)


# The calls that ask of the sentence as a whole: nothing is handed in but the object.
def whole_answer(sentence, number):
    if number == CALL_ORDER:
        return order_answer(sentence)
    if number == CALL_TRUE:
        return [sentence.truth(0, 0)]
    if number == CALL_LINE:
        return [DONE, sentence.best_line()]
    if number == CALL_COUNT:
        return [DONE, sentence.good_beginnings()]
    if number == CALL_CORE:
        return core_answer(sentence)
    if number == CALL_WRITE:
        return write_answer(sentence)
    raise UnknownCall(f"no call has the number {number}")


def read_answer(sentences, chosen, text):
    if len(text) > LONGEST_TEXT:
        return [REFUSED]
    reader = Reader(text)
    fault = reader.read_all()
    if fault != RIGHT:
        return [fault, reader.place()]
    sentences[chosen] = reader.sentence()
    return [RIGHT]


def order_answer(sentence):
    return [len(sentence.order)] + sentence.order + sentence.kinds


def holds_answer(sentence, depth, values):
    if depth > len(sentence.order):
        return [REFUSED]
    return [sentence.truth(depth, values)]


def move_answer(sentence, depth, values):
    if depth >= len(sentence.order):
        return [REFUSED]
    return [sentence.best_move(depth, values)]


# Every false sentence has a core, and which one isn't asked: so none is looked for.
def core_answer(sentence):
    return [NO_CORE] if sentence.truth(0, 0) == 1 else [CORE]


def write_answer(sentence):
    text = sentence.text()
    if len(text) > LONGEST_TEXT:
        return [TOO_LONG]
    return [DONE] + text
