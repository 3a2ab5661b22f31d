"""The desk: a row of calls in, a row of answers out."""

from switchrow.reading import RIGHT, Reader

CALL_READ = 0
CALL_ORDER = 1
CALL_TRUE = 2
CALL_HOLDS = 3
CALL_MOVE = 4

REFUSED = -2
LONGEST_TEXT = 65536


class UnknownCall(ValueError):
    pass


def answers(calls):
    sentences = [None, None]
    answered = []
    start = 0
    while start < len(calls):
        length = call_length(calls, start)
        answer = call_answer(sentences, calls[start:start + length])
        answered.append(len(answer))
        answered.extend(answer)
        start += length
    return answered


def call_length(calls, start):
    number = calls[start]
    if number == CALL_READ:
        return 3 + calls[start + 2]
    if number == CALL_HOLDS or number == CALL_MOVE:
        return 4
    return 2


def call_answer(sentences, call):
    number = call[0]
    if number == CALL_READ:
        return read_answer(sentences, call[1], call[3:])
    sentence = sentences[call[1]]
    if number == CALL_ORDER:
        return order_answer(sentence)
    if number == CALL_TRUE:
        return [sentence.truth(0, 0)]
    if number == CALL_HOLDS:
        return holds_answer(sentence, call[2], call[3])
    if number == CALL_MOVE:
        return move_answer(sentence, call[2], call[3])
    raise UnknownCall(f"no call has the number {number}")


def read_answer(sentences, chosen, text):
    if len(text) > LONGEST_TEXT:
        return [REFUSED]
    reader = Reader(text)
    fault = reader.read_all()
    if fault != RIGHT:
        return [fault, reader.place()]
    sentences[chosen] = reader.sentence()
    return [RIGHT]


def order_answer(sentence):
    return [len(sentence.order)] + sentence.order + sentence.kinds


def holds_answer(sentence, depth, values):
    if depth > len(sentence.order):
        return [REFUSED]
    return [sentence.truth(depth, values)]


def move_answer(sentence, depth, values):
    if depth >= len(sentence.order):
        return [REFUSED]
    return [sentence.best_move(depth, values)]
