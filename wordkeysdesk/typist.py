"""The calls on one typist, told as one list of whole numbers, and their answers."""

from wordkeysdesk.desk import Desk

BEGIN = 0
LEARN = 1
KEY = 2
NEXT = 3
TAKE = 4
BACK = 5
GUESS = 6
ROW = 7
TEXT = 8
LIST = 9


class UnknownCall(ValueError):
    pass


# Goes along the calls by a place of its own, so that they stay as handed in.
class Reader:

    def __init__(self, numbers):
        self.numbers = numbers
        self.position = 0

    def has_more(self):
        return self.position < len(self.numbers)

    def read_number(self):
        number = self.numbers[self.position]
        self.position += 1
        return number

    def read_row(self):
        length = self.read_number()
        start = self.position
        self.position = start + length
        return self.numbers[start:start + length]


def answer_call(desk, reader):
    call = reader.read_number()
    if call == BEGIN:
        return [desk.begin(reader.read_row())]
    if call == LEARN:
        count = reader.read_number()
        return [desk.learn(count, reader.read_row())]
    if call == KEY:
        return [desk.press_key(reader.read_number())]
    if call == NEXT:
        return [desk.show_next()]
    if call == TAKE:
        return [desk.take()]
    if call == BACK:
        return [desk.go_back()]
    if call == GUESS:
        return desk.guess()
    if call == ROW:
        return [desk.part_row(reader.read_row())]
    if call == TEXT:
        return desk.tell_text()
    if call == LIST:
        return desk.tell_list()
    raise UnknownCall(call)


def answers(calls):
    desk = Desk()
    reader = Reader(calls)
    told = []
    while reader.has_more():
        answer = answer_call(desk, reader)
        told.append(len(answer))
        told.extend(answer)
    return told
