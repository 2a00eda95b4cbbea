"""Reads a desk's text from the front and stops at the first fault."""

from mixdesks.desk import BUS, GROUP, IN, OUT, Desk, Send
from mixdesks.refusals import Fault, TooLong
from mixdesks.samples import MOST_GAIN

MOST_BYTES = 4096
LINE_END = 10
BLANK = 32
ZERO = 48
NINE = 57
LETTER_A = 97
LETTER_Z = 122

# In the order of the kinds' numbers, as are the bounds below.
NODE_WORDS = ("in", "bus", "out", "group")
OTHER_WORDS = ("safe", "late", "member", "send", "pre", "post")
MOST_NODES = (8, 8, 4, 4)
MOST_SENDS = 48
MOST_LETTERS = 16
MOST_DIGITS = 5
LEAST_LATE = 1
MOST_LATE = 63

WRONG_FORM = 1
OUT_OF_BOUNDS = 2
WRONG_NAME = 3
TOO_MANY = 4


# A fault is told by the place of a word, so where the last one that was taken begins is kept.
class Reader:
    def __init__(self, text):
        self.text = text
        self.place = 0
        self.word_place = 0

    # Where a blank, a 10 or the text's end stands it has no bytes, so it is of no form that is due.
    def next_word(self):
        end = self.place
        while end < len(self.text) and self.text[end] != BLANK and self.text[end] != LINE_END:
            end += 1
        return self.text[self.place:end]

    def take_word(self):
        word = self.next_word()
        self.word_place = self.place
        self.place += len(word)
        return word

    def take_byte(self, due):
        if self.at_end() or self.text[self.place] != due:
            raise Fault(WRONG_FORM, self.place)
        self.place += 1

    def at_end(self):
        return self.place >= len(self.text)


def read_desk(text):
    if len(text) > MOST_BYTES:
        raise TooLong()
    reader = Reader(text)
    desk = Desk()
    while is_one_of(reader.next_word(), NODE_WORDS):
        read_node(reader, desk)
    # A node's word is no setting's, so a node's line behind a setting's is met here as a wrong form.
    while not reader.at_end():
        read_setting(reader, desk)
    return desk


def bytes_of(written):
    return [ord(sign) for sign in written]


def is_one_of(word, written_words):
    return word in [bytes_of(written) for written in written_words]


def read_node(reader, desk):
    kind = [bytes_of(written) for written in NODE_WORDS].index(reader.take_word())
    if desk.kinds.count(kind) >= MOST_NODES[kind]:
        raise Fault(TOO_MANY, reader.word_place)
    word = read_name(reader)
    if word in desk.names:
        raise Fault(WRONG_NAME, reader.word_place)
    desk.add_node(kind, word)
    reader.take_byte(LINE_END)


def read_setting(reader, desk):
    word = reader.take_word()
    if word == bytes_of("safe"):
        read_safe(reader, desk)
    elif word == bytes_of("late"):
        read_late(reader, desk)
    elif word == bytes_of("member"):
        read_member(reader, desk)
    elif word == bytes_of("send"):
        read_send(reader, desk)
    else:
        raise Fault(WRONG_FORM, reader.word_place)
    reader.take_byte(LINE_END)


def read_safe(reader, desk):
    i = read_told_node(reader, desk, (IN, BUS, OUT))
    if desk.safe[i] == 1:
        raise Fault(WRONG_NAME, reader.word_place)
    desk.safe[i] = 1


def read_late(reader, desk):
    i = read_told_node(reader, desk, (IN, BUS, OUT))
    # None is late by 0, so a node that is late was said to be before.
    if desk.late[i] != 0:
        raise Fault(WRONG_NAME, reader.word_place)
    desk.late[i] = read_number(reader, LEAST_LATE, MOST_LATE)


def read_member(reader, desk):
    group = read_told_node(reader, desk, (GROUP,))
    i = read_told_node(reader, desk, (IN, BUS, OUT))
    if (group, i) in desk.members:
        raise Fault(WRONG_NAME, reader.word_place)
    desk.members.append((group, i))


def read_send(reader, desk):
    if len(desk.sends) >= MOST_SENDS:
        raise Fault(TOO_MANY, reader.word_place)
    sender = read_told_node(reader, desk, (IN, BUS))
    target = read_told_node(reader, desk, (BUS, OUT))
    if target <= sender or desk.send_between(sender, target) is not None:
        raise Fault(WRONG_NAME, reader.word_place)
    gain = read_number(reader, 0, MOST_GAIN)
    desk.sends.append(Send(sender, target, gain, read_pre(reader)))


# Gives back the number of the node that is named next.
def read_told_node(reader, desk, kinds):
    word = read_name(reader)
    if word not in desk.names:
        raise Fault(WRONG_NAME, reader.word_place)
    i = desk.names.index(word)
    if desk.kinds[i] not in kinds:
        raise Fault(WRONG_NAME, reader.word_place)
    return i


def read_name(reader):
    reader.take_byte(BLANK)
    word = reader.take_word()
    if not is_name(word):
        raise Fault(WRONG_FORM, reader.word_place)
    return word


def is_name(word):
    if not has_length_and_bytes(word, MOST_LETTERS, LETTER_A, LETTER_Z):
        return False
    return not is_one_of(word, NODE_WORDS) and not is_one_of(word, OTHER_WORDS)


def read_number(reader, least, most):
    reader.take_byte(BLANK)
    word = reader.take_word()
    if not is_num(word):
        raise Fault(WRONG_FORM, reader.word_place)
    number = number_of(word)
    if number < least or number > most:
        raise Fault(OUT_OF_BOUNDS, reader.word_place)
    return number


def is_num(word):
    if not has_length_and_bytes(word, MOST_DIGITS, ZERO, NINE):
        return False
    return len(word) == 1 or word[0] != ZERO


def number_of(digits):
    number = 0
    for digit in digits:
        number = number * 10 + digit - ZERO
    return number


# Whether there are 1 to most bytes, all of them from first to last.
def has_length_and_bytes(word, most, first, last):
    return 1 <= len(word) <= most and all([first <= byte <= last for byte in word])


# Gives back 1 for a send that is pre, 0 for one that is post, as a send is told.
def read_pre(reader):
    reader.take_byte(BLANK)
    word = reader.take_word()
    if word == bytes_of("pre"):
        return 1
    if word == bytes_of("post"):
        return 0
    raise Fault(WRONG_FORM, reader.word_place)
