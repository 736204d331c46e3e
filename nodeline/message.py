"""The form of a message: how one is written, and how a right one is read."""

from nodeline.check import check_of

BEAT = 1
PIECE = 2

HEAD_LENGTH = 24
NUMBER_LENGTH = 4
CHECK_LENGTH = 4
LONGEST_PIECE = 200


class Message:
    """What a right message says; own and known are each a life and a session."""

    def __init__(self, kind, own, known, got):
        self.kind = kind
        self.own = own
        self.known = known
        self.got = got
        self.number = 0
        self.piece = []


def low_byte_first(number):
    return [number & 255, (number >> 8) & 255, (number >> 16) & 255, (number >> 24) & 255]


def number_at(numbers, at):
    return numbers[at] | (numbers[at + 1] << 8) | (numbers[at + 2] << 16) | (numbers[at + 3] << 24)


def pair_at(numbers, at):
    return (number_at(numbers, at), number_at(numbers, at + 4))


def with_check(numbers):
    return numbers + low_byte_first(check_of(numbers))


def write_head(kind, sender, receiver, own, known, got):
    head = [kind, sender, receiver, 0]
    for number in (own[0], own[1], known[0], known[1], got):
        head.extend(low_byte_first(number))
    return head


def write_beat(sender, receiver, own, known, got):
    return with_check(write_head(BEAT, sender, receiver, own, known, got))


def write_piece(sender, receiver, own, known, got, number, piece):
    head = write_head(PIECE, sender, receiver, own, known, got)
    return with_check(head + low_byte_first(number) + piece)


def is_piece_length(length):
    return 1 <= length <= LONGEST_PIECE


def has_length_of_kind(numbers):
    around = HEAD_LENGTH + CHECK_LENGTH
    if len(numbers) < around:
        return False
    if numbers[0] == BEAT:
        return len(numbers) == around
    if numbers[0] == PIECE:
        return is_piece_length(len(numbers) - around - NUMBER_LENGTH)
    return False


def has_right_check(numbers):
    end = len(numbers) - CHECK_LENGTH
    return number_at(numbers, end) == check_of(numbers[:end])


def read_message(numbers, sender, receiver):
    """The message, or None if it isn't right."""
    if not has_length_of_kind(numbers):
        return None
    if numbers[1] != sender or numbers[2] != receiver or numbers[3] != 0:
        return None
    own = pair_at(numbers, 4)
    if own[0] == 0 or own[1] == 0:
        return None
    if not has_right_check(numbers):
        return None
    message = Message(numbers[0], own, pair_at(numbers, 12), number_at(numbers, 20))
    if message.kind == PIECE:
        message.number = number_at(numbers, HEAD_LENGTH)
        message.piece = numbers[HEAD_LENGTH + NUMBER_LENGTH:len(numbers) - CHECK_LENGTH]
    return message
