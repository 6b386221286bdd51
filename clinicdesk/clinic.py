"""The interface: a row of calls on a new clinic, and what they answer."""

from clinicdesk.desk import do_line
from clinicdesk.holdings import Clinic
from clinicdesk.shapes import keeps_ranges, one_form, read_command
from clinicdesk.signs import bytes_of, words_of


# The clinic, and what it has read of a line that has not ended.
class Reader:
    def __init__(self):
        self.clinic = Clinic()
        self.part = []
        self.too_long = False


def are_bytes(row):
    return all([0 <= byte and byte <= 255 for byte in row])


def end_line(reader):
    line = reader.part
    was_too_long = reader.too_long
    reader.part = []
    reader.too_long = False
    if was_too_long:
        return [-98]
    return do_line(reader.clinic, line)


def read_byte(reader, byte):
    if len(reader.part) < 256:
        reader.part.append(byte)
    else:
        reader.too_long = True


def feed(reader, row):
    if len(row) > 4096 or not are_bytes(row):
        return [-1]
    ended = 0
    told = []
    for byte in row:
        if byte == 10:
            answer = end_line(reader)
            ended += 1
            told.append(len(answer))
            told.extend(answer)
        else:
            read_byte(reader, byte)
    return [ended] + told


def tell_record(reader):
    record = reader.clinic.record
    return [len(record)] + record


def tell_form(row):
    if len(row) > 256 or not are_bytes(row) or 10 in row:
        return [-1]
    command = read_command(words_of(row))
    if command is None:
        return [-3]
    if not keeps_ranges(command):
        return [-4]
    form = bytes_of(one_form(command))
    return [len(form)] + form


def tell_part(reader):
    return [len(reader.part), 1 if reader.too_long else 0]


def answer_call(reader, call, row):
    if call == 0:
        return feed(reader, row)
    if call == 1:
        return tell_record(reader)
    if call == 2:
        return tell_form(row)
    return tell_part(reader)


def has_row(call):
    return call == 0 or call == 2


def answers(calls):
    reader = Reader()
    told = []
    place = 0
    while place < len(calls):
        call = calls[place]
        row = []
        place += 1
        if has_row(call):
            first = place + 1
            place = first + calls[place]
            row = calls[first:place]
        answer = answer_call(reader, call, row)
        told.append(len(answer))
        told.extend(answer)
    return told
