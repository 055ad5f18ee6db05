"""One list of calls in, one list of answers out."""

from netnames.asking_calls import (answer_ask, answer_facts, answer_flush, answer_pass,
                                   answer_query, answer_records, answer_set)
from netnames.network import Net
from netnames.zone_calls import (answer_add, answer_begin, answer_copy, answer_drop,
                                 answer_remove, answer_transfer, answer_zone)


class Reader:

    def __init__(self, calls):
        self.calls = calls
        self.place = 0

    def is_done(self):
        return self.place >= len(self.calls)

    def number(self):
        self.place += 1
        return self.calls[self.place - 1]

    # Rows are tuples from here on, so that nothing handed in can be changed by them.
    def row(self):
        length = self.number()
        self.place += length
        return tuple(self.calls[self.place - length:self.place])


def begin_call(net, reader):
    server_count = reader.number()
    cache_count = reader.number()
    roots = reader.row()
    return answer_begin(net, server_count, cache_count, roots)


def zone_call(net, reader):
    server = reader.number()
    life = reader.number()
    apex = reader.row()
    return answer_zone(net, server, life, apex)


def copy_call(net, reader):
    server = reader.number()
    origin = reader.number()
    good = reader.number()
    apex = reader.row()
    return answer_copy(net, server, origin, good, apex)


def drop_call(net, reader):
    server = reader.number()
    apex = reader.row()
    return answer_drop(net, server, apex)


def add_call(net, reader):
    server = reader.number()
    serial = reader.number()
    kind = reader.number()
    life = reader.number()
    apex = reader.row()
    name = reader.row()
    value = reader.row()
    return answer_add(net, server, serial, kind, life, apex, name, value)


def remove_call(net, reader):
    server = reader.number()
    serial = reader.number()
    kind = reader.number()
    apex = reader.row()
    name = reader.row()
    value = reader.row()
    return answer_remove(net, server, serial, kind, apex, name, value)


def transfer_call(net, reader):
    server = reader.number()
    apex = reader.row()
    return answer_transfer(net, server, apex)


def set_call(net, reader):
    server = reader.number()
    up = reader.number()
    return answer_set(net, server, up)


def pass_call(net, reader):
    length = reader.number()
    return answer_pass(net, length)


def query_call(net, reader):
    cache = reader.number()
    kind = reader.number()
    name = reader.row()
    return answer_query(net, cache, kind, name)


def ask_call(net, reader):
    server = reader.number()
    kind = reader.number()
    name = reader.row()
    return answer_ask(net, server, kind, name)


def records_call(net, reader):
    server = reader.number()
    apex = reader.row()
    return answer_records(net, server, apex)


def facts_call(net, reader):
    cache = reader.number()
    return answer_facts(net, cache)


def flush_call(net, reader):
    cache = reader.number()
    return answer_flush(net, cache)


CALLS = {
    1: begin_call,
    2: zone_call,
    3: copy_call,
    4: drop_call,
    5: add_call,
    6: remove_call,
    7: transfer_call,
    8: set_call,
    9: pass_call,
    10: query_call,
    11: ask_call,
    12: records_call,
    13: facts_call,
    14: flush_call,
}


def answer_next(net, reader):
    call = CALLS[reader.number()]
    return call(net, reader)


def answers(calls):
    net = Net()
    reader = Reader(calls)
    answered = []
    while not reader.is_done():
        told = answer_next(net, reader)
        answered.append(len(told))
        answered.extend(told)
    return answered
