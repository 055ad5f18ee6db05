"""Records, changes, and zones: what one server knows under an apex."""

from netnames.names import begins_with, is_for_all_others, is_name, is_record_name

NUMBER = 1
ALIAS = 2
HANDED_ON = 3

LONGEST_LIFE = 100000
HIGHEST_NUMBER = 1000000000
MOST_RECORDS = 40
CHANGES_KEPT = 8


# A record is never changed once it's made, so zones and their copies may share it.
class Record:

    def __init__(self, name, kind, value, life):
        self.name = name
        self.kind = kind
        self.value = value
        self.life = life

    # The life doesn't count: put in again with another life it's the same record.
    def is_same_as(self, other):
        return self.name == other.name and self.kind == other.kind and self.value == other.value


class Change:

    def __init__(self, puts_in, record):
        self.puts_in = puts_in
        self.record = record


class Zone:

    # The identity tells a zone that's made anew from an earlier one of the same apex.
    def __init__(self, identity, apex, life):
        self.identity = identity
        self.apex = apex
        self.life = life
        self.serial = 1
        self.records = []
        self.changes = []

    def undergo(self, change):
        kept = [record for record in self.records if not record.is_same_as(change.record)]
        if change.puts_in:
            kept.append(change.record)
        self.records = kept
        self.changes = (self.changes + [change])[-CHANGES_KEPT:]
        self.serial += 1

    # A copy hands on the last changes too, so it can bring up copies of its own.
    def twin(self):
        other = Zone(self.identity, self.apex, self.life)
        other.serial = self.serial
        other.records = list(self.records)
        other.changes = list(self.changes)
        return other

    def is_at(self, serial):
        return serial == 0 or serial == self.serial

    def has(self, wanted):
        return any([record.is_same_as(wanted) for record in self.records])

    def has_record_of(self, name):
        return any([record.name == name for record in self.records])

    def records_of(self, name, kind):
        return [record for record in self.records if record.name == name and record.kind == kind]

    def is_full(self):
        return len(self.records) >= MOST_RECORDS

    # An alias stands alone at its name, but may be put in again in its own place.
    def has_clash(self, added):
        for record in self.records:
            if record.name == added.name and not record.is_same_as(added):
                if record.kind == ALIAS or added.kind == ALIAS:
                    return True
        return False

    def may_stand_here(self, record):
        if record.kind == HANDED_ON:
            if record.name == self.apex or is_for_all_others(record.name):
                return False
        return not self.has_clash(record)


def is_right_value(kind, value, server_count):
    if kind == NUMBER:
        return len(value) == 1 and value[0] <= HIGHEST_NUMBER
    if kind == ALIAS:
        return is_name(value)
    if kind == HANDED_ON:
        return len(value) == 1 and value[0] < server_count
    return False


def is_right_record(record, apex, server_count):
    if not is_record_name(record.name) or not begins_with(record.name, apex):
        return False
    if record.life > LONGEST_LIFE:
        return False
    return is_right_value(record.kind, record.value, server_count)
