"""What a zone tells of a name."""

from netnames.names import begins_with
from netnames.zones import ALIAS, HANDED_ON

# The numbers by which the calls ask and facts answer what it was that was told.
REFUSES = 0
TELLS = 1
NOTHING = 2
NO_SUCH_NAME = 3
LEADS_ON = 4
HANDS_ON = 5


# The rows are what's told: each record's value, or one row, the alias or the servers.
# The name is the one that was asked for; where it's handed on, the beginning where that is.
class Telling:

    def __init__(self, outcome, name, life, rows):
        self.outcome = outcome
        self.name = name
        self.life = life
        self.rows = rows


def refusal_to_tell(name):
    return Telling(REFUSES, name, 0, ())


def least_life(records):
    return min([record.life for record in records])


# None where the name isn't handed on.
def handing_on(zone, name):
    for length in range(len(zone.apex) + 1, len(name) + 1):
        beginning = name[:length]
        found = zone.records_of(beginning, HANDED_ON)
        if len(found) > 0:
            servers = tuple(sorted([record.value[0] for record in found]))
            return Telling(HANDS_ON, beginning, least_life(found), (servers,))
    return None


def there_is(zone, name):
    if name == zone.apex:
        return True
    return any([begins_with(record.name, name) for record in zone.records])


# It ends at the apex at the latest, which is always there.
def name_for_all_others(zone, name):
    length = len(name)
    while not there_is(zone, name[:length]):
        length -= 1
    return name[:length] + (0,)


# The source is the name whose records tell: the name itself, or what stands for it.
def tell_by(zone, source, name, kind):
    aliases = zone.records_of(source, ALIAS)
    if len(aliases) > 0 and kind != ALIAS:
        return Telling(LEADS_ON, name, aliases[0].life, (aliases[0].value,))
    found = zone.records_of(source, kind)
    if len(found) == 0:
        return Telling(NOTHING, name, zone.life, ())
    return Telling(TELLS, name, least_life(found), tuple([record.value for record in found]))


def tell(zone, name, kind):
    handed_on = handing_on(zone, name)
    if handed_on is not None:
        return handed_on
    if there_is(zone, name):
        return tell_by(zone, name, name, kind)
    stand_in = name_for_all_others(zone, name)
    if zone.has_record_of(stand_in):
        return tell_by(zone, stand_in, name, kind)
    return Telling(NO_SUCH_NAME, name, zone.life, ())
