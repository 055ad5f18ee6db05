"""Servers, the zones that they have, their own ones and copies, and what they tell."""

from netnames.telling import refusal_to_tell, tell


# A zone as one server has it. One of its own has no origin.
class Holding:

    def __init__(self, zone, origin, good, since):
        self.zone = zone
        self.origin = origin
        self.good = good
        self.since = since

    def is_copy(self):
        return self.origin is not None

    def is_good(self, now):
        return not self.is_copy() or now - self.since <= self.good

    # A copy of a copy is as old as that one: else age could be washed off by copying.
    def since_for_copies(self, now):
        if self.is_copy():
            return self.since
        return now


class Server:

    def __init__(self):
        self.up = True
        self.holdings = {}

    def holding_of(self, apex):
        return self.holdings.get(apex)

    def has_zone(self, apex):
        return apex in self.holdings

    def hold(self, holding):
        self.holdings[holding.zone.apex] = holding

    def let_go(self, apex):
        self.holdings.pop(apex)

    def zone_count(self):
        return len(self.holdings)

    # Another server is given a zone's state only by one that's up, and of what is good.
    def can_hand_out(self, apex, now):
        return self.up and self.has_zone(apex) and self.holding_of(apex).is_good(now)

    def longest_holding(self, name):
        for length in range(len(name), -1, -1):
            if self.has_zone(name[:length]):
                return self.holding_of(name[:length])
        return None

    # Where the longest zone isn't good, a shorter one that is doesn't stand in for it.
    def told_of(self, name, kind, now):
        held = self.longest_holding(name)
        if held is None or not held.is_good(now):
            return refusal_to_tell(name)
        return tell(held.zone, name, kind)

    # To a cache a server that's down is as one that refuses.
    def told_when_asked(self, name, kind, now):
        if not self.up:
            return refusal_to_tell(name)
        return self.told_of(name, kind, now)
