"""Servers, and the zones that they have: their own ones, and copies."""


# A zone as one server has it. One of its own has no origin.
class Holding:

    def __init__(self, zone, origin, good, since):
        self.zone = zone
        self.origin = origin
        self.good = good
        self.since = since

    def is_copy(self):
        return self.origin is not None

    def is_good(self, now):
        return not self.is_copy() or now - self.since <= self.good

    # A copy of a copy is as old as that one: else age could be washed off by copying.
    def since_for_copies(self, now):
        if self.is_copy():
            return self.since
        return now


class Server:

    def __init__(self):
        self.up = True
        self.holdings = {}

    def holding_of(self, apex):
        return self.holdings.get(apex)

    def has_zone(self, apex):
        return apex in self.holdings

    def hold(self, holding):
        self.holdings[holding.zone.apex] = holding

    def let_go(self, apex):
        self.holdings.pop(apex)

    def zone_count(self):
        return len(self.holdings)

    # Another server is given a zone's state only by one that's up, and of what is good.
    def can_hand_out(self, apex, now):
        return self.up and self.has_zone(apex) and self.holding_of(apex).is_good(now)
