"""Finds the least message that meets a want: with the fewest parts, and of these the earliest."""

from understood.messages import MOST_PARTS
from understood.ways import ways_to


# One search settles a want and all that it leads to, in the order of their least messages' parts. A message has more
# parts than any within it, so what is settled is never found to be less later on.
class Search:
    def __init__(self, told, known):
        self.told = told
        self.known = known
        self.ways = []
        self.lacking = []
        self.waiting = {}
        self.ready = [[] for parts in range(MOST_PARTS + 1)]

    def gather(self, want):
        self.waiting[want] = []
        fresh = [want]
        while len(fresh) > 0:
            met = fresh.pop()
            for way in ways_to(self.told, met):
                fresh.extend(self.add_way(met, way))

    def add_way(self, want, way):
        place = len(self.ways)
        self.ways.append((want, way))
        lacked = [step[1] for step in way[2] if step[1] not in self.known]
        self.lacking.append(len(lacked))
        fresh = []
        for needed in lacked:
            if needed not in self.waiting:
                self.waiting[needed] = []
                fresh.append(needed)
            self.waiting[needed].append(place)
        if len(lacked) == 0:
            self.make_ready(place)
        return fresh

    def make_ready(self, place):
        way = self.ways[place][1]
        parts = way[0]
        for step in way[2]:
            message = self.known[step[1]]
            if message is None:
                return
            parts = parts + message[0]
        if parts <= MOST_PARTS:
            self.ready[parts].append(place)

    def row_by(self, way):
        built = list(way[1])
        for step in way[2]:
            built.extend(step[0])
            built.extend(self.known[step[1]][1])
        return built

    def earliest_rows(self, parts):
        earliest = {}
        for place in self.ready[parts]:
            want = self.ways[place][0]
            if want in self.known:
                continue
            built = self.row_by(self.ways[place][1])
            if want not in earliest or built < earliest[want]:
                earliest[want] = built
        return earliest

    def settle(self, parts):
        earliest = self.earliest_rows(parts)
        for want in earliest:
            self.known[want] = (parts, earliest[want])
            for place in self.waiting[want]:
                self.lacking[place] = self.lacking[place] - 1
                if self.lacking[place] == 0:
                    self.make_ready(place)

    def settle_all(self):
        for parts in range(1, MOST_PARTS + 1):
            self.settle(parts)
        for want in self.waiting:
            if want not in self.known:
                self.known[want] = None


# Forms that are told later change nothing of what was found, so it is kept as long as the forms are.
class Least:
    def __init__(self, told):
        self.told = told
        self.known = {}

    # Gives back the parts and the row, or None where no message meets the want.
    def message_for(self, want):
        if want not in self.known:
            search = Search(self.told, self.known)
            search.gather(want)
            search.settle_all()
        return self.known[want]
