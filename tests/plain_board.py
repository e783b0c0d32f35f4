"""A plain Board: dicts and lists, all kept as a whole ahead of each deed; DEEDS are played DEED by DEED.

Nothing here calls the package, but for its error classes.
"""

from copy import deepcopy

from landpoints.errors import CanNot, Known, NoDeed, NoPoint, NothingDone, Unfit
from tests import plain, plain_deeds


class PlainBoard:
    def __init__(self, areas):
        self.now = {"areas": list(areas), "bare": [], "history": [], "points": [], "kept": {}, "number": 0}
        self.past = []

    def all(self):
        """All by which two Boards are equal or not."""
        return self.chart(), self.history(), self.world(), self.kept()

    def done(self, change):
        """Does a deed; nothing of it is left if it raises an error."""
        later = deepcopy(self.now)
        change(later)
        self.past.append(self.now)
        self.now = later

    def chart(self):
        return tuple(sorted(self.now["areas"])), tuple(sorted(self.now["bare"]))

    def history(self):
        return tuple(self.now["history"])

    def world(self):
        return tuple(point[1:] for point in self.now["points"])

    def kept(self):
        return tuple(sorted(self.now["kept"].items()))

    def area(self, name):
        def change(now):
            if name in now["areas"]:
                raise Known(name)
            now["areas"].append(name)
        self.done(change)

    def survey(self, condition):
        def change(now):
            for point in now["points"]:
                if plain.keeps(point[1], condition):
                    raise Unfit()
            if condition not in now["bare"]:
                now["bare"].append(condition)
        self.done(change)

    def doubt(self, condition):
        def change(now):
            if condition not in now["bare"]:
                raise CanNot()
            now["bare"].remove(condition)
        self.done(change)

    def write(self, deed):
        self.done(lambda now: now["history"].append(deed))

    def strike(self, place):
        def change(now):
            if place not in range(len(now["history"])):
                raise NoDeed(place)
            now["history"].pop(place)
        self.done(change)

    def exchange(self, place):
        def change(now):
            row = now["history"]
            for number in (place, place + 1):
                if number not in range(len(row)):
                    raise NoDeed(number)
            row.insert(place, row.pop(place + 1))
        self.done(change)

    def point(self, spot, size, first):
        def change(now):
            if tuple(spot) not in plain.let(self.chart()) or size < 1:
                raise Unfit()
            # Each POINT has a number of its own, by which it is known again.
            now["points"].append((now["number"], spot, size, first))
            now["number"] += 1
        self.done(change)

    def leave(self, place):
        def change(now):
            if place not in range(len(now["points"])):
                raise NoPoint(place)
            now["points"].pop(place)
        self.done(change)

    def keep(self, name, cut):
        def change(now):
            if name in now["kept"]:
                raise Known(name)
            now["kept"][name] = cut
        self.done(change)

    def drop(self, name):
        def change(now):
            if name not in now["kept"]:
                raise CanNot()
            del now["kept"][name]
        self.done(change)

    def undo(self):
        if not self.past:
            raise NothingDone()
        self.now = self.past.pop()

    def state(self):
        return plain_deeds.end(self.history(), self.world())

    def owners(self):
        return self.state().owners

    def ways(self):
        return tuple(sorted(self.state().ways))

    def charges(self, place):
        if place not in range(len(self.now["points"])):
            raise NoPoint(place)
        return self.state().rows[place]

    def size(self, name):
        return sum(point[1] for point, owner in zip(self.world(), self.owners()) if owner == name)

    def cut(self, name):
        if name not in self.now["kept"]:
            raise CanNot()
        return self.now["kept"][name]

    def inside(self, name):
        cut = self.cut(name)
        return tuple(at for at, point in enumerate(self.world()) if plain.is_in(point[0], cut))

    def one_owner(self, name):
        owners = {self.owners()[at] for at in self.inside(name)}
        return owners.pop() if len(owners) == 1 else None

    def surely(self, name):
        cut, history = self.cut(name), self.history()
        if "whole" in plain_deeds.words(history):
            raise Unfit()
        owners = {plain_deeds.owner(history, spot, first) for spot in plain.land(self.chart(), cut)
                  for first in plain_deeds.firsts(history)}
        return owners.pop() if len(owners) == 1 else None

    def owner_by_number(self, now):
        points = now["points"]
        owners = plain_deeds.end(tuple(now["history"]), tuple(point[1:] for point in points)).owners
        return {point[0]: owner for point, owner in zip(points, owners)}

    def changed(self):
        if not self.past:
            return ()
        ahead, behind = self.owner_by_number(self.past[-1]), self.owner_by_number(self.now)
        return tuple(at for at, point in enumerate(self.now["points"])
                     if point[0] in ahead and ahead[point[0]] != behind[point[0]])

    def idle(self):
        history, world = self.history(), self.world()
        told = plain_deeds.end(history, world).same()
        return tuple(at for at in range(len(history))
                     if plain_deeds.end(history[:at] + history[at + 1:], world).same() == told)
