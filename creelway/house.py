"""The house: roads by names, their logs, and deeds that are done, taken back and done again."""

from creelway.deeds import road_named, roads_behind
from creelway.errors import NothingLeft
from creelway.roads import row_now


class House:
    """At most 8 roads by names, with all that was done."""

    def __init__(self):
        # The roads as they are now. No deed changes what it finds, so that both ways each deed is kept together with
        # the roads that are to be there again.
        self.standing = {}
        self.past = []
        self.ahead = []

    def build(self, name, row):
        """A new road with this row and an empty log."""
        self.do(("build", name, tuple(row)))

    def shut(self, name):
        """The road is gone."""
        self.do(("shut", name))

    def walk(self, name, creel, count):
        """So many walks there along the road, or back for a count below nought."""
        self.do(("walk", name, creel, count))

    def put(self, name, place):
        """A stone is put in."""
        self.do(("put", name, place))

    def take(self, name, place):
        """A stone is taken out."""
        self.do(("take", name, place))

    def mirror(self, name):
        """The row is mirrored."""
        self.do(("mirror", name))

    def lay(self, name, other, gap):
        """A row like that of the other road is laid behind."""
        self.do(("lay", name, other, gap))

    def late(self, name, at, creel, count):
        """A walk is put into the log ahead of the entry of this number."""
        self.do(("late", name, at, creel, count))

    def strike(self, name, at):
        """A walk is struck from the log."""
        self.do(("strike", name, at))

    def do(self, deed):
        """Any of the deeds above, told as a tuple."""
        changed = roads_behind(self.standing, deed)
        self.past.append((deed, self.standing))
        self.standing = changed
        self.ahead = []

    def back(self):
        """Take the last standing deed back, and tell it."""
        if not self.past:
            raise NothingLeft("no deed stands")
        deed, earlier = self.past.pop()
        self.ahead.append((deed, self.standing))
        self.standing = earlier
        return deed

    def again(self):
        """Do the deed again that was taken back last, and tell it."""
        if not self.ahead:
            raise NothingLeft("no deed was taken back")
        deed, later = self.ahead.pop()
        self.past.append((deed, self.standing))
        self.standing = later
        return deed

    def twin(self):
        """A house that stands as this one does; from then on each goes its own way."""
        other = House()
        other.standing = self.standing
        other.past = list(self.past)
        other.ahead = list(self.ahead)
        return other

    def roads(self):
        """The names of the roads, in the order of building."""
        return list(self.standing)

    def row(self, name):
        """The row of the road."""
        return row_now(road_named(self.standing, name).course)

    def log(self, name):
        """The log of the road."""
        return list(road_named(self.standing, name).entries)

    def deeds(self):
        """The standing deeds, in order."""
        return [deed for deed, earlier in self.past]

    def undone(self):
        """The deeds that could be done again, the next one first."""
        return [deed for deed, later in reversed(self.ahead)]
