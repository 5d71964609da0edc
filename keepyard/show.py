"""What a show is: its room, those that keep places at it, and its row."""

from keepyard.keeping import WAITING
from keepyard.serving import served


class Show:
    def __init__(self, room):
        self.room = room
        self.here = []
        self.row = []

    # Reckoned anew each time, so that it can't fall out of step with the keepings.
    def free_places(self):
        return self.room - sum([keeping.places_kept() for keeping in self.here])

    # Free places are not enough: they are for those who wait already.
    def has_room_for(self, many):
        return len(self.row) == 0 and many <= self.free_places()

    def let_in(self, keeping):
        self.here.append(keeping)

    def line_up(self, keeping):
        self.row.append(keeping)

    def let_go(self, keeping):
        if keeping.state == WAITING:
            self.row.remove(keeping)
        else:
            self.here.remove(keeping)

    def numbers_waiting(self):
        return [keeping.number for keeping in self.row]

    def serve(self, now):
        count = served(self.free_places(), [keeping.many for keeping in self.row])
        first = self.row[:count]
        self.row = self.row[count:]
        for keeping in first:
            keeping.hold(now)
            self.let_in(keeping)
        return [keeping.number for keeping in first]
