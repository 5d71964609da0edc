"""The yard: all shows, all keepings and the time, and what each deed does to them."""

from keepyard.errors import Full, NoKeeping, NoPlaces, NoShow, NoSpan, NotHeld, SameShow, TooEarly, TooMany
from keepyard.keeping import GONE, HELD, WAITING, Keeping
from keepyard.serving import next_lapse
from keepyard.show import Show


# Each deed asks for all its refusals, in their order, ahead of its first change: one that is refused changes nothing.
class Yard:
    def __init__(self, rooms):
        self.shows = [Show(room) for room in rooms]
        self.keepings = []
        self.now = 0

    # A number below nought would count from the end of a list, so it is refused here.
    def find_show(self, show):
        if show < 0 or show >= len(self.shows):
            raise NoShow()
        return self.shows[show]

    def find_any(self, number):
        if number < 0 or number >= len(self.keepings):
            raise NoKeeping()
        return self.keepings[number]

    def find_keeping(self, number):
        keeping = self.find_any(number)
        if keeping.state == GONE:
            raise NoKeeping()
        return keeping

    # One that is asked for lines up and the row is served: it is held at once only if nobody stands ahead of it.
    def keep(self, who, show, many, span):
        place = self.find_show(show)
        if many < 1:
            raise NoPlaces()
        if many > place.room:
            raise TooMany()
        if span < 1:
            raise NoSpan()
        keeping = Keeping(len(self.keepings), who, show, many, span)
        self.keepings.append(keeping)
        place.line_up(keeping)
        place.serve(self.now)
        return (keeping.number, keeping.state)

    def take(self, number):
        keeping = self.find_keeping(number)
        if keeping.state != HELD:
            raise NotHeld()
        keeping.take()
        return keeping.state

    def back(self, number):
        return self.end(self.find_keeping(number))

    def end(self, keeping):
        place = self.shows[keeping.show]
        place.let_go(keeping)
        keeping.leave()
        return place.serve(self.now)

    def part(self, number, many):
        keeping = self.find_keeping(number)
        if many < 1:
            raise NoPlaces()
        if many >= keeping.many:
            raise TooMany()
        keeping.give_back(many)
        return self.shows[keeping.show].serve(self.now)

    def move(self, number, show):
        keeping = self.find_keeping(number)
        place = self.find_show(show)
        if keeping.state == WAITING:
            raise NotHeld()
        if keeping.show == show:
            raise SameShow()
        if not place.has_room_for(keeping.many):
            raise Full()
        left = self.shows[keeping.show]
        left.let_go(keeping)
        keeping.move_to(show)
        place.let_in(keeping)
        return left.serve(self.now)

    def pass_on(self, number, who):
        self.find_keeping(number).pass_to(who)
        return "passed"

    # The time goes on from lapse to lapse, so that those who are served are held from the very time of it.
    def clock(self, time):
        if time < self.now:
            raise TooEarly()
        told = []
        first = next_lapse(self.held_until(), time)
        while first is not None:
            self.now = first[0]
            told.extend(self.lapse(first[1]))
            first = next_lapse(self.held_until(), time)
        self.now = time
        return told

    def held_until(self):
        return [(keeping.until, keeping.number) for keeping in self.keepings if keeping.state == HELD]

    def lapse(self, number):
        numbers = self.end(self.keepings[number])
        return [(self.now, number, "lapsed")] + [(self.now, other, HELD) for other in numbers]

    def free_at(self, show):
        return self.find_show(show).free_places()

    def row_at(self, show):
        return self.find_show(show).numbers_waiting()

    def state_of(self, number):
        keeping = self.find_any(number)
        return (keeping.who, keeping.show, keeping.many, keeping.state, keeping.until)

    def left_standing(self):
        return [(keeping.number,) + self.state_of(keeping.number)
                for keeping in self.keepings if keeping.state != GONE]
