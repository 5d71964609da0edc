"""What a keeping is, and the states that it can be in."""

HELD = "held"
TAKEN = "taken"
WAITING = "waiting"
GONE = "gone"


class Keeping:
    # The span is kept as well: one that waits is held for it only from when it is served.
    def __init__(self, number, who, show, many, span):
        self.number = number
        self.who = who
        self.show = show
        self.many = many
        self.span = span
        self.state = WAITING
        self.until = None

    def hold(self, now):
        self.state = HELD
        self.until = now + self.span

    # What is not held has no time until which it is held, or it would lapse.
    def take(self):
        self.state = TAKEN
        self.until = None

    # The places stay as they were last, as one that is gone may still be asked for.
    def leave(self):
        self.state = GONE
        self.until = None

    def give_back(self, many):
        self.many = self.many - many

    # Until when it is held stays, wherever it goes.
    def move_to(self, show):
        self.show = show

    def pass_to(self, who):
        self.who = who

    def places_kept(self):
        if self.state == HELD or self.state == TAKEN:
            return self.many
        return 0
