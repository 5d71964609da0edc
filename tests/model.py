"""A second, slow way to the answers, to hold the program against: the time goes on by ones, and everything is
looked up anew in one list of dicts. It asks for the refusals in the very order of point [7]."""


class Model:
    def __init__(self, rooms):
        self.rooms = rooms
        self.time = 0
        self.kept = []
        self.rows = [[] for room in rooms]

    def free(self, show):
        return self.rooms[show] - sum(
            one["many"] for one in self.kept if one["show"] == show and one["state"] in ("held", "taken")
        )

    def refusal(self, name, number=None, show=None, many=None, span=None, time=None):
        one = None
        if number is not None:
            if number not in range(len(self.kept)):
                return "no keeping"
            one = self.kept[number]
            if one["state"] == "gone" and name != "state":
                return "no keeping"
        if show is not None and show not in range(len(self.rooms)):
            return "no show"
        if many is not None and many <= 0:
            return "no places"
        if name == "keep" and many > self.rooms[show] or name == "part" and many >= one["many"]:
            return "too many"
        if span is not None and span <= 0:
            return "no span"
        if name == "take" and one["state"] != "held" or name == "move" and one["state"] == "waiting":
            return "not held"
        if name == "move" and one["show"] == show:
            return "same show"
        if name == "move" and (self.rows[show] or self.free(show) < one["many"]):
            return "full"
        if time is not None and time < self.time:
            return "too early"
        return None

    def serve(self, show):
        out = []
        while self.rows[show] and self.kept[self.rows[show][0]]["many"] <= self.free(show):
            number = self.rows[show].pop(0)
            one = self.kept[number]
            one["state"] = "held"
            one["until"] = self.time + one["span"]
            out.append(number)
        return out

    def drop(self, number):
        one = self.kept[number]
        if one["state"] == "waiting":
            self.rows[one["show"]].remove(number)
        one["state"] = "gone"
        one["until"] = None
        return self.serve(one["show"])

    def tick(self):
        self.time += 1
        out = []
        for number, one in enumerate(self.kept):
            if one["until"] == self.time:
                out.append((self.time, number, "lapsed"))
                for other in self.drop(number):
                    out.append((self.time, other, "held"))
        return out

    def keep(self, who, show, many, span):
        number = len(self.kept)
        held = not self.rows[show] and many <= self.free(show)
        self.kept.append({
            "who": who, "show": show, "many": many, "span": span,
            "state": "held" if held else "waiting", "until": self.time + span if held else None,
        })
        if not held:
            self.rows[show].append(number)
        return (number, self.kept[number]["state"])

    def change(self, name, number, rest):
        one = self.kept[number]
        show = one["show"]
        if name == "take":
            one["state"] = "taken"
            one["until"] = None
            return "taken"
        if name == "pass":
            one["who"] = rest[0]
            return "passed"
        if name == "back":
            return self.drop(number)
        if name == "part":
            one["many"] -= rest[0]
            return self.serve(show)
        one["show"] = rest[0]
        return self.serve(show)

    def told(self, number):
        one = self.kept[number]
        return (one["who"], one["show"], one["many"], one["state"], one["until"])

    def do(self, deed):
        name, rest = deed[0], deed[1:]
        named = {
            "keep": (None, "show", "many", "span"), "take": ("number",), "back": ("number",),
            "part": ("number", "many"), "move": ("number", "show"), "pass": ("number", None),
            "clock": ("time",), "free": ("show",), "row": ("show",), "state": ("number",),
        }[name]
        text = self.refusal(name, **{key: value for key, value in zip(named, rest) if key})
        if text:
            return text
        if name == "keep":
            return self.keep(*rest)
        if name == "clock":
            out = []
            while self.time < rest[0]:
                out += self.tick()
            return out
        if name == "free":
            return self.free(rest[0])
        if name == "row":
            return list(self.rows[rest[0]])
        if name == "state":
            return self.told(rest[0])
        return self.change(name, rest[0], rest[1:])

    def standing(self):
        return [
            (number,) + self.told(number) for number, one in enumerate(self.kept) if one["state"] != "gone"
        ]
