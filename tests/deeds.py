"""What several tests share: deeds that ask for everything, and deeds drawn by a fixed seed."""

import random

from keepyard.day import answers, standing

FAR = 10 ** 60


def keep(show=0, many=1, span=5, who="ann"):
    return ("keep", who, show, many, span)


def last(rooms, deeds):
    return answers(rooms, deeds)[-1]


def numbers_given(rooms, deeds):
    """How many keepings there are behind the deeds."""
    return sum(1 for deed, told in zip(deeds, answers(rooms, deeds)) if deed[0] == "keep" and type(told) is tuple)


def everything(rooms, deeds):
    """All that can be asked for behind the deeds: what stands, each keeping, free and row of each show, and what
    the time still brings, which tells spans, rows and the time as well."""
    asked = [("state", number) for number in range(numbers_given(rooms, deeds) + 1)]
    for show in range(len(rooms)):
        asked += [("free", show), ("row", show)]
    now = 0
    for deed, told in zip(deeds, answers(rooms, deeds)):
        if deed[0] == "clock" and told != "too early":
            now = deed[1]
    asked += [("clock", now - 1), ("clock", now), ("clock", FAR)]
    return standing(rooms, deeds), answers(rooms, deeds + asked)[len(deeds):]


def drawn(seed):
    """Rooms and deeds that meet every refusal now and then, but mostly do something."""
    chance = random.Random(seed)
    rooms = [chance.randint(0, 7) for show in range(chance.choice([0, 1, 2, 2, 2, 2, 3, 3, 3, 4]))]
    deeds = []
    now = 0
    for step in range(chance.randint(0, 50)):
        name = chance.choice("keep keep keep keep keep take back part part move move pass clock free row state".split())
        show = mostly(chance, 0, len(rooms) - 1)
        if name == "keep":
            room = rooms[show] if show in range(len(rooms)) else 1
            many = chance.choice([1, 2, room, mostly(chance, 1, room)])
            deeds.append((name, "p%d" % step, show, many, mostly(chance, 1, 12)))
        elif name == "clock":
            time = mostly(chance, now, now + 4)
            now = max(now, time)
            deeds.append((name, time))
        elif name in ("free", "row"):
            deeds.append((name, show))
        else:
            rest = {"part": (mostly(chance, 1, 4),), "move": (show,), "pass": ("q%d" % step,)}.get(name, ())
            deeds.append((name, drawn_number(chance, rooms, deeds)) + rest)
    return rooms, deeds


def drawn_number(chance, rooms, deeds):
    stand = [one[0] for one in standing(rooms, deeds)]
    if stand and chance.random() < 0.8:
        return chance.choice(stand)
    return mostly(chance, 0, numbers_given(rooms, deeds) - 1)


def mostly(chance, least, most):
    if most < least or chance.random() < 0.05:
        return chance.choice([least - 1, most + 1])
    return chance.randint(least, most)
