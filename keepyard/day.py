"""A day: deeds done one by one in a yard, what they are answered with, and what stands behind them."""

from keepyard.errors import Refusal
from keepyard.yard import Yard


def do_deed(yard, deed):
    name = deed[0]
    if name == "keep":
        return yard.keep(deed[1], deed[2], deed[3], deed[4])
    if name == "take":
        return yard.take(deed[1])
    if name == "back":
        return yard.back(deed[1])
    if name == "part":
        return yard.part(deed[1], deed[2])
    if name == "move":
        return yard.move(deed[1], deed[2])
    if name == "pass":
        return yard.pass_on(deed[1], deed[2])
    if name == "clock":
        return yard.clock(deed[1])
    return ask(yard, name, deed[1])


def ask(yard, name, number):
    if name == "free":
        return yard.free_at(number)
    if name == "row":
        return yard.row_at(number)
    return yard.state_of(number)


def answer(yard, deed):
    try:
        return do_deed(yard, deed)
    except Refusal as refusal:
        return refusal.text


def answers(rooms, deeds):
    yard = Yard(rooms)
    told = []
    for deed in deeds:
        told.append(answer(yard, deed))
    return told


def standing(rooms, deeds):
    yard = Yard(rooms)
    for deed in deeds:
        answer(yard, deed)
    return yard.left_standing()
