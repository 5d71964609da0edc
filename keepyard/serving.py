"""Who is served of a row, and who lapses first."""


def served(free, wanted):
    count = 0
    left = free
    for want in wanted:
        # Nobody is served ahead of one who stands ahead, so the first without room ends it.
        if want > left:
            break
        left = left - want
        count = count + 1
    return count


def next_lapse(held, time):
    # The time stands first in each tuple, so the least tuple is the earliest, and of one time the least number.
    return min([pair for pair in held if pair[0] <= time], default=None)
