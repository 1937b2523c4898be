"""Things that hang together, numbered by the least of each group."""


def group_numbers(how_many, links):
    """For each of so many things the number of its group.

    Things hang together by links, pairs of them, or by others; groups are
    numbered from 0 by their least things.
    """
    beside = [[] for thing in range(how_many)]
    for link in links:
        beside[link[0]].append(link[1])
        beside[link[1]].append(link[0])
    numbers = [-1] * how_many
    found = 0
    for thing in range(how_many):
        if numbers[thing] < 0:
            spread(thing, found, beside, numbers)
            found += 1
    return numbers


def spread(first, number, beside, numbers):
    """Give a group's number to its first thing and to all that hang together with it."""
    numbers[first] = number
    waiting = [first]
    while len(waiting) > 0:
        thing = waiting.pop()
        for other in beside[thing]:
            if numbers[other] < 0:
                numbers[other] = number
                waiting.append(other)


def group_count(numbers):
    """How many groups there are, by the numbers that things have."""
    return max(numbers, default=-1) + 1
