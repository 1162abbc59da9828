"""What pulls need to be alike, and how far off they are."""


def units_needed(pulls, unit):
    """How many whole units each pull is behind the greatest."""
    greatest = max(pulls)
    return [(greatest - pull) // unit for pull in pulls]


def shortfall(pulls):
    """What the pulls are behind the greatest, all together."""
    greatest = max(pulls)
    return sum([greatest - pull for pull in pulls])


def how_far_off(pulls):
    """How far off three pulls are: 0 just if they are alike."""
    a = pulls[0]
    b = pulls[1]
    c = pulls[2]
    return a * a + b * b + c * c - a * b - b * c - c * a
