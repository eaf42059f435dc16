"""Some of a web's names or strikes, picked in each way there is."""


def wider_lots(names, lot):
    """The list of the lots of the names that have each name of a lot."""
    found = [()]
    for name in names:
        longer = [(*some, name) for some in found]
        found = longer if name in lot else found + longer
    return found


def picks(spots, many):
    """The rising list of the rising tuples of so many of a rising list of spots."""
    found = [()]
    while many > 0:
        found = [(*pick, spot) for pick in found for spot in spots if not pick or pick[-1] < spot]
        many -= 1
    return found
