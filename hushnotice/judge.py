"""What is handed in is judged here, for all files that take rules."""

from hushnotice.errors import BadBell, BadDevice, BadHears, BadMoment, BadNotices, BadPerson, BadRules

MOST_PERSONS = 6
MANY_PARTS = 5
MOST_STRETCHES = 3
LAST_HOUR = 23
MOST_LEAST = 4
MOST_GATHERED = 4
LAST_KIND = 7
MOST_SPAN = 12
MOST_WAIT = 24
LAST_MOMENT = 1000000
MOST_NOTICES = 30
LAST_RANK = 3
LAST_BORN = 300
MOST_HEARS = 60
LAST_HEAR = 600
MOST_DEVICES = 4

NO_PART = -1


def is_number(x):
    """Tell whether x is a whole number."""
    # True and False would pass as 1 and 0 otherwise.
    return isinstance(x, int) and not isinstance(x, bool)


def is_whole(x, low, high):
    """Tell whether x is a whole number from low to high."""
    return is_number(x) and low <= x <= high


def is_tuple_of(x, many):
    """Tell whether x is a tuple of that many things."""
    return isinstance(x, tuple) and len(x) == many


def is_tuple_up_to(x, most):
    """Tell whether x is a tuple of at most that many things."""
    return isinstance(x, tuple) and len(x) <= most


def is_stretch(x):
    """Tell whether x is (begin, end), two unlike hours of the day."""
    if not is_tuple_of(x, 2):
        return False
    begin, end = x
    return is_whole(begin, 0, LAST_HOUR) and is_whole(end, 0, LAST_HOUR) and begin != end


def can_be_hushed(hushed):
    """Tell whether this can be the part `hushed` of a person."""
    return is_tuple_up_to(hushed, MOST_STRETCHES) and all([is_stretch(x) for x in hushed])


def can_be_gather(gather):
    """Tell whether this can be the part `gather` of a person."""
    if not is_tuple_up_to(gather, MOST_GATHERED):
        return False
    lowest = 0
    for pair in gather:
        if not is_tuple_of(pair, 2):
            return False
        kind, span = pair
        if not is_whole(kind, lowest, LAST_KIND) or not is_whole(span, 1, MOST_SPAN):
            return False
        lowest = kind + 1
    return True


def first_bad_part(row, many):
    """Tell the first part of a person's row that can't be among many persons, None if each can."""
    if not is_tuple_of(row, MANY_PARTS):
        return NO_PART
    hushed, least, gather, wait, further = row
    fits = [
        can_be_hushed(hushed),
        is_whole(least, 0, MOST_LEAST),
        can_be_gather(gather),
        wait is None or is_whole(wait, 1, MOST_WAIT),
        further is None or is_whole(further, 0, many - 1),
    ]
    if all(fits):
        return None
    return fits.index(False)


def refuse_bad_rules(rules):
    """Refuse what can't be rules, by BadRules."""
    if not isinstance(rules, tuple) or len(rules) == 0:
        raise BadRules(0, NO_PART)
    # A seventh is no person, so nothing goes on to it either.
    many = min(len(rules), MOST_PERSONS)
    for person in range(many):
        part = first_bad_part(rules[person], many)
        if part is not None:
            raise BadRules(person, part)
    if len(rules) > MOST_PERSONS:
        raise BadRules(MOST_PERSONS, NO_PART)


def refuse_bad_person(rules, person):
    """Refuse what is no person of rules that were judged ahead, by BadPerson."""
    if not is_whole(person, 0, len(rules) - 1):
        raise BadPerson("no person of these rules")


def refuse_bad_moment(moment, last=LAST_MOMENT):
    """Refuse what is no moment up to the last one, by BadMoment."""
    if not is_whole(moment, 0, last):
        raise BadMoment("no moment")


def can_be_notice(row, many_persons, earliest):
    """Tell whether this can be a notice, born at this moment at the earliest."""
    if not is_tuple_of(row, 4):
        return False
    person, rank, kind, born = row
    fits = [
        is_whole(person, 0, many_persons - 1),
        is_whole(rank, 0, LAST_RANK),
        is_whole(kind, 0, LAST_KIND),
        is_whole(born, earliest, LAST_BORN),
    ]
    return all(fits)


def refuse_bad_notices(rules, notices):
    """Refuse what can't be notices to persons of rules that were judged ahead, by BadNotices."""
    if not isinstance(notices, list):
        raise BadNotices(0)
    earliest = 0
    for number, row in enumerate(notices):
        if number == MOST_NOTICES or not can_be_notice(row, len(rules), earliest):
            raise BadNotices(number)
        earliest = row[3]


def can_be_hear(row, many_persons, many_notices, earliest):
    """Tell whether this can be a hear, at this moment at the earliest."""
    if not is_tuple_of(row, 3):
        return False
    moment, person, notice = row
    fits = [
        is_whole(moment, earliest, LAST_HEAR),
        is_whole(person, 0, many_persons - 1),
        is_whole(notice, 0, many_notices - 1),
    ]
    return all(fits)


def refuse_bad_hears(rules, notices, hears):
    """Refuse what can't be hears of notices that were judged ahead, by BadHears."""
    if not isinstance(hears, (list, tuple)):
        raise BadHears(0)
    earliest = 0
    for number, row in enumerate(hears):
        if number == MOST_HEARS or not can_be_hear(row, len(rules), len(notices), earliest):
            raise BadHears(number)
        earliest = row[0]


def refuse_bad_many(many):
    """Refuse what is no number of devices that a desk can have, by BadDevice."""
    if not is_whole(many, 1, MOST_DEVICES):
        raise BadDevice("no desk has so many devices")


def refuse_bad_device(device, many):
    """Refuse what is none of so many devices, by BadDevice."""
    if not is_whole(device, 0, many - 1):
        raise BadDevice("no such device")


def refuse_bad_bell(bell, many):
    """Refuse what is none of so many bells, by BadBell."""
    if not is_whole(bell, 0, many - 1):
        raise BadBell("no bell of this desk")
