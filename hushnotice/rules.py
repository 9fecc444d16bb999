"""Hushed hours of the persons of rules."""

from hushnotice.judge import refuse_bad_moment, refuse_bad_person, refuse_bad_rules

DAY = 24


def is_in_stretch(hour, begin, end):
    """Tell whether an hour is from begin on and ahead of end, over midnight if end is less."""
    if begin < end:
        return begin <= hour < end
    return hour >= begin or hour < end


def hushed_hours(hushed):
    """Tell for each hour of the day whether it lies in one of the stretches."""
    # Stretches may meet or overlap, so an hour is asked about, not counted for each of them.
    return [any([is_in_stretch(hour, begin, end) for begin, end in hushed]) for hour in range(DAY)]


def judged_hours(rules, person):
    """Refuse rules and persons that can't be, and tell the person's hushed_hours."""
    refuse_bad_rules(rules)
    refuse_bad_person(rules, person)
    return hushed_hours(rules[person][0])


def first_free(hours, moment):
    """Tell the first moment from this one on that isn't hushed, None if each is."""
    # Each day is like the one ahead, so one day of moments tells all.
    for later in range(moment, moment + DAY):
        if not hours[later % DAY]:
            return later
    return None


def hushed_ahead_of(hours, moment):
    """Tell how many moments from 0 on and ahead of this one are hushed."""
    return moment // DAY * sum(hours) + sum(hours[:moment % DAY])


def is_hushed(rules, person, moment):
    """Tell whether a person is hushed at a moment."""
    hours = judged_hours(rules, person)
    refuse_bad_moment(moment)
    return hours[moment % DAY]


def free_from(rules, person, moment):
    """Tell the first moment from this one on at which a person isn't hushed, None if it always is."""
    hours = judged_hours(rules, person)
    refuse_bad_moment(moment)
    return first_free(hours, moment)


def hushed_between(rules, person, begin, end):
    """Tell at how many moments from begin on and ahead of end a person is hushed."""
    hours = judged_hours(rules, person)
    refuse_bad_moment(begin)
    refuse_bad_moment(end)
    if end <= begin:
        return 0
    return hushed_ahead_of(hours, end) - hushed_ahead_of(hours, begin)
