"""Who is told what, and when."""

from hushnotice.course import Course
from hushnotice.judge import (
    refuse_bad_hears, refuse_bad_moment, refuse_bad_notices, refuse_bad_person, refuse_bad_rules,
)

MOST_UNTIL = 600


def judged_course(rules, notices, hears, until):
    """Refuse what can't be walked, and tell the course of the rest, ahead of moment 0."""
    refuse_bad_rules(rules)
    refuse_bad_notices(rules, notices)
    refuse_bad_hears(rules, notices, hears)
    refuse_bad_moment(until, MOST_UNTIL)
    return Course(rules, notices, hears)


def walked(rules, notices, *, hears=(), until=MOST_UNTIL):
    """Tell the rows and fates up to a moment, by going from each moment to the next."""
    course = judged_course(rules, notices, hears, until)
    for moment in range(until + 1):
        course.pass_moment(moment)
    return course.outcome()


def wheeled(rules, notices, *, hears=(), until=MOST_UNTIL):
    """Tell what walked tells, by going from each moment at which something comes to the next."""
    course = judged_course(rules, notices, hears, until)
    # Something may come at moment 0 too.
    moment = course.next_moment(-1)
    while moment is not None and moment <= until:
        course.pass_moment(moment)
        moment = course.next_moment(moment)
    return course.outcome()


def chain(rules, person):
    """Tell the persons to whom a notice goes on from this one, this one first."""
    refuse_bad_rules(rules)
    refuse_bad_person(rules, person)
    persons = []
    while person is not None and person not in persons:
        persons.append(person)
        person = rules[person][4]
    return persons
