"""Notices on their way: what comes at a moment, and when something comes next."""

from hushnotice.judge import LAST_RANK
from hushnotice.rules import DAY, first_free, hushed_hours


class Person:
    """A person's part of the rules, as it is asked for on the way."""

    def __init__(self, row):
        hushed, self.least, gather, self.wait, self.further = row
        self.hours = hushed_hours(hushed)
        self.spans = dict(gather)

    def lets_by(self, rank, moment):
        """Tell whether what has this greatest rank may be told at a moment."""
        return not self.hours[moment % DAY] or rank >= self.least


class Notice:
    """A notice, and what became of it so far."""

    def __init__(self, number, row):
        self.number = number
        self.first, self.rank, self.kind, self.born = row
        self.went = []
        self.told = []
        self.goes_on = None
        self.heard = None
        self.given_up = False

    def fate(self):
        """Tell the notice's fate as walked tells it."""
        if self.heard is not None:
            person, moment = self.heard
            return ("heard", person, moment)
        if self.given_up:
            return ("given up",)
        if not self.went:
            return ("unborn",)
        return ("open", self.went[-1])


class Course:
    """All notices on their way, up to the moment that was passed last."""

    def __init__(self, rules, notices, hears):
        self.persons = [Person(row) for row in rules]
        self.notices = [Notice(number, row) for number, row in enumerate(notices)]
        self.hears = hears
        # The end of a heap and its notices, by person and kind.
        self.heaps = {}
        # Each a person and the notices that are told to it together.
        self.ready = []
        self.rows = []

    def pass_moment(self, moment):
        """Do all that comes at a moment, in its turn."""
        self.take_hears(moment)
        self.shut_heaps(moment)
        for notice in self.notices:
            if notice.goes_on == moment:
                self.send_on(notice, moment)
        for notice in self.notices:
            if notice.born == moment:
                self.bring(notice, notice.first, moment)
        self.tell_ready(moment)

    def take_hears(self, moment):
        """Let the hears of a moment count, if they do."""
        for when, person, number in self.hears:
            notice = self.notices[number]
            # What is told at this moment is told behind its hears, so all of told is earlier.
            if when == moment and person in notice.told and notice.heard is None:
                notice.heard = (person, moment)
                notice.goes_on = None

    def shut_heaps(self, moment):
        """Make the notices of each heap ready that is to be shut at a moment."""
        for key in list(self.heaps):
            end, notices = self.heaps[key]
            if end == moment:
                del self.heaps[key]
                self.ready.append((key[0], notices))

    def send_on(self, notice, moment):
        """Bring a notice to the further person, or give it up."""
        notice.goes_on = None
        further = self.persons[notice.went[-1]].further
        if further is None or further in notice.went:
            notice.given_up = True
            return
        notice.rank = min(notice.rank + 1, LAST_RANK)
        self.bring(notice, further, moment)

    def bring(self, notice, person, moment):
        """Let a notice come to a person: ready at once, or into a heap."""
        notice.went.append(person)
        span = self.persons[person].spans.get(notice.kind)
        if span is None or notice.rank == LAST_RANK:
            self.ready.append((person, [notice]))
            return
        key = (person, notice.kind)
        if key not in self.heaps:
            self.heaps[key] = (moment + span, [])
        self.heaps[key][1].append(notice)

    def tell_ready(self, moment):
        """Tell what is ready and let by; the rest stays ready, without what was heard."""
        staying = []
        for person, notices in self.ready:
            left = [notice for notice in notices if notice.heard is None]
            if not left:
                continue
            if self.persons[person].lets_by(max([notice.rank for notice in left]), moment):
                self.tell(left, person, moment)
            else:
                staying.append((person, left))
        self.ready = staying

    def tell(self, notices, person, moment):
        """Tell a person these notices, together."""
        numbers = sorted([notice.number for notice in notices])
        self.rows.append((moment, person, tuple(numbers)))
        wait = self.persons[person].wait
        for notice in notices:
            notice.told.append(person)
            if wait is not None:
                notice.goes_on = moment + wait

    def next_moment(self, moment):
        """Tell the first moment behind this one at which something comes, None if nothing does."""
        comes = [notice.born for notice in self.notices]
        comes.extend([row[0] for row in self.hears])
        comes.extend([end for end, _ in self.heaps.values()])
        comes.extend([notice.goes_on for notice in self.notices if notice.goes_on is not None])
        # What stays ready isn't let by in hushed hours, this one too, so it waits for a free one.
        free = [first_free(self.persons[person].hours, moment) for person, _ in self.ready]
        comes.extend([when for when in free if when is not None])
        return min([when for when in comes if when > moment], default=None)

    def outcome(self):
        """Tell the rows and fates, as walked tells them."""
        return sorted(self.rows), [notice.fate() for notice in self.notices]
