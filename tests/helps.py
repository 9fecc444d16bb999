"""What several tests need."""

import copy

from hushnotice import errors
from hushnotice.walk import walked, wheeled

LISTED = (
    errors.BadRules, errors.BadPerson, errors.BadMoment, errors.BadNotices, errors.BadHears,
    errors.BadDevice, errors.BadBell, errors.NotRinging, errors.IsOff, errors.BadText,
)


def person(hushed=(), least=0, gather=(), wait=None, further=None):
    """A person's row; each part that is left out can be."""
    return (hushed, least, gather, wait, further)


def refused(test, kind, call, *args, **more):
    """Check that the call is refused by this kind of error and no other listed one; tell the error."""
    with test.assertRaises(errors.NoticeError) as caught:
        call(*args, **more)
    error = caught.exception
    test.assertIsInstance(error, ValueError)
    test.assertEqual([one for one in LISTED if isinstance(error, one)], [kind])
    return error


def check_walk(test, rules, notices, rows, fates, **more):
    """Check what walked and wheeled tell, and that they leave what is handed in as it is."""
    handed = (rules, notices, more)
    before = copy.deepcopy(handed)
    for call in (walked, wheeled):
        with test.subTest(call=call.__name__):
            test.assertEqual(call(rules, notices, **more), (rows, fates))
            test.assertEqual(handed, before)


def drawn_hushed(chance):
    """Hushed hours: none, some, or each of the day."""
    if chance.random() < 0.1:
        hour = chance.randrange(24)
        return ((hour, (hour + 9) % 24), ((hour + 9) % 24, hour))
    return tuple(tuple(chance.sample(range(24), 2)) for _ in range(chance.randint(0, 3)))


def drawn_gather(chance):
    kinds = sorted(chance.sample(range(8), chance.randint(0, 4)))
    return tuple((kind, chance.randint(1, 12)) for kind in kinds)


def drawn_rules(chance):
    many = chance.randint(1, 6)
    return tuple(
        person(
            drawn_hushed(chance), chance.randint(0, 4), drawn_gather(chance),
            chance.choice((None, 1, 2, 3, 5, 12, 24)),
            chance.choice((None, *range(many), (one + 1) % many, (one + 1) % many)),
        )
        for one in range(many)
    )


def drawn_notices(chance, many_persons):
    last = chance.choice((0, 5, 30, 100, 300))
    births = sorted(chance.randint(0, last) for _ in range(chance.choice((0, 1, 3, 8, 30))))
    return [
        (chance.randrange(many_persons), chance.choice((0, 0, 0, 1, 1, 2, 3)), chance.randrange(8), born)
        for born in births
    ]


def drawn_hears(chance, rules, notices):
    """Hears, most of them near to where they may count."""
    if not notices:
        return []
    told = [(at, one, number) for at, one, numbers in walked(rules, notices)[0] for number in numbers]
    hears = []
    for _ in range(chance.choice((0, 2, 10, 60))):
        at, one, number = chance.choice(told) if told else (0, 0, 0)
        if chance.random() < 0.2:
            one, number = chance.randrange(len(rules)), chance.randrange(len(notices))
        hears.append((min(600, max(0, at + chance.choice((-1, 0, 1, 1, 2, 3, 6, 12, 30)))), one, number))
    return sorted(hears, key=lambda hear: hear[0])
