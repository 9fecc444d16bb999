"""What several tests need."""

from hushnotice import errors

LISTED = (
    errors.BadRules, errors.BadPerson, errors.BadMoment, errors.BadNotices, errors.BadHears,
    errors.BadDevice, errors.BadBell, errors.NotRinging, errors.IsOff, errors.BadText,
)


def person(hushed=(), least=0, gather=(), wait=None, further=None):
    """A person's row; each part that is left out can be."""
    return (hushed, least, gather, wait, further)


def refused(test, kind, call, *args):
    """Check that the call is refused by this kind of error and no other listed one; tell the error."""
    with test.assertRaises(errors.NoticeError) as caught:
        call(*args)
    error = caught.exception
    test.assertIsInstance(error, ValueError)
    test.assertEqual([one for one in LISTED if isinstance(error, one)], [kind])
    return error
