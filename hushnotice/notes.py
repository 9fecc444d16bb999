"""Rules and notices as texts."""

from hushnotice.errors import BadText
from hushnotice.judge import refuse_bad_notices, refuse_bad_rules

PERSON = "person"
HUSH = "hush"
GATHER = "gather"
NOTICE = "notice"

NONE = "-"
FIGURES = "0123456789"
MOST_FIGURES = 3

# For each number of a row, whether there may be none.
FORMS = {
    PERSON: (False, True, True),
    HUSH: (False, False),
    GATHER: (False, False),
    NOTICE: (False, False, False, False),
}
# The rows behind which one may stand at once; at the text's begin there is none.
BEHIND = {
    PERSON: (None, PERSON, HUSH, GATHER),
    HUSH: (PERSON, HUSH),
    GATHER: (PERSON, HUSH, GATHER),
    NOTICE: (PERSON, HUSH, GATHER, NOTICE),
}


def row_of(name, numbers):
    """Tell the row with this name and these numbers."""
    return " ".join([name, *[NONE if x is None else str(x) for x in numbers]])


def written(rules, notices):
    """Tell the text of rules and notices."""
    refuse_bad_rules(rules)
    refuse_bad_notices(rules, notices)
    rows = []
    for hushed, least, gather, wait, further in rules:
        rows.append(row_of(PERSON, (least, wait, further)))
        rows.extend([row_of(HUSH, stretch) for stretch in hushed])
        rows.extend([row_of(GATHER, pair) for pair in gather])
    rows.extend([row_of(NOTICE, notice) for notice in notices])
    return "\n".join(rows)


def is_written_number(word):
    """Tell whether a word is a number of one to three figures, none of them needless."""
    if not 1 <= len(word) <= MOST_FIGURES or not all([sign in FIGURES for sign in word]):
        return False
    return len(word) == 1 or word[0] != "0"


def is_row(words):
    """Tell whether these words are those of a row."""
    name, *rest = words
    if name not in FORMS or len(rest) != len(FORMS[name]):
        return False
    return all([
        is_written_number(word) or (may_be_none and word == NONE)
        for word, may_be_none in zip(rest, FORMS[name])
    ])


def judged_rows(text):
    """Refuse a text of other rows, or in another turn, by BadText; tell each row's name and numbers."""
    rows = []
    last = None
    for at, line in enumerate(text.split("\n")):
        words = line.split(" ")
        if not is_row(words) or last not in BEHIND[words[0]]:
            raise BadText(at)
        last, *rest = words
        rows.append((last, tuple([None if word == NONE else int(word) for word in rest])))
    return rows


def read_rules(rows):
    """Tell the rules that these rows tell."""
    persons = []
    for name, numbers in rows:
        if name == PERSON:
            persons.append((numbers, [], []))
        elif name == HUSH:
            persons[-1][1].append(numbers)
        elif name == GATHER:
            persons[-1][2].append(numbers)
    return tuple([
        (tuple(hushed), least, tuple(gather), wait, further)
        for (least, wait, further), hushed, gather in persons
    ])


def read(text):
    """Tell the rules and notices of a text."""
    rows = judged_rows(text)
    rules = read_rules(rows)
    notices = [numbers for name, numbers in rows if name == NOTICE]
    refuse_bad_rules(rules)
    refuse_bad_notices(rules, notices)
    return rules, notices
