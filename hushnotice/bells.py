"""Bells: a desk offers them, and each rings at one of its devices at the most, once."""

from hushnotice.errors import IsOff, NotRinging
from hushnotice.judge import (
    MOST_DEVICES, is_number, refuse_bad_bell, refuse_bad_device, refuse_bad_many,
)

# What a bell is at the desk.
OPEN = "open"
GRANTED = "granted"
TAKEN = "taken"
WITHDRAWN = "withdrawn"

# What a bell is at a device that knows it.
WANTED = "wanted"
RINGING = "ringing"
TO_BE_NOTED = "to be noted"
OVER = "over"

# A letter is (word, device, bell), whichever of both it comes from. Those of a desk:
OFFER = "offer"
GRANT = "grant"
GONE = "gone"
NOTED = "noted"
# Those of a device:
WANT = "want"
TOOK = "took"


def word_to(device, state, owner):
    """Tell the word by which a desk tells a device of a bell that is in this state."""
    if state == OPEN:
        return OFFER
    if owner != device or state == WITHDRAWN:
        return GONE
    if state == GRANTED:
        return GRANT
    return NOTED


class Desk:
    """What offers bells to its devices, and grants each bell to one at the most.

    All letters tell how a bell is by now, and are told as long as that holds:
    so it does no harm if one of them is lost, comes late, or again.
    """

    def __init__(self, many):
        refuse_bad_many(many)
        self._many = many
        # The state of each bell, and the device to which it was granted.
        self._bells = []

    def offer(self):
        """Begin a bell, and tell its number."""
        self._bells.append((OPEN, None))
        return len(self._bells) - 1

    def withdraw(self, bell):
        """End a bell that wasn't taken; tell the device to which it was granted, or None."""
        refuse_bad_bell(bell, len(self._bells))
        state, owner = self._bells[bell]
        if state != TAKEN:
            self._bells[bell] = (WITHDRAWN, owner)
        return owner

    def letters(self, device):
        """Tell what a device is to be told now."""
        refuse_bad_device(device, self._many)
        return [
            (word_to(device, state, owner), device, bell)
            for bell, (state, owner) in enumerate(self._bells)
        ]

    def hear(self, letter):
        """Hear a letter of one of the devices."""
        word, device, bell = letter
        state, _ = self._bells[bell]
        if word == WANT and state == OPEN:
            self._bells[bell] = (GRANTED, device)
        # It was granted to that device, and taken there, even if it was withdrawn meanwhile.
        elif word == TOOK:
            self._bells[bell] = (TAKEN, device)

    def state(self, bell):
        """Tell how a bell is by now, and the device to which it was granted."""
        refuse_bad_bell(bell, len(self._bells))
        state, owner = self._bells[bell]
        if state == OPEN:
            return (OPEN,)
        return (state, owner)


class Device:
    """What wants the bells it is offered, and rings those it is granted, each once."""

    def __init__(self, number):
        refuse_bad_device(number, MOST_DEVICES)
        self._number = number
        self._on = True
        # What each bell is of which it was told; one that is over stays known, lest it ring again.
        self._bells = {}
        self._rung = []

    def turn(self, *, on):
        """Put the device on or off."""
        self._on = on

    def hear(self, letter):
        """Hear a letter of the desk; nothing is heard while the device is off."""
        word, device, bell = letter
        if not self._on or device != self._number:
            return
        state = self._bells.get(bell)
        if word == OFFER and state is None:
            self._bells[bell] = WANTED
        elif word == GRANT and state in (None, WANTED):
            self._bells[bell] = RINGING
            self._rung.append(bell)
        # That one was withdrawn doesn't tell that its taking is known.
        elif word == GONE and state != TO_BE_NOTED:
            self._bells[bell] = OVER
        elif word == NOTED:
            self._bells[bell] = OVER

    def take(self, bell):
        """Take a bell that rings."""
        if not self._on:
            raise IsOff("the device is off")
        if not is_number(bell) or self._bells.get(bell) != RINGING:
            raise NotRinging("the bell doesn't ring here")
        self._bells[bell] = TO_BE_NOTED

    def letters(self):
        """Tell what the desk is to be told now: nothing while the device is off."""
        if not self._on:
            return []
        wanted = [(WANT, self._number, bell) for bell in self._among(WANTED)]
        return wanted + [(TOOK, self._number, bell) for bell in self._among(TO_BE_NOTED)]

    def rings(self):
        """Tell the bells that ring now, rising."""
        return self._among(RINGING)

    def rang(self):
        """Tell the bells that ever rang, in turn."""
        return list(self._rung)

    def _among(self, state):
        """Tell the bells that are in this state, rising."""
        return [bell for bell in sorted(self._bells) if self._bells[bell] == state]
