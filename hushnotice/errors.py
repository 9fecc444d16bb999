"""All refusals of the program."""


class NoticeError(ValueError):
    """Any refusal."""


class BadRules(NoticeError):
    """Rules that can't be: the first such person, and its first such part."""

    def __init__(self, person, part):
        super().__init__(f"rules can't be: person {person}, part {part}")
        self.person = person
        self.part = part


class BadPerson(NoticeError):
    """No person of the rules."""


class BadMoment(NoticeError):
    """No moment, or none that may be asked for."""


class BadNotices(NoticeError):
    """Notices that can't be: the number of the first such one."""

    def __init__(self, number):
        super().__init__(f"notices can't be: number {number}")
        self.number = number


class BadHears(NoticeError):
    """Hears that can't be: the number of the first such one."""

    def __init__(self, number):
        super().__init__(f"hears can't be: number {number}")
        self.number = number


class BadDevice(NoticeError):
    """No device, or too many of them."""


class BadBell(NoticeError):
    """No bell of the desk."""


class NotRinging(NoticeError):
    """A bell that doesn't ring at the device."""


class IsOff(NoticeError):
    """The device is off."""


class BadText(NoticeError):
    """A text that can't be read: its first such row."""

    def __init__(self, row):
        super().__init__(f"text can't be read: row {row}")
        self.row = row
