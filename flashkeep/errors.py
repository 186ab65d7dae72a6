"""The errors of the package, one class for each kind of refusal."""


class FlashError(ValueError):
    """Above every refusal of the package."""


class NoWidth(FlashError):
    """What was handed in as a width is none."""


class NoNumber(FlashError):
    """What was handed in as a number is none that is let there."""


class NoWord(FlashError):
    """What was handed in as a word is none."""


class NoFields(FlashError):
    """What was handed in as a page's fields is none."""


class NoWeather(FlashError):
    """What was handed in as a weather is none."""


class NoBlock(FlashError):
    """What was handed in as a block is none of the flash."""


class NoPage(FlashError):
    """What was handed in as a page is none of the flash."""


class NoPlan(FlashError):
    """What was handed in as a plan is none."""


class NoFlash(FlashError):
    """What was handed in as a flash is none, or none of the plan."""


class NoOrder(FlashError):
    """What was handed in as an order is none."""


class NoOrders(FlashError):
    """What was handed in as the orders of a run is none."""


class NoPlace(FlashError):
    """What was handed in as a place is none of the plan."""


class NoPaper(FlashError):
    """What was handed in as a paper is none of the place."""


class NoText(FlashError):
    """What was handed in as a text is not written as it must be."""


class NoLine(FlashError):
    """What was handed in as a line is none that a desk answers."""


class Off(FlashError):
    """Power is off, or went amid a step."""


class Written(FlashError):
    """The page is not the first blank one of its block."""


class Bad(FlashError):
    """The block has failed."""


class Spoilt(FlashError):
    """The page that is read is spoilt."""


class NoRoom(FlashError):
    """There is no room for the pages of an order."""


class Worn(FlashError):
    """An order that was begun has failed."""


class Over(FlashError):
    """The numbers that pages may have are as good as used up."""
