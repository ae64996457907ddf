"""A book: notices of a sea that are taken in, struck and undone, and what they tell."""

from laidmarks.channels import channel_of
from laidmarks.errors import NoNotices, NoNumber, Nothing, There, TooMany, Unlike
from laidmarks.marks import mark_at, void
from laidmarks.notices import MOST_NOTICES, is_notice, is_number
from laidmarks.seas import check_sea


def numbers_of(notices):
    """The numbers of notices."""
    return [notice[0] for notice in notices]


class Book:
    """The notices that are kept for a sea.

    states has what was kept at first and behind each deed that stands, each a rising tuple; the last is kept now.
    """

    def __init__(self, sea):
        check_sea(sea)
        self.sea = sea
        self.states = [()]

    def take_in(self, notice):
        """Keep a notice; NoNotices, There, Unlike, TooMany."""
        kept = self.states[-1]
        if not is_notice(self.sea, notice):
            raise NoNotices("this is no notice of the sea")
        if notice in kept:
            raise There("this notice is kept already")
        if notice[0] in numbers_of(kept):
            raise Unlike(notice[0])
        if len(kept) == MOST_NOTICES:
            raise TooMany(MOST_NOTICES + 1, MOST_NOTICES)
        self.states.append(tuple(sorted(kept + (notice,))))

    def strike(self, number):
        """Keep the notice with this number no more; NoNumber."""
        kept = self.states[-1]
        if not is_number(number) or number not in numbers_of(kept):
            raise NoNumber("no notice with this number is kept")
        self.states.append(tuple([notice for notice in kept if notice[0] != number]))

    def undo(self):
        """Undo the last taking in or striking that stands; Nothing."""
        if len(self.states) == 1:
            raise Nothing("there is nothing to undo")
        self.states.pop()

    def notices_now(self):
        """The rising list of the notices that are kept."""
        return list(self.states[-1])

    def mark_now(self, held, day, mark):
        """Where a mark is on a day; NoNumber, NoDay, NoMark."""
        return mark_at(self.sea, self.notices_now(), held, day, mark)

    def channel_now(self, held, day, draught, night):
        """The channel of a draught; NoNumber, NoDay, NoDraught."""
        return channel_of(self.sea, self.notices_now(), held, day, draught, night)

    def void_now(self, held):
        """The rising list of the numbers of the void notices; NoNumber."""
        return void(self.sea, self.notices_now(), held)
