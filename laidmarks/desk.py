"""A desk: lines that are told it, and its answers out of a book."""

from laidmarks.book import Book
from laidmarks.errors import NoLine, NoText
from laidmarks.texts import cell_text, channel_text, columns_text, notice_in, number_in, rows_text
from laidmarks.ways import bar_of, least_way

OK = "ok"
NONE = "none"


def answer_to_tell(book, text):
    """Take in the notice that a text writes."""
    notice = notice_in(book.sea, text)
    if notice is None:
        raise NoText(1)
    book.take_in(notice)
    return OK


def answer_to_strike(book, numbers):
    """Strike a notice."""
    book.strike(numbers[0])
    return OK


def answer_to_undo(book, numbers):
    """Undo the last deed; there are no numbers."""
    book.undo()
    return OK


def answer_to_void(book, numbers):
    """The numbers of the void notices."""
    return " ".join([str(number) for number in book.void_now(numbers[0])]) or NONE


def answer_to_mark(book, numbers):
    """Where a mark is."""
    mark, held, day = numbers
    place = book.mark_now(held, day, mark)
    if place[0] == "ashore":
        return "ashore"
    cells = place[1] if place[0] == "adrift" else (place[1],)
    return " ".join([place[0]] + [cell_text(cell) for cell in cells])


def channel_asked(book, numbers, night):
    """The channel of a draught, a held number and a day."""
    draught, held, day = numbers
    return book.channel_now(held, day, draught, night)


def answer_to_channel(book, numbers):
    """The text of the channel by day."""
    return channel_text(channel_asked(book, numbers, False))


def answer_to_dark(book, numbers):
    """The text of the channel by night."""
    return channel_text(channel_asked(book, numbers, True))


def answer_to_way(book, numbers):
    """The rows of the least way by day."""
    way = least_way(channel_asked(book, numbers, False))
    return NONE if way is None else rows_text(way)


def answer_to_bar(book, numbers):
    """The text of the bar by day."""
    bar = bar_of(channel_asked(book, numbers, False))
    return NONE if bar is None else columns_text(bar)


# How many numbers stand behind each word.
MANY_NUMBERS = {"strike": 1, "undo": 0, "void": 1, "mark": 3, "channel": 3, "dark": 3, "way": 3, "bar": 3}
ANSWERS = {
    "strike": answer_to_strike,
    "undo": answer_to_undo,
    "void": answer_to_void,
    "mark": answer_to_mark,
    "channel": answer_to_channel,
    "dark": answer_to_dark,
    "way": answer_to_way,
    "bar": answer_to_bar,
}


def answer_to_numbers(book, words):
    """The answer to a line's word with numbers behind it."""
    word = words[0]
    numbers = [number_in(figures) for figures in words[1:]]
    if word not in MANY_NUMBERS or len(numbers) != MANY_NUMBERS[word] or None in numbers:
        raise NoLine("this is no line that a desk knows")
    answer = ANSWERS[word]
    return answer(book, numbers)


class Desk:
    """A desk that keeps a book for a sea."""

    def __init__(self, sea):
        self.book = Book(sea)

    def say(self, line):
        """The answer to a line; NoLine, NoText, and the book's refusals."""
        if not isinstance(line, str):
            raise NoLine("this is no text")
        word, blank, text = line.partition(" ")
        if word == "tell" and blank:
            return answer_to_tell(self.book, text)
        return answer_to_numbers(self.book, line.split(" "))
