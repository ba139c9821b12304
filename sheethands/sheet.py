"""The interface: a list of calls in, the list of their answers out."""

from sheethands.book import Book
from sheethands.calls import answer_of

SET = 5

# How many numbers stand behind each call's own: of set those ahead of its content, the content's length among them.
LENGTHS = {1: 3, 2: 4, 3: 4, 4: 5, 5: 4, 6: 1, 7: 1, 8: 3, 9: 2, 10: 1, 11: 1, 12: 1}


def answers(calls):
    """What all calls answer on a new sheet: for each how many numbers, then these."""
    return answers_on(Book(), calls)


def answers_on(book, calls):
    """What the calls answer on a book, which they change."""
    answered = []
    at = 0
    while at < len(calls):
        end = end_of_call(calls, at)
        answer = answer_of(book, calls[at], calls[at + 1:end])
        answered.append(len(answer))
        answered.extend(answer)
        at = end
    return answered


def end_of_call(calls, at):
    """Where the call that begins there ends."""
    end = at + 1 + LENGTHS[calls[at]]
    if calls[at] == SET:
        end += calls[end - 1]
    return end
