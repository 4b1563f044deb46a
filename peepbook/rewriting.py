"""Calls handed in as one list of whole numbers, and their answers given back as another."""

from peepbook.refusals import Refusal
from peepbook.session import Session


class Reader:
    """Takes numbers and rows from a list, one behind another."""

    def __init__(self, numbers):
        self.numbers = numbers
        self.place = 0

    def has_more(self):
        """Whether something is left."""
        return self.place < len(self.numbers)

    def take_number(self):
        """The number that comes now."""
        number = self.numbers[self.place]
        self.place += 1
        return number

    def take_row(self):
        """The row that comes now, which has its length before it."""
        length = self.take_number()
        row = self.numbers[self.place:self.place + length]
        self.place += length
        return row


def answer_load(session, reader):
    """Call 0."""
    return session.load(reader.take_row())


def answer_code(session, reader):
    """Call 1, which has nothing to read."""
    return session.code()


def answer_put(session, reader):
    """Call 2."""
    place = reader.take_number()
    return session.put(place, reader.take_row())


def answer_cut(session, reader):
    """Call 3."""
    return session.cut(reader.take_number())


def answer_judge(session, reader):
    """Call 4."""
    return session.judge(reader.take_row())


def answer_rule(session, reader):
    """Call 5."""
    return session.rule(reader.take_row())


def answer_drop(session, reader):
    """Call 6."""
    return session.drop(reader.take_number())


def answer_say(session, reader):
    """Call 7."""
    return session.say(reader.take_number())


def answer_fits(session, reader):
    """Call 8."""
    number = reader.take_number()
    return session.fits(number, reader.take_number())


def answer_at(session, reader):
    """Call 9."""
    number = reader.take_number()
    return session.at(number, reader.take_number())


def answer_step(session, reader):
    """Call 10, which has nothing to read."""
    return session.step()


def answer_run(session, reader):
    """Call 11, which has nothing to read."""
    return session.run()


def answer_trail(session, reader):
    """Call 12, which has nothing to read."""
    return session.trail()


def answer_eval(session, reader):
    """Call 13."""
    return session.reckon(reader.take_row())


def answer_form(session, reader):
    """Call 14."""
    return session.form(reader.take_number())


def answer_same(session, reader):
    """Call 15."""
    return session.same(reader.take_row())


def answer_state(session, reader):
    """Call 16, which has nothing to read."""
    return session.state()


def answer_undo(session, reader):
    """Call 17, which has nothing to read."""
    return session.undo()


def answer_redo(session, reader):
    """Call 18, which has nothing to read."""
    return session.redo()


# The place of each is the number of its call.
CALLS = (
    answer_load,
    answer_code,
    answer_put,
    answer_cut,
    answer_judge,
    answer_rule,
    answer_drop,
    answer_say,
    answer_fits,
    answer_at,
    answer_step,
    answer_run,
    answer_trail,
    answer_eval,
    answer_form,
    answer_same,
    answer_state,
    answer_undo,
    answer_redo,
)


def next_answer(session, reader):
    """The answer of the call that comes now, be it a refusal."""
    answer_call = CALLS[reader.take_number()]
    try:
        return answer_call(session, reader)
    except Refusal as refusal:
        return refusal.answer


def answers(calls):
    """Of each call, in order, how many numbers are answered, and these."""
    session = Session()
    reader = Reader(calls)
    told = []
    while reader.has_more():
        answer = next_answer(session, reader)
        told.append(len(answer))
        told.extend(answer)
    return told
