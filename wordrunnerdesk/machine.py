"""Answering a list of calls on one new processor."""

from wordrunnerdesk.processor import Processor
from wordrunnerdesk.reader import CallReader
from wordrunnerdesk.runner import interrupt, run

CLEAR = 1
LOAD = 2
LOOK = 3
SET = 4
GET = 5
RUN = 6
INTERRUPT = 7


class UnknownCall(ValueError):
    """A number that no call has."""


def answer_call(processor, reader):
    """What the reader's next call answers, as a list."""
    kind = reader.take()
    if kind == CLEAR:
        return [processor.wipe()]
    if kind == LOAD:
        at = reader.take()
        return [processor.load(at, reader.take_row())]
    if kind == LOOK:
        at = reader.take()
        return processor.look(at, reader.take())
    if kind == SET:
        which = reader.take()
        return [processor.put(which, reader.take())]
    if kind == GET:
        return [processor.held(reader.take())]
    if kind == RUN:
        return [run(processor, reader.take())]
    if kind == INTERRUPT:
        return [interrupt(processor, reader.take())]
    raise UnknownCall(f"no call has the number {kind}")


def answers(calls):
    """For each call, in order: how many numbers are answered, and then these."""
    processor = Processor()
    reader = CallReader(calls)
    given = []
    while reader.has_more():
        answer = answer_call(processor, reader)
        given.append(len(answer))
        given.extend(answer)
    return given
