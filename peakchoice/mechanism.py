"""The interface: one list of calls is handed in, one list of their answers given back."""

from peakchoice.codes import NOT_READY, NO_INSTANCE
from peakchoice.instance import Session, is_ready
from peakchoice.operations import acceptable, add_preference, close_monotonically, create, set_acceptable
from peakchoice.operations import set_full_domain, use_borda_winners, use_pareto, use_peaks
from peakchoice.reading import read_calls

CREATE = 0
FIRST_THAT_NEEDS_READY = 3
LAST_THAT_NEEDS_READY = 16


class NotWritten(ValueError):
    """Raised for a call that the program doesn't answer yet."""


def answers(calls):
    """For each call, in order, how many numbers it is answered by, and these."""
    session = Session()
    given = []
    for call in read_calls(calls):
        answer = answer_call(session, call)
        given.append(len(answer))
        given.extend(answer)
    return given


def answer_call(session, call):
    """The answer to one call, with the refusals that come ahead of the calls' own."""
    if call.operation == CREATE:
        return create(session, call.number)
    if session.instance is None:
        return [NO_INSTANCE]
    if call.operation < FIRST_THAT_NEEDS_READY:
        return answer_on_domains(session.instance, call)
    if call.operation <= LAST_THAT_NEEDS_READY and not is_ready(session.instance):
        return [NOT_READY]
    return answer_on_correspondence(session.instance, call)


def answer_on_domains(instance, call):
    """The answers of the calls that fill the domains."""
    if call.operation == 1:
        return add_preference(instance, call.number, call.row)
    return set_full_domain(instance, call.number)


def answer_on_correspondence(instance, call):
    """The answers of the calls that set and read the acceptable alternatives."""
    if call.operation == 3:
        return set_acceptable(instance, call.number, call.row)
    if call.operation == 4:
        return use_pareto(instance)
    if call.operation == 5:
        return use_peaks(instance)
    if call.operation == 6:
        return use_borda_winners(instance)
    if call.operation == 7:
        return close_monotonically(instance)
    if call.operation == 8:
        return acceptable(instance, call.row)
    raise NotWritten("the calls 9 to 17 are not written yet")
