"""The interface: one list of calls is handed in, one list of their answers given back."""

from peakchoice.codes import NOT_READY, NO_INSTANCE
from peakchoice.instance import Session, is_ready
from peakchoice.operations import add_preference, close_monotonically, create, set_acceptable, set_full_domain
from peakchoice.operations import use_borda_winners, use_pareto, use_peaks
from peakchoice.questions import acceptable, attainable, describe, equilibrium_outcomes, implements, is_equilibrium
from peakchoice.questions import mechanism_outcome, monotonicity_violation, profile_index, veto_violation
from peakchoice.reading import read_calls

CREATE = 0
FIRST_THAT_NEEDS_READY = 3
FIRST_THAT_ONLY_ASKS = 8
LAST_THAT_NEEDS_READY = 16


def answers(calls):
    """For each call, in order, how many numbers it is answered by, and these."""
    session = Session()
    given = []
    for call in read_calls(calls):
        answer = answer_call(session, call)
        given.append(len(answer))
        given.extend(answer)
    return given


def answer_call(session, call):
    """The answer to one call, with the refusals that come ahead of the calls' own."""
    if call.operation == CREATE:
        return create(session, call.number)
    if session.instance is None:
        return [NO_INSTANCE]
    if call.operation < FIRST_THAT_NEEDS_READY:
        return answer_on_domains(session.instance, call)
    if call.operation <= LAST_THAT_NEEDS_READY and not is_ready(session.instance):
        return [NOT_READY]
    if call.operation < FIRST_THAT_ONLY_ASKS:
        return answer_on_correspondence(session.instance, call)
    return answer_question(session.instance, call)


def answer_on_domains(instance, call):
    """The answers of the calls that fill the domains."""
    if call.operation == 1:
        return add_preference(instance, call.number, call.row)
    return set_full_domain(instance, call.number)


def answer_on_correspondence(instance, call):
    """The answers of the calls that set the acceptable alternatives."""
    if call.operation == 3:
        return set_acceptable(instance, call.number, call.row)
    if call.operation == 4:
        return use_pareto(instance)
    if call.operation == 5:
        return use_peaks(instance)
    if call.operation == 6:
        return use_borda_winners(instance)
    return close_monotonically(instance)


def answer_question(instance, call):
    """The answers of the calls that leave the state as it is."""
    if call.operation == 8:
        return acceptable(instance, call.row)
    if call.operation == 9:
        return monotonicity_violation(instance)
    if call.operation == 10:
        return veto_violation(instance)
    if call.operation == 11:
        return profile_index(instance, call.row)
    if call.operation == 12:
        return mechanism_outcome(instance, call.row)
    if call.operation == 13:
        return attainable(instance, call.number, call.row)
    if call.operation == 14:
        return is_equilibrium(instance, call.number, call.row)
    if call.operation == 15:
        return equilibrium_outcomes(instance, call.row)
    if call.operation == 16:
        return implements(instance)
    return describe(instance)
