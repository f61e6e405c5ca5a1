"""Outcomes: how a few sessions can end, and which protocols can be behind what was observed of them."""

from itertools import permutations

from hungparts.choices import mode_tuples, require_places, with_modes
from hungparts.errors import InvalidLog, InvalidProtocol, InvalidScene
from hungparts.protocols import places, require_protocol
from hungparts.scenes import begun, is_beginning
from hungparts.search import all_ends
from hungparts.weavings import require_store

MOST_SESSIONS = 4


def is_case(value):
    """Tell whether any value is a case."""
    return is_beginning(value, MOST_SESSIONS)


def end_result(store):
    """Return the result of a store: what became of each session, and which rows are alive."""
    require_store(store)
    return result_of(store.stand)


def result_of(stand):
    """Return the result of a store that stands so."""
    return (*[session_result(session) for session in stand.sessions], rows_result(stand))


def session_result(session):
    """Return the string that tells what became of a session."""
    tells = session.ending == "done" and session.wish[0] in ("strike", "read")
    return f"done {session.answer}" if tells else session.ending


def rows_result(stand):
    """Return the string that tells which rows are alive."""
    settled = stand.settled_now()
    found = [(part, stand.heap.alive(part, settled)) for part in stand.heap.parts()]
    texts = [" ".join([part, *[str(key) for key in keys]]) for part, keys in found if len(keys) > 0]
    return "; ".join(texts) if texts else "-"


def opened_case(protocol, case):
    """Return a store in which the sessions of a case have begun."""
    require_protocol(protocol)
    if not is_case(case):
        raise InvalidScene(case)
    return begun(protocol, case)


def outcomes(protocol, case):
    """Return the ascending list of the results of all ways in which the sessions of a case can go on to the end."""
    ends = all_ends(opened_case(protocol, case).stand)
    return sorted(set([result_of(stand) for _, stand in ends]))


def way_to(protocol, case, told):
    """Return the first of the shortest ways to the end with a result, or None."""
    for turns, stand in all_ends(opened_case(protocol, case).stand):
        if result_of(stand) == told:
            return turns
    return None


def serial_outcomes(protocol, case):
    """Return the ascending list of the results if the sessions go one after the other, in all orders."""
    start = opened_case(protocol, case)
    numbers = start.running()
    return sorted(set([serial_result(start, order) for order in permutations(numbers)]))


def serial_result(start, order):
    """Return the result if the sessions of a store go one after the other, each to its end."""
    store = start.copy()
    for number in order:
        while store.can(number):
            store.step(number)
    return end_result(store)


def strange_outcomes(protocol, case):
    """Return the ascending list of the outcomes that there are only if sessions do not go one after the other."""
    serial = serial_outcomes(protocol, case)
    return [told for told in outcomes(protocol, case) if told not in serial]


def added_outcomes(protocol, other, case):
    """Return the ascending list of the outcomes that a case has with a protocol but not with another one."""
    told = outcomes(protocol, case)
    known = outcomes(other, case)
    return [result for result in told if result not in known]


def is_log(value):
    """Tell whether any value is a log."""
    if not isinstance(value, tuple) or len(value) != 2:
        return False
    case, told = value
    return is_case(case) and isinstance(told, tuple) and all([isinstance(text, str) for text in told])


def require_logs(value):
    """Raise InvalidLog for any value that is not a list of logs."""
    if not isinstance(value, list) or not all([is_log(item) for item in value]):
        raise InvalidLog(value)


def explains(protocol, logs):
    """Tell whether a protocol can be behind a list of logs."""
    require_protocol(protocol)
    require_logs(logs)
    return is_behind(protocol, logs, {})


def is_behind(protocol, logs, known):
    """Tell whether a protocol can be behind logs. What is worked out for it is kept among what is known, for other
    protocols that differ from it in the modes of locks alone."""
    cases = [case for case, _ in logs]
    for case, told in logs:
        if not all([asked[0] in protocol.kinds() for asked in case[2]]):
            return False
        # With modes that clash in the same way, all goes on in the same way.
        sign = (cases.index(case), clash_signs(protocol, case))
        if sign not in known:
            known[sign] = outcomes(protocol, case)
        if told not in known[sign]:
            return False
    return True


def clash_signs(protocol, case):
    """Return a tuple that tells of each two locks of the programs of a case whether they clash."""
    kinds = [asked[0] for asked in case[2]]
    modes = [protocol.program(kind)[index][2] for kind, index in places(protocol) if kind in kinds]
    return tuple([protocol.strengths.clash(one, other) for one in modes for other in modes])


def behind_logs(protocols, logs):
    """Return the list of the indexes of the protocols that can be behind a list of logs."""
    if not isinstance(protocols, list):
        raise InvalidProtocol(protocols)
    for item in protocols:
        require_protocol(item)
    require_logs(logs)
    return [index for index, protocol in enumerate(protocols) if is_behind(protocol, logs, {})]


def modes_told(protocol, chosen, logs):
    """Return the list of the tuples of modes for some places with which a protocol can be behind a list of logs."""
    require_protocol(protocol)
    require_places(protocol, chosen)
    require_logs(logs)
    known = {}
    tuples = mode_tuples(protocol.strengths, len(chosen))
    return [modes for modes in tuples if is_behind(with_modes(protocol, chosen, modes), logs, known)]
