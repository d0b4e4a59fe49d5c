"""Does a list of calls one behind another and gives back what they answer."""

from regroundshots.process import OUT_OF_RANGE, Process, settings_allowed

NO_INSTANCE = -11

CREATE = 0
MAKE_SHOT = 1
MAKE_VIRGIN_SHOT = 2
SET_REGRIND = 3
SET_RETENTION = 4
RESET = 5
AGE_FRACTION = 6
OLDER_THAN = 7
AGE_DISTRIBUTION = 8

# By the call's number, 0 to 17. Calls 9 to 17 can be read, and refused where
# there is no instance, but what they do is not built yet.
ARGUMENT_COUNTS = (4, 0, 0, 1, 2, 0, 1, 1, 0, 0, 0, 0, 0, 1, 2, 2, 2, 0)


class CallNotBuilt(Exception):
    """A call that this program does not answer yet was made on an instance."""


def answer_change(process, number, given):
    if number == MAKE_SHOT:
        return process.make_shot()
    if number == MAKE_VIRGIN_SHOT:
        return process.make_virgin_shot()
    if number == SET_REGRIND:
        return process.set_regrind(given[0])
    if number == SET_RETENTION:
        return process.set_retention(given[0], given[1])
    return process.reset()


def answer_query(process, number, given):
    if number == AGE_FRACTION:
        return process.age_fraction(given[0])
    if number == OLDER_THAN:
        return process.older_than(given[0])
    if number == AGE_DISTRIBUTION:
        return process.age_distribution()
    raise CallNotBuilt(f"call {number} is not built yet")


def answer_call(process, number, given):
    if process is None:
        return [NO_INSTANCE]
    if number <= RESET:
        return answer_change(process, number, given)
    return answer_query(process, number, given)


def answers(calls):
    """For each call, how many numbers are answered, then these."""
    told = []
    process = None
    at = 0
    while at < len(calls):
        number = calls[at]
        behind = at + 1 + ARGUMENT_COUNTS[number]
        given = calls[at + 1:behind]
        at = behind
        if number != CREATE:
            answer = answer_call(process, number, given)
        elif settings_allowed(given[0], given[1], given[2], given[3]):
            process = Process(given[0], given[1], given[2], given[3])
            answer = [0]
        else:
            answer = [OUT_OF_RANGE]
        told.append(len(answer))
        told.extend(answer)
    return told
