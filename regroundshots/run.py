"""Does a list of calls one behind another and gives back what they answer."""

from regroundshots.process import OUT_OF_RANGE, Process, settings_allowed

NO_INSTANCE = -11

CREATE = 0
MAKE_SHOT = 1
MAKE_VIRGIN_SHOT = 2
SET_REGRIND = 3
SET_RETENTION = 4
RESET = 5
AGE_FRACTION = 6
OLDER_THAN = 7
AGE_DISTRIBUTION = 8
STRENGTH = 9
MEAN_AGE = 10
LIMITS = 11
STRENGTH_ABOVE_LIMIT = 12
STRENGTH_AFTER = 13
MAX_REGRIND = 14
FIRST_WEAK_SHOT = 15

# By the call's number, 0 to 17.
ARGUMENT_COUNTS = (4, 0, 0, 1, 2, 0, 1, 1, 0, 0, 0, 0, 0, 1, 2, 2, 2, 0)


def answer_change(process, number, given):
    if number == MAKE_SHOT:
        return process.make_shot()
    if number == MAKE_VIRGIN_SHOT:
        return process.make_virgin_shot()
    if number == SET_REGRIND:
        return process.set_regrind(given[0])
    if number == SET_RETENTION:
        return process.set_retention(given[0], given[1])
    return process.reset()


def answer_query(process, number):
    if number == AGE_DISTRIBUTION:
        return process.age_distribution()
    if number == STRENGTH:
        return process.strength()
    if number == MEAN_AGE:
        return process.mean_age()
    if number == LIMITS:
        return process.limits()
    if number == STRENGTH_ABOVE_LIMIT:
        return process.strength_above_limit()
    return process.describe()


def answer_query_with(process, number, given):
    if number == AGE_FRACTION:
        return process.age_fraction(given[0])
    if number == OLDER_THAN:
        return process.older_than(given[0])
    if number == STRENGTH_AFTER:
        return process.strength_after(given[0])
    if number == MAX_REGRIND:
        return process.max_regrind(given[0], given[1])
    if number == FIRST_WEAK_SHOT:
        return process.first_weak_shot(given[0], given[1])
    return process.strength_after_if(given[0], given[1])


def answer_call(process, number, given):
    if process is None:
        return [NO_INSTANCE]
    if number <= RESET:
        return answer_change(process, number, given)
    if len(given) == 0:
        return answer_query(process, number)
    return answer_query_with(process, number, given)


def answers(calls):
    """For each call, how many numbers are answered, then these."""
    told = []
    process = None
    at = 0
    while at < len(calls):
        number = calls[at]
        behind = at + 1 + ARGUMENT_COUNTS[number]
        given = calls[at + 1:behind]
        at = behind
        if number != CREATE:
            answer = answer_call(process, number, given)
        elif settings_allowed(given[0], given[1], given[2], given[3]):
            process = Process(given[0], given[1], given[2], given[3])
            answer = [0]
        else:
            answer = [OUT_OF_RANGE]
        told.append(len(answer))
        told.extend(answer)
    return told
