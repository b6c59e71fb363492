"""Conditions that tell some cases from others."""

YES = ("yes",)
NO = ("not", ("yes",))


def told_apart(conditions, met, unmet):
    """Return a condition, made of some conditions, that is met in all cases of one list and in none of the other one.

    A case is a tuple that has for each of the conditions whether it is met, or None where it
    may be met or not. Of any two cases of the two lists one meets a condition that the other
    one does not meet.
    """
    if not met or not unmet:
        return YES if met else NO
    at = _best_at(met, unmet)
    return _choice(
        conditions[at],
        told_apart(conditions, _still(met, at, True), _still(unmet, at, True)),
        told_apart(conditions, _still(met, at, False), _still(unmet, at, False)),
    )


def _still(cases, at, answer):
    """Return those of the cases in which a condition may be met, or may be not met."""
    return [case for case in cases if case[at] in (answer, None)]


def _best_at(met, unmet):
    """Return the condition that leaves the fewest cases over, of those that tell some of them apart."""
    best = [
        (len(_still(met, at, True)) + len(_still(unmet, at, True))
         + len(_still(met, at, False)) + len(_still(unmet, at, False)), at)
        for at in range(len(met[0])) if _tells_some(met, unmet, at)
    ]
    return min(best)[1]


def _tells_some(met, unmet, at):
    ones = [case[at] for case in met]
    others = [case[at] for case in unmet]
    return (True in ones and False in others) or (False in ones and True in others)


def _choice(condition, when, otherwise):
    """Return the condition to meet one condition where some condition is met, and another one otherwise."""
    if when == otherwise:
        return when
    if when == YES:
        return condition if otherwise == NO else ("or", condition, otherwise)
    if otherwise == NO:
        return ("and", condition, when)
    negated = ("not", condition)
    if when == NO:
        return negated if otherwise == YES else ("and", negated, otherwise)
    if otherwise == YES:
        return ("or", negated, when)
    return ("or", ("and", condition, when), ("and", negated, otherwise))
