"""Steps of pieces of code: what they are, and what a run does with them."""

from shownpart.base.terms import is_name, is_term
from shownpart.base.walks import preorder


def is_step(value):
    """Whether the value is a step."""
    if not isinstance(value, tuple) or len(value) not in (2, 3):
        return False
    if len(value) == 2:
        return value[0] == "any" and is_name(value[1])
    if value[0] == "set":
        return is_name(value[1]) and is_term(value[2])
    return value[0] in ("same", "differ") and is_term(value[1]) and is_term(value[2])


def is_change(step):
    """Whether a step gives a register a value."""
    return step[0] in ("set", "any")


def changed_in(steps):
    """A dict whose keys are the registers that some steps give a value."""
    return {step[1]: True for step in steps if is_change(step)}


def terms_in(steps):
    """The list of the terms that stand in some steps."""
    return [term for step in steps for term in (step[2:] if is_change(step) else step[1:])]


def any_steps(names):
    """The list of steps that give some registers any things."""
    return [("any", name) for name in names]


def ran(steps, world, held, given):
    """The values of the registers behind some steps, or `None` if a step does not go on.

    `held` tells the values of the registers ahead of them, `given` what the steps `any` give.
    """
    now = dict(held)
    many = 0
    for step in steps:
        if step[0] == "any":
            now[step[1]] = given[many]
            many += 1
        elif step[0] == "set":
            now[step[1]] = value_in(world, step[2], now)
        elif (value_in(world, step[1], now) == value_in(world, step[2], now)) != (step[0] == "same"):
            return None
    return now


def value_in(world, term, held):
    """The value of a term in a world, in which registers have the things that `held` tells."""
    ready = []
    for part in preorder([term])[::-1]:
        below = [ready.pop() for _ in part[1:]]
        ready.append(held[part[0]] if part[0] in held else world.looked_up(part[0], tuple(below)))
    return ready[0]
