"""What becomes of a world's machine if it runs alone."""

from worldsalone.choices import is_choice
from worldsalone.kinds import is_key_of, is_tuple_of
from worldsalone.machines import answered, arrived
from worldsalone.steps import step


def choice_noted(thing):
    """The choice to which an entry of a log adds a count; any other thing stays as it is."""
    is_answer = is_tuple_of(thing, 5) and is_key_of(thing[0], ("answer",))
    is_arrival = is_tuple_of(thing, 4) and is_key_of(thing[0], ("arrive",))
    return thing[:-1] if is_answer or is_arrival else thing


def is_given(machine, choice):
    """Whether an answer or an arrival can be given to a machine."""
    if choice[0] == "answer" and choice[2] not in machine.answers():
        return False
    return machine.meaning().is_word(choice[-1])


def own_choices(machine, w, choices):
    """The list of the steps of world w, and of the answers and arrivals that it can be given."""
    noted = [choice_noted(thing) for thing in choices]
    found = [choice for choice in noted if is_choice(choice) and choice[0] in ("step", "answer", "arrive")]
    own = [choice for choice in found if choice[1] == w]
    return [choice for choice in own if choice[0] == "step" or is_given(machine, choice)]


def followed(machine, w, choices):
    """The tuple (machine, events) behind a list of choices for world w."""
    events = []
    for choice in own_choices(machine, w, choices):
        if choice[0] == "step":
            machine, event = step(machine)
            events.append(event)
        elif choice[0] == "answer":
            machine = answered(machine, choice[2], choice[3])
        else:
            machine = arrived(machine, choice[2])
    return (machine, events)


def alone(machine, w, choices):
    """The machine alone of world w behind a list of choices and entries of a log."""
    return followed(machine, w, choices)[0]


def alone_told(machine, w, choices):
    """The list of what the steps of world w in such a list tell."""
    return followed(machine, w, choices)[1]
