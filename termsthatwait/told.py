"""What is told of some variables alone: their values, and the differences that are left of them.

A difference is handed over as the trial of its two terms: it says that what
would be in that trial is not all so. Those handed over are open, in the order
in which they were told.
"""

from termsthatwait.trial import mask_of


def told_numbers(terms, shown, trials):
    """What is answered of these values; None if a value in it, or in a condition, is too large."""
    asked = list(shown)
    for trial in trials:
        asked.extend([condition[1] for condition in trial.conditions()])
    if any([terms.is_too_large(term) for term in asked]):
        return None
    names = {}
    numbers = [0]
    for term in shown:
        numbers.extend(renumbered(terms.row(term), names))
    left = left_differences(trials, mask_of(terms, shown))
    numbers.append(len(left))
    for trial in left:
        numbers.extend(written_difference(terms, trial, names))
    return numbers


def renumbered(row, names):
    """A row with new numbers for variables; one that has none yet gets the next, and is named from now on."""
    numbers = []
    for place in range(0, len(row), 2):
        number = row[place + 1]
        if row[place] == 0:
            number = names.setdefault(number, len(names))
        numbers.append(row[place])
        numbers.append(number)
    return numbers


def written_difference(terms, trial, names):
    """How many conditions a difference has, and these by the new numbers."""
    conditions = trial.conditions()
    numbers = [len(conditions)]
    for condition in conditions:
        numbers.append(names[condition[0]])
        numbers.extend(renumbered(terms.row(condition[1]), names))
    return numbers


def left_differences(trials, mask):
    """The differences about variables of this mask alone, without each that follows from another."""
    within = [trial for trial in trials if trial.is_within(mask)]
    return [within[place] for place in range(len(within)) if not follows(within, place)]


def follows(trials, place):
    """Whether the difference at this place is left out for another that it follows from."""
    trial = trials[place]
    for turn in range(len(trials)):
        if turn == place or not trial.implies(trials[turn]):
            continue
        # Of two that follow from each other the one told first is left.
        if turn < place or not trials[turn].implies(trial):
            return True
    return False
