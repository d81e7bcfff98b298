"""Whether an order can be worked: all its marks, and the first of the four that isn't so."""

from endingwork.steps import BEGINNING, END, MOST_TOGETHER


def one_step_more(steps, marks):
    """The marks that come from these by one step that can be done."""
    return [step.marks_behind(marks) for step in steps if step.can_be_done(marks)]


def all_marks(steps):
    """Each of all marks, and with it those that come from it by one step; None if they are too many."""
    behind = {}
    met = {BEGINNING: True}
    newest = [BEGINNING]
    while len(newest) > 0:
        coming = []
        for marks in newest:
            behind[marks] = one_step_more(steps, marks)
            for later in behind[marks]:
                if later not in met:
                    met[later] = True
                    coming.append(later)
        # Asked within the search, so that what is refused is not searched to its end.
        if len(met) > MOST_TOGETHER:
            return None
        newest = coming
    return behind


def those_ahead(behind):
    """For marks that are come to, the marks from which they come by one step."""
    ahead = {}
    for marks, laters in behind.items():
        for later in laters:
            ahead.setdefault(later, []).append(marks)
    return ahead


def marks_that_can_end(behind):
    """The end, and all marks from which it can be come to, as the keys of a dict."""
    ahead = those_ahead(behind)
    ending = {END: True}
    newest = [END]
    while len(newest) > 0:
        coming = []
        for marks in newest:
            for earlier in ahead.get(marks, []):
                if earlier not in ending:
                    ending[earlier] = True
                    coming.append(earlier)
        newest = coming
    return ending


def doubles_somewhere(step, behind):
    for marks in behind:
        if step.doubles(marks):
            return True
    return False


def is_done_somewhere(step, behind):
    for marks in behind:
        if step.can_be_done(marks):
            return True
    return False


def doubling_steps(steps, behind):
    return [k for k, step in enumerate(steps) if doubles_somewhere(step, behind)]


def stuck_marks(behind):
    """Those of all marks from which the end can't be come to."""
    ending = marks_that_can_end(behind)
    return [marks for marks in behind if marks not in ending]


def crowded_ends(behind):
    """Those of all marks by which the end's place is marked beside others."""
    return [marks for marks in behind if (marks & END) != 0 and marks != END]


def idle_steps(steps, behind):
    """The steps that can be done by none of all marks."""
    return [k for k, step in enumerate(steps) if not is_done_somewhere(step, behind)]


def first_fault(steps, behind):
    """The first of the four that isn't so, and the least that shows it; an empty list if all are so."""
    found = (
        doubling_steps(steps, behind),
        stuck_marks(behind),
        crowded_ends(behind),
        idle_steps(steps, behind),
    )
    for number, faulty in enumerate(found, start=1):
        if len(faulty) > 0:
            return [number, min(faulty)]
    return []
