"""How far a case is: the fewest steps to its end, looked for level by level."""

from endingwork.cases import has_ended
from endingwork.steps import MOST_TOGETHER

COULD_NOT_END = -33
TOO_MANY_TO_TELL = -75


def those_that_come(moves, newest, begun_by):
    """The cases that are new by one step more; with each it is noted by which move its row begins.

    The newest stand in the order of these moves, and so do those that come
    from them: what is met first is met by the row that begins least.
    """
    coming = []
    for earlier in newest:
        for move in moves:
            if move.fits(earlier):
                later = move.case_behind(earlier)
                if later not in begun_by:
                    begun_by[later] = move if begun_by[earlier] is None else begun_by[earlier]
                    coming.append(later)
        # The rest of a level that is too large already needn't be looked at.
        if len(begun_by) > MOST_TOGETHER:
            break
    return coming


def how_far(moves, case):
    """The fewest steps, and the step and the person by which the least such row begins.

    It is [0] for a case that has ended, and a refusal alone if it is too many
    to tell or the case couldn't end.
    """
    if has_ended(case):
        return [0]
    begun_by = {case: None}
    newest = [case]
    far = 0
    while len(newest) > 0:
        newest = those_that_come(moves, newest, begun_by)
        far += 1
        # Asked ahead of the end: a level counts whole, also the one with the end in it.
        if len(begun_by) > MOST_TOGETHER:
            return [TOO_MANY_TO_TELL]
        for later in newest:
            if has_ended(later):
                return [far, begun_by[later].number, begun_by[later].who]
    return [COULD_NOT_END]
