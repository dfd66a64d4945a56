"""Papers: laid together, what they lean on, and cut."""

from goalsmith.writers import StepWriter


def laid_in(paper, parts):
    """A paper with the paper of each goal lent to it in the place of that goal."""
    firsts = [0]
    for _, many in parts:
        firsts.append(firsts[-1] + many)
    writer = StepWriter()
    ends = {}
    numbers = []
    for rule, uses, told in paper:
        if rule != "lent":
            numbers.append(writer.number_of((rule, tuple([numbers[use] for use in uses]), told)))
        else:
            number = told[0]
            if number not in ends:
                ends[number] = _end_of_part(writer, parts, firsts, number)
            numbers.append(ends[number])
    # What the last step holds may have been written ahead of others already.
    return writer.row()[:numbers[-1] + 1] if numbers else []


def _end_of_part(writer, parts, firsts, number):
    """Write the paper of a goal, its lent goals behind those of the parts ahead; the number of its last step."""
    if number >= len(parts) or not parts[number][0]:
        # No paper holds this goal: the step stays wrong, with a goal behind all that are lent.
        return writer.number_of(("lent", (), (firsts[-1] + number,)))
    numbers = []
    for rule, uses, told in parts[number][0]:
        here = (told[0] + firsts[number],) if rule == "lent" else told
        numbers.append(writer.number_of((rule, tuple([numbers[use] for use in uses]), here)))
    return numbers[-1]


def leans(paper):
    """The numbers of the goals lent to a paper, sorted, each once."""
    return sorted({told[0] for rule, _, told in paper if rule == "lent"})


def cut(paper):
    """A paper without the steps on which its last one does not lean."""
    needed = [False for _ in paper]
    for at in reversed(range(len(paper))):
        needed[at] = needed[at] or at == len(paper) - 1
        if needed[at]:
            for use in paper[at][1]:
                needed[use] = True
    numbers = []
    steps = []
    for at, (rule, uses, told) in enumerate(paper):
        numbers.append(len(steps))
        if needed[at]:
            steps.append((rule, tuple([numbers[use] for use in uses]), told))
    return steps
