"""The package's interface: calls on one new stage, handed in and answered as whole numbers."""

from stagefades.stage import Stage

CUE = 0
GO = 1
GOTO = 2
AT = 3
STAND = 4
STILL = 5
WHEN = 6

# How many numbers a call has (cue, go, .. when, reset), with its own; of a cue, ahead of its moves.
SIZES = (7, 2, 3, 3, 2, 1, 4, 1)


def answers(calls):
    """For each call how many numbers are answered, and these."""
    stage = Stage()
    given = []
    place = 0
    while place < len(calls):
        call = call_at(calls, place)
        answer = answer_to(stage, call)
        given.append(len(answer))
        given.extend(answer)
        place += len(call)
    return given


def call_at(calls, place):
    """The numbers of the call that begins at this place."""
    size = SIZES[calls[place]]
    if calls[place] == CUE:
        size += calls[place + size - 1]
    return calls[place:place + size]


def answer_to(stage, call):
    """What the stage answers to a call; the one that is left at the end is reset."""
    if call[0] == CUE:
        return stage.add_cue(call[1], call[2:6], call[SIZES[CUE]:])
    if call[0] == GO:
        return stage.go(call[1])
    if call[0] == GOTO:
        return stage.goto(call[1], call[2])
    if call[0] == AT:
        return stage.at(call[1], call[2])
    if call[0] == STAND:
        return stage.stand(call[1])
    if call[0] == STILL:
        return stage.still()
    if call[0] == WHEN:
        return stage.when(call[1], call[2], call[3])
    return stage.reset()
