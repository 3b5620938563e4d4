"""The way in: calls on one new album, handed in and answered as lists of whole numbers."""

from albumwhole.alike_calls import answer_alike_call
from albumwhole.box_calls import answer_box_call
from albumwhole.holding import answer_holding
from albumwhole.manykinds_calls import answer_manykinds_call
from albumwhole.refusals import NOT_BEGUN
from albumwhole.state import Album
from albumwhole.swapping import answer_swapping
from albumwhole.urn_calls import answer_urn_call
from albumwhole.waiting import answer_waiting

BEGIN = 0
# How many numbers stand behind a call's own number, for the calls 0, 1 and so on.
ARGUMENT_COUNTS = (
    0, 1, 2, 2, 2, 4, 1, 0, 2, 1, 0, 0, 0, 2, 2, 1, 1, 0, 2, 0, 1,
    1, 1, 1, 0, 1, 0, 1, 1, 1, 0, 2, 1, 3,
    2, 1, 1, 1, 1, 2, 1, 3, 2, 3, 1,
    4, 10, 7, 6, 5, 5, 5, 5, 5, 4,
    4, 3, 3, 3, 3, 4, 5, 4, 3, 4, 4, 3,
)


def answer_call(album, number, given):
    if number == BEGIN:
        album.begin()
        return [0]
    if not album.begun:
        return [NOT_BEGUN]
    own_calls = (answer_holding, answer_swapping, answer_waiting)
    stage_calls = (answer_alike_call, answer_manykinds_call, answer_urn_call, answer_box_call)
    for answer_group in own_calls + stage_calls:
        answer = answer_group(album, number, given)
        if answer is not None:
            return answer
    raise NotImplementedError(f"no file has the call {number}")


def answers(calls):
    album = Album()
    told = []
    place = 0
    while place < len(calls):
        number = calls[place]
        behind = place + 1 + ARGUMENT_COUNTS[number]
        answer = answer_call(album, number, calls[place + 1:behind])
        told.append(len(answer))
        told.extend(answer)
        place = behind
    return told
