"""A list of calls in numbers, answered in numbers."""

from dotboxes.boxes import Boxes
from dotboxes.rules import Rule

BX_START = 0
BX_ADD = 1
BX_SET = 2
BX_DROP = 3
BX_LAY = 4
BX_PLACE = 5

# How many numbers stand behind each call's own: bx_start, bx_add, bx_set, bx_drop, bx_lay, bx_place, bx_at.
HOW_MANY_NUMBERS = (14, 15, 15, 1, 2, 1, 2)

FORM_NUMBER = 0
FORM_PLACE = 1


def answers(calls):
    """The answers to all calls on one new object, each with its count before it."""
    boxes = Boxes()
    told = []
    begin = 0
    while begin < len(calls):
        call = calls[begin]
        end = begin + 1 + HOW_MANY_NUMBERS[call]
        answer = answer_to(boxes, call, calls[begin + 1:end])
        told.append(len(answer))
        told.extend(answer)
        begin = end
    return told


def answer_to(boxes, call, numbers):
    number = number_for(boxes, call, numbers)
    if call == BX_PLACE and number == 0:
        return [FORM_PLACE] + list(boxes.place_out(numbers[0]))
    return [FORM_NUMBER, number]


def number_for(boxes, call, numbers):
    if call == BX_START:
        return boxes.bx_start(Rule(numbers))
    if call == BX_ADD:
        return boxes.bx_add(numbers[0], Rule(numbers[1:]))
    if call == BX_SET:
        return boxes.bx_set(numbers[0], Rule(numbers[1:]))
    if call == BX_DROP:
        return boxes.bx_drop(numbers[0])
    if call == BX_LAY:
        return boxes.bx_lay(numbers[0], numbers[1])
    if call == BX_PLACE:
        return boxes.bx_place(numbers[0])
    return boxes.bx_at(numbers[0], numbers[1])
