"""A list of calls in numbers, answered in numbers."""

from dotboxes.boxes import Boxes
from dotboxes.rules import Rule

BX_START = 0
BX_ADD = 1
BX_SET = 2
BX_DROP = 3

# How many numbers stand behind each call's own: bx_start, bx_add, bx_set, bx_drop.
HOW_MANY_NUMBERS = (14, 15, 15, 1)

FORM_NUMBER = 0


def answers(calls):
    """The answers to all calls on one new object, each with its count before it."""
    boxes = Boxes()
    told = []
    begin = 0
    while begin < len(calls):
        call = calls[begin]
        end = begin + 1 + HOW_MANY_NUMBERS[call]
        answer = answer_to(boxes, call, calls[begin + 1:end])
        told.append(len(answer))
        told.extend(answer)
        begin = end
    return told


def answer_to(boxes, call, numbers):
    return [FORM_NUMBER, number_for(boxes, call, numbers)]


def number_for(boxes, call, numbers):
    if call == BX_START:
        return boxes.bx_start(Rule(numbers))
    if call == BX_ADD:
        return boxes.bx_add(numbers[0], Rule(numbers[1:]))
    if call == BX_SET:
        return boxes.bx_set(numbers[0], Rule(numbers[1:]))
    return boxes.bx_drop(numbers[0])
