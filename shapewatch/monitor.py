"""The calls on one monitor, told as one list of whole numbers."""

from shapewatch.changes import answer_change, is_change
from shapewatch.codes import NO_MONITOR, OUT_OF_LIMITS
from shapewatch.process import Process
from shapewatch.questions import answer_question

CREATE = 0


def sizes_allowed(state_count, action_count, discount_num, discount_den):
    return 2 <= state_count <= 4 and 1 <= action_count <= 3 and 1 <= discount_num < discount_den <= 10


class Session:
    def __init__(self):
        self.process = None

    def create(self, numbers):
        state_count = numbers[0]
        action_count = numbers[1]
        discount_num = numbers[2]
        discount_den = numbers[3]
        if not sizes_allowed(state_count, action_count, discount_num, discount_den):
            return [OUT_OF_LIMITS]
        self.process = Process(state_count, action_count, discount_num, discount_den)
        return [self.process.reward_count()]

    def answer_call(self, number, numbers):
        if number == CREATE:
            return self.create(numbers)
        if self.process is None:
            return [NO_MONITOR]
        if is_change(number):
            return answer_change(self.process, number, numbers)
        return answer_question(self.process, number, numbers)


def answers(calls):
    session = Session()
    told = []
    position = 0
    while position < len(calls):
        first = position + 2
        end = first + calls[position + 1]
        answer = session.answer_call(calls[position], calls[first:end])
        told.append(len(answer))
        told.extend(answer)
        # Behind a call's numbers stands the count of its further rows, which is always 0.
        position = end + 1
    return told
