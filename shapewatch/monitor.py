"""The calls on one monitor, told as one list of whole numbers."""

from shapewatch.changes import answer_change, is_change
from shapewatch.codes import NO_MONITOR, OUT_OF_LIMITS, VIOLATED
from shapewatch.episodes import answer_episode_call, is_episode_call
from shapewatch.guarantees import all_hold, answer_guarantee_call, is_guarantee_call
from shapewatch.process import Process
from shapewatch.questions import answer_question, is_question

CREATE = 0
STATUS_COUNT = 4


def sizes_allowed(state_count, action_count, discount_num, discount_den):
    return 2 <= state_count <= 4 and 1 <= action_count <= 3 and 1 <= discount_num < discount_den <= 10


class Monitor:
    def __init__(self, process):
        self.process = process
        self.guarantees = []
        self.episodes = []

    # The change is made on a copy, which is dropped if a guarantee doesn't hold for it.
    def change(self, number, numbers):
        changed = self.process.copied()
        answer = answer_change(changed, number, numbers)
        if answer[0] < 0:
            return answer
        if not all_hold(changed, self.guarantees):
            return [VIOLATED]
        self.process = changed
        return answer

    def status(self):
        process = self.process
        counts = [process.state_count, process.action_count, len(self.guarantees), len(self.episodes)]
        return [STATUS_COUNT] + counts

    def answer_call(self, number, numbers):
        if is_change(number):
            return self.change(number, numbers)
        if is_question(number):
            return answer_question(self.process, number, numbers)
        if is_guarantee_call(number):
            return answer_guarantee_call(self.process, self.guarantees, number, numbers)
        if is_episode_call(number):
            return answer_episode_call(self.process, self.episodes, number, numbers)
        return self.status()


class Session:
    def __init__(self):
        self.monitor = None

    def create(self, numbers):
        state_count = numbers[0]
        action_count = numbers[1]
        discount_num = numbers[2]
        discount_den = numbers[3]
        if not sizes_allowed(state_count, action_count, discount_num, discount_den):
            return [OUT_OF_LIMITS]
        self.monitor = Monitor(Process(state_count, action_count, discount_num, discount_den))
        return [self.monitor.process.reward_count()]

    def answer_call(self, number, numbers):
        if number == CREATE:
            return self.create(numbers)
        if self.monitor is None:
            return [NO_MONITOR]
        return self.monitor.answer_call(number, numbers)


def answers(calls):
    session = Session()
    told = []
    position = 0
    while position < len(calls):
        first = position + 2
        end = first + calls[position + 1]
        answer = session.answer_call(calls[position], calls[first:end])
        told.append(len(answer))
        told.extend(answer)
        # Behind a call's numbers stands the count of its further rows, which is always 0.
        position = end + 1
    return told
