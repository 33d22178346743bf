"""The calls on one new object, and their answers."""

from straightpieces.keeper import Keeper

HOW_MANY_NUMBERS = {0: 5, 1: 3, 2: 4, 3: 3, 4: 3, 5: 3, 6: 2, 7: 3, 8: 2, 9: 2, 10: 1}


def answers(calls):
    keeper = Keeper()
    answered = []
    at = 0
    while at < len(calls):
        number = calls[at]
        end = at + 1 + HOW_MANY_NUMBERS[number]
        answer = keeper.answer(number, calls[at + 1:end])
        answered.append(len(answer))
        answered.extend(answer)
        at = end
    return answered
