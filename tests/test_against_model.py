"""Many lines, each answered by the program and by a slow model that tries all there is to try."""

import unittest
from itertools import permutations

from helper import ask, beat, begins, job, machine, result, serve, tick


class Model:
    def __init__(self):
        self.begins(5, 10)

    def begins(self, lease, age):
        if not (0 < lease <= 10 ** 6 and 0 < age <= 10 ** 6):
            return [-1]
        self.lasts, self.age, self.minute, self.given = lease, age, 0, 0
        self.labels, self.heard, self.told, self.over = {}, {}, {}, set()
        self.running = {}
        return [0]

    def machine(self, number, labels):
        if labels > 65535:
            return [-1]
        if number in self.labels:
            return [-4]
        if len(self.labels) >= 7:
            return [-7]
        self.labels[number], self.heard[number] = labels, self.minute
        return [len(self.labels)]

    def job(self, number, labels, urgency, tries):
        if labels > 65535 or urgency > 10 ** 6 or not 0 < tries <= 10 ** 6:
            return [-1]
        if number in self.told:
            return [-4]
        if len(self.told) - len(self.over) >= 14 or len(self.told) >= 40:
            return [-7]
        self.told[number] = {"asks": labels, "urgency": urgency, "tries": tries,
                             "came": self.minute, "place": len(self.told)}
        return [len(self.told) - len(self.over)]

    def queue(self):
        def order(number):
            told = self.told[number]
            return (-told["urgency"] - (self.minute - told["came"]) // self.age, told["place"])

        here = set(self.told) - self.over - {number for number, at in self.running.values()}
        return sorted(here, key=order)

    def placings(self, jobs):
        """All ways to serve the jobs together, the one with the lowest machines first."""
        free = sorted(set(self.labels) - {at for number, at in self.running.values()})
        for machines in permutations(free, len(jobs)):
            if all(self.told[number]["asks"] & ~self.labels[at] == 0
                   for number, at in zip(jobs, machines)):
                yield machines

    def serve(self):
        chosen = []
        for number in self.queue():
            if any(True for machines in self.placings(chosen + [number])):
                chosen.append(number)
        answer = [len(chosen)]
        placed = next(self.placings(chosen))
        for number, at in zip(chosen, placed):
            self.running[self.given] = (number, at)
            answer += [number, at, self.given]
            self.given += 1
        return answer

    def beat(self, number):
        if number not in self.labels:
            return [-2]
        self.heard[number] = self.minute
        return [0]

    def result(self, lease, passed):
        if lease not in self.running:
            return [-5]
        number = self.running.pop(lease)[0]
        if passed:
            self.over.add(number)
            return [1]
        self.told[number]["tries"] -= 1
        if self.told[number]["tries"] == 0:
            self.over.add(number)
            return [0]
        return [2]

    def tick(self, minutes):
        if not 0 < minutes <= 10 ** 6 - self.minute:
            return [-1]
        self.minute += minutes
        lost = sorted(at for at in self.labels if self.minute > self.heard[at] + self.lasts)
        leases = [lease for lease in self.running if self.running[lease][1] in lost]
        jobs = [self.running.pop(lease)[0] for lease in leases]
        for at in lost:
            del self.labels[at], self.heard[at]
        return [len(lost)] + lost + sorted(jobs, key=lambda number: self.told[number]["place"])

    def answer(self, call):
        names = ("begins", "machine", "job", "serve", "beat", "result", "tick")
        return getattr(self, names[call[0]])(*call[1:])


class Draws:
    """Numbers that look drawn by lot, but are the same in each run."""

    def __init__(self, seed):
        self.state = seed

    def below(self, end):
        self.state = (self.state * 6364136223846793005 + 1442695040888963407) % 2 ** 64
        return (self.state >> 33) % end

    def one_of(self, choices):
        return choices[self.below(len(choices))]


def drawn_call(draws, leases):
    kind = draws.below(40)
    if kind == 0:
        return begins(draws.one_of((0, 1, 3, 8, 1000000, 1000001)), draws.one_of((0, 1, 2, 7)))
    if kind < 10:
        return machine(draws.below(9), draws.one_of((draws.below(16), draws.below(16), 65536)))
    if kind < 24:
        return job(draws.below(30), draws.one_of((1, 2, 4, 8, 3, 5, 6, 9, 0, 65536)),
                   draws.below(4), draws.below(4))
    if kind < 28:
        return serve()
    if kind < 31:
        return beat(draws.below(9))
    if kind < 37:
        return result(draws.below(leases + 1), draws.below(3))
    return tick(draws.one_of((0, 1, 1, 2, 3, 4, 1000000)))


class AgainstModel(unittest.TestCase):
    def test_lines_of_60_calls(self):
        for seed in range(400):
            draws = Draws(seed)
            model = Model()
            calls = []
            due = []
            for k in range(60):
                calls.append(drawn_call(draws, model.given))
                due.append(model.answer(calls[-1]))
            self.assertEqual(ask(*calls), due, f"line {seed}: {calls}")

    def test_one_serve_of_many_jobs(self):
        for seed in range(400):
            draws = Draws(1000 + seed)
            calls = [machine(draws.below(1000), draws.below(32)) for k in range(6)]
            calls += [job(k, draws.one_of((1, 2, 4, 8, 16, 3, 0)), draws.below(3)) for k in range(10)]
            calls += [serve()]
            model = Model()
            due = [model.answer(call) for call in calls]
            self.assertEqual(ask(*calls), due, f"line {seed}: {calls}")


if __name__ == "__main__":
    unittest.main()
