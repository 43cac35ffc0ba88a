"""What the tests share: the calls by name, and the answers apart from one another."""

from labelrunners.house import answers


def begins(lease, age):
    return [0, lease, age]


def machine(number, labels=0):
    return [1, number, labels]


def job(number, labels=0, urgency=0, tries=1):
    return [2, number, labels, urgency, tries]


def serve():
    return [3]


def beat(number):
    return [4, number]


def result(lease, passed):
    return [5, lease, passed]


def tick(minutes):
    return [6, minutes]


def drain(number):
    return [7, number]


def cancel(number):
    return [8, number]


def why(number):
    return [9, number]


def queue():
    return [10]


def machines():
    return [11]


def ends():
    return [12]


def line_of(calls):
    return [number for call in calls for number in call]


def parted(given):
    parts = []
    start = 0
    while start < len(given):
        end = start + 1 + given[start]
        if end > len(given):
            raise ValueError("the last answer is cut off")
        parts.append(given[start + 1:end])
        start = end
    return parts


def ask(*calls):
    """The answer to each of the calls, as lists of numbers without their counts."""
    parts = parted(answers(line_of(calls)))
    if len(parts) != len(calls):
        raise ValueError("not one answer for each call")
    return parts


def last(*calls):
    return ask(*calls)[-1]


def state_behind(*calls):
    """All that a house tells of itself behind the calls, the jobs asked for being 0 to 19."""
    looks = [queue(), machines(), ends()] + [why(number) for number in range(20)]
    return ask(*calls, *looks, serve())[len(calls):]
