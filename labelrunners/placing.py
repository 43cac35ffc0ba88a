"""Which jobs are chosen, and on which machines they are placed.

Machines are handed in as a list, by number; jobs as a list, in the queue's order.
"""


def suits(machine, job):
    return (job.labels & machine.labels) == job.labels


# The jobs in holders (by the number of the machine that each holds) move on to other machines
# where that makes room for the job; none of them is left without one.
def finds_machine(job, machines, holders, tried):
    for machine in machines:
        if machine.number in tried or not suits(machine, job):
            continue
        # Whoever comes to this machine again in the same search would find the same; so it ends.
        tried[machine.number] = True
        holder = holders.get(machine.number)
        if holder is None or finds_machine(holder, machines, holders, tried):
            holders[machine.number] = job
            return True
    return False


def can_be_served_together(jobs, machines):
    holders = {}
    for job in jobs:
        if not finds_machine(job, machines, holders, {}):
            return False
    return True


def choose(queue, machines):
    chosen = []
    for job in queue:
        if can_be_served_together(chosen + [job], machines):
            chosen.append(job)
    return chosen


def without(machines, taken):
    return [machine for machine in machines if machine.number != taken.number]


def lowest_machine(job, later_jobs, machines):
    for machine in machines:
        if suits(machine, job) and can_be_served_together(later_jobs, without(machines, machine)):
            return machine
    return None


# Gives back the machines, one for each of the chosen, in their order.
def place(chosen, machines):
    left = machines
    placed = []
    for k in range(len(chosen)):
        machine = lowest_machine(chosen[k], chosen[k + 1:], left)
        placed.append(machine)
        left = without(left, machine)
    return placed
