"""Which jobs are chosen, on which machines they are placed, and which are a job's rivals.

Machines are handed in as a list, by number; jobs as a list, in the queue's order.
"""


def suits(machine, job):
    return (job.labels & machine.labels) == job.labels


def suits_one_of(machine, jobs):
    return any([suits(machine, job) for job in jobs])


# The jobs in holders (by the number of the machine that each holds) move on to other machines
# where that makes room for the job; none of them is left without one.
def finds_machine(job, machines, holders, tried):
    for machine in machines:
        if machine.number in tried or not suits(machine, job):
            continue
        # Whoever comes to this machine again in the same search would find the same; so it ends.
        tried[machine.number] = True
        holder = holders.get(machine.number)
        if holder is None or finds_machine(holder, machines, holders, tried):
            holders[machine.number] = job
            return True
    return False


def can_be_served_together(jobs, machines):
    holders = {}
    for job in jobs:
        if not finds_machine(job, machines, holders, {}):
            return False
    return True


def choose(queue, machines):
    chosen = []
    for job in queue:
        if can_be_served_together(chosen + [job], machines):
            chosen.append(job)
    return chosen


def without(machines, taken):
    return [machine for machine in machines if machine.number != taken.number]


def lowest_machine(job, later_jobs, machines):
    for machine in machines:
        if suits(machine, job) and can_be_served_together(later_jobs, without(machines, machine)):
            return machine
    return None


# Gives back the machines, one for each of the chosen, in their order.
def place(chosen, machines):
    left = machines
    placed = []
    for k in range(len(chosen)):
        machine = lowest_machine(chosen[k], chosen[k + 1:], left)
        placed.append(machine)
        left = without(left, machine)
    return placed


# The chosen jobs are handed in with their machines, in the order in which they are chosen; so are
# the rivals given back.
def find_rivals(job, placed):
    rivals = []
    # A rival stays one in each later step, as its machine suits itself; and behind a step that
    # finds none more no other one does. So as many steps as there are chosen jobs find all.
    for step in range(len(placed)):
        in_the_way_of = [job] + rivals
        rivals = [chosen for chosen, machine in placed if suits_one_of(machine, in_the_way_of)]
    return rivals
