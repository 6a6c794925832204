"""Time steps and the depth of a list of gates (point 64)."""


def time_steps(gates):
    """Returns the list of the time steps of the gates."""
    # The time step of the last gate on each qubit.
    latest = {}
    steps = []
    for kind, qubits in gates:
        if kind == "W":
            steps.append(0)
        else:
            steps.append(1 + max([latest.get(qubit, 0) for qubit in qubits]))
        for qubit in qubits:
            latest[qubit] = steps[-1]
    return steps


def depth(gates):
    """Returns the greatest time step, and 0 for no gates."""
    return max(time_steps(gates), default=0)
