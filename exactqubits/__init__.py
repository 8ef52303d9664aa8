"""Quantum circuits of up to six qubits, reckoned exactly."""
