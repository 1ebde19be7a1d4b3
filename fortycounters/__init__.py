"""Machines that count: forty counters, rules that take of them and give to them, and codes of instructions."""
