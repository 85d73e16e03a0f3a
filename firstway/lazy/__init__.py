"""The lazy automaton."""
