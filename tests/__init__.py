"""The tests of lonestations."""
