"""The tests of signalgraph."""
