"""The tests of rootfirst."""
