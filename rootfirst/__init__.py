"""Rootfirst: trees that are judged from the root on."""
