"""Missesnone: test suites that no faulty program of a class passes."""
