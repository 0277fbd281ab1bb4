"""Probewright: tests for circuits against broken lines, with papers."""
