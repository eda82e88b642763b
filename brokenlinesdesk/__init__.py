"""Texts of any script broken into lines: see brokenlinesdesk.lines."""
