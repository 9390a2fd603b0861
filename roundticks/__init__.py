"""Roundticks: timetables of points that keep clocks of their own."""
