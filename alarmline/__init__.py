"""Alarmline: alarms that several desks see and tell."""
