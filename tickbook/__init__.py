"""Alarms in wheels of wheels that ring at just their ticks."""
