"""Clocks that are compared: clocksroom.room.answers is the way in."""
