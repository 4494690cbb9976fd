"""Tests of clocksroom."""
