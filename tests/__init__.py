"""Tests of lanternrows."""
