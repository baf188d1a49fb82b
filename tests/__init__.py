"""Tests of signalhouse."""
