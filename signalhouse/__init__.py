"""Signalhouse: routes that never meet."""
