"""Loops with branches, leapt phase by phase: `loopleaps.leaps.answers` is the way in."""
