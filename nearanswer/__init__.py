"""Nearanswer: programs whose deeds are answered by the nearest answerer."""
