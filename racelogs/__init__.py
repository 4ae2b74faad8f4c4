"""Races told from logs: who started, who sailed the course, who finished when."""
