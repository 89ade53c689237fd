"""Stealbeats: a machine, and a device that moves words by beats that it takes."""
