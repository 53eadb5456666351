"""Programmes of lights: texts that tell how a sign's lamps go on and off."""
