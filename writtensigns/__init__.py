"""Durations written: signs for what sounds, each where a metre lets it stand."""
