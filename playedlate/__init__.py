"""Playedlate: letters that are played again too late."""
