"""Rotward: files over disks that rot."""
