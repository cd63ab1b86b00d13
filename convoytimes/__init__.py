"""Convoy departure times with minimum weighted waiting."""
