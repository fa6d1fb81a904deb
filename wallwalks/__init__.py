"""Wallwalks: buttons that undo themselves, and what stays when nothing cancels."""
