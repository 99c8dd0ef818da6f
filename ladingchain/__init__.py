"""Ladingchain: papers for goods afloat, handed on by signing."""
