"""Formworld: which numbers forms give, and which forms are alike."""
