"""Likelier: what follows where of sets of worlds it is told which is likelier."""
