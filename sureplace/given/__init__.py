"""What is given: names, settings, readings and questions."""
