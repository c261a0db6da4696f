"""Three ways compared: answers that hang on voters' bits, and the rounds they make."""
