"""The tests of the project and the samples that they share."""
