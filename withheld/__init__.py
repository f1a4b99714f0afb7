"""What can be worked out of a published table from which places are withheld."""
