"""Onecrest: sums of products that swell just once, whatever the weights."""
