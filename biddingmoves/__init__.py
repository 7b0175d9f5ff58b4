"""Biddingmoves: games in which each move is bought."""
