package service

import (
	"spread/codec"
	"spread/wire"
)

// answer tells what comes back to a question (P11).
func (s *Service) answer(q wire.Question) wire.Answer {
	common := q.Formats & s.table.Config.Formats
	if common == 0 {
		return wire.Answer{Kind: wire.NoFormat}
	}
	if s.gen == 0 || q.Held == s.gen {
		return wire.Answer{Kind: wire.NoNews}
	}
	format := formatFor(q, common, s.gen)
	image := codec.WriteImage(format, s.gen, s.table)
	pieces := wire.Count(image)
	number := 0
	if q.Coming == s.gen && q.Missing < pieces {
		number = q.Missing
	}
	return wire.Answer{
		Kind:   wire.Piece,
		Gen:    s.gen,
		Format: format,
		Pieces: pieces,
		Number: number,
		Bytes:  wire.Cut(image, number),
	}
}

// formatFor chooses among the common formats. The second is shorter, but an image that is coming in the first goes on so.
func formatFor(q wire.Question, common int, gen int) int {
	if common != 3 {
		return common
	}
	if q.Coming == gen && q.Format == 1 {
		return 1
	}
	return 2
}
