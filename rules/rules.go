// Package rules tells which configurations, names, weights, formats and generations are right.
package rules

import "spread/api"

// Config tells whether a configuration is one (P3).
func Config(c api.Config) bool {
	return TableConfig(c) && Formats(c.Formats)
}

// TableConfig tells whether a configuration is one as far as tables hang on it: with any Formats.
func TableConfig(c api.Config) bool {
	return within(c.Alg, api.Maglev, api.Probes) &&
		within(c.Slots, 3, api.MaxSlots) && prime(c.Slots) &&
		within(c.Points, 1, api.MaxPoints) &&
		within(c.Probes, 1, api.MaxProbes) &&
		len(c.Key) == api.KeyLen
}

// Name tells whether a backend may be called so.
func Name(id string) bool {
	return within(len(id), 1, api.MaxID)
}

// Weight tells whether a backend may weigh so much.
func Weight(w int) bool {
	return within(w, 0, api.MaxWeight)
}

// Formats tells whether one may speak these formats: the first, the second or both.
func Formats(formats int) bool {
	return within(formats, 1, 3)
}

// Format tells whether images are written so.
func Format(format int) bool {
	return within(format, 1, 2)
}

// Generation tells whether a table may be of that generation.
func Generation(gen int) bool {
	return within(gen, 1, api.MaxGen)
}

func within(n int, least int, most int) bool {
	return least <= n && n <= most
}

// prime is asked of small numbers alone: its loop would be long at great ones.
func prime(n int) bool {
	if n < 2 {
		return false
	}
	for d := 2; d < n; d++ {
		if n%d == 0 {
			return false
		}
	}
	return true
}
