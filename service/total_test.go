package service_test

import (
	"math"
	"strings"
	"testing"

	"spread/api"
	"spread/service"
)

var anyNumbers = []int{math.MinInt, -1 << 32, -257, -1, 0, 1, 2, 3, 4, 5, 6, 7, 8, 9, 48, 211, 255, 256, 1 << 16, 1 << 30, 1 << 32, math.MaxInt}

var anyTexts = []string{"", "\x00", "a", "b", "\xff", "12345678", "123456789", "CH", "CP", "Q", "A\x01", strings.Repeat("\x00", 13), strings.Repeat("x", 100000)}

// anyFrames are right ones besides.
var anyFrames = append([]string{noNews, noFormat, question{1, 3, 2, 1, 1}.frame(), piece{1, 3, 2, 1, "x"}.frame(), piece{1<<32 - 1, 255, 65535, 65534, "x"}.frame()}, anyTexts...)

func TestEveryNewEnds(t *testing.T) {
	for _, n := range anyNumbers {
		for _, key := range anyTexts {
			s, e := service.New(api.Config{Alg: n, Slots: n, Points: n, Probes: n, Key: key, Formats: n})
			if s != nil || e != api.ErrConfig {
				t.Errorf("P3: %d, key of %d bytes: %v", n, len(key), e)
			}
		}
	}
	if s, e := service.New(api.Config{}); s != nil || e != api.ErrConfig {
		t.Errorf("P3: the empty configuration: %v", e)
	}
}

func TestEveryCallEnds(t *testing.T) {
	for _, alg := range algorithms {
		for _, slots := range []int{3, 13, 211} {
			c := config(alg, slots)
			c.Points, c.Probes = api.MaxPoints, api.MaxProbes
			s := start(t, c)
			for range 2 {
				callAll(s)
			}
			if g := s.Gen(); g < 1 {
				t.Errorf("P4: generation %d", g)
			}
		}
	}
}

func callAll(s *service.Service) {
	for _, text := range anyFrames {
		for _, n := range anyNumbers {
			s.Add(text, n)
			s.Set(text, n)
			s.Image(n)
			s.Join(n)
			s.Tick(n)
			s.Receive(n, text)
			s.Held(n)
			s.Lookup(n, text)
			s.Restart(n)
		}
		s.Slots()
		s.Local(text)
		s.Serve(text)
		s.Remove(text)
		s.Add(text, 3)
		s.Drop()
		for _, other := range anyTexts {
			service.Patch(text, other)
			service.Apply(text, other)
		}
		service.Decode(text)
	}
}
