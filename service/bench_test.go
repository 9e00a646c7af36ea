package service_test

import (
	"fmt"
	"reflect"
	"strings"
	"testing"

	"spread/api"
	"spread/service"
)

const usualKey = "0123456789abcdef"

var algorithms = []int{api.Maglev, api.Ring, api.Rendezvous, api.Probes}

func config(alg int, slots int) api.Config {
	return api.Config{Alg: alg, Slots: slots, Points: 1, Probes: 1, Key: usualKey, Formats: 3}
}

func start(t *testing.T, c api.Config) *service.Service {
	t.Helper()
	s, e := service.New(c)
	if e != api.OK || s == nil {
		t.Fatalf("P3: New(%+v): %v", c, e)
	}
	return s
}

// pooled is a service with backends that are added in the order given.
func pooled(t *testing.T, c api.Config, backends ...api.Backend) *service.Service {
	t.Helper()
	s := start(t, c)
	for _, b := range backends {
		expect(t, fmt.Sprintf("Add %q", b.ID), s.Add(b.ID, b.Weight), api.OK)
	}
	return s
}

func expect(t *testing.T, what string, got api.Errno, want api.Errno) {
	t.Helper()
	if got != want {
		t.Errorf("%s: got %v, want %v", what, got, want)
	}
}

func expectSlots(t *testing.T, what string, s *service.Service, want string) {
	t.Helper()
	if got := strings.Join(s.Slots(), " "); got != want {
		t.Errorf("%s: got %q, want %q", what, got, want)
	}
}

// told is all that a service tells of its pool.
type told struct {
	Gen    int
	Slots  []string
	Owners []string
}

var someKeys = []string{"", "\x00", "key0", "key1", "key2", "key3", "key4", "key5", "key6", "key7", "\xff\x80", strings.Repeat("long", 1000)}

func tell(s *service.Service) told {
	v := told{Gen: s.Gen(), Slots: s.Slots()}
	for _, k := range someKeys {
		id, e := s.Local(k)
		v.Owners = append(v.Owners, fmt.Sprintf("%q %v", id, e))
	}
	return v
}

func expectTold(t *testing.T, what string, got told, want told) {
	t.Helper()
	if !reflect.DeepEqual(got, want) {
		t.Errorf("%s:\ngot  %d %q %q\nwant %d %q %q", what, got.Gen, got.Slots, got.Owners, want.Gen, want.Slots, want.Owners)
	}
}

func backends(names string, weights ...int) []api.Backend {
	var l []api.Backend
	for i, id := range strings.Fields(names) {
		l = append(l, api.Backend{ID: id, Weight: weights[i]})
	}
	return l
}
