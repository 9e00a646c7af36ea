package service_test

import (
	"reflect"
	"strings"
	"testing"

	"spread/api"
	"spread/service"
)

// spoil writes over a list and all the room behind it.
func spoil(l []string) {
	l = l[:cap(l)]
	for i := range l {
		l[i] = "spoilt"
	}
}

func spoiled(l []string) bool {
	l = l[:cap(l)]
	for i := range l {
		if l[i] != "spoilt" {
			return false
		}
	}
	return true
}

func TestListsAreTheCallers(t *testing.T) {
	for _, alg := range algorithms {
		s := pooled(t, config(alg, 13), backends("b a c", 1, 2, 3)...)
		want := tell(s)
		list, other := s.Slots(), s.Slots()
		spoil(list)
		if !reflect.DeepEqual(other, want.Slots) {
			t.Errorf("P2: two lists share memory: %q", other)
		}
		expectTold(t, "P2: what is told behind a spoilt list", tell(s), want)
		longer := append(list, "spoilt")
		spoil(longer)
		expectTold(t, "P2: what is told behind a longer list", tell(s), want)
		expect(t, "Set", s.Set("a", 5), api.OK)
		expect(t, "Add", s.Add("d", 6), api.OK)
		expect(t, "Remove", s.Remove("b"), api.OK)
		s.Drop()
		tell(s)
		if !spoiled(list) || !spoiled(longer) {
			t.Errorf("P2: the program wrote into a list that it had handed out: %q", longer[:cap(longer)])
		}
		if !reflect.DeepEqual(other, want.Slots) {
			t.Errorf("P2: later changes reach a list: %q", other)
		}
		fresh := pooled(t, config(alg, 13), backends("a c d", 5, 3, 6)...)
		if !reflect.DeepEqual(s.Slots(), fresh.Slots()) {
			t.Errorf("P2: a spoilt list reaches later tables: %q", s.Slots())
		}
	}
}

func TestServicesAreApart(t *testing.T) {
	other := config(api.Maglev, 13)
	other.Key = "fedcba9876543210"
	configs := []api.Config{config(api.Maglev, 13), config(api.Maglev, 13), other, config(api.Rendezvous, 13), config(api.Maglev, 211), config(api.Ring, 13), config(api.Probes, 13)}
	var side, alone []*service.Service
	for _, c := range configs {
		side = append(side, start(t, c))
	}
	pools := [][]api.Backend{
		backends("a b c d", 1, 2, 3, 4), backends("a x", 6, 1), backends("a b c d", 1, 2, 3, 4),
		backends("d c b", 1, 1, 1), backends("a b c d e f g h", 1, 2, 3, 4, 5, 6, 1, 2), backends("c a b", 3, 1, 2),
		backends("c a b", 3, 1, 2),
	}
	for i := range api.MaxPool {
		for j, s := range side {
			if i < len(pools[j]) {
				expect(t, "Add", s.Add(pools[j][i].ID, pools[j][i].Weight), api.OK)
			}
			side[(j+1)%len(side)].Drop()
		}
	}
	for j, c := range configs {
		alone = append(alone, pooled(t, c, pools[j]...))
		expectTold(t, "P2: a service beside others", tell(side[j]), tell(alone[j]))
	}
	expect(t, "Remove", side[0].Remove("a"), api.OK)
	expectTold(t, "P2: another service's Remove", tell(side[1]), tell(alone[1]))
	if strings.Join(side[2].Slots(), " ") != strings.Join(alone[2].Slots(), " ") {
		t.Error("P2: another service's Remove")
	}
}
