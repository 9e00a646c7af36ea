// Package service: a pool of backends, its table, who asks for it: see DOC.md.
package service

import (
	"spread/api"
	"spread/codec"
	"spread/plane"
	"spread/pool"
	"spread/rules"
	"spread/table"
	"spread/wire"
)

// Service is a pool, its table, and the dataplanes that fetch it.
type Service struct {
	table  table.Table // holds the configuration and the pool too
	gen    int
	planes []*plane.Plane
}

// New makes a service without backends (P3).
func New(c api.Config) (*Service, api.Errno) {
	if !rules.Config(c) {
		return nil, api.ErrConfig
	}
	return &Service{table: table.Table{Config: c}}, api.OK
}

// Add puts a backend into the pool (P4).
func (s *Service) Add(id string, w int) api.Errno {
	if !rules.Name(id) {
		return api.ErrID
	}
	if !rules.Weight(w) {
		return api.ErrWeight
	}
	if pool.Place(s.table.Pool, id) >= 0 {
		return api.ErrDup
	}
	if len(s.table.Pool) >= api.MaxPool {
		return api.ErrFull
	}
	next := pool.With(s.table.Pool, api.Backend{ID: id, Weight: w})
	s.publish(next)
	return api.OK
}

// Remove takes one out (P4).
func (s *Service) Remove(id string) api.Errno {
	place := pool.Place(s.table.Pool, id)
	if place < 0 {
		return api.ErrUnknown
	}
	next := pool.Without(s.table.Pool, place)
	s.publish(next)
	return api.OK
}

// Set gives one another weight (P4).
func (s *Service) Set(id string, w int) api.Errno {
	if !rules.Weight(w) {
		return api.ErrWeight
	}
	place := pool.Place(s.table.Pool, id)
	if place < 0 {
		return api.ErrUnknown
	}
	next := pool.Weighed(s.table.Pool, place, w)
	s.publish(next)
	return api.OK
}

func (s *Service) publish(backends []api.Backend) {
	s.table = table.Make(s.table.Config, backends)
	s.gen++
}

// Drop forgets whatever is kept to make the next table sooner (P6).
func (s *Service) Drop() {
	// Every table is made of the pool alone: nothing is kept that could be forgotten.
}

// Gen tells the generation that is published (P6).
func (s *Service) Gen() int { return s.gen }

// Slots tells the owners of the table's entries (P6).
func (s *Service) Slots() []string { return s.table.Names() }

// Local tells whose a key is (P7).
func (s *Service) Local(key string) (string, api.Errno) {
	if s.gen == 0 {
		return "", api.ErrNoTable
	}
	return s.table.Owner(key)
}

// Image tells the table as bytes (P8).
func (s *Service) Image(format int) (string, api.Errno) {
	if !rules.Format(format) {
		return "", api.ErrFormat
	}
	if s.gen == 0 {
		return "", api.ErrNoTable
	}
	return codec.WriteImage(format, s.gen, s.table), api.OK
}

// Join makes a dataplane (P10).
func (s *Service) Join(formats int) (int, api.Errno) {
	if !rules.Formats(formats) {
		return -1, api.ErrConfig
	}
	if len(s.planes) >= api.MaxPlanes {
		return -1, api.ErrFull
	}
	s.planes = append(s.planes, plane.New(formats))
	return len(s.planes) - 1, api.OK
}

// dataplane finds one by its number; nil: there is none.
func (s *Service) dataplane(d int) *plane.Plane {
	if d < 0 || d >= len(s.planes) {
		return nil
	}
	return s.planes[d]
}

// Tick tells a dataplane's next question (P11).
func (s *Service) Tick(d int) (string, api.Errno) {
	p := s.dataplane(d)
	if p == nil {
		return "", api.ErrUnknown
	}
	q := p.Question()
	return wire.WriteQuestion(q), api.OK
}

// Serve answers a frame (P11).
func (s *Service) Serve(frame string) string {
	q, ok := wire.ReadQuestion(frame)
	if !ok {
		return ""
	}
	a := s.answer(q)
	return wire.WriteAnswer(a)
}

// Receive gives a dataplane a frame (P12).
func (s *Service) Receive(d int, frame string) api.Errno {
	p := s.dataplane(d)
	if p == nil {
		return api.ErrUnknown
	}
	a, ok := wire.ReadAnswer(frame)
	if ok {
		p.Take(a)
	}
	return api.OK
}

// Restart lets a dataplane begin anew (P12).
func (s *Service) Restart(d int) api.Errno {
	p := s.dataplane(d)
	if p == nil {
		return api.ErrUnknown
	}
	p.Restart()
	return api.OK
}

// Held tells the generation that a dataplane holds (P12).
func (s *Service) Held(d int) (int, api.Errno) {
	p := s.dataplane(d)
	if p == nil {
		return 0, api.ErrUnknown
	}
	return p.Held()
}

// Lookup tells whose a key is at a dataplane (P12).
func (s *Service) Lookup(d int, key string) (string, api.Errno) {
	p := s.dataplane(d)
	if p == nil {
		return "", api.ErrUnknown
	}
	return p.Owner(key)
}

// Decode reads an image: the same table in both formats, and its generation (P8).
func Decode(image string) (string, string, int, api.Errno) {
	m, ok := codec.ReadImage(image)
	if !ok {
		return "", "", 0, api.ErrImage
	}
	first := codec.WriteImage(1, m.Gen, m.Table)
	second := codec.WriteImage(2, m.Gen, m.Table)
	return first, second, m.Gen, api.OK
}

// Patch makes what turns one image's table into another's (P9).
func Patch(a string, b string) (string, api.Errno) {
	return codec.Patch(a, b)
}

// Apply turns an image's table by a patch (P9).
func Apply(patch string, image string) (string, api.Errno) {
	return codec.Apply(patch, image)
}
