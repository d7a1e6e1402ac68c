package steer_test

import (
	"math/rand"
	"slices"
	"testing"

	"steer/api"
	"steer/steer"
)

// told: a server, and what it was told, kept beside it as the document says.
type told struct {
	server  *steer.Server
	policy  tree // without rules, if none was loaded
	down    [api.MaxServers]bool
	aliases [api.MaxAliases][]int
	places  []api.Place
}

// tell makes one call, often one that is refused, and keeps what it changes.
func (s *told) tell(t *testing.T, r *rand.Rand) {
	t.Helper()
	switch r.Intn(6) {
	case 0:
		s.load(t, r)
	case 1, 2:
		server := r.Intn(api.MaxServers+8) - 4
		if r.Intn(2) == 0 {
			server = r.Intn(6)
		}
		up := r.Intn(2) == 0
		errno := s.server.Mark(server, up)
		right := server >= 0 && server < api.MaxServers
		if right {
			s.down[server] = !up
		}
		sameErrno(t, "Mark", errno, right)
	case 3, 4:
		k := r.Intn(api.MaxAliases+2) - 1
		servers := drawnServers(r)
		errno := s.server.Alias(k, servers)
		right := k >= 0 && k < api.MaxAliases && len(servers) <= 16 && !slices.ContainsFunc(servers, func(n int) bool { return n < 0 || n > 63 })
		if right {
			s.aliases[k] = slices.Clone(servers)
		}
		sameErrno(t, "Alias", errno, right)
		scribble(servers, -5)
	case 5:
		places, right := s.drawnPlaces(r)
		errno := s.server.Locate(places)
		if right {
			s.places = slices.Clone(places)
		}
		sameErrno(t, "Locate", errno, right)
		scribble(places, api.Place{Region: -1})
	}
}

func sameErrno(t *testing.T, call string, errno api.Errno, right bool) {
	t.Helper()
	if right && errno != api.OK || !right && errno != api.ErrArg {
		t.Fatalf("%s = %d; is it right? %v", call, errno, right)
	}
}

// scribble writes over a list and its spare room.
func scribble[T any](l []T, x T) {
	room := l[:cap(l)]
	for i := range room {
		room[i] = x
	}
}

func (s *told) load(t *testing.T, r *rand.Rand) {
	t.Helper()
	if r.Intn(3) == 0 {
		text := edited(r, newDraft(r, 10, 100).text.String())
		errno, at := steer.Check(text)
		size, _ := steer.Size(text)
		if errno == api.OK && size <= api.MaxSize {
			return
		}
		if errno == api.OK {
			errno = api.ErrFull
		}
		e, place := s.server.Load(text)
		if e != errno || place != at {
			t.Fatalf("Load(%q) = %d, %d, want %d, %d", text, e, place, errno, at)
		}
		return
	}
	policy := newTree(r, 1+r.Intn(4), 1+r.Intn(10))
	text := policy.text(r, letters, r.Intn(10))
	want := api.OK
	if len(text) > api.MaxText {
		want = api.ErrLong
	} else if policy.size() > api.MaxSize {
		want = api.ErrFull
	} else {
		s.policy = policy
	}
	errno, at := s.server.Load(text)
	if errno != want || at != 0 {
		t.Fatalf("Load(%q) = %d, %d, want %d, 0", text, errno, at, want)
	}
}

func drawnServers(r *rand.Rand) []int {
	l := []int{}
	for range r.Intn([]int{5, api.MaxItems + 2}[r.Intn(2)]) {
		l = append(l, r.Intn(api.MaxServers))
	}
	if len(l) > 0 && r.Intn(5) == 0 {
		l[r.Intn(len(l))] = oddNumbers[r.Intn(len(oddNumbers))]
	}
	return l
}

// drawnPlaces gives places that the policy may tell apart, and whether they are right.
func (s *told) drawnPlaces(r *rand.Rand) ([]api.Place, bool) {
	about := s.policy
	if about.base == "" {
		about.base = binary(r.Intn(1 << 32))
	}
	l := about.world(r).Places
	if len(l) == 0 {
		return l, true
	}
	i := r.Intn(len(l))
	switch r.Intn(12) {
	case 0:
		return append(l, l[i]), false
	case 1:
		l[i].Region = []int{-1, api.MaxRegion + 1}[r.Intn(2)]
	case 2:
		l[i].Prefix.Len = []int{-1, api.MaxBits + 1}[r.Intn(2)]
	case 3:
		l[i].Prefix.Value = []int{-1, 1 << 32}[r.Intn(2)]
	case 4:
		l = append(l, manyPlaces(api.MaxPlaces)...)
	default:
		return l, true
	}
	return l, false
}

func (s *told) ask(t *testing.T, r *rand.Rand) {
	t.Helper()
	if len(s.policy.rules) == 0 {
		refuses(t, s.server, r.Intn(1<<32), r.Intn(33), r.Intn(1<<32), api.ErrNone)
		return
	}
	w := s.policy.world(r)
	w.Down = nil
	for server, down := range s.down {
		if down {
			w.Down = append(w.Down, server)
		}
	}
	w.Aliases = s.aliases[:]
	w.Places = s.places
	want := s.policy.meaning(w)
	a, errno := s.server.Query(w.Addr, w.Bits, w.Draw)
	if errno != api.OK || !sameAnswer(a, want) {
		t.Fatalf("Query of %q in %+v = %+v, %d, want %+v", s.policy.text(r, letters, 0), w, a, errno, want)
	}
	scribble(a.Servers, -6)
}

func TestToldDrawn(t *testing.T) { // P1, P2, P10 to P13
	r := rand.New(rand.NewSource(31))
	for range 300 {
		servers := []*told{}
		for range 3 {
			servers = append(servers, &told{server: steer.Start()})
		}
		for range 100 {
			servers[r.Intn(3)].tell(t, r)
			for _, s := range servers {
				s.ask(t, r)
			}
		}
	}
}
