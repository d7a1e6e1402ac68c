package steer

import (
	"steer/api"
	"steer/machine"
	"steer/policy"
	"steer/world"
)

// Server is a policy with the world around it.
type Server struct {
	code    []byte // of the policy; without one there are no bytes, because code has one at least
	down    [api.MaxServers]bool
	aliases [api.MaxAliases][]int
	places  []api.Place
}

// Start gives a server without a policy (P10).
func Start() *Server { return &Server{} }

// Load loads another policy (P11).
func (s *Server) Load(text string) (api.Errno, int) {
	p, errno, at := policy.Read(text)
	if errno != api.OK {
		return errno, at
	}
	code, full := machine.Compile(p)
	if full != api.OK {
		return full, 0
	}
	s.code = code
	return api.OK, 0
}

// Mark tells that a server is up, or down (P12).
func (s *Server) Mark(server int, up bool) api.Errno {
	if server < 0 || server >= api.MaxServers {
		return api.ErrArg
	}
	s.down[server] = !up
	return api.OK
}

// Alias tells what an alias stands for (P12).
func (s *Server) Alias(k int, servers []int) api.Errno {
	if k < 0 || k >= api.MaxAliases || !canBeAlias(servers) {
		return api.ErrArg
	}
	// A copy, because the caller may write into the list later.
	s.aliases[k] = append([]int{}, servers...)
	return api.OK
}

func canBeAlias(servers []int) bool {
	if len(servers) > api.MaxItems {
		return false
	}
	for _, server := range servers {
		if server < 0 || server >= api.MaxServers {
			return false
		}
	}
	return true
}

// Locate tells the places (P12).
func (s *Server) Locate(l []api.Place) api.Errno {
	if !world.ArePlaces(l) {
		return api.ErrArg
	}
	// A copy, because the caller may write into the list later.
	s.places = append([]api.Place{}, l...)
	return api.OK
}

// Query asks the policy (P13).
func (s *Server) Query(addr int, bits int, draw int) (api.Answer, api.Errno) {
	if !world.IsQuestion(addr, bits, draw) {
		return api.Answer{}, api.ErrArg
	}
	if len(s.code) == 0 {
		return api.Answer{}, api.ErrNone
	}
	w := api.World{Addr: addr, Bits: bits, Draw: draw, Places: s.places}
	w.Down = s.downServers()
	w.Aliases = s.aliases[:]
	return machine.Run(s.code, w, len(s.code))
}

func (s *Server) downServers() []int {
	l := []int{}
	for server, down := range s.down {
		if down {
			l = append(l, server)
		}
	}
	return l
}
