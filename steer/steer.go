// Package steer: policies that tell which servers an address is sent to: see DOC.md.
package steer

import (
	"steer/api"
	"steer/machine"
	"steer/policy"
	"steer/prefix"
)

// Match finds the longest prefix of an address, and how many bits decide that (P3).
func Match(l []api.Prefix, addr int) (int, int, api.Errno) {
	if !prefix.IsAddress(addr) || !prefix.IsList(l) {
		return 0, 0, api.ErrArg
	}
	i, depth := prefix.Longest(l, addr)
	return i, depth, api.OK
}

// Check tells whether a text is a policy, or what is wrong with it and where (P4, P5).
func Check(text string) (api.Errno, int) {
	_, errno, at := policy.Read(text)
	return errno, at
}

// Size tells how large a policy is (P6).
func Size(text string) (int, api.Errno) {
	p, errno, _ := policy.Read(text)
	if errno != api.OK {
		return 0, errno
	}
	return p.Size(), api.OK
}

// Compile turns a policy into code (P8).
func Compile(text string) ([]byte, api.Errno) {
	p, errno, _ := policy.Read(text)
	if errno != api.OK {
		return nil, errno
	}
	return machine.Compile(p)
}

// Run runs code in a world, so many steps at most (P9).
func Run(code []byte, w api.World, fuel int) (api.Answer, api.Errno) {
	return machine.Run(code, w, fuel)
}

// Server is a policy with the world around it.
type Server struct{}

// Start gives a server without a policy (P10).
func Start() *Server { return nil }

// Load loads another policy (P11).
func (s *Server) Load(text string) (api.Errno, int) { return api.OK, 0 }

// Mark tells that a server is up, or down (P12).
func (s *Server) Mark(server int, up bool) api.Errno { return api.OK }

// Alias tells what an alias stands for (P12).
func (s *Server) Alias(k int, servers []int) api.Errno { return api.OK }

// Locate tells the places (P12).
func (s *Server) Locate(l []api.Place) api.Errno { return api.OK }

// Query asks the policy (P13).
func (s *Server) Query(addr int, bits int, draw int) (api.Answer, api.Errno) {
	return api.Answer{}, api.OK
}
