// Package steer: policies that tell which servers an address is sent to: see DOC.md.
package steer

import (
	"steer/api"
	"steer/machine"
	"steer/policy"
	"steer/prefix"
)

// Match finds the longest prefix of an address, and how many bits decide that (P3).
func Match(l []api.Prefix, addr int) (int, int, api.Errno) {
	if !prefix.IsAddress(addr) || !prefix.IsList(l) {
		return 0, 0, api.ErrArg
	}
	i, depth := prefix.Longest(l, addr)
	return i, depth, api.OK
}

// Check tells whether a text is a policy, or what is wrong with it and where (P4, P5).
func Check(text string) (api.Errno, int) {
	_, errno, at := policy.Read(text)
	return errno, at
}

// Size tells how large a policy is (P6).
func Size(text string) (int, api.Errno) {
	p, errno, _ := policy.Read(text)
	if errno != api.OK {
		return 0, errno
	}
	return p.Size(), api.OK
}

// Compile turns a policy into code (P8).
func Compile(text string) ([]byte, api.Errno) {
	p, errno, _ := policy.Read(text)
	if errno != api.OK {
		return nil, errno
	}
	return machine.Compile(p)
}

// Run runs code in a world, so many steps at most (P9).
func Run(code []byte, w api.World, fuel int) (api.Answer, api.Errno) {
	return machine.Run(code, w, fuel)
}
