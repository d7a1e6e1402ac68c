package machine

import "steer/api"

// reader goes through code. Once bytes are no code, it stays bad, and what it gives means nothing.
type reader struct {
	code []byte
	at   int
	bad  bool
}

func (r *reader) next() int {
	if r.at < 0 || r.at >= len(r.code) {
		r.bad = true
		return 0
	}
	c := r.code[r.at]
	r.at++
	return int(c)
}

// number reads a number that must be from least to most.
func (r *reader) number(bytes int, least int, most int) int {
	n := 0
	scale := 1
	for i := 0; i < bytes; i++ {
		c := r.next()
		n = n + c*scale
		scale = scale * 256
	}
	if n < least || n > most {
		r.bad = true
	}
	return n
}

func (r *reader) count() int { return r.number(1, 1, api.MaxItems) }

func (r *reader) server() int { return r.number(1, 0, api.MaxServers-1) }

func (r *reader) way() int { return r.number(wayBytes, 0, api.MaxCode) }
