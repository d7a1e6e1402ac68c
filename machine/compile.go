package machine

import (
	"steer/api"
	"steer/policy"
)

// writer: the bytes written so far.
type writer struct {
	code []byte
}

// Compile gives the code of a policy; or ErrFull, if it is too large. An expression has at most 7 bytes for each 1 of its size, so MaxCode is not reached.
func Compile(p policy.Policy) ([]byte, api.Errno) {
	if p.Size() > api.MaxSize {
		return nil, api.ErrFull
	}
	return encode(p.Exprs), api.OK
}

// encode gives the code of the last expression of a list. It calls itself with shorter lists alone, so it ends.
func encode(l []policy.Expr) []byte {
	if len(l) == 0 {
		return nil
	}
	before := l[:len(l)-1]
	e := l[len(l)-1]
	within := encode(upTo(before, e.Inner))
	if e.Kind == policy.Name {
		return within
	}
	head := writer{}
	head.expression(e)
	for _, x := range e.Items {
		head.item(e.Kind, x, len(within))
		arm := encode(upTo(before, x.Arm))
		within = append(within, arm...)
	}
	head.code = append(head.code, within...)
	return head.code
}

// upTo gives a list up to this index, or nothing, if nothing is there.
func upTo(l []policy.Expr, i int) []policy.Expr {
	if i < 0 || i >= len(l) {
		return nil
	}
	return l[:i+1]
}

func (w *writer) expression(e policy.Expr) {
	w.number(int(e.Kind), 1)
	switch e.Kind {
	case policy.TTL:
		w.number(e.Number.Value, secondsBytes)
	case policy.Alias:
		w.number(e.Number.Value, 1)
	default:
		w.number(len(e.Items), 1)
	}
}

func (w *writer) item(kind byte, x policy.Item, way int) {
	switch kind {
	case policy.Prefixes:
		w.number(x.Prefix.Value, valueBytes)
		w.number(x.Prefix.Len, 1)
		w.number(way, wayBytes)
	case policy.Regions:
		w.number(x.Number, 1)
		w.number(way, wayBytes)
	case policy.Pool:
		w.number(x.Number, 1)
		w.number(x.Weight.Value, weightBytes)
	default:
		w.number(x.Number, 1)
	}
}

func (w *writer) number(n int, bytes int) {
	for i := 0; i < bytes; i++ {
		w.code = append(w.code, byte(n%256))
		n = n / 256
	}
}
