package policy

import "steer/api"

// Size gives the size of a policy; but MaxSize + 1, if it is more than that.
func (p Policy) Size() int {
	sizes := []int{}
	size := 0
	for _, e := range p.Exprs {
		size = sizeOf(e, sizes)
		sizes = append(sizes, size)
	}
	return size
}

// sizeOf gives the size of an expression, told the sizes of all before it.
// It is bounded at each expression, because rules that name rules can make it greater than any number.
func sizeOf(e Expr, sizes []int) int {
	size := at(sizes, e.Inner)
	if e.Kind != Name {
		size = size + 1 + len(e.Items)
	}
	for _, x := range e.Items {
		size = size + at(sizes, x.Arm)
	}
	if size > api.MaxSize {
		return api.MaxSize + 1
	}
	return size
}

// at gives the number at an index, or 0, if nothing is there.
func at(l []int, i int) int {
	if i < 0 || i >= len(l) {
		return 0
	}
	return l[i]
}
