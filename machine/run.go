package machine

import (
	"steer/api"
	"steer/policy"
	"steer/prefix"
	"steer/world"
)

// run: code, what matters of the world, and what the answer is so far.
type run struct {
	in      reader
	addr    int // the known address
	draw    int
	down    [api.MaxServers]bool
	aliases [][]int
	region  int
	depth   int // of the match that tells the region
	answer  api.Answer
}

// member: one of a pool.
type member struct {
	server, weight int
}

// Run runs code in a world, with so many steps at most.
func Run(code []byte, w api.World, fuel int) (api.Answer, api.Errno) {
	if fuel < 0 || !world.IsRight(w) {
		return api.Answer{}, api.ErrArg
	}
	r := begin(code, w)
	for fuel > 0 {
		fuel--
		over := r.step()
		if r.in.bad {
			return api.Answer{}, api.ErrCode
		}
		if over {
			return r.answer, api.OK
		}
	}
	return api.Answer{}, api.ErrFuel
}

func begin(code []byte, w api.World) run {
	addr := world.Known(w.Addr, w.Bits)
	region, depth := world.Region(w.Places, addr)
	r := run{addr: addr, draw: w.Draw, aliases: w.Aliases, region: region, depth: depth}
	r.in.code = code
	r.answer.TTL = api.MaxTTL
	for _, server := range w.Down {
		if server >= 0 && server < api.MaxServers {
			r.down[server] = true
		}
	}
	return r
}

// step goes through one expression, and tells whether the answer is found.
func (r *run) step() bool {
	kind := r.in.next()
	switch kind {
	case policy.Servers:
		r.servers()
		return true
	case policy.Pool:
		return r.pool()
	case policy.Chain:
		return r.chain()
	case policy.Prefixes:
		r.prefixes()
	case policy.Regions:
		r.regions()
	case policy.TTL:
		r.seconds()
	case policy.Alias:
		r.alias()
		return true
	default:
		r.in.bad = true
	}
	return false
}

func (r *run) servers() {
	count := r.in.count()
	for i := 0; i < count; i++ {
		server := r.in.server()
		r.answer.Servers = append(r.answer.Servers, server)
	}
}

func (r *run) pool() bool {
	count := r.in.count()
	up := []member{}
	sum := 0
	for i := 0; i < count; i++ {
		server := r.in.server()
		weight := r.in.number(weightBytes, 1, api.MaxWeight)
		if r.isUp(server) {
			up = append(up, member{server: server, weight: weight})
			sum = sum + weight
		}
	}
	if sum <= 0 {
		return false
	}
	rest := r.draw % sum
	for _, x := range up {
		if rest < x.weight {
			r.answer.Servers = append(r.answer.Servers, x.server)
			return true
		}
		rest = rest - x.weight
	}
	return false
}

func (r *run) chain() bool {
	count := r.in.count()
	for i := 0; i < count; i++ {
		server := r.in.server()
		if r.isUp(server) {
			r.answer.Servers = append(r.answer.Servers, server)
			return true
		}
	}
	return false
}

func (r *run) isUp(server int) bool {
	return server >= 0 && server < api.MaxServers && !r.down[server]
}

func (r *run) prefixes() {
	count := r.in.count()
	arms := []api.Prefix{}
	ways := []int{}
	for i := 0; i < count; i++ {
		arm := api.Prefix{}
		arm.Value = r.in.number(valueBytes, 0, 1<<api.MaxBits-1)
		arm.Len = r.in.number(1, 0, api.MaxBits)
		if !prefix.IsPrefix(arm) {
			r.in.bad = true
		}
		arms = append(arms, arm)
		way := r.in.way()
		ways = append(ways, way)
	}
	i, depth := prefix.Longest(arms, r.addr)
	r.narrow(depth)
	if i >= 0 && i < len(ways) {
		r.in.at = r.in.at + ways[i]
	}
}

func (r *run) regions() {
	count := r.in.count()
	there := 0 // the expression behind the bar
	for i := 0; i < count; i++ {
		region := r.in.number(1, 0, api.MaxRegion)
		way := r.in.way()
		if region == r.region {
			there = way
		}
	}
	r.narrow(r.depth)
	r.in.at = r.in.at + there
}

// narrow takes the depth of a longest match into the scope.
func (r *run) narrow(depth int) {
	if depth > r.answer.Scope {
		r.answer.Scope = depth
	}
}

func (r *run) seconds() {
	seconds := r.in.number(secondsBytes, 1, api.MaxTTL)
	if seconds < r.answer.TTL {
		r.answer.TTL = seconds
	}
}

func (r *run) alias() {
	k := r.in.number(1, 0, api.MaxAliases-1)
	if k >= 0 && k < len(r.aliases) {
		r.answer.Servers = append(r.answer.Servers, r.aliases[k]...)
	}
}
