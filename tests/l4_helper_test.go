package tests

import (
	"math/rand"
	"slices"
	"testing"

	"loop.example/s0023/impl"
)

// machineInst has two vehicles (nodes 0 and 1) and four requests (nodes 2 to 9), with tags a; b; a and b; none.
func machineInst() impl.Inst {
	return impl.Inst{
		Vehicles: []impl.Vehicle{
			{Room: 10, Skills: 5, Home: impl.Place{Open: 5, Close: 200, Hold: 3}},
			{Room: 7, Skills: 1 << 15, Home: impl.Place{X: 10, Y: -10, Open: 300, Close: 400}},
		},
		Requests: []impl.Request{
			{Size: 4, Tags: 1, From: impl.Place{X: 3, Close: 100, Hold: 2}, To: impl.Place{X: 5, Open: 60, Close: 90, Hold: 1}},
			{Size: 7, Tags: 2, From: impl.Place{Y: 4, Open: 10, Close: 101, Hold: 2}, To: impl.Place{Y: 8, Close: 102}},
			{Size: 1, Tags: 3, From: impl.Place{X: 1, Y: 1, Close: 103}, To: impl.Place{X: 2, Y: 2, Close: 104}},
			{Size: 0, From: impl.Place{X: -1, Close: 105}, To: impl.Place{X: -2, Close: 106, Hold: 6}},
		},
		Roads: []impl.Road{{A: 0, B: 2, Time: 20}, {A: 3, B: 4, Time: 50}, {A: 5, B: 0, Time: 1}},
	}
}

var (
	badVerdict = impl.Verdict{}
	accepted   = impl.Verdict{Code: 1}
)

func rejected(at, rule int64) impl.Verdict { return impl.Verdict{Code: 2, At: at, Rule: rule} }

func deadOne() impl.State { return impl.State{Pos: -1, Rule: -1} }

func failedAt(pos, rule int64) impl.State { return impl.State{Pos: pos, Rule: rule} }

func copyState(s impl.State) impl.State {
	s.Status, s.Regs, s.Slots = slices.Clone(s.Status), slices.Clone(s.Regs), slices.Clone(s.Slots)
	return s
}

func sameState(x, y impl.State) bool {
	return x.Pos == y.Pos && x.Rule == y.Rule && x.Node == y.Node && x.Time == y.Time && x.Dist == y.Dist && x.Load == y.Load &&
		slices.Equal(x.Status, y.Status) && slices.Equal(x.Regs, y.Regs) && slices.Equal(x.Slots, y.Slots)
}

func lookAtNums(t *testing.T, name string, got []int64, want []int64) {
	t.Helper()
	if !slices.Equal(got, want) {
		t.Errorf("%s: %v, not %v", name, got, want)
	}
}

// byStates is the verdict on a route by single steps, none of which may write into what it is given.
func byStates(t *testing.T, c impl.Code, in impl.Inst, v int64, route []int64) impl.Verdict {
	t.Helper()
	s := impl.StartState(c, in, v)
	for _, node := range route {
		kept := copyState(s)
		next := impl.StepState(c, in, v, s, node)
		if !sameState(s, kept) {
			t.Errorf("the step to node %d writes into its state", node)
		}
		s = next
	}
	kept := copyState(s)
	verdict := impl.FinishState(c, in, v, s)
	if !sameState(s, kept) {
		t.Errorf("the finish after %v writes into its state", route)
	}
	return verdict
}

// lookAtVerdict asks for the verdict in all three ways.
func lookAtVerdict(t *testing.T, text string, in impl.Inst, v int64, route []int64, want impl.Verdict) {
	t.Helper()
	p := soundProg(t, text)
	c := impl.Compile(p)
	keptProg, keptInst, keptRoute := copyProg(p), copyInst(in), slices.Clone(route)
	if got := impl.Judge(p, in, v, route); got != want {
		t.Errorf("%.200q over %v: judged %+v, not %+v", text, briefly(route), got, want)
	}
	if got := impl.RunRoute(c, in, v, route); got != want {
		t.Errorf("%.200q over %v: run gives %+v, not %+v", text, briefly(route), got, want)
	}
	if got := byStates(t, c, in, v, route); want.Code != 0 && got != want {
		t.Errorf("%.200q over %v: the states give %+v, not %+v", text, briefly(route), got, want)
	}
	if !sameProg(p, keptProg) || !sameInst(in, keptInst) || !slices.Equal(route, keptRoute) {
		t.Errorf("%.200q over %v: an argument is written into", text, briefly(route))
	}
}

func briefly(route []int64) []int64 { return route[:min(len(route), 20)] }

// manyRequests has one vehicle and as many requests as it is told, all of one kind.
func manyRequests(count int, q impl.Request) impl.Inst {
	return impl.Inst{
		Vehicles: []impl.Vehicle{{Home: impl.Place{Close: impl.TimeMax}}},
		Requests: slices.Repeat([]impl.Request{q}, count),
	}
}

// inTurn delivers each request before it picks up the next.
func inTurn(in impl.Inst) []int64 {
	var route []int64
	for q := range int64(len(in.Requests)) {
		route = append(route, int64(len(in.Vehicles))+2*q, int64(len(in.Vehicles))+2*q+1)
	}
	return route
}

// allAtOnce picks up every request before it delivers the first.
func allAtOnce(in impl.Inst) []int64 {
	var picks, drops []int64
	for q := range int64(len(in.Requests)) {
		picks = append(picks, int64(len(in.Vehicles))+2*q)
		drops = append(drops, int64(len(in.Vehicles))+2*q+1)
	}
	return append(picks, drops...)
}

// tightInst has few tags, short ways and small numbers, so that rules are met and broken about as often.
func tightInst(r *rand.Rand) impl.Inst {
	place := func() impl.Place {
		p := impl.Place{X: r.Int63n(9) - 4, Y: r.Int63n(9) - 4, Open: r.Int63n(30) * r.Int63n(2), Hold: r.Int63n(4)}
		p.Close = p.Open + r.Int63n(60)
		return p
	}
	var in impl.Inst
	for range 1 + r.Intn(3) {
		in.Vehicles = append(in.Vehicles, impl.Vehicle{Room: r.Int63n(20), Skills: r.Int63n(8), Home: place()})
	}
	for range 1 + r.Intn(6) {
		in.Requests = append(in.Requests, impl.Request{Size: r.Int63n(8), Tags: r.Int63n(8), From: place(), To: place()})
	}
	nodes := int64(len(in.Vehicles) + 2*len(in.Requests))
	for a := range nodes {
		for b := range nodes {
			if a != b && r.Intn(4) == 0 {
				in.Roads = append(in.Roads, impl.Road{A: a, B: b, Time: r.Int63n(20)})
			}
		}
	}
	return in
}

// pairedRoute serves some of the requests, each whole, in any order.
func pairedRoute(r *rand.Rand, in impl.Inst) []int64 {
	var route []int64
	for q := range in.Requests {
		if r.Intn(5) == 0 {
			continue
		}
		pick := int64(len(in.Vehicles) + 2*q)
		i := r.Intn(len(route) + 1)
		j := i + r.Intn(len(route)+1-i)
		if r.Intn(3) == 0 {
			i, j = len(route), len(route)
		}
		route = slices.Insert(slices.Insert(route, j, pick+1), i, pick)
	}
	return route
}

func randomStop(r *rand.Rand, in impl.Inst) int64 {
	return int64(len(in.Vehicles)) + r.Int63n(2*int64(len(in.Requests)))
}

// anyRoute is mostly paired; else stops are added, left out and swapped.
func anyRoute(r *rand.Rand, in impl.Inst) []int64 {
	route := pairedRoute(r, in)
	if r.Intn(3) > 0 {
		return route
	}
	for range 1 + r.Intn(2) {
		at := r.Intn(len(route) + 1)
		switch {
		case r.Intn(2) == 0 || at == len(route):
			route = slices.Insert(route, at, randomStop(r, in))
		case r.Intn(2) == 0:
			route = slices.Delete(route, at, at+1)
		default:
			route[0], route[at] = route[at], route[0]
		}
	}
	return route
}
