package tests

import (
	"math/rand"
	"slices"
	"testing"

	"loop.example/s0023/impl"
)

func toursOf(routes ...[]int64) []impl.Tour {
	tours := []impl.Tour{}
	for _, route := range routes {
		tours = append(tours, impl.Tour{Stops: route})
	}
	return tours
}

func copyTours(tours []impl.Tour) []impl.Tour {
	out := []impl.Tour{}
	for _, tour := range tours {
		out = append(out, impl.Tour{Stops: slices.Clone(tour.Stops)})
	}
	return out
}

func sameTours(x, y []impl.Tour) bool {
	return slices.EqualFunc(x, y, func(a, b impl.Tour) bool { return slices.Equal(a.Stops, b.Stops) })
}

func samePlan(x, y impl.Plan) bool {
	return x.Ok == y.Ok && sameTours(x.Tours, y.Tours) && slices.Equal(x.Costs, y.Costs) && slices.Equal(x.Unserved, y.Unserved) &&
		x.Cost == y.Cost && x.Tries == y.Tries && x.Stopped == y.Stopped
}

// bestMove asks twice, and looks whether an argument is written into.
func bestMove(t *testing.T, p impl.Prog, in impl.Inst, tours []impl.Tour) impl.Move {
	t.Helper()
	keptProg, keptInst, keptTours := copyProg(p), copyInst(in), copyTours(tours)
	got := impl.BestMove(p, in, tours)
	if again := impl.BestMove(p, in, tours); again != got {
		t.Errorf("asked again: %+v, not %+v", again, got)
	}
	if !sameProg(p, keptProg) || !sameInst(in, keptInst) || !sameTours(tours, keptTours) {
		t.Errorf("BestMove writes into an argument")
	}
	return got
}

// planAll asks twice, and looks whether an argument is written into.
func planAll(t *testing.T, p impl.Prog, in impl.Inst, fuel int64) impl.Plan {
	t.Helper()
	keptProg, keptInst := copyProg(p), copyInst(in)
	got := impl.PlanAll(p, in, fuel)
	if again := impl.PlanAll(p, in, fuel); !samePlan(again, got) {
		t.Errorf("asked again: %+v, not %+v", again, got)
	}
	if !sameProg(p, keptProg) || !sameInst(in, keptInst) {
		t.Errorf("PlanAll writes into an argument")
	}
	return got
}

func lookAtMove(t *testing.T, text string, in impl.Inst, tours []impl.Tour, want impl.Move) {
	t.Helper()
	if got := bestMove(t, soundProg(t, text), in, tours); got != want {
		t.Errorf("%q over %v: %+v, not %+v", text, tours, got, want)
	}
}

func lookAtPlan(t *testing.T, text string, in impl.Inst, fuel int64, want impl.Plan) {
	t.Helper()
	if got := planAll(t, soundProg(t, text), in, fuel); !samePlan(got, want) {
		t.Errorf("%q with %d: %+v, not %+v", text, fuel, got, want)
	}
}

// found is a Move that has been found.
func found(gain, q, v, i, j, tries int64) impl.Move {
	return impl.Move{Ok: true, Found: true, Gain: gain, Req: q, Veh: v, I: i, J: j, Tries: tries}
}

func noneFound(tries int64) impl.Move { return impl.Move{Ok: true, Tries: tries} }

// onePlace has all its homes and stops at one place, so that all gains are 0; the requests have the tags that it is told.
func onePlace(vehicles int, tags ...int64) impl.Inst {
	in := impl.Inst{Vehicles: make([]impl.Vehicle, vehicles)}
	for _, set := range tags {
		in.Requests = append(in.Requests, impl.Request{Tags: set})
	}
	return in
}

// randomTours serves about half of the requests.
func randomTours(r *rand.Rand, in impl.Inst) []impl.Tour {
	tours := make([]impl.Tour, len(in.Vehicles))
	for q := range in.Requests {
		if len(tours) == 0 || r.Intn(2) == 0 {
			continue
		}
		stops := &tours[r.Intn(len(tours))].Stops
		i := r.Intn(len(*stops) + 1)
		j := i + r.Intn(len(*stops)+1-i)
		*stops = slowTrialRoute(in, *stops, q, i, j)
	}
	return tours
}

// wrongInsts calls with instances that are not valid.
func wrongInsts(do func(name string, in impl.Inst)) {
	wrongArguments(func(name string, c impl.Code, in impl.Inst, v int64) {
		if name == "an instance that is not valid" {
			do(name, in)
		}
	})
}

// unsoundProgs calls with programs that Check refuses, valid ones and others.
func unsoundProgs(do func(name string, p impl.Prog)) {
	for _, text := range []string{"each time;", "each zz;", "lifo 1; lifo 1;", "let a = 1; let a = 1;", "end 1;", "let a = 1 + true;", "lifo 3; each true; sum pick from 0 in 0 .. 9;"} {
		do(text, impl.ParseProg([]byte(text)).Prog)
	}
	do("an item of no kind", impl.Prog{Items: []impl.Item{{}}})
	do("an empty expression", progOfOps())
	do("too many items", impl.Prog{Items: slices.Repeat([]impl.Item{{Kind: impl.ItemApart}}, impl.ItemMax+1)})
	do("a missing operand", progOfOps(impl.Op{Kind: impl.OpNot}))
}
