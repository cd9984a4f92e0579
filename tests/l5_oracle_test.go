package tests

import (
	"math/rand"
	"slices"
	"testing"

	"loop.example/s0023/impl"
)

func slowCost(in impl.Inst, v int64, route []int64) int64 {
	w := slowRouteOf(in, v, route)
	cost := int64(0)
	for i := range w.nodes {
		cost = slowClamp(cost + w.leg(i))
	}
	return cost
}

func slowTrialRoute(in impl.Inst, stops []int64, q int, i int, j int) []int64 {
	var route []int64
	pickup := int64(len(in.Vehicles) + 2*q)
	for k := 0; k <= len(stops); k++ {
		if k == i {
			route = append(route, pickup)
		}
		if k == j {
			route = append(route, pickup+1)
		}
		if k < len(stops) {
			route = append(route, stops[k])
		}
	}
	return route
}

func slowUnserved(in impl.Inst, tours []impl.Tour) []int64 {
	var out []int64
	for q := range in.Requests {
		pickup := int64(len(in.Vehicles) + 2*q)
		if !slices.ContainsFunc(tours, func(tour impl.Tour) bool { return slices.Contains(tour.Stops, pickup) }) {
			out = append(out, int64(q))
		}
	}
	return out
}

// slowTrials calls with every trial, in the order in which the document breaks ties.
func slowTrials(in impl.Inst, tours []impl.Tour, do func(q, v, i, j int)) {
	for _, q := range slowUnserved(in, tours) {
		for v, tour := range tours {
			for i := 0; i <= len(tour.Stops); i++ {
				for j := i; j <= len(tour.Stops); j++ {
					do(int(q), v, i, j)
				}
			}
		}
	}
}

// slowBest judges every whole trial route. It is for a sound program, a valid instance and well-formed tours with at most FuelMax trials.
func slowBest(p impl.Prog, in impl.Inst, tours []impl.Tour) impl.Move {
	best := impl.Move{Ok: true}
	slowTrials(in, tours, func(q, v, i, j int) {
		best.Tries++
		route := slowTrialRoute(in, tours[v].Stops, q, i, j)
		gain := slowCost(in, int64(v), route) - slowCost(in, int64(v), tours[v].Stops)
		if (!best.Found || gain < best.Gain) && slowJudge(p, in, int64(v), route) == accepted {
			best = found(gain, int64(q), int64(v), int64(i), int64(j), best.Tries)
		}
	})
	return best
}

func slowPlan(p impl.Prog, in impl.Inst, fuel int64) impl.Plan {
	plan := impl.Plan{Ok: true, Tours: make([]impl.Tour, len(in.Vehicles))}
	for {
		count := int64(0)
		slowTrials(in, plan.Tours, func(q, v, i, j int) { count++ })
		if count == 0 {
			break
		}
		if plan.Tries+count > fuel {
			plan.Stopped = true
			break
		}
		plan.Tries += count
		best := slowBest(p, in, plan.Tours)
		if !best.Found {
			break
		}
		stops := &plan.Tours[best.Veh].Stops
		*stops = slowTrialRoute(in, *stops, int(best.Req), int(best.I), int(best.J))
	}
	plan.Unserved = slowUnserved(in, plan.Tours)
	for v, tour := range plan.Tours {
		cost := slowCost(in, int64(v), tour.Stops)
		plan.Costs = append(plan.Costs, cost)
		plan.Cost = slowClamp(plan.Cost + cost)
	}
	return plan
}

// progNearTrial has bounds about where a route of some trial comes to stand.
func progNearTrial(r *rand.Rand, in impl.Inst, tours []impl.Tour) impl.Prog {
	var near [][]int64
	var vehicles []int64
	slowTrials(in, tours, func(q, v, i, j int) {
		near = append(near, slowTrialRoute(in, tours[v].Stops, q, i, j))
		vehicles = append(vehicles, int64(v))
	})
	if len(near) == 0 {
		return closeProg(r, in, 0, pairedRoute(r, in))
	}
	k := r.Intn(len(near))
	return closeProg(r, in, vehicles[k], near[k])
}

// moveKinds are what a random case was good for.
func moveKinds(p impl.Prog, in impl.Inst, tours []impl.Tour, m impl.Move) []string {
	var kinds []string
	add := func(kind string, holds bool) {
		if holds {
			kinds = append(kinds, kind)
		}
	}
	add("no trial", m.Tries == 0)
	add("none good", m.Tries > 0 && !m.Found)
	add("a negative gain", m.Found && m.Gain < 0)
	add("a gain of 0", m.Found && m.Gain == 0)
	add("a positive gain", m.Found && m.Gain > 0)
	add("a pickup further on", m.Found && m.I > 0)
	add("a delivery further on", m.Found && m.I < m.J)
	if !m.Found {
		return kinds
	}
	stops := tours[m.Veh].Stops
	verdict := slowJudge(p, in, m.Veh, stops)
	add("an empty tour", len(stops) == 0)
	add("a tour that is not accepted", verdict != accepted)
	add("a tour that is not accepted at a stop", verdict != accepted && verdict.At <= int64(len(stops)))
	return kinds
}

// asTheSlowOne wants the best move to be that of slowBest, and gives it.
func asTheSlowOne(t *testing.T, p impl.Prog, in impl.Inst, tours []impl.Tour) impl.Move {
	t.Helper()
	want := slowBest(p, in, tours)
	if got := bestMove(t, p, in, tours); got != want {
		t.Fatalf("%s%s%v: %+v, not %+v", impl.PrintProg(p), impl.PrintInst(in), tours, got, want)
	}
	return want
}

func TestBestMoveAgainstTheSlowOne(t *testing.T) {
	r := rand.New(rand.NewSource(51))
	seen := map[string]int{}
	for n := range 12000 {
		in := tightInst(r)
		tours := randomTours(r, in)
		p := progNearTrial(r, in, tours)
		if n%5 == 0 {
			p = progOf(randomTyped(r, r.Intn(4), 8, 0)...)
		}
		want := asTheSlowOne(t, p, in, tours)
		for _, kind := range moveKinds(p, in, tours, want) {
			seen[kind]++
		}
	}
	for _, kind := range []string{"no trial", "none good", "a negative gain", "a gain of 0", "a positive gain", "a pickup further on",
		"a delivery further on", "an empty tour", "a tour that is not accepted", "a tour that is not accepted at a stop"} {
		if seen[kind] < 50 {
			t.Errorf("%s came up %d times only", kind, seen[kind])
		}
	}
}

// Here the numbers of the instances go up to their bounds.
func TestBestMoveAgainstTheSlowOneOverWideNumbers(t *testing.T) {
	r := rand.New(rand.NewSource(52))
	seen := map[bool]int{}
	for range 3000 {
		in := randomInst(r)
		tours := randomTours(r, in)
		p := impl.Prog{}
		if len(in.Vehicles) > 0 && len(in.Requests) > 0 {
			p = progNearTrial(r, in, tours)
		}
		want := asTheSlowOne(t, p, in, tours)
		seen[want.Found]++
	}
	if seen[true] < 200 || seen[false] < 200 {
		t.Errorf("moves: %v", seen)
	}
}

// All ways are of the same few lengths here, so that most of the best trials are tied with others.
func TestBestMoveAgainstTheSlowOneOverTies(t *testing.T) {
	r := rand.New(rand.NewSource(53))
	for range 3000 {
		in := tightInst(r)
		in.Roads = nil
		for q := range in.Requests {
			in.Requests[q].From.X, in.Requests[q].From.Y = r.Int63n(2), 0
			in.Requests[q].To.X, in.Requests[q].To.Y = r.Int63n(2), 0
		}
		for v := range in.Vehicles {
			in.Vehicles[v].Home.X, in.Vehicles[v].Home.Y = 0, 0
		}
		tours := randomTours(r, in)
		p := progNearTrial(r, in, tours)
		asTheSlowOne(t, p, in, tours)
	}
}

// Longer tours, so that each worker has many trials.
func TestBestMoveAgainstTheSlowOneOverLongTours(t *testing.T) {
	r := rand.New(rand.NewSource(54))
	seen := map[bool]int{}
	for range 40 {
		in := tightInst(r)
		for len(in.Requests) < 20 {
			in.Requests = append(in.Requests, in.Requests[r.Intn(len(in.Requests))])
		}
		tours := randomTours(r, in)
		p := progNearTrial(r, in, tours)
		want := asTheSlowOne(t, p, in, tours)
		seen[want.Found]++
	}
	if seen[true] < 10 || seen[false] < 5 {
		t.Errorf("moves: %v", seen)
	}
}

// progNearPlan has bounds about where a route that serves several requests comes to stand.
func progNearPlan(r *rand.Rand, in impl.Inst) impl.Prog {
	return closeProg(r, in, r.Int63n(int64(len(in.Vehicles))), pairedRoute(r, in))
}

func TestPlanAgainstTheSlowOne(t *testing.T) {
	r := rand.New(rand.NewSource(55))
	seen := map[string]int{}
	for n := range 1500 {
		in := tightInst(r)
		p := progNearPlan(r, in)
		if n%5 == 0 {
			p = progOf(randomTyped(r, r.Intn(4), 8, 0)...)
		}
		fuel := r.Int63n(impl.FuelMax+1) >> r.Intn(15)
		want := slowPlan(p, in, fuel)
		if got := planAll(t, p, in, fuel); !samePlan(got, want) {
			t.Fatalf("%s%s%d: %+v, not %+v", impl.PrintProg(p), impl.PrintInst(in), fuel, got, want)
		}
		switch {
		case want.Stopped && want.Tries == 0:
			seen["stopped at once"]++
		case want.Stopped:
			seen["stopped"]++
		case len(want.Unserved) == 0:
			seen["all served"]++
		case len(want.Unserved) == len(in.Requests):
			seen["none served"]++
		default:
			seen["some served"]++
		}
	}
	for _, kind := range []string{"stopped at once", "stopped", "all served", "none served", "some served"} {
		if seen[kind] < 50 {
			t.Errorf("%s came up %d times only", kind, seen[kind])
		}
	}
}
