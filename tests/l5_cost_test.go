package tests

import (
	"math"
	"math/rand"
	"slices"
	"testing"

	"loop.example/s0023/impl"
)

func lookAtCost(t *testing.T, name string, in impl.Inst, v int64, route []int64, want int64) {
	t.Helper()
	keptInst, keptRoute := copyInst(in), slices.Clone(route)
	if got := impl.Cost(in, v, route); got != want {
		t.Errorf("%s: vehicle %d over %v costs %d, not %d", name, v, briefly(route), got, want)
	}
	if !sameInst(in, keptInst) || !slices.Equal(route, keptRoute) {
		t.Errorf("%s: Cost writes into an argument", name)
	}
}

func TestCost(t *testing.T) {
	in := machineInst()
	for _, row := range []struct {
		name  string
		v     int64
		route []int64
		want  int64
	}{
		{"the empty route", 0, nil, 0},
		{"the empty route", 1, []int64{}, 0},
		{"one stop, by a road there", 0, []int64{2}, 20 + 3},
		{"one stop, by a road back", 0, []int64{5}, 8 + 1},
		{"one stop", 0, []int64{9}, 2 + 2},
		{"one stop, and a road from another home", 1, []int64{2}, 17 + 17},
		{"one stop, and a road to another home", 1, []int64{5}, 28 + 28},
		{"several", 0, []int64{2, 3}, 20 + 2 + 5},
		{"several", 0, []int64{6, 8}, 2 + 3 + 1},
		{"all roads", 0, []int64{2, 3, 4, 5}, 20 + 2 + 50 + 4 + 1},
		{"a road against its direction", 0, []int64{4, 3}, 4 + 9 + 5},
		{"a delivery before its pickup", 0, []int64{3, 2}, 5 + 2 + 3},
		{"a delivery alone", 1, []int64{3}, 15 + 15},
		{"a stop twice", 0, []int64{2, 2}, 20 + 0 + 3},
		{"stops over and over", 0, []int64{2, 2, 3, 3, 3, 2}, 20 + 0 + 2 + 0 + 0 + 2 + 3},
	} {
		lookAtCost(t, row.name, in, row.v, row.route, row.want)
	}
}

func TestCostOfOneStopOrNoneWithoutRequests(t *testing.T) {
	in := impl.Inst{Vehicles: machineInst().Vehicles}
	lookAtCost(t, "no request", in, 1, nil, 0)
	for _, node := range []int64{-1, 0, 1, 2, 3} {
		lookAtCost(t, "no request", in, 1, []int64{node}, -1)
	}
}

// The longest route over the longest roads stays below Cap, so no sum of a valid instance saturates.
func TestCostAtItsLargest(t *testing.T) {
	in := onePlace(1, 0)
	for a := range int64(3) {
		for b := range int64(3) {
			if a != b {
				in.Roads = append(in.Roads, impl.Road{A: a, B: b, Time: impl.RoadTimeMax})
			}
		}
	}
	route := slices.Repeat([]int64{1, 2}, impl.RouteMax/2)
	lookAtCost(t, "RouteMax stops", in, 0, route, (impl.RouteMax+1)*impl.RoadTimeMax)
	lookAtCost(t, "one less", in, 0, route[1:], impl.RouteMax*impl.RoadTimeMax)
	lookAtCost(t, "one more", in, 0, append(route, 1), -1)
	lookAtCost(t, "many more", in, 0, append(route, route...), -1)
	lookAtCost(t, "RouteMax times one stop", in, 0, slices.Repeat([]int64{1}, impl.RouteMax), 2*impl.RoadTimeMax)
	lookAtCost(t, "one more of it", in, 0, slices.Repeat([]int64{1}, impl.RouteMax+1), -1)
}

func TestCostOfWrongArguments(t *testing.T) {
	in := machineInst()
	for _, v := range []int64{-1, 2, 3, math.MinInt64, math.MaxInt64, 1 << 32} {
		lookAtCost(t, "a vehicle that is not there", in, v, []int64{2, 3}, -1)
		lookAtCost(t, "a vehicle that is not there", in, v, nil, -1)
	}
	for _, node := range []int64{-1, 0, 1, 10, 11, math.MinInt64, math.MaxInt64, 1<<32 + 2} {
		for _, route := range [][]int64{{node}, {node, 2, 3}, {2, node, 3}, {2, 3, node}} {
			lookAtCost(t, "a number that is no stop node", in, 0, route, -1)
		}
	}
	wrongInsts(func(name string, in impl.Inst) {
		lookAtCost(t, name, in, 0, []int64{2, 3}, -1)
		lookAtCost(t, name, in, 0, nil, -1)
	})
	lookAtCost(t, "no vehicle", impl.Inst{Requests: in.Requests}, 0, nil, -1)
	lookAtCost(t, "no vehicle", impl.Inst{Requests: in.Requests}, 0, []int64{0}, -1)
	lookAtCost(t, "nothing at all", impl.Inst{}, 0, nil, -1)
}

func TestCostAgainstTravel(t *testing.T) {
	r := rand.New(rand.NewSource(56))
	for range 3000 {
		in := randomInst(r)
		if len(in.Vehicles) == 0 || len(in.Requests) == 0 {
			continue
		}
		v := r.Int63n(int64(len(in.Vehicles)))
		route := anyRoute(r, in)
		lookAtCost(t, "a random route", in, v, route, slowCost(in, v, route))
		want, from := int64(0), v
		for _, node := range append(slices.Clone(route), v) {
			want = impl.SatAdd(want, impl.Travel(in, from, node))
			from = node
		}
		lookAtCost(t, "a random route", in, v, route, want)
	}
}
