package tests

import (
	"math"
	"math/rand"
	"slices"
	"testing"

	"loop.example/s0023/impl"
)

// bound is one number of an instance with the least and the most that it may be.
type bound struct {
	name  string
	least int64
	most  int64
	set   func(in *impl.Inst, x int64)
}

func placeBounds(name string, at func(in *impl.Inst) *impl.Place) []bound {
	return []bound{
		{name + " X", -impl.CoordMax, impl.CoordMax, func(in *impl.Inst, x int64) { at(in).X = x }},
		{name + " Y", -impl.CoordMax, impl.CoordMax, func(in *impl.Inst, x int64) { at(in).Y = x }},
		{name + " Open", 0, 40, func(in *impl.Inst, x int64) { at(in).Open, at(in).Close = x, 40 }},
		{name + " Close", 30, impl.TimeMax, func(in *impl.Inst, x int64) { at(in).Open, at(in).Close = 30, x }},
		{name + " both ends", 0, impl.TimeMax, func(in *impl.Inst, x int64) { at(in).Open, at(in).Close = x, x }},
		{name + " Hold", 0, impl.TimeMax, func(in *impl.Inst, x int64) { at(in).Hold = x }},
	}
}

func allBounds() []bound {
	out := []bound{
		{"Room", 0, impl.RoomMax, func(in *impl.Inst, x int64) { in.Vehicles[1].Room = x }},
		{"Skills", 0, 65535, func(in *impl.Inst, x int64) { in.Vehicles[1].Skills = x }},
		{"Size", 0, impl.SizeMax, func(in *impl.Inst, x int64) { in.Requests[1].Size = x }},
		{"Tags", 0, 65535, func(in *impl.Inst, x int64) { in.Requests[1].Tags = x }},
		{"the only A", 0, 4, func(in *impl.Inst, x int64) { in.Roads = []impl.Road{{A: x, B: 5}} }},
		{"the only B", 1, 5, func(in *impl.Inst, x int64) { in.Roads = []impl.Road{{A: 0, B: x}} }},
		{"road Time", 0, impl.RoadTimeMax, func(in *impl.Inst, x int64) { in.Roads[3].Time = x }},
	}
	out = append(out, placeBounds("home", func(in *impl.Inst) *impl.Place { return &in.Vehicles[1].Home })...)
	out = append(out, placeBounds("from", func(in *impl.Inst) *impl.Place { return &in.Requests[1].From })...)
	return append(out, placeBounds("to", func(in *impl.Inst) *impl.Place { return &in.Requests[1].To })...)
}

func lookAtBound(t *testing.T, b bound, x int64) {
	t.Helper()
	in := smallInst()
	b.set(&in, x)
	want := b.least <= x && x <= b.most
	if got := impl.ValidInst(in); got != want {
		t.Errorf("%s = %d: valid is %v, not %v", b.name, x, got, want)
	}
	if got := len(impl.PrintInst(in)) > 0; got != want {
		t.Errorf("%s = %d: has a print is %v, not %v", b.name, x, got, want)
	}
	if got := impl.Travel(in, 0, 0) == 0; got != want {
		t.Errorf("%s = %d: has travel times is %v, not %v", b.name, x, got, want)
	}
}

func TestValidAtEachBound(t *testing.T) {
	for _, b := range allBounds() {
		for _, x := range []int64{b.least, b.least + 1, b.most - 1, b.most} {
			lookAtBound(t, b, x)
		}
		for _, x := range []int64{b.least - 1, b.most + 1, -math.MaxInt64, math.MinInt64, math.MaxInt64} {
			lookAtBound(t, b, x)
		}
	}
}

func TestValidEmptyOnes(t *testing.T) {
	vehicles := impl.Inst{Vehicles: smallInst().Vehicles}
	requests := impl.Inst{Requests: smallInst().Requests}
	for _, in := range []impl.Inst{{}, {Roads: []impl.Road{}}, vehicles, requests} {
		if !impl.ValidInst(in) {
			t.Errorf("%+v is valid", in)
		}
	}
	if impl.ValidInst(impl.Inst{Roads: []impl.Road{{A: 0, B: 0}}}) || impl.ValidInst(impl.Inst{Roads: []impl.Road{{A: 0, B: 1}}}) {
		t.Error("a road without nodes is not valid")
	}
}

func TestValidCounts(t *testing.T) {
	full := fullInst()
	if !impl.ValidInst(full) {
		t.Fatal("the fullest instance is valid")
	}
	vehicles := copyInst(full)
	vehicles.Vehicles = append(vehicles.Vehicles, vehicles.Vehicles[0])
	requests := copyInst(full)
	requests.Requests = append(requests.Requests, requests.Requests[0])
	roads := copyInst(full)
	roads.Roads = slices.Insert(roads.Roads, 0, impl.Road{A: 0, B: 1})
	for i, in := range []impl.Inst{vehicles, requests, roads} {
		if impl.ValidInst(in) || len(impl.PrintInst(in)) != 0 || impl.Travel(in, 0, 0) != -1 {
			t.Errorf("one too many, case %d: taken as valid", i)
		}
	}
}

func TestValidRoads(t *testing.T) {
	rows := []struct {
		roads []impl.Road
		want  bool
	}{
		{[]impl.Road{{A: 1, B: 2}, {A: 1, B: 3}}, true},
		{[]impl.Road{{A: 1, B: 5}, {A: 2, B: 0}}, true},
		{[]impl.Road{{A: 1, B: 2}, {A: 2, B: 1}}, true},
		{[]impl.Road{{A: 1, B: 2}, {A: 1, B: 2}}, false},
		{[]impl.Road{{A: 1, B: 2, Time: 1}, {A: 1, B: 2, Time: 2}}, false},
		{[]impl.Road{{A: 1, B: 3}, {A: 1, B: 2}}, false},
		{[]impl.Road{{A: 2, B: 0}, {A: 1, B: 5}}, false},
		{[]impl.Road{{A: 0, B: 1}, {A: 2, B: 1}, {A: 1, B: 2}}, false},
		{[]impl.Road{{A: 3, B: 3}}, false},
		{[]impl.Road{{A: 0, B: 1}, {A: 0, B: 6}}, false},
		{[]impl.Road{{A: 0, B: 1}, {A: 6, B: 0}}, false},
		{[]impl.Road{{A: -1, B: 1}}, false},
		{[]impl.Road{{A: 1, B: -1}}, false},
	}
	for _, r := range rows {
		in := smallInst()
		in.Roads = r.roads
		if got := impl.ValidInst(in); got != r.want {
			t.Errorf("roads %v: valid is %v, not %v", r.roads, got, r.want)
		}
	}
}

func TestTravelWrittenOut(t *testing.T) {
	rows := []struct {
		name       string
		a, b, want int64
	}{
		{"along a road", 2, 3, 50},
		{"against a road", 3, 2, 13},
		{"a road of time 0", 0, 5, 0},
		{"against that", 5, 0, 1},
		{"a road into a home", 2, 1, 3},
		{"a home to a pickup", 1, 2, 11},
		{"the longest road", 5, 4, 100000},
		{"against that", 4, 5, 2},
		{"home to home", 0, 1, 12},
		{"a node to itself", 5, 5, 0},
		{"home to itself", 0, 0, 0},
		{"a past the last node", 6, 0, -1},
		{"b past the last node", 0, 6, -1},
		{"both past the last node", 6, 6, -1},
		{"a below 0", -1, 0, -1},
		{"b below 0", 0, -1, -1},
		{"both below 0", -1, -1, -1},
		{"the ends of int64", math.MinInt64, math.MaxInt64, -1},
	}
	in := smallInst()
	for _, r := range rows {
		if got := impl.Travel(in, r.a, r.b); got != r.want {
			t.Errorf("%s: Travel(%d, %d) = %d, not %d", r.name, r.a, r.b, got, r.want)
		}
	}
	if !sameInst(in, smallInst()) {
		t.Error("Travel wrote into its argument")
	}
}

func TestTravelWithoutAnswer(t *testing.T) {
	if got := impl.Travel(impl.Inst{}, 0, 0); got != -1 {
		t.Errorf("no nodes: %d", got)
	}
	bad := smallInst()
	bad.Roads[1], bad.Roads[2] = bad.Roads[2], bad.Roads[1]
	for _, pair := range [][2]int64{{0, 0}, {0, 1}, {2, 3}} {
		if got := impl.Travel(bad, pair[0], pair[1]); got != -1 {
			t.Errorf("roads out of order: Travel(%d, %d) = %d", pair[0], pair[1], got)
		}
	}
}

func placesInNodeOrder(in impl.Inst) []impl.Place {
	var out []impl.Place
	for _, v := range in.Vehicles {
		out = append(out, v.Home)
	}
	for _, q := range in.Requests {
		out = append(out, q.From, q.To)
	}
	return out
}

// The reference keeps the places in one list and the roads in a map.
func travelTable(in impl.Inst) func(a, b int64) int64 {
	places := placesInNodeOrder(in)
	roads := map[[2]int64]int64{}
	for _, r := range in.Roads {
		roads[[2]int64{r.A, r.B}] = r.Time
	}
	return func(a, b int64) int64 {
		n := int64(len(places))
		if a < 0 || a >= n || b < 0 || b >= n {
			return -1
		}
		if a == b {
			return 0
		}
		if time, ok := roads[[2]int64{a, b}]; ok {
			return time
		}
		dx, dy := float64(places[a].X-places[b].X), float64(places[a].Y-places[b].Y)
		return int64(math.Abs(dx) + math.Abs(dy))
	}
}

func TestTravelBetweenAllNodes(t *testing.T) {
	r := rand.New(rand.NewSource(2))
	for range 300 {
		in := randomInst(r)
		want := travelTable(in)
		nodes := int64(len(placesInNodeOrder(in)))
		for a := int64(-2); a <= nodes+1; a++ {
			for b := int64(-2); b <= nodes+1; b++ {
				if got := impl.Travel(in, a, b); got != want(a, b) {
					t.Fatalf("Travel(%d, %d) = %d, not %d in\n%s", a, b, got, want(a, b), impl.PrintInst(in))
				}
			}
		}
	}
}
