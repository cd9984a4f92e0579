package tests

import (
	"math"
	"math/rand"
	"slices"
	"testing"

	"loop.example/s0023/impl"
)

// lookAtBad wants the bad verdict from both, where the program has code.
func lookAtBad(t *testing.T, name string, p impl.Prog, in impl.Inst, v int64, route []int64) {
	t.Helper()
	kept := slices.Clone(route)
	if got := impl.Judge(p, in, v, route); got != badVerdict {
		t.Errorf("%s: judged %+v", name, got)
	}
	if got := impl.RunRoute(impl.Compile(p), in, v, route); got != badVerdict {
		t.Errorf("%s: run gives %+v", name, got)
	}
	if !slices.Equal(route, kept) {
		t.Errorf("%s: the route is written into", name)
	}
}

func TestRouteOfAProgramThatIsNotSound(t *testing.T) {
	in := machineInst()
	for _, text := range []string{"each time;", "each zz;", "lifo 1; lifo 1;", "let a = 1; let a = 1;", "end 1;", "let a = 1 + true;"} {
		p := impl.ParseProg([]byte(text)).Prog
		for _, route := range [][]int64{nil, {2, 3}, {3}, {2, 2}} {
			lookAtBad(t, text, p, in, 0, route)
		}
	}
	for name, p := range map[string]impl.Prog{
		"an item of no kind":   {Items: []impl.Item{{}}},
		"an empty expression":  {Items: []impl.Item{{Kind: impl.ItemEach}}},
		"too many items":       {Items: slices.Repeat([]impl.Item{{Kind: impl.ItemApart}}, impl.ItemMax+1)},
		"a missing operand":    {Items: []impl.Item{{Kind: impl.ItemEach, E: []impl.Op{{Kind: impl.OpNot}}}}},
		"an attribute of none": {Items: []impl.Item{{Kind: impl.ItemLet, Name: "q", E: []impl.Op{{Kind: impl.OpAttr, Val: 13}}}}},
	} {
		lookAtBad(t, name, p, in, 0, []int64{2, 3})
		lookAtBad(t, name, p, in, 0, nil)
	}
}

func TestRouteOfWrongArguments(t *testing.T) {
	in := machineInst()
	for _, text := range []string{"", "each false;", "lifo 2; end false;"} {
		p := soundProg(t, text)
		for _, v := range []int64{-1, 2, 3, math.MinInt64, math.MaxInt64, 1 << 32} {
			lookAtBad(t, "a vehicle that is not there", p, in, v, []int64{2, 3})
			lookAtBad(t, "a vehicle that is not there", p, in, v, nil)
		}
		for _, node := range []int64{-1, 0, 1, 10, 11, math.MinInt64, math.MaxInt64, 1<<32 + 2} {
			for _, route := range [][]int64{{node}, {node, 2, 3}, {2, node, 3}, {2, 3, node}, {3, node}, {2, 2, node}, {2, 3, 2, 2, 2, 2, node}} {
				lookAtBad(t, "a number that is no stop node", p, in, 0, route)
			}
		}
	}
	wrongArguments(func(name string, c impl.Code, in impl.Inst, v int64) {
		if impl.ValidCode(c) {
			lookAtBad(t, name, impl.Prog{}, in, v, []int64{2, 3})
			lookAtBad(t, name, impl.Prog{}, in, v, nil)
		}
	})
	none := impl.Inst{Vehicles: in.Vehicles}
	for _, node := range []int64{-1, 0, 1, 2} {
		lookAtBad(t, "no request", impl.Prog{}, none, 0, []int64{node})
	}
	lookAtVerdict(t, "end pos = 1;", none, 1, nil, accepted)
}

func TestRouteOfEveryVehicle(t *testing.T) {
	in := machineInst()
	in.Vehicles = nil
	for v := range int64(impl.VehMax) {
		in.Vehicles = append(in.Vehicles, impl.Vehicle{Room: v, Home: impl.Place{X: v, Close: 9}})
	}
	in.Roads = nil
	for v := range int64(impl.VehMax) {
		route := []int64{impl.VehMax, impl.VehMax + 1}
		p := soundProg(t, "each room < 63;")
		want := accepted
		if v == 63 {
			want = rejected(1, 1)
		}
		if got := impl.Judge(p, in, v, route); got != want {
			t.Errorf("vehicle %d: %+v", v, got)
		}
		if got := impl.RunRoute(impl.Compile(p), in, v, route); got != want {
			t.Errorf("vehicle %d: run gives %+v", v, got)
		}
	}
	lookAtBad(t, "one more vehicle", impl.Prog{}, in, impl.VehMax, nil)
}

func TestRouteLengths(t *testing.T) {
	in := machineInst()
	for _, n := range []int{impl.RouteMax - 1, impl.RouteMax} {
		lookAtVerdict(t, "", in, 0, slices.Repeat([]int64{2}, n), rejected(2, 0))
		lookAtVerdict(t, "each false;", in, 0, slices.Repeat([]int64{2}, n), rejected(1, 1))
		lookAtVerdict(t, "", in, 0, append(slices.Clone(crossed), slices.Repeat([]int64{9}, n-4)...), rejected(5, 0))
	}
	for _, n := range []int{impl.RouteMax + 1, impl.RouteMax + 2, 3 * impl.RouteMax} {
		lookAtBad(t, "a route that is too long", impl.Prog{}, in, 0, slices.Repeat([]int64{2}, n))
		lookAtBad(t, "a route that is too long", soundProg(t, "each false;"), in, 0, slices.Repeat([]int64{2}, n))
	}
	many := manyRequests(impl.ReqMax, impl.Request{})
	long := append(inTurn(many), inTurn(many)...)
	lookAtVerdict(t, "end false;", many, 0, append(long, long...)[:impl.RouteMax], rejected(2001, 0))
}

func TestRunAgreesWithJudge(t *testing.T) {
	r := rand.New(rand.NewSource(46))
	seen := map[string]int{}
	for i := range 12000 {
		in := tightInst(r)
		route := anyRoute(r, in)
		for v := range int64(len(in.Vehicles)) {
			p := closeProg(r, in, v, route)
			if i%5 == 0 {
				p = progOf(randomTyped(r, r.Intn(6), 10, 0)...)
			}
			want := impl.Judge(p, in, v, route)
			if got := impl.RunRoute(impl.Compile(p), in, v, route); got != want || want.Code == impl.VerdictBad {
				t.Fatalf("%s%s%d %v: run gives %+v, not %+v", impl.PrintProg(p), impl.PrintInst(in), v, route, got, want)
			}
			seen[brokenKind(p, route, want)]++
		}
	}
	lookAtSeen(t, seen, 100)
}

// Longer routes, with more aboard at once than a few requests can be.
func TestRunAgreesWithJudgeOverManyRequests(t *testing.T) {
	r := rand.New(rand.NewSource(47))
	seen := map[string]int{}
	for range 400 {
		in := tightInst(r)
		for len(in.Requests) < 60 {
			in.Requests = append(in.Requests, in.Requests[r.Intn(len(in.Requests))])
			in.Requests[len(in.Requests)-1].Tags = r.Int63n(8) * r.Int63n(2)
		}
		route := pairedRoute(r, in)
		p := closeProg(r, in, 0, route)
		want := slowJudge(p, in, 0, route)
		if got := impl.Judge(p, in, 0, route); got != want {
			t.Fatalf("%s%s%v: judged %+v, not %+v", impl.PrintProg(p), impl.PrintInst(in), route, got, want)
		}
		if got := impl.RunRoute(impl.Compile(p), in, 0, route); got != want {
			t.Fatalf("%s%s%v: run gives %+v, not %+v", impl.PrintProg(p), impl.PrintInst(in), route, got, want)
		}
		seen[brokenKind(p, route, want)]++
	}
	if seen["accepted"] < 20 || seen["ride"] < 5 || seen["each"] < 20 {
		t.Errorf("verdicts: %v", seen)
	}
}

// tails are routes that begin as the given one does up to position at.
func tails(r *rand.Rand, in impl.Inst, route []int64, at int64) [][]int64 {
	first := route[:at:at]
	out := [][]int64{first, append(first, first...), append(first, randomStop(r, in))}
	for range 3 {
		out = append(out, append(first, anyRoute(r, in)...))
	}
	long := first
	for len(long) < impl.RouteMax {
		long = append(long, randomStop(r, in))
	}
	return append(out, long)
}

func TestRejectedRoutesStayRejected(t *testing.T) {
	r := rand.New(rand.NewSource(48))
	seen := map[string]int{}
	for range 4000 {
		in := tightInst(r)
		v := r.Int63n(int64(len(in.Vehicles)))
		route := anyRoute(r, in)
		p := closeProg(r, in, v, route)
		want := impl.Judge(p, in, v, route)
		if want.Code != impl.VerdictReject || want.At > int64(len(route)) {
			continue
		}
		c := impl.Compile(p)
		for _, other := range tails(r, in, route, want.At) {
			if got := impl.Judge(p, in, v, other); got != want {
				t.Fatalf("%s%s%d %v: judged %+v, not %+v", impl.PrintProg(p), impl.PrintInst(in), v, briefly(other), got, want)
			}
			if got := impl.RunRoute(c, in, v, other); got != want {
				t.Fatalf("%s%s%d %v: run gives %+v, not %+v", impl.PrintProg(p), impl.PrintInst(in), v, briefly(other), got, want)
			}
		}
		seen[brokenKind(p, route, want)]++
	}
	for _, kind := range []string{"pairing", "each", "sum", "never", "apart", "lifo", "ride", "streak"} {
		if seen[kind] < 20 {
			t.Errorf("%s came up %d times only", kind, seen[kind])
		}
	}
}
