package tests

import (
	"math"
	"runtime"
	"sync"
	"testing"
	"time"

	"loop.example/s0023/impl"
)

// All gains are 0 here.
func TestBestMoveOfTies(t *testing.T) {
	lookAtMove(t, "", onePlace(2, 0, 0, 0), toursOf(nil, nil), found(0, 0, 0, 0, 0, 6))
	lookAtMove(t, "", onePlace(2, 0, 0, 0), toursOf([]int64{2, 3}, nil), found(0, 1, 0, 0, 0, 2*7))

	skilled := onePlace(2, 1, 0)
	skilled.Vehicles[1].Skills = 1
	lookAtMove(t, "each not has a or skill a;", skilled, toursOf(nil, nil), found(0, 0, 1, 0, 0, 4))

	// On vehicle 0 the pickup must come last, on vehicle 1 it could be the first.
	lookAtMove(t, "never has b then has a;", onePlace(2, 1, 2), toursOf([]int64{2, 3}, nil), found(0, 1, 0, 2, 2, 7))

	one := toursOf([]int64{1, 2})
	lookAtMove(t, "each not (pos = 2 and drop); lifo 9;", onePlace(1, 0, 0), one, found(0, 1, 0, 0, 2, 6))
	lookAtMove(t, "each not (pos = 2 and drop);", onePlace(1, 0, 0), one, found(0, 1, 0, 0, 1, 6))
	lookAtMove(t, "each not (pos = 1 and has b);", onePlace(1, 0, 2), one, found(0, 1, 0, 1, 1, 6))
	lookAtMove(t, "each not (pos = 4 and has a);", onePlace(1, 1, 0), one, found(0, 1, 0, 0, 2, 6))
}

// lineInst has two homes at the ends of a line and three requests between them.
func lineInst() impl.Inst {
	at := func(x int64) impl.Place { return impl.Place{X: x, Close: 1000} }
	return impl.Inst{
		Vehicles: []impl.Vehicle{{Home: at(0)}, {Home: at(100)}},
		Requests: []impl.Request{{From: at(10), To: at(20)}, {From: at(90), To: at(80)}, {From: at(50), To: at(50)}},
	}
}

func TestBestMoveByGain(t *testing.T) {
	in := lineInst()
	lookAtMove(t, "", in, toursOf(nil, nil), found(40, 0, 0, 0, 0, 6))
	lookAtMove(t, "each dist <= 90 or 100 <= pos;", in, toursOf(nil, nil), found(40, 0, 0, 0, 0, 6))
	lookAtMove(t, "", in, toursOf([]int64{2, 3}, nil), found(40, 1, 1, 0, 0, 14))
	lookAtMove(t, "", in, toursOf([]int64{2, 3}, []int64{4, 5}), found(60, 2, 0, 1, 1, 12))
	lookAtMove(t, "each pos <= 2 or leg < 30;", in, toursOf([]int64{2, 3}, []int64{4, 5}), noneFound(12))
	lookAtMove(t, "each leg < 40;", in, toursOf([]int64{2, 3}, []int64{4, 5}), found(60, 2, 0, 2, 2, 12))
	in.Roads = []impl.Road{{A: 5, B: 6, Time: 29}}
	lookAtMove(t, "", in, toursOf([]int64{2, 3}, []int64{4, 5}), found(59, 2, 1, 2, 2, 12))
	in.Roads = []impl.Road{{A: 7, B: 0, Time: 48}, {A: 7, B: 1, Time: 47}}
	lookAtMove(t, "", in, toursOf([]int64{2, 3}, []int64{4, 5}), found(57, 2, 1, 2, 2, 12))
}

func TestBestMoveOfGainsThatAreNotPositive(t *testing.T) {
	in := onePlace(1, 0, 0)
	in.Roads = []impl.Road{{A: 1, B: 2, Time: 100}}
	tours := toursOf([]int64{1, 2})
	lookAtMove(t, "", in, tours, found(-100, 1, 0, 0, 1, 6))
	lookAtMove(t, "lifo 2;", in, tours, found(-100, 1, 0, 1, 1, 6))
	lookAtMove(t, "lifo 1;", in, tours, found(0, 1, 0, 0, 0, 6))
	lookAtMove(t, "lifo 0;", in, tours, noneFound(6))
	in.Roads = append(in.Roads, impl.Road{A: 1, B: 3, Time: 99}, impl.Road{A: 1, B: 4, Time: 101}, impl.Road{A: 3, B: 1, Time: 7})
	lookAtMove(t, "", in, tours, found(-1, 1, 0, 1, 1, 6))
	lookAtMove(t, "lifo 1;", in, tours, found(0, 1, 0, 0, 0, 6))
}

func TestBestMoveOverToursThatAreNotAccepted(t *testing.T) {
	in := onePlace(1, 2, 1)
	one := toursOf([]int64{1, 2})
	lookAtMove(t, "each not has b or 2 < pos;", in, one, found(0, 1, 0, 0, 0, 6))
	lookAtMove(t, "each not has b or pos = 1 or pos = 4;", in, one, found(0, 1, 0, 1, 1, 6))
	lookAtMove(t, "end 4 < pos;", in, one, found(0, 1, 0, 0, 0, 6))
	lookAtMove(t, "end pos < 5;", in, one, noneFound(6))
	lookAtMove(t, "each not has b;", in, one, noneFound(6))
	lookAtMove(t, "each not has b;", onePlace(2, 2, 1), toursOf([]int64{2, 3}, nil), found(0, 1, 1, 0, 0, 7))
	lookAtMove(t, "each not has b;", onePlace(2, 2, 1), toursOf(nil, []int64{2, 3}), found(0, 1, 0, 0, 0, 7))
}

// Each rule here hangs on what stands before the pickup.
func TestBestMoveGoesOnFromWhatCameBefore(t *testing.T) {
	in := onePlace(1, 1, 2, 4)
	in.Requests[0].Size, in.Requests[1].Size, in.Requests[2].Size = 5, 3, 4
	two := toursOf([]int64{1, 3, 2, 4})
	for _, row := range []struct {
		text string
		want impl.Move
	}{
		{"each load <= 8;", found(0, 2, 0, 0, 0, 15)},
		{"each load <= 8; each not has c or 1 < pos;", found(0, 2, 0, 3, 3, 15)},
		{"each load <= 8; each not has c or 4 < pos;", found(0, 2, 0, 4, 4, 15)},
		{"never has b then has c;", found(0, 2, 0, 0, 0, 15)},
		{"never has c then has b;", found(0, 2, 0, 4, 4, 15)},
		{"never has c then has a and drop;", found(0, 2, 0, 3, 3, 15)},
		{"apart a c;", found(0, 2, 0, 0, 0, 15)},
		{"apart a c; each not has c or 2 < pos;", found(0, 2, 0, 3, 3, 15)},
		{"sum if(has c and pick, pos, 0) from 0 in -9 .. 9; ride pos in 0 .. 2;", found(0, 2, 0, 0, 0, 15)},
		{"ride pos in 2 .. 3;", found(0, 2, 0, 0, 1, 15)},
		{"ride pos in 4 .. 4;", noneFound(15)},
		{"ride pos in 2 .. 4; sum if(has c, 1, 0) from 1 in 1 .. 3; never pos = 4 then drop and has c; each not has c or 1 < pos;", found(0, 2, 0, 1, 2, 15)},
		{"streak pick most 2; each not has c or not drop or 5 < pos;", found(0, 2, 0, 3, 4, 15)},
		{"let q = load * load; each q <= 64; each not has c or 1 < pos;", found(0, 2, 0, 3, 3, 15)},
	} {
		lookAtMove(t, row.text, in, two, row.want)
		if slow := slowBest(soundProg(t, row.text), in, two); slow != row.want {
			t.Errorf("%q: the slow one gives %+v", row.text, slow)
		}
	}
}

func TestBestMoveWithoutAnyTrial(t *testing.T) {
	in := machineInst()
	for _, text := range []string{"", "each false;", "end false; lifo 0;"} {
		lookAtMove(t, text, in, toursOf([]int64{2, 4, 3, 5}, []int64{6, 8, 9, 7}), noneFound(0))
		lookAtMove(t, text, in, toursOf(nil, []int64{2, 3, 4, 5, 6, 7, 8, 9}), noneFound(0))
		lookAtMove(t, text, impl.Inst{Requests: in.Requests}, nil, noneFound(0))
		lookAtMove(t, text, impl.Inst{Vehicles: in.Vehicles}, toursOf(nil, nil), noneFound(0))
		lookAtMove(t, text, impl.Inst{}, toursOf(), noneFound(0))
	}
	many := manyRequests(impl.ReqMax, impl.Request{})
	lookAtMove(t, "lifo 9; ride pos in 0 .. 9; ride time in 0 .. 9;", many, toursOf(inTurn(many)), noneFound(0))
	if got := bestMove(t, impl.Prog{}, many, toursOf(inTurn(many)[:2*impl.ReqMax-2])); got != (impl.Move{}) {
		t.Errorf("one request is left to a tour of 1998 stops: %+v", got)
	}
}

func TestBestMoveCountsItsTries(t *testing.T) {
	in := machineInst()
	for _, row := range []struct {
		tours []impl.Tour
		tries int64
	}{
		{toursOf(nil, nil), 4 * 2},
		{toursOf([]int64{2, 3}, nil), 3 * (6 + 1)},
		{toursOf(nil, []int64{2, 3}), 3 * (6 + 1)},
		{toursOf([]int64{8, 9}, []int64{2, 3}), 2 * (6 + 6)},
		{toursOf([]int64{2, 3, 4, 5}, nil), 2 * (15 + 1)},
		{toursOf([]int64{2, 4, 3, 5}, []int64{6, 7}), 15 + 6},
		{toursOf(nil, []int64{8, 6, 4, 5, 7, 9}), 28 + 1},
	} {
		lookAtMove(t, "each false;", in, row.tours, noneFound(row.tries))
		if got := bestMove(t, impl.Prog{}, in, row.tours); !got.Found || got.Tries != row.tries {
			t.Errorf("%v: %+v, not %d tries", row.tours, got, row.tries)
		}
	}
}

// toursOfLengths serves the first requests, each tour in turn; all stands at one place, and the last request has tag a.
func toursOfLengths(lengths ...int) (impl.Inst, []impl.Tour) {
	total := 0
	for _, n := range lengths {
		total += n / 2
	}
	in := onePlace(len(lengths), append(make([]int64, total), 1)...)
	var tours []impl.Tour
	next := int64(len(lengths))
	for _, n := range lengths {
		var stops []int64
		for range n {
			stops = append(stops, next)
			next++
		}
		tours = append(tours, impl.Tour{Stops: stops})
	}
	return in, tours
}

func TestBestMoveAtFuelMax(t *testing.T) {
	in := onePlace(50, make([]int64, 400)...)
	lookAtMove(t, "", in, make([]impl.Tour, 50), found(0, 0, 0, 0, 0, impl.FuelMax))
	lookAtMove(t, "each 399 <= 3 * load;", in, make([]impl.Tour, 50), noneFound(impl.FuelMax))
	in.Requests[399].Tags = 1
	in.Vehicles[49].Skills = 2
	lookAtMove(t, "each has a and skill b;", in, make([]impl.Tour, 50), found(0, 399, 49, 0, 0, impl.FuelMax))
	lookAtMove(t, "", onePlace(59, make([]int64, 339)...), make([]impl.Tour, 59), impl.Move{})
	lookAtMove(t, "", onePlace(64, make([]int64, 1000)...), make([]impl.Tour, 64), impl.Move{})

	in, tours := toursOfLengths(198, 10, 6, 2)
	lookAtMove(t, "each not has a or 198 < pos;", in, tours, found(0, 108, 0, 198, 198, impl.FuelMax))
	lookAtMove(t, "each not has a or 198 < pos; ride pos in 1 .. 1; lifo 1;", in, tours, found(0, 108, 0, 198, 198, impl.FuelMax))
	lookAtMove(t, "each not has a or 199 < pos;", in, tours, noneFound(impl.FuelMax))
	in, tours = toursOfLengths(198, 10, 6, 2, 0)
	lookAtMove(t, "", in, tours, impl.Move{})
	in, tours = toursOfLengths(0, 0, 2, 6, 10, 198)
	lookAtMove(t, "", in, tours, impl.Move{})
	in, tours = toursOfLengths(1998)
	lookAtMove(t, "", in, tours, impl.Move{})
}

// notWellFormed has tours for machineInst, one list for each way in which they can go wrong.
func notWellFormed() map[string][][]impl.Tour {
	ways := map[string][][]impl.Tour{
		"too few":                  {nil, toursOf(), toursOf(nil), toursOf([]int64{2, 3})},
		"too many":                 {toursOf(nil, nil, nil), toursOf([]int64{2, 3}, nil, nil), toursOf(nil, nil, []int64{2, 3}), make([]impl.Tour, 100)},
		"a node twice in one":      {toursOf([]int64{2, 3, 2}, nil), toursOf([]int64{2, 2, 3}, nil), toursOf(nil, []int64{2, 3, 3}), toursOf([]int64{2, 3, 2, 3}, nil), toursOf(nil, []int64{2, 4, 2, 3, 5})},
		"a node twice in two":      {toursOf([]int64{2, 3}, []int64{2, 3}), toursOf([]int64{2, 3}, []int64{2}), toursOf([]int64{2, 3}, []int64{3}), toursOf([]int64{4, 5, 8, 9}, []int64{2, 3, 8, 9})},
		"one node alone":           {toursOf([]int64{2}, nil), toursOf(nil, []int64{3}), toursOf([]int64{2, 3, 4}, nil), toursOf([]int64{5, 2, 3}, nil), toursOf([]int64{2, 3}, []int64{8}), toursOf(nil, []int64{2, 3, 9})},
		"a delivery first":         {toursOf([]int64{3, 2}, nil), toursOf(nil, []int64{3, 2}), toursOf([]int64{4, 3, 2, 5}, nil), toursOf([]int64{2, 3}, []int64{6, 7, 9, 8})},
		"a request over two":       {toursOf([]int64{2}, []int64{3}), toursOf([]int64{3}, []int64{2}), toursOf([]int64{4, 2, 5}, []int64{3}), toursOf([]int64{6, 7, 2}, []int64{3, 8, 9})},
		"a number that is no stop": nil,
	}
	for _, node := range []int64{-1, 0, 1, 10, 11, math.MinInt64, math.MaxInt64, 1<<32 + 2} {
		ways["a number that is no stop"] = append(ways["a number that is no stop"], toursOf([]int64{node}, nil), toursOf(nil, []int64{node}),
			toursOf([]int64{2, node, 3}, nil), toursOf([]int64{2, 3}, []int64{4, 5, node}), toursOf([]int64{node, node + 1}, nil))
	}
	return ways
}

func TestBestMoveOverToursThatAreNotWellFormed(t *testing.T) {
	in := machineInst()
	for way, list := range notWellFormed() {
		for _, tours := range list {
			for _, text := range []string{"", "each false;"} {
				if got := bestMove(t, soundProg(t, text), in, tours); got != (impl.Move{}) {
					t.Errorf("%s: %v: %+v", way, tours, got)
				}
			}
		}
	}
	if got := impl.BestMove(impl.Prog{}, impl.Inst{}, toursOf(nil)); got != (impl.Move{}) {
		t.Errorf("a tour of no vehicle: %+v", got)
	}
	if got := impl.BestMove(impl.Prog{}, impl.Inst{Vehicles: in.Vehicles}, toursOf([]int64{2, 3}, nil)); got != (impl.Move{}) {
		t.Errorf("a tour of no request: %+v", got)
	}
	for _, tours := range [][]impl.Tour{toursOf([]int64{2, 3}, []int64{4, 5}), toursOf([]int64{2, 4, 5, 3}, nil), toursOf(nil, []int64{8, 2, 9, 3})} {
		if got := bestMove(t, impl.Prog{}, in, tours); !got.Ok || !got.Found {
			t.Errorf("%v are well formed: %+v", tours, got)
		}
	}
}

func TestBestMoveOfWrongArguments(t *testing.T) {
	unsoundProgs(func(name string, p impl.Prog) {
		for _, tours := range [][]impl.Tour{toursOf(nil, nil), toursOf([]int64{2, 3}, []int64{4, 5}), toursOf([]int64{2, 3, 4, 5, 6, 7, 8, 9}, nil)} {
			if got := bestMove(t, p, machineInst(), tours); got != (impl.Move{}) {
				t.Errorf("%s: %+v", name, got)
			}
		}
		if got := bestMove(t, p, impl.Inst{}, nil); got != (impl.Move{}) {
			t.Errorf("%s, no vehicle: %+v", name, got)
		}
	})
	wrongInsts(func(name string, in impl.Inst) {
		for _, tours := range [][]impl.Tour{make([]impl.Tour, len(in.Vehicles)), toursOf(nil, nil), toursOf([]int64{2, 3}, nil)} {
			if got := bestMove(t, impl.Prog{}, in, tours); got != (impl.Move{}) {
				t.Errorf("%s: %+v", name, got)
			}
		}
	})
}

func TestBestMoveLeavesNoGoroutine(t *testing.T) {
	before := runtime.NumGoroutine()
	for range 50 {
		lookAtMove(t, "lifo 2;", lineInst(), toursOf([]int64{2, 3}, nil), found(40, 1, 1, 0, 0, 14))
	}
	for range 100 {
		if runtime.NumGoroutine() <= before {
			return
		}
		time.Sleep(10 * time.Millisecond)
	}
	t.Errorf("%d goroutines, %d before", runtime.NumGoroutine(), before)
}

func TestBestMoveAskedByManyAtOnce(t *testing.T) {
	in, tours := toursOfLengths(40, 20, 0)
	p := soundProg(t, "let late = 30 < pos; each not has a or late; ride pos in 1 .. 5; lifo 2; sum if(pick, 1, 0) from 0 in 0 .. 99;")
	want := found(0, 30, 0, 30, 30, 861+231+1)
	var all sync.WaitGroup
	got := make([]impl.Move, 8)
	plans := make([]impl.Plan, 8)
	for k := range got {
		all.Add(1)
		go func() {
			defer all.Done()
			got[k] = impl.BestMove(p, in, tours)
			plans[k] = impl.PlanAll(p, in, 2000)
		}()
	}
	all.Wait()
	for k := range got {
		if got[k] != want {
			t.Errorf("%+v, not %+v", got[k], want)
		}
		if !plans[k].Ok || !samePlan(plans[k], plans[0]) {
			t.Errorf("%+v, not %+v", plans[k], plans[0])
		}
	}
}
