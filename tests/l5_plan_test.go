package tests

import (
	"math"
	"math/rand"
	"slices"
	"testing"

	"loop.example/s0023/impl"
)

func TestPlanOfALine(t *testing.T) {
	in := lineInst()
	whole := impl.Plan{Ok: true, Tours: toursOf([]int64{2, 6, 7, 3}, []int64{4, 5}), Costs: []int64{100, 40}, Cost: 140, Tries: 6 + 14 + 12}
	afterTwo := impl.Plan{Ok: true, Tours: toursOf([]int64{2, 3}, []int64{4, 5}), Costs: []int64{40, 40}, Unserved: []int64{2}, Cost: 80, Tries: 6 + 14, Stopped: true}
	afterOne := impl.Plan{Ok: true, Tours: toursOf([]int64{2, 3}, nil), Costs: []int64{40, 0}, Unserved: []int64{1, 2}, Cost: 40, Tries: 6, Stopped: true}
	none := impl.Plan{Ok: true, Tours: toursOf(nil, nil), Costs: []int64{0, 0}, Unserved: []int64{0, 1, 2}, Stopped: true}
	for fuel, want := range map[int64]impl.Plan{impl.FuelMax: whole, 33: whole, 32: whole, 31: afterTwo, 20: afterTwo, 19: afterOne, 6: afterOne, 5: none, 1: none, 0: none} {
		lookAtPlan(t, "", in, fuel, want)
	}

	noThird := afterTwo
	noThird.Tries, noThird.Stopped = 32, false
	lookAtPlan(t, "each pos <= 2;", in, impl.FuelMax, noThird)
	lookAtPlan(t, "each pos <= 2;", in, 32, noThird)
	lookAtPlan(t, "each pos <= 2;", in, 31, afterTwo)

	noFirst := none
	noFirst.Tries, noFirst.Stopped = 6, false
	lookAtPlan(t, "end false;", in, impl.FuelMax, noFirst)
	lookAtPlan(t, "end false;", in, 6, noFirst)
	lookAtPlan(t, "end false;", in, 5, none)
}

// The second round makes the tour cheaper, the third leaves it as cheap as it is.
func TestPlanOfNegativeGains(t *testing.T) {
	in := onePlace(1, 0, 0, 0)
	in.Roads = []impl.Road{{A: 1, B: 2, Time: 100}, {A: 3, B: 4, Time: 500}, {A: 4, B: 2, Time: 7}, {A: 5, B: 6, Time: 900}}
	lookAtPlan(t, "", in, 3, impl.Plan{Ok: true, Tours: toursOf([]int64{1, 2}), Costs: []int64{100}, Unserved: []int64{1, 2}, Cost: 100, Tries: 3, Stopped: true})
	lookAtPlan(t, "lifo 2;", in, 15, impl.Plan{Ok: true, Tours: toursOf([]int64{3, 1, 2, 4}), Costs: []int64{100}, Unserved: []int64{2}, Cost: 100, Tries: 15, Stopped: true})
	lookAtPlan(t, "", in, 15, impl.Plan{Ok: true, Tours: toursOf([]int64{1, 3, 2, 4}), Costs: []int64{0}, Unserved: []int64{2}, Tries: 15, Stopped: true})
	lookAtPlan(t, "", in, 30, impl.Plan{Ok: true, Tours: toursOf([]int64{5, 1, 6, 3, 2, 4}), Costs: []int64{0}, Tries: 30})
}

// An empty tour is never judged: no route of this vehicle would be accepted.
func TestPlanWithAVehicleThatStaysHome(t *testing.T) {
	in := lineInst()
	in.Vehicles[0].Skills = 1
	want := impl.Plan{Ok: true, Tours: toursOf(nil, []int64{4, 5, 6, 7}), Costs: []int64{0, 100}, Unserved: []int64{0}, Cost: 100, Tries: 6 + 2*7 + 16}
	lookAtPlan(t, "end not skill a; each leg < 31;", in, impl.FuelMax, want)
	want = impl.Plan{Ok: true, Tours: toursOf(nil, nil), Costs: []int64{0, 0}, Unserved: []int64{0, 1, 2}, Tries: 6}
	lookAtPlan(t, "end skill b;", in, impl.FuelMax, want)
}

func TestPlanWithoutAnyTrial(t *testing.T) {
	in := machineInst()
	for _, fuel := range []int64{0, 1, impl.FuelMax} {
		for _, text := range []string{"", "each false; end false;"} {
			lookAtPlan(t, text, impl.Inst{}, fuel, impl.Plan{Ok: true})
			lookAtPlan(t, text, impl.Inst{Requests: in.Requests}, fuel, impl.Plan{Ok: true, Unserved: []int64{0, 1, 2, 3}})
			lookAtPlan(t, text, impl.Inst{Vehicles: in.Vehicles}, fuel, impl.Plan{Ok: true, Tours: toursOf(nil, nil), Costs: []int64{0, 0}})
		}
	}
}

func TestPlanAtFuelMax(t *testing.T) {
	in := onePlace(50, make([]int64, 400)...)
	got := planAll(t, soundProg(t, "end false;"), in, impl.FuelMax)
	if !got.Ok || got.Stopped || got.Tries != impl.FuelMax || len(got.Unserved) != 400 {
		t.Errorf("no trial is good: %+v", got)
	}
	got = planAll(t, soundProg(t, "end false;"), in, impl.FuelMax-1)
	if !got.Ok || !got.Stopped || got.Tries != 0 || len(got.Unserved) != 400 {
		t.Errorf("one short: %+v", got)
	}
	got = planAll(t, impl.Prog{}, in, impl.FuelMax)
	if !got.Ok || !got.Stopped || got.Tries != impl.FuelMax || len(got.Unserved) != 399 || !slices.Equal(got.Tours[0].Stops, []int64{50, 51}) {
		t.Errorf("all trials are good: %+v", got)
	}
	got = planAll(t, impl.Prog{}, onePlace(59, make([]int64, 339)...), impl.FuelMax)
	if !got.Ok || !got.Stopped || got.Tries != 0 || len(got.Unserved) != 339 || len(got.Tours) != 59 || len(got.Costs) != 59 {
		t.Errorf("FuelMax + 1 trials: %+v", got)
	}
	got = planAll(t, impl.Prog{}, fullInst(), impl.FuelMax)
	if !got.Ok || !got.Stopped || got.Tries != 0 || len(got.Unserved) != 1000 || len(got.Tours) != 64 {
		t.Errorf("as much of everything as may be: %+v", got)
	}
}

func TestPlanOfWrongArguments(t *testing.T) {
	in := machineInst()
	for _, fuel := range []int64{-1, impl.FuelMax + 1, math.MinInt64, math.MaxInt64, 1 << 32} {
		lookAtPlan(t, "", in, fuel, impl.Plan{})
		lookAtPlan(t, "end false;", impl.Inst{}, fuel, impl.Plan{})
	}
	for _, fuel := range []int64{0, 10, impl.FuelMax} {
		unsoundProgs(func(name string, p impl.Prog) {
			for _, in := range []impl.Inst{machineInst(), {}, {Vehicles: in.Vehicles}, {Requests: in.Requests}} {
				if got := planAll(t, p, in, fuel); !samePlan(got, impl.Plan{}) {
					t.Errorf("%s: %+v", name, got)
				}
			}
		})
		wrongInsts(func(name string, in impl.Inst) {
			if got := planAll(t, impl.Prog{}, in, fuel); !samePlan(got, impl.Plan{}) {
				t.Errorf("%s: %+v", name, got)
			}
		})
	}
}

// lookAtServed wants every request once, whole, on one tour, or listed, ascending.
func lookAtServed(t *testing.T, in impl.Inst, plan impl.Plan) {
	t.Helper()
	if !slices.IsSorted(plan.Unserved) {
		t.Errorf("unserved: %v", plan.Unserved)
	}
	for q := range int64(len(in.Requests)) {
		pickup := int64(len(in.Vehicles)) + 2*q
		times := 0
		for _, tour := range plan.Tours {
			i, j := slices.Index(tour.Stops, pickup), slices.Index(tour.Stops, pickup+1)
			if (i < 0) != (j < 0) || i > j {
				t.Errorf("request %d on %v", q, tour.Stops)
			}
			for _, node := range tour.Stops {
				if node == pickup {
					times++
				}
			}
		}
		for _, other := range plan.Unserved {
			if other == q {
				times++
			}
		}
		if times != 1 {
			t.Errorf("request %d stands %d times in %+v", q, times, plan)
		}
	}
}

func lookAtCosts(t *testing.T, in impl.Inst, plan impl.Plan) {
	t.Helper()
	if len(plan.Tours) != len(in.Vehicles) || len(plan.Costs) != len(in.Vehicles) {
		t.Fatalf("%d tours and %d costs", len(plan.Tours), len(plan.Costs))
	}
	sum := int64(0)
	for v, tour := range plan.Tours {
		if plan.Costs[v] != impl.Cost(in, int64(v), tour.Stops) || plan.Costs[v] != slowCost(in, int64(v), tour.Stops) {
			t.Errorf("the cost of %v is not %d", tour.Stops, plan.Costs[v])
		}
		sum = slowClamp(sum + plan.Costs[v])
	}
	if plan.Cost != sum {
		t.Errorf("the cost of all is %d, not %d", plan.Cost, sum)
	}
}

func TestPlansKeepTheRules(t *testing.T) {
	r := rand.New(rand.NewSource(57))
	seen := map[string]int{}
	for range 1500 {
		in := tightInst(r)
		p := progNearPlan(r, in)
		plan := planAll(t, p, in, r.Int63n(impl.FuelMax+1)>>r.Intn(13))
		lookAtServed(t, in, plan)
		lookAtCosts(t, in, plan)
		for v, tour := range plan.Tours {
			if len(tour.Stops) == 0 {
				seen["empty"]++
			} else if got := impl.Judge(p, in, int64(v), tour.Stops); got != accepted {
				t.Errorf("%s%s%v: %+v", impl.PrintProg(p), impl.PrintInst(in), tour.Stops, got)
			}
		}
		if plan.Stopped {
			seen["stopped"]++
			continue
		}
		seen["not stopped"]++
		slowTrials(in, plan.Tours, func(q, v, i, j int) {
			seen["trials left"]++
			if route := slowTrialRoute(in, plan.Tours[v].Stops, q, i, j); impl.Judge(p, in, int64(v), route) == accepted {
				t.Errorf("%s%s%+v: %v is good", impl.PrintProg(p), impl.PrintInst(in), plan, route)
			}
		})
		if got := impl.BestMove(p, in, plan.Tours); !got.Ok || got.Found {
			t.Errorf("%s%s%+v: %+v is left", impl.PrintProg(p), impl.PrintInst(in), plan, got)
		}
	}
	for _, kind := range []string{"empty", "stopped", "not stopped", "trials left"} {
		if seen[kind] < 200 {
			t.Errorf("%s came up %d times only", kind, seen[kind])
		}
	}
}

func TestPlansWithEveryFuel(t *testing.T) {
	r := rand.New(rand.NewSource(58))
	plans := 0
	for range 400 {
		in := tightInst(r)
		p := progNearPlan(r, in)
		plan := impl.PlanAll(p, in, impl.FuelMax)
		if plan.Stopped || plan.Tries > 300 {
			continue
		}
		plans++
		for fuel := range plan.Tries {
			if got := impl.PlanAll(p, in, fuel); !got.Ok || !got.Stopped || got.Tries > fuel {
				t.Fatalf("%s%s%d of %d: %+v", impl.PrintProg(p), impl.PrintInst(in), fuel, plan.Tries, got)
			}
		}
		for _, fuel := range []int64{plan.Tries, plan.Tries + 1, plan.Tries + 2, 2*plan.Tries + 3, impl.FuelMax - 1} {
			if got := impl.PlanAll(p, in, fuel); !samePlan(got, plan) {
				t.Fatalf("%s%s%d for %d: %+v, not %+v", impl.PrintProg(p), impl.PrintInst(in), fuel, plan.Tries, got, plan)
			}
		}
	}
	if plans < 200 {
		t.Errorf("%d plans only", plans)
	}
}

// Nearly all of the fuel is used here, in many rounds.
func TestPlanOfManyRounds(t *testing.T) {
	r := rand.New(rand.NewSource(59))
	for _, text := range []string{"lifo 2;", "each load <= room; each time <= close;", "ride time in 0 .. 40; never has a then has b; streak pick most 2;"} {
		in := tightInst(r)
		for len(in.Requests) < 12 {
			in.Requests = append(in.Requests, in.Requests[r.Intn(len(in.Requests))])
		}
		p := soundProg(t, text)
		want := slowPlan(p, in, impl.FuelMax)
		got := planAll(t, p, in, impl.FuelMax)
		if !samePlan(got, want) {
			t.Errorf("%q: %+v, not %+v", text, got, want)
		}
		lookAtServed(t, in, got)
		lookAtCosts(t, in, got)
	}
}

// Whatever is written into one list, up to its capacity, is not seen in another.
func TestPlanIsNewMemory(t *testing.T) {
	in := lineInst()
	p := soundProg(t, "each pos <= 2;")
	lists := func(plan impl.Plan) []*[]int64 {
		out := []*[]int64{&plan.Costs, &plan.Unserved}
		for v := range plan.Tours {
			out = append(out, &plan.Tours[v].Stops)
		}
		return out
	}
	for k := range 4 {
		plan := impl.PlanAll(p, in, impl.FuelMax)
		list := *lists(plan)[k]
		list = list[:cap(list)]
		for i := range list {
			list[i] = -77
		}
		for other, seen := range lists(plan) {
			if other != k && slices.Contains((*seen)[:cap(*seen)], -77) {
				t.Errorf("list %d shares memory with list %d", k, other)
			}
		}
		if !sameInst(in, lineInst()) {
			t.Errorf("list %d shares memory with the instance", k)
		}
	}
}
