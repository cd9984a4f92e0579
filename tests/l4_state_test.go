package tests

import (
	"math"
	"math/rand"
	"slices"
	"testing"

	"loop.example/s0023/impl"
)

// plainRunning is a running state of the code and machineInst, for vehicle 0 at node 4.
func plainRunning(c impl.Code) impl.State {
	return impl.State{Pos: 3, Rule: -1, Node: 4, Time: 50, Dist: 20, Load: 7, Status: []int64{2, 1, 0, 0},
		Regs: make([]int64, c.Regs), Slots: make([]int64, 4*c.Slots)}
}

func twoSlots() impl.Code { return impl.Code{Regs: 15, Slots: 2} }

func lookAtStateValid(t *testing.T, name string, c impl.Code, in impl.Inst, v int64, s impl.State, want bool) {
	t.Helper()
	kept := copyState(s)
	if got := impl.ValidState(c, in, v, s); got != want {
		t.Errorf("%s: ValidState of %+v is %v", name, s, got)
	}
	step, finish := impl.StepState(c, in, v, s, 6), impl.FinishState(c, in, v, s)
	if !want && (!sameState(step, deadOne()) || finish != badVerdict) {
		t.Errorf("%s: a step gives %+v, the finish %+v", name, step, finish)
	}
	if want && s.Pos >= 0 && finish == badVerdict {
		t.Errorf("%s: the finish of a valid state is bad", name)
	}
	if !sameState(s, kept) {
		t.Errorf("%s: the state is written into", name)
	}
}

// stateField is one number of a state with the least and the most that it may be.
type stateField struct {
	name   string
	lo, hi int64
	at     func(s *impl.State) *int64
}

func runningFields(c impl.Code) []stateField {
	const most = 1000000000
	out := []stateField{
		{"Pos", 1, 4096, func(s *impl.State) *int64 { return &s.Pos }},
		{"Rule", -1, -1, func(s *impl.State) *int64 { return &s.Rule }},
		{"Node", 2, 9, func(s *impl.State) *int64 { return &s.Node }},
		{"Time", 0, most, func(s *impl.State) *int64 { return &s.Time }},
		{"Dist", 0, most, func(s *impl.State) *int64 { return &s.Dist }},
		{"Load", -most, most, func(s *impl.State) *int64 { return &s.Load }},
	}
	for i := range 4 {
		out = append(out, stateField{"Status", 0, 2, func(s *impl.State) *int64 { return &s.Status[i] }})
	}
	for i := range c.Regs {
		out = append(out, stateField{"Regs", -most, most, func(s *impl.State) *int64 { return &s.Regs[i] }})
	}
	for i := range 4 * c.Slots {
		out = append(out, stateField{"Slots", -most, most, func(s *impl.State) *int64 { return &s.Slots[i] }})
	}
	return out
}

func TestValidStateRunningNumbers(t *testing.T) {
	c, in := twoSlots(), machineInst()
	for _, f := range runningFields(c) {
		for _, x := range append([]int64{f.lo - 2, f.lo - 1, f.lo, f.lo + 1, f.hi - 1, f.hi, f.hi + 1, f.hi + 2, -3, -2, -1, 0, 1, 2, 3}, extremes...) {
			s := plainRunning(c)
			*f.at(&s) = x
			lookAtStateValid(t, f.name, c, in, 0, s, f.lo <= x && x <= f.hi)
		}
	}
}

func TestValidStateNodeByPos(t *testing.T) {
	c, in := twoSlots(), machineInst()
	for pos := int64(-2); pos <= 3; pos++ {
		for node := int64(-2); node <= 12; node++ {
			for v := int64(-2); v <= 4; v++ {
				s := plainRunning(c)
				s.Pos, s.Node = pos, node
				want := (v == 0 || v == 1) && (pos == 0 && node == v || pos > 0 && 2 <= node && node <= 9)
				lookAtStateValid(t, "a node", c, in, v, s, want)
			}
		}
	}
}

func TestValidStateLengths(t *testing.T) {
	in := machineInst()
	for _, c := range []impl.Code{twoSlots(), {Regs: 13}, {Regs: 1000, Slots: 100}} {
		for change := -2; change <= 2; change++ {
			for which := range 3 {
				s := plainRunning(c)
				list := []*[]int64{&s.Status, &s.Regs, &s.Slots}[which]
				if len(*list)+change < 0 {
					continue
				}
				*list = append(*list, 0, 0)[:len(*list)+change]
				lookAtStateValid(t, "a length", c, in, 0, s, change == 0)
			}
		}
		for which := range 3 {
			s := plainRunning(c)
			list := []*[]int64{&s.Status, &s.Regs, &s.Slots}[which]
			want := len(*list) == 0
			*list = nil
			lookAtStateValid(t, "a list left out", c, in, 0, s, want)
		}
	}
	empty := impl.Inst{Vehicles: in.Vehicles}
	lookAtStateValid(t, "no request", twoSlots(), empty, 1, impl.State{Rule: -1, Node: 1, Regs: make([]int64, 15)}, true)
	lookAtStateValid(t, "no request", twoSlots(), empty, 1, impl.State{Rule: -1, Node: 1, Regs: make([]int64, 15), Status: []int64{0}}, false)
	lookAtStateValid(t, "no request", twoSlots(), empty, 1, impl.State{Pos: 1, Rule: -1, Node: 1, Regs: make([]int64, 15)}, false)
}

// fillings are the state with one more field that is not 0 or empty.
func fillings(s impl.State) []impl.State {
	out := slices.Repeat([]impl.State{s}, 10)
	out[0].Node, out[1].Time, out[2].Dist, out[3].Load = 1, 1, 1, 1
	out[4].Status, out[5].Regs, out[6].Slots = []int64{0}, []int64{0}, []int64{0}
	out[7].Node, out[8].Time, out[9].Load = -1, -1, -1
	return out
}

func TestValidStateDeadAndFailed(t *testing.T) {
	c, in := twoSlots(), machineInst()
	lookAtStateValid(t, "dead", c, in, 0, deadOne(), true)
	lookAtStateValid(t, "dead", c, in, 1, impl.State{Pos: -1, Rule: -1, Status: []int64{}, Regs: []int64{}, Slots: []int64{}}, true)
	for _, s := range fillings(deadOne()) {
		lookAtStateValid(t, "dead with more", c, in, 0, s, false)
	}
	edges := []int64{math.MinInt64, -3, -2, -1, 0, 1, 99, 100, 101, 102, 4095, 4096, 4097, 4098, 4099, math.MaxInt64, 1 << 32}
	for _, pos := range edges {
		for _, rule := range edges {
			want := 0 <= pos && pos <= 4097 && 0 <= rule && rule <= 100 || pos == -1 && rule == -1
			lookAtStateValid(t, "failed", c, in, 0, failedAt(pos, rule), want)
			for _, s := range fillings(failedAt(pos, rule)) {
				lookAtStateValid(t, "failed with more", c, in, 0, s, false)
			}
		}
	}
	lookAtStateValid(t, "the zero state", c, in, 0, impl.State{}, true)
	full := plainRunning(c)
	full.Pos = -1
	lookAtStateValid(t, "running at -1", c, in, 0, full, false)
}

// wrongArguments are codes, instances and vehicles of which one is wrong.
func wrongArguments(do func(name string, c impl.Code, in impl.Inst, v int64)) {
	good, in := twoSlots(), machineInst()
	for _, v := range []int64{-1, 2, 3, math.MinInt64, math.MaxInt64, 1 << 32} {
		do("a vehicle that is not there", good, in, v)
	}
	for _, c := range []impl.Code{{}, {Regs: 12}, {Regs: 1001}, {Regs: 15, Slots: -1}, {Regs: 15, Slots: 101},
		{Regs: 15, Slots: 2, Init: []impl.Ins{{}}}, {Regs: 15, Slots: 2, Step: []impl.Ins{insOf("Const", 12, 1)}},
		{Regs: 15, Slots: 2, Final: []impl.Ins{insOf("Jump", 0)}}, {Regs: 15, Slots: 2, Step: []impl.Ins{insOf("Save", 2, 1)}}} {
		do("code that is not valid", c, in, 0)
	}
	for _, change := range []func(in *impl.Inst){
		func(in *impl.Inst) { in.Vehicles[1].Room = -1 },
		func(in *impl.Inst) { in.Requests[3].Size = impl.SizeMax + 1 },
		func(in *impl.Inst) { in.Roads[0].A = 10 },
		func(in *impl.Inst) { in.Roads[1] = in.Roads[0] },
		func(in *impl.Inst) { in.Vehicles = slices.Repeat(in.Vehicles[:1], impl.VehMax+1) },
	} {
		bad := copyInst(in)
		change(&bad)
		do("an instance that is not valid", good, bad, 0)
	}
	do("no vehicle", good, impl.Inst{Requests: in.Requests}, 0)
	do("nothing at all", good, impl.Inst{}, 0)
}

func TestStatesOfWrongArguments(t *testing.T) {
	wrongArguments(func(name string, c impl.Code, in impl.Inst, v int64) {
		if s := impl.StartState(c, in, v); !sameState(s, deadOne()) {
			t.Errorf("%s: starts with %+v", name, s)
		}
		running := plainRunning(impl.Code{Regs: max(c.Regs, 0), Slots: max(c.Slots, 0)})
		for _, s := range []impl.State{deadOne(), failedAt(1, 1), running} {
			lookAtStateValid(t, name, c, in, v, s, false)
		}
		for _, route := range [][]int64{nil, {2, 3}, {2, 4}} {
			if got := impl.RunRoute(c, in, v, route); got != badVerdict {
				t.Errorf("%s: run gives %+v", name, got)
			}
		}
	})
}

func lookAtAnswer(t *testing.T, name string, got impl.State, want impl.State) {
	t.Helper()
	if !sameState(got, want) {
		t.Errorf("%s: %+v, not %+v", name, got, want)
	}
}

func TestStepStateInItsOrder(t *testing.T) {
	c, in := twoSlots(), machineInst()
	end := plainRunning(c)
	end.Pos = impl.RouteMax
	for _, node := range []int64{-1, 0, 1, 10, 11, math.MinInt64, math.MaxInt64, 1<<32 + 2} {
		lookAtAnswer(t, "dead goes on", impl.StepState(c, in, 0, deadOne(), node), deadOne())
		lookAtAnswer(t, "failed goes on", impl.StepState(c, in, 0, failedAt(4097, 100), node), failedAt(4097, 100))
		lookAtAnswer(t, "failed at the start", impl.StepState(c, in, 0, impl.State{}, node), failedAt(0, 0))
		lookAtAnswer(t, "no stop node", impl.StepState(c, in, 0, plainRunning(c), node), deadOne())
		lookAtAnswer(t, "no stop node at the end", impl.StepState(c, in, 0, end, node), deadOne())
	}
	for node := int64(2); node <= 9; node++ {
		lookAtAnswer(t, "dead", impl.StepState(c, in, 0, deadOne(), node), deadOne())
		lookAtAnswer(t, "failed", impl.StepState(c, in, 0, failedAt(7, 3), node), failedAt(7, 3))
		lookAtAnswer(t, "at the end", impl.StepState(c, in, 0, end, node), deadOne())
	}
	lookAtAnswer(t, "a failed state that is not valid", impl.StepState(c, in, 0, failedAt(4098, 1), 2), deadOne())
	lookAtAnswer(t, "a failed state that is not valid", impl.StepState(c, in, 0, failedAt(1, 101), 2), deadOne())
	breaks := c
	breaks.Step = []impl.Ins{insOf("Check", 13, 9)}
	for status := range int64(3) {
		s := plainRunning(breaks)
		s.Status[0] = status
		want := []impl.State{failedAt(4, 9), failedAt(4, 0), failedAt(4, 0)}[status]
		lookAtAnswer(t, "a pickup", impl.StepState(breaks, in, 0, s, 2), want)
		want = []impl.State{failedAt(4, 0), failedAt(4, 9), failedAt(4, 0)}[status]
		lookAtAnswer(t, "a delivery", impl.StepState(breaks, in, 0, s, 3), want)
	}
}

func TestFinishStateOfEachSort(t *testing.T) {
	c, in := twoSlots(), machineInst()
	fails := c
	fails.Final = []impl.Ins{insOf("Check", 13, 77)}
	rows := []struct {
		name string
		c    impl.Code
		s    impl.State
		want impl.Verdict
	}{
		{"dead", c, deadOne(), badVerdict},
		{"failed", c, failedAt(5, 6), rejected(5, 6)},
		{"failed last", c, failedAt(4097, 100), rejected(4097, 100)},
		{"failed first", c, failedAt(0, 0), rejected(0, 0)},
		{"failed, with a Final that breaks a rule", fails, failedAt(2, 1), rejected(2, 1)},
		{"a request aboard", c, plainRunning(c), rejected(4, 0)},
		{"a request aboard, with a Final that breaks a rule", fails, plainRunning(c), rejected(4, 0)},
	}
	for _, row := range rows {
		if got := impl.FinishState(row.c, in, 0, row.s); got != row.want {
			t.Errorf("%s: %+v, not %+v", row.name, got, row.want)
		}
	}
	for _, pos := range []int64{1, 4095, 4096} {
		for q := range 4 {
			s := plainRunning(c)
			s.Pos, s.Status = pos, []int64{0, 2, 0, 2}
			if got := impl.FinishState(c, in, 0, s); got != accepted {
				t.Errorf("all delivered: %+v", got)
			}
			if got := impl.FinishState(fails, in, 0, s); got != rejected(pos+1, 77) {
				t.Errorf("a Final that breaks a rule: %+v", got)
			}
			s.Status[q] = 1
			if got := impl.FinishState(c, in, 0, s); got != rejected(pos+1, 0) {
				t.Errorf("request %d aboard: %+v", q, got)
			}
		}
	}
}

func TestStatesAtTheLongestRoute(t *testing.T) {
	c, in := twoSlots(), machineInst()
	s := plainRunning(c)
	s.Pos = impl.RouteMax - 1
	last := impl.StepState(c, in, 0, s, 5)
	if last.Pos != impl.RouteMax || last.Rule != -1 || last.Regs[impl.AttrPos] != impl.RouteMax {
		t.Errorf("the last stop: %+v", last)
	}
	lookAtAnswer(t, "one more", impl.StepState(c, in, 0, last, 6), deadOne())
	if got := impl.FinishState(c, in, 0, last); got != accepted {
		t.Errorf("the longest route ends with %+v", got)
	}
	lookAtAnswer(t, "a broken pair at the last stop", impl.StepState(c, in, 0, s, 4), failedAt(impl.RouteMax, 0))
	c.Final = []impl.Ins{insOf("Const", 13, impl.RouteMax+1), insOf("Eq", 13, 13, impl.AttrPos), insOf("Check", 13, 1), insOf("Check", 14, 2)}
	if got := impl.FinishState(c, in, 0, last); got != rejected(impl.RouteMax+1, 2) {
		t.Errorf("the return of the longest route: %+v", got)
	}
}

func TestStartState(t *testing.T) {
	in := machineInst()
	c := impl.Code{Regs: 16, Slots: 2, Init: assembled(t, "Const 13 7; Save 1 13; Load 14 0; Tag 15 0; Add 13 13 7; Skill 15 2"),
		Step: assembled(t, "Check 14 1"), Final: assembled(t, "Check 14 2")}
	want := impl.State{Rule: -1, Time: 5, Status: make([]int64, 4), Slots: make([]int64, 8),
		Regs: []int64{5, 0, 0, 0, 0, 0, 5, 200, 3, 10, 0, 0, 0, 207, 0, 1}}
	lookAtAnswer(t, "the start", impl.StartState(c, in, 0), want)
	want = impl.State{Rule: -1, Node: 1, Time: 300, Status: make([]int64, 4), Slots: make([]int64, 8),
		Regs: []int64{300, 0, 0, 0, 0, 0, 300, 400, 0, 7, 0, 0, 0, 407, 0, 0}}
	lookAtAnswer(t, "the other vehicle", impl.StartState(c, in, 1), want)
	c.Init = append(c.Init, insOf("Check", 0, 5), insOf("Check", 14, 6), insOf("Check", 14, 7))
	lookAtAnswer(t, "an Init that breaks a rule", impl.StartState(c, in, 0), failedAt(0, 6))
	for _, route := range [][]int64{nil, {2, 3}, {3}, slices.Repeat([]int64{2}, impl.RouteMax)} {
		if got := impl.RunRoute(c, in, 0, route); got != rejected(0, 6) {
			t.Errorf("%v after an Init that breaks a rule: %+v", briefly(route), got)
		}
	}
	if got := impl.RunRoute(c, in, 0, []int64{2, 1}); got != badVerdict {
		t.Errorf("a home in the route after an Init that breaks a rule: %+v", got)
	}
	lone := impl.Inst{Vehicles: in.Vehicles[:1]}
	lookAtAnswer(t, "no request", impl.StartState(impl.Code{Regs: 13, Slots: 100}, lone, 0),
		impl.State{Rule: -1, Time: 5, Regs: []int64{5, 0, 0, 0, 0, 0, 5, 200, 3, 10, 0, 0, 0}})
}

func TestEveryInstruction(t *testing.T) {
	in := machineInst()
	const most = 1000000000
	rows := []struct {
		text string
		want []int64 // registers 13, 14, 15 after a step to node 6, whose request has the tags a and b
	}{
		{"Const 13 -1000000000; Const 14 1000000000; Const 15 0", []int64{-most, most, 0}},
		{"Move 13 15; Move 14 10", []int64{-6, 4, -6}},
		{"Neg 13 13; Neg 14 14; Neg 15 15", []int64{-4, -5, 6}},
		{"Not 13 13; Not 14 12; Not 15 11", []int64{0, 1, 0}},
		{"Mul 13 13 14; Mul 14 15 14; Mul 15 15 15", []int64{20, -30, 36}},
		{"Const 13 100000; Mul 14 13 13; Neg 15 13; Mul 15 13 15", []int64{100000, most, -most}},
		{"Add 13 13 14; Add 14 15 14; Add 15 15 15", []int64{9, -1, -12}},
		{"Const 13 999999999; Add 14 13 13; Neg 15 13; Add 15 15 15", []int64{999999999, most, -most}},
		{"Sub 13 13 14; Sub 14 15 14", []int64{-1, -11, -6}},
		{"Const 13 -999999999; Sub 14 13 14; Const 15 1000000000; Sub 15 15 13", []int64{-999999999, -most, most}},
		{"Lt 13 13 14; Lt 14 14 14; Lt 15 14 15", []int64{1, 0, 0}},
		{"Lt 15 13 15; Lt 13 14 13", []int64{0, 5, 0}},
		{"Le 13 13 14; Le 14 14 14; Le 15 14 15", []int64{1, 1, 0}},
		{"Le 15 13 15; Le 13 14 13", []int64{0, 5, 0}},
		{"Eq 13 13 14; Eq 14 14 14; Eq 15 13 12", []int64{0, 1, 1}},
		{"Min 13 13 14; Min 14 15 14", []int64{4, -6, -6}},
		{"Max 13 13 14; Max 15 15 14", []int64{5, 5, 5}},
		{"Tag 13 0; Tag 14 1; Tag 15 2", []int64{1, 1, 0}},
		{"Skill 13 0; Skill 14 1; Skill 15 2", []int64{1, 0, 1}},
		{"Jz 12 2; Const 13 1; Const 14 1", []int64{4, 1, -6}},
		{"Jz 11 2; Const 13 1; Const 14 1", []int64{1, 1, -6}},
		{"Jnz 12 2; Const 13 1; Const 14 1", []int64{1, 1, -6}},
		{"Jnz 15 2; Const 13 1; Const 14 1", []int64{4, 1, -6}},
		{"Jump 2; Const 13 1; Const 14 1; Jump 5; Const 15 1", []int64{4, 1, -6}},
		{"Check 13 1; Check 15 2; Check 11 3; Const 13 1", []int64{1, 5, -6}},
		{"Save 1 13; Load 14 1; Load 15 0", []int64{4, 4, 102}},
		{"Load 13 1; Save 0 13; Load 14 0", []int64{112, 112, -6}},
	}
	for _, row := range rows {
		c := impl.Code{Regs: 16, Slots: 2, Step: assembled(t, row.text)}
		s := plainRunning(c)
		copy(s.Regs[13:], []int64{4, 5, -6})
		for i := range s.Slots {
			s.Slots[i] = 100 + int64(i)/4*10 + int64(i)%4
		}
		got := impl.StepState(c, in, 0, s, 6)
		if !impl.ValidCode(c) || len(got.Regs) != 16 {
			t.Fatalf("%q gives %+v", row.text, got)
		}
		lookAtNums(t, row.text, got.Regs[13:], row.want)
	}
}

func TestSlotsLieByRequest(t *testing.T) {
	in := machineInst()
	c := impl.Code{Regs: 14, Slots: 3, Step: assembled(t, "Save 0 10; Save 2 0")}
	s := impl.StartState(c, in, 0)
	for _, node := range crossed {
		s = impl.StepState(c, in, 0, s, node)
	}
	lookAtNums(t, "slots", s.Slots, []int64{3, 4, 0, 0, 0, 0, 0, 0, 60, 74, 0, 0})
	if got := impl.FinishState(c, in, 0, s); got != accepted {
		t.Errorf("%+v", got)
	}
}

func TestStepStateKeepsWhatTheBlocksLeft(t *testing.T) {
	in := machineInst()
	c := impl.Code{Regs: 15, Slots: 1, Init: assembled(t, "Const 13 100"), Step: assembled(t, "Add 13 13 1; Load 14 0; Save 0 13"), Final: assembled(t, "Sub 13 13 1; Check 13 1")}
	s := impl.StartState(c, in, 0)
	want := [][]int64{{120, 0}, {127, 0}, {136, 120}, {149, 127}}
	for i, node := range crossed {
		s = impl.StepState(c, in, 0, s, node)
		lookAtNums(t, "registers", s.Regs[13:], want[i])
	}
	lookAtNums(t, "slots", s.Slots, []int64{136, 149, 0, 0})
	lookAtNums(t, "status", s.Status, []int64{2, 2, 0, 0})
	for range 2 {
		if got := impl.FinishState(c, in, 0, s); got != accepted {
			t.Errorf("finish: %+v", got)
		}
		lookAtNums(t, "registers after a finish", s.Regs[13:], want[3])
	}
}

func TestKeptStatesGoOn(t *testing.T) {
	r := rand.New(rand.NewSource(45))
	verdicts := map[int64]int{}
	for range 1500 {
		in := tightInst(r)
		v := r.Int63n(int64(len(in.Vehicles)))
		route := pairedRoute(r, in)
		p := closeProg(r, in, v, route)
		c := impl.Compile(p)
		first := route[:r.Intn(len(route)+1)]
		s := impl.StartState(c, in, v)
		for _, node := range first {
			s = impl.StepState(c, in, v, s, node)
		}
		kept := copyState(s)
		for i := range 6 {
			tail := route[len(first):]
			if i > 0 {
				tail = anyRoute(r, in)
			}
			whole := slices.Concat(first, tail)
			on := s
			for _, node := range tail {
				on = impl.StepState(c, in, v, on, node)
			}
			want := impl.Judge(p, in, v, whole)
			if got := impl.FinishState(c, in, v, on); got != want {
				t.Fatalf("%s%s%d %v and %v: %+v, not %+v", impl.PrintProg(p), impl.PrintInst(in), v, first, tail, got, want)
			}
			if !sameState(s, kept) {
				t.Fatalf("%s: the state after %v is written into", impl.PrintProg(p), first)
			}
			verdicts[want.Code]++
		}
	}
	if verdicts[1] < 500 || verdicts[2] < 500 {
		t.Errorf("verdicts: %v", verdicts)
	}
}

// spreadNums writes into all that the list could grow into.
func spreadNums(list []int64) {
	full := list[:cap(list)]
	for i := range full {
		full[i] = -77
	}
}

func TestStateAnswersAreNewMemory(t *testing.T) {
	in := machineInst()
	c := impl.Compile(soundProg(t, "lifo 3; ride time in 0 .. 900; sum leg from 0 in 0 .. 900; let x = leg; streak pick most 4; end true;"))
	start := func() impl.State { return impl.StartState(c, in, 0) }
	kept := start()
	step := func() impl.State { return impl.StepState(c, in, 0, kept, 2) }
	for _, make := range []func() impl.State{start, step} {
		plain := copyState(make())
		for which := range 3 {
			s := make()
			lists := []*[]int64{&s.Status, &s.Regs, &s.Slots}
			spreadNums(*lists[which])
			*lists[which] = slices.Clone(*[]*[]int64{&plain.Status, &plain.Regs, &plain.Slots}[which])
			lookAtAnswer(t, "writing into one list", s, plain)
			lookAtAnswer(t, "writing into an answer", make(), plain)
		}
	}
	lookAtAnswer(t, "the kept state", kept, start())
}

// An empty list may have room behind its end, and that room is the caller's.
func TestStateAnswersLeaveTheRoomBehindEmptyLists(t *testing.T) {
	in := machineInst()
	room := []int64{1, 2, 3}
	for _, s := range []impl.State{{Pos: -1, Rule: -1, Status: room[:0], Regs: room[:0], Slots: room[:0]}, {Pos: 2, Rule: 1, Status: room[:0], Regs: room[:0], Slots: room[:0]}} {
		got := impl.StepState(twoSlots(), in, 0, s, 2)
		lookAtAnswer(t, "bare", got, s)
		got.Status, got.Regs, got.Slots = append(got.Status, 9), append(got.Regs, 8), append(got.Slots, 7)
		lookAtNums(t, "the room", room, []int64{1, 2, 3})
	}
	none := impl.Inst{Vehicles: in.Vehicles, Requests: in.Requests}
	s := plainRunning(impl.Code{Regs: 13})
	s.Slots = room[:0]
	got := impl.StepState(impl.Code{Regs: 13}, none, 0, s, 6)
	got.Slots = append(got.Slots, 9)
	lookAtNums(t, "the room behind no slots", room, []int64{1, 2, 3})
}
