package tests

import (
	"math/rand"
	"slices"
	"testing"

	"loop.example/s0023/impl"
)

// slowMachine runs code by the words of the document's 3.2 and 4.4.
type slowMachine struct {
	code impl.Code
	in   impl.Inst
	v    int64
}

// attrsAfter are the attributes of the position behind a state that stands at the node.
func (m slowMachine) attrsAfter(s impl.State, node int64) []int64 {
	w := slowRouteOf(m.in, m.v, nil)
	w.nodes = []int64{s.Node, node}
	w.memo["time"], w.memo["dist"], w.memo["load"] = []int64{s.Time}, []int64{s.Dist}, []int64{s.Load}
	w.memo["pos"] = []int64{s.Pos, s.Pos + 1}
	return w.all(1)
}

func (w slowRoute) all(i int) []int64 {
	var out []int64
	for _, word := range attributeWords {
		out = append(out, w.attr(word, i))
	}
	return out
}

// run goes through a block with the request q, or with none where q is negative. It gives the rule that is broken, or 0.
func (m slowMachine) run(block []impl.Ins, reg []int64, slots []int64, q int) int64 {
	count := len(m.in.Requests)
	for k := 0; k < len(block); {
		x := block[k]
		k++
		read := func(n int64) int64 { return reg[n] }
		switch insWords[x.Op-1] {
		case "Const":
			reg[x.A] = x.B
		case "Move":
			reg[x.A] = read(x.B)
		case "Neg":
			reg[x.A] = slowClamp(-read(x.B))
		case "Not":
			reg[x.A] = slowTruth(read(x.B) == 0)
		case "Mul":
			reg[x.A] = slowClamp(read(x.B) * read(x.C))
		case "Add":
			reg[x.A] = slowClamp(read(x.B) + read(x.C))
		case "Sub":
			reg[x.A] = slowClamp(read(x.B) - read(x.C))
		case "Lt":
			reg[x.A] = slowTruth(read(x.B) < read(x.C))
		case "Le":
			reg[x.A] = slowTruth(read(x.B) <= read(x.C))
		case "Eq":
			reg[x.A] = slowTruth(read(x.B) == read(x.C))
		case "Min":
			reg[x.A] = min(read(x.B), read(x.C))
		case "Max":
			reg[x.A] = max(read(x.B), read(x.C))
		case "Tag":
			reg[x.A] = slowTruth(q >= 0 && m.in.Requests[max(q, 0)].Tags&(1<<x.B) != 0)
		case "Skill":
			reg[x.A] = slowTruth(m.in.Vehicles[m.v].Skills&(1<<x.B) != 0)
		case "Jz":
			if read(x.A) == 0 {
				k = int(x.B)
			}
		case "Jnz":
			if read(x.A) != 0 {
				k = int(x.B)
			}
		case "Jump":
			k = int(x.B)
		case "Check":
			if read(x.A) == 0 {
				return x.B
			}
		case "Save":
			if q >= 0 {
				slots[int(x.A)*count+q] = read(x.B)
			}
		case "Load":
			reg[x.A] = 0
			if q >= 0 {
				reg[x.A] = slots[int(x.B)*count+q]
			}
		}
	}
	return 0
}

func (m slowMachine) start() impl.State {
	w := slowRouteOf(m.in, m.v, nil)
	s := impl.State{Rule: -1, Node: m.v, Time: m.in.Vehicles[m.v].Home.Open}
	s.Status = make([]int64, len(m.in.Requests))
	s.Slots = make([]int64, len(m.in.Requests)*int(m.code.Slots))
	s.Regs = append(w.all(0), make([]int64, m.code.Regs-13)...)
	if u := m.run(m.code.Init, s.Regs, s.Slots, -1); u != 0 {
		return failedAt(0, u)
	}
	return s
}

// step is for a running state below RouteMax and a stop node.
func (m slowMachine) step(s impl.State, node int64) impl.State {
	index := int(node) - len(m.in.Vehicles)
	q := index / 2
	if s.Status[q] != int64(index%2) {
		return failedAt(s.Pos+1, 0)
	}
	attrs := m.attrsAfter(s, node)
	out := impl.State{Pos: s.Pos + 1, Rule: -1, Node: node, Time: attrs[0], Dist: attrs[3], Load: attrs[4]}
	out.Status, out.Slots = slices.Clone(s.Status), slices.Clone(s.Slots)
	out.Status[q] = int64(index%2) + 1
	out.Regs = append(attrs, s.Regs[13:]...)
	if u := m.run(m.code.Step, out.Regs, out.Slots, q); u != 0 {
		return failedAt(s.Pos+1, u)
	}
	return out
}

func (m slowMachine) finish(s impl.State) impl.Verdict {
	if s.Rule >= 0 {
		return rejected(s.Pos, s.Rule)
	}
	if slices.Contains(s.Status, 1) {
		return rejected(s.Pos+1, 0)
	}
	regs := append(m.attrsAfter(s, m.v), s.Regs[13:]...)
	if u := m.run(m.code.Final, regs, slices.Clone(s.Slots), -1); u != 0 {
		return rejected(s.Pos+1, u)
	}
	return accepted
}

// busyCode has few registers and long blocks, so that what one instruction writes others read. A check stands in it now and then.
func busyCode(r *rand.Rand) impl.Code {
	c := impl.Code{Regs: 14 + r.Int63n(8), Slots: 1 + r.Int63n(3)}
	for _, block := range []*[]impl.Ins{&c.Init, &c.Step, &c.Final} {
		n := r.Intn(40)
		for k := range n {
			x := impl.Ins{Op: 1 + r.Int63n(20)}
			if insWords[x.Op-1] == "Check" && r.Intn(4) > 0 {
				x.Op = insNumber("Move")
			}
			for i, field := range []*int64{&x.A, &x.B, &x.C} {
				use := insFields[insWords[x.Op-1]][i]
				lo, hi := boundsOf(use, int64(k), int64(n), c.Regs, c.Slots)
				switch {
				case use == 'c' && r.Intn(2) == 0:
					lo, hi = -4, 4
				case use == 't':
					hi = 3
				case use == 'j':
					hi = min(hi, lo+4)
				}
				*field = lo + r.Int63n(hi-lo+1)
			}
			*block = append(*block, x)
		}
	}
	return c
}

func pick(r *rand.Rand, of ...int64) int64 { return of[r.Intn(len(of))] }

// randomRunning is a valid running state that no run needs to lead to.
func randomRunning(r *rand.Rand, c impl.Code, in impl.Inst, v int64) impl.State {
	const most = 1000000000
	num := func() int64 {
		return pick(r, 0, 1, -1, r.Int63n(50), most, -most, most-r.Int63n(20), r.Int63n(2*most)-most)
	}
	s := impl.State{Rule: -1, Pos: pick(r, 0, 1, 2, r.Int63n(4097), 4095, 4096), Node: v, Time: max(num(), 0), Dist: max(num(), 0), Load: num()}
	if s.Pos > 0 {
		s.Node = randomStop(r, in)
	}
	for range in.Requests {
		s.Status = append(s.Status, r.Int63n(3)*r.Int63n(2))
	}
	for range c.Regs {
		s.Regs = append(s.Regs, num())
	}
	for range int(c.Slots) * len(in.Requests) {
		s.Slots = append(s.Slots, num())
	}
	return s
}

func lookAtStep(t *testing.T, m slowMachine, s impl.State, node int64) impl.State {
	t.Helper()
	kept, keptCode, keptInst := copyState(s), copyCode(m.code), copyInst(m.in)
	if !impl.ValidState(m.code, m.in, m.v, s) {
		t.Fatalf("%+v is valid", s)
	}
	want := m.step(s, node)
	got := impl.StepState(m.code, m.in, m.v, s, node)
	if !sameState(got, want) {
		t.Fatalf("%s\n%s\n%+v to node %d:\n%+v, not\n%+v", listing(m.code.Step), impl.PrintInst(m.in), s, node, got, want)
	}
	if v, w := impl.FinishState(m.code, m.in, m.v, s), m.finish(s); v != w {
		t.Fatalf("%s\n%s\n%+v: %+v, not %+v", listing(m.code.Final), impl.PrintInst(m.in), s, v, w)
	}
	if !sameState(s, kept) || !sameCode(m.code, keptCode) || !sameInst(m.in, keptInst) {
		t.Fatalf("an argument is written into: %+v", kept)
	}
	return got
}

func TestStatesAgainstTheSlowMachine(t *testing.T) {
	r := rand.New(rand.NewSource(43))
	seen := map[string]int{}
	for range 6000 {
		m := slowMachine{code: busyCode(r), in: tightInst(r)}
		m.v = r.Int63n(int64(len(m.in.Vehicles)))
		s := impl.StartState(m.code, m.in, m.v)
		if want := m.start(); !sameState(s, want) {
			t.Fatalf("%s\n%s\n%+v, not\n%+v", listing(m.code.Init), impl.PrintInst(m.in), s, want)
		}
		route := anyRoute(r, m.in)
		for _, node := range route {
			if s.Rule >= 0 {
				break
			}
			s = lookAtStep(t, m, s, node)
		}
		want := m.finish(s)
		if got := impl.RunRoute(m.code, m.in, m.v, route); got != want {
			t.Fatalf("%v: %+v, not %+v", route, got, want)
		}
		switch {
		case want.Code == 1:
			seen["accepted"]++
		case want.At == 0:
			seen["broken at the start"]++
		case want.At > int64(len(route)):
			seen["broken at the return"]++
		default:
			seen["broken at a stop"]++
		}
	}
	for _, way := range []string{"accepted", "broken at the start", "broken at a stop", "broken at the return"} {
		if seen[way] < 300 {
			t.Errorf("%s: %d times only", way, seen[way])
		}
	}
}

func TestStatesThatNoRunHasMade(t *testing.T) {
	r := rand.New(rand.NewSource(44))
	running := 0
	for range 6000 {
		m := slowMachine{code: busyCode(r), in: tightInst(r)}
		m.v = r.Int63n(int64(len(m.in.Vehicles)))
		s := randomRunning(r, m.code, m.in, m.v)
		if s.Pos == impl.RouteMax {
			if got := impl.StepState(m.code, m.in, m.v, s, randomStop(r, m.in)); !sameState(got, deadOne()) {
				t.Fatalf("past the longest route: %+v", got)
			}
			if got, want := impl.FinishState(m.code, m.in, m.v, s), m.finish(s); got != want {
				t.Fatalf("at the end of the longest route: %+v, not %+v", got, want)
			}
			continue
		}
		for i := 0; i < 3 && s.Rule < 0 && s.Pos < impl.RouteMax; i++ {
			s = lookAtStep(t, m, s, randomStop(r, m.in))
		}
		if s.Rule < 0 {
			running++
		}
	}
	if running < 300 {
		t.Errorf("%d runs went on", running)
	}
}
