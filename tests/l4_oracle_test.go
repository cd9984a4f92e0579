package tests

import (
	"math/rand"
	"slices"
	"strconv"
	"testing"

	"loop.example/s0023/impl"
)

func slowClamp(x int64) int64 {
	if x > 1000000000 {
		return 1000000000
	}
	if x < -1000000000 {
		return -1000000000
	}
	return x
}

func treeOfOps(ops []impl.Op) exprTree {
	var stack []exprTree
	for _, op := range ops {
		count := 0
		switch {
		case op.Kind == impl.OpNeg || op.Kind == impl.OpNot:
			count = 1
		case op.Kind == impl.OpBin || op.Kind == impl.OpCall:
			count = 2
			if op.Kind == impl.OpCall && op.Val == impl.CallIf {
				count = 3
			}
		}
		rest := len(stack) - count
		stack = append(stack[:rest:rest], exprTree{op: op, kids: slices.Clone(stack[rest:])})
	}
	return stack[0]
}

// slowRoute is a route with the document's chapter 4 over it: every answer is looked for anew, by the words of its definition.
type slowRoute struct {
	in    impl.Inst
	v     int64
	nodes []int64
	lets  map[string]exprTree
	memo  map[string][]int64
}

func slowRouteOf(in impl.Inst, v int64, route []int64) slowRoute {
	nodes := append(append([]int64{v}, route...), v)
	return slowRoute{in: in, v: v, nodes: nodes, lets: map[string]exprTree{}, memo: map[string][]int64{}}
}

func (w slowRoute) stopIndex(i int) int64 { return w.nodes[i] - int64(len(w.in.Vehicles)) }

func (w slowRoute) isPickup(i int) bool { return w.stopIndex(i) >= 0 && w.stopIndex(i)%2 == 0 }

func (w slowRoute) isDelivery(i int) bool { return w.stopIndex(i) >= 0 && w.stopIndex(i)%2 == 1 }

func (w slowRoute) request(i int) impl.Request { return w.in.Requests[w.stopIndex(i)/2] }

func (w slowRoute) place(i int) impl.Place {
	switch {
	case w.isPickup(i):
		return w.request(i).From
	case w.isDelivery(i):
		return w.request(i).To
	}
	return w.in.Vehicles[w.v].Home
}

func (w slowRoute) leg(i int) int64 {
	if i == 0 {
		return 0
	}
	a, b := w.nodes[i-1], w.nodes[i]
	if a == b {
		return 0
	}
	for _, road := range w.in.Roads {
		if road.A == a && road.B == b {
			return road.Time
		}
	}
	from, to := w.place(i-1), w.place(i)
	size := func(x int64) int64 { return max(x, -x) }
	return size(from.X-to.X) + size(from.Y-to.Y)
}

// attr is kept by its word once it has been found, else a long route would take for ever.
func (w slowRoute) attr(word string, i int) int64 {
	for m := len(w.memo[word]); m <= i; m++ {
		w.memo[word] = append(w.memo[word], w.findAttr(word, m))
	}
	return w.memo[word][i]
}

func (w slowRoute) arrival(i int) int64 {
	return slowClamp(slowClamp(w.attr("time", i-1)+w.attr("hold", i-1)) + w.leg(i))
}

func (w slowRoute) findAttr(word string, i int) int64 {
	switch word {
	case "open":
		return w.place(i).Open
	case "close":
		return w.place(i).Close
	case "hold":
		return w.place(i).Hold
	case "room":
		return w.in.Vehicles[w.v].Room
	case "pos":
		return int64(i)
	case "leg":
		return w.leg(i)
	case "pick":
		return map[bool]int64{true: 1}[w.isPickup(i)]
	case "drop":
		return map[bool]int64{true: 1}[w.isDelivery(i)]
	case "size":
		if w.isPickup(i) || w.isDelivery(i) {
			return w.request(i).Size
		}
		return 0
	}
	return w.findSum(word, i)
}

// findSum has the attributes that hang on the position before.
func (w slowRoute) findSum(word string, i int) int64 {
	if i == 0 {
		if word == "time" {
			return w.in.Vehicles[w.v].Home.Open
		}
		return 0
	}
	switch word {
	case "time":
		return max(w.place(i).Open, w.arrival(i))
	case "wait":
		return slowClamp(w.attr("time", i) - w.arrival(i))
	case "dist":
		return slowClamp(w.attr("dist", i-1) + w.leg(i))
	}
	before := w.attr("load", i-1)
	switch {
	case w.isPickup(i):
		return slowClamp(before + w.request(i).Size)
	case w.isDelivery(i):
		return slowClamp(before - w.request(i).Size)
	}
	return before
}

func slowTruth(b bool) int64 {
	if b {
		return 1
	}
	return 0
}

func (w slowRoute) value(x exprTree, i int) int64 {
	switch x.op.Kind {
	case impl.OpNumber, impl.OpBool:
		return x.op.Val
	case impl.OpName:
		return w.value(w.lets[x.op.Name], i)
	case impl.OpAttr:
		return w.attr(attributeWords[x.op.Val], i)
	case impl.OpHas:
		return slowTruth((w.isPickup(i) || w.isDelivery(i)) && w.request(i).Tags&(1<<x.op.Val) != 0)
	case impl.OpSkill:
		return slowTruth(w.in.Vehicles[w.v].Skills&(1<<x.op.Val) != 0)
	}
	var k []int64
	for _, kid := range x.kids {
		k = append(k, w.value(kid, i))
	}
	switch x.operator() {
	case "neg":
		return slowClamp(-k[0])
	case "not":
		return slowTruth(k[0] == 0)
	case "*":
		return slowClamp(k[0] * k[1])
	case "+":
		return slowClamp(k[0] + k[1])
	case "-":
		return slowClamp(k[0] - k[1])
	case "<":
		return slowTruth(k[0] < k[1])
	case "<=":
		return slowTruth(k[0] <= k[1])
	case "=":
		return slowTruth(k[0] == k[1])
	case "and":
		return slowTruth(k[0] != 0 && k[1] != 0)
	case "or":
		return slowTruth(k[0] != 0 || k[1] != 0)
	case "min":
		return min(k[0], k[1])
	case "max":
		return max(k[0], k[1])
	}
	if k[0] != 0 {
		return k[1]
	}
	return k[2]
}

// last is the number of the return's position.
func (w slowRoute) last() int { return len(w.nodes) - 1 }

func (w slowRoute) pairs(i int) bool {
	if i == w.last() {
		for m := 1; m < i; m++ {
			if w.isPickup(m) && !slices.Contains(w.nodes[1:i], w.nodes[m]+1) {
				return false
			}
		}
		return true
	}
	before := w.nodes[1:i]
	return !slices.Contains(before, w.nodes[i]) && (!w.isDelivery(i) || slices.Contains(before, w.nodes[i]-1))
}

// pickedAt is the position of the pickup of a request, by any of its nodes.
func (w slowRoute) pickedAt(node int64) int {
	if (node-int64(len(w.in.Vehicles)))%2 == 1 {
		node--
	}
	return slices.Index(w.nodes[1:w.last()], node) + 1
}

// aboard are the pickup nodes of what is aboard after i.
func (w slowRoute) aboard(i int) []int64 {
	var out []int64
	for m := 1; m <= i; m++ {
		if w.isPickup(m) && !slices.Contains(w.nodes[1:i+1], w.nodes[m]+1) {
			out = append(out, w.nodes[m])
		}
	}
	return out
}

func (w slowRoute) tagged(node int64, tag int64) bool {
	return w.in.Requests[(node-int64(len(w.in.Vehicles)))/2].Tags&(1<<tag) != 0
}

func (w slowRoute) apart(it impl.Item, i int) bool {
	for _, a := range w.aboard(i) {
		for _, b := range w.aboard(i) {
			if a != b && w.tagged(a, it.K) && w.tagged(b, it.Lo) {
				return false
			}
		}
	}
	return true
}

func (w slowRoute) lifo(it impl.Item, i int) bool {
	if w.isPickup(i) {
		return int64(len(w.aboard(i))) <= it.K
	}
	for _, other := range w.aboard(i) {
		if w.pickedAt(other) > w.pickedAt(w.nodes[i]) {
			return false
		}
	}
	return true
}

func (w slowRoute) keeps(it impl.Item, i int) bool {
	if i == w.last() {
		return it.Kind != impl.ItemEnd || w.value(treeOfOps(it.E), i) == 1
	}
	e := func(m int) int64 { return w.value(treeOfOps(it.E), m) }
	switch it.Kind {
	case impl.ItemEach:
		return e(i) == 1
	case impl.ItemSum:
		s := it.K
		for m := 1; m <= i; m++ {
			s = slowClamp(s + e(m))
		}
		return it.Lo <= s && s <= it.Hi
	case impl.ItemNever:
		for m := 1; m < i; m++ {
			if e(m) == 1 && w.value(treeOfOps(it.F), i) == 1 {
				return false
			}
		}
	case impl.ItemApart:
		return w.apart(it, i)
	case impl.ItemLifo:
		return w.lifo(it, i)
	case impl.ItemRide:
		if w.isDelivery(i) {
			d := slowClamp(e(i) - e(w.pickedAt(w.nodes[i])))
			return it.Lo <= d && d <= it.Hi
		}
	case impl.ItemStreak:
		if int64(i) > it.K {
			for m := i - int(it.K); m <= i; m++ {
				if e(m) == 0 {
					return true
				}
			}
			return false
		}
	}
	return true
}

// slowJudge is for a sound program, a valid instance, a vehicle of it and stop nodes.
func slowJudge(p impl.Prog, in impl.Inst, v int64, route []int64) impl.Verdict {
	w := slowRouteOf(in, v, route)
	for _, it := range p.Items {
		if it.Kind == impl.ItemLet {
			w.lets[it.Name] = treeOfOps(it.E)
		}
	}
	for i := 1; i <= w.last(); i++ {
		if !w.pairs(i) {
			return rejected(int64(i), 0)
		}
		for u, it := range p.Items {
			if !w.keeps(it, i) {
				return rejected(int64(i), int64(u)+1)
			}
		}
	}
	return accepted
}

var intWords = []string{"time", "leg", "wait", "dist", "load", "size", "open", "close", "hold", "room", "pos",
	"time - open", "load * 2 - size", "min(dist, time)", "max(leg, wait)", "if(pick, size, -size)", "-leg", "close - time", "load * load * 100000000"}

var boolWords = []string{"pick", "drop", "has a", "has b", "has c", "skill a", "has a and pick", "has b or drop", "not has c",
	"time <= close", "load <= room", "3 < leg", "0 < wait", "size = 0", "pick = has a", "if(drop, has a, has b)", "pos < 4"}

// bounded is a number that may stand in a text.
func bounded(n int64) int64 { return min(max(n, -impl.NumMax), impl.NumMax) }

// closeRule is a rule with bounds about where the route comes to stand, so that it is often kept and often just broken.
func closeRule(r *rand.Rand, w slowRoute) string {
	word := func(list []string) string { return list[r.Intn(len(list))] }
	num := func(n int64) string { return strconv.FormatInt(n, 10) }
	near := func(x string) int64 {
		tree := treeOfOps(impl.ParseProg([]byte("let x = " + x + ";")).Prog.Items[0].E)
		return bounded(w.value(tree, 1+r.Intn(w.last())) + r.Int63n(3) - 1)
	}
	x := word(intWords)
	switch r.Intn(10) {
	case 0:
		return "each " + x + " <= " + num(max(0, near(x))) + ";"
	case 1:
		return "each " + word(boolWords) + " or " + word(boolWords) + " or " + word(boolWords) + ";"
	case 2:
		return "end " + x + " <= " + num(max(0, near(x))) + ";"
	case 3:
		return "end not (" + word(boolWords) + ");"
	case 4:
		return "sum " + x + " from " + num(r.Int63n(9)-4) + " in " + num(-r.Int63n(60)) + " .. " + num(bounded(near(x)*3+20)) + ";"
	case 5:
		return "never " + word(boolWords) + " then " + word(boolWords) + ";"
	case 6:
		return "apart " + word([]string{"a", "b", "c"}) + " " + word([]string{"a", "b", "c"}) + ";"
	case 7:
		return "ride " + x + " in " + num(-r.Int63n(30)) + " .. " + num(r.Int63n(60)) + ";"
	case 8:
		return "streak " + word(boolWords) + " most " + num(r.Int63n(5)) + ";"
	}
	return "let n" + num(r.Int63n(1000000)) + " = " + x + ";"
}

func closeProg(r *rand.Rand, in impl.Inst, v int64, route []int64) impl.Prog {
	w := slowRouteOf(in, v, route)
	text := ""
	for range r.Intn(4) {
		text += closeRule(r, w)
	}
	if r.Intn(3) == 0 {
		text += "lifo " + strconv.Itoa(r.Intn(5)) + ";"
	}
	for range r.Intn(2) {
		text += closeRule(r, w)
	}
	p := impl.ParseProg([]byte(text)).Prog
	if impl.Check(p).Err != 0 || len(p.Items) == 0 && text != "" {
		panic("a program that is not sound: " + text)
	}
	return p
}

// brokenKind is "accepted", or the kind of item that a route is rejected by, with "return" where that is at its end.
func brokenKind(p impl.Prog, route []int64, v impl.Verdict) string {
	words := []string{"let", "each", "end", "sum", "never", "apart", "lifo", "ride", "streak"}
	kind := "accepted"
	if v.Code == impl.VerdictReject {
		kind = "pairing"
		if v.Rule > 0 {
			kind = words[p.Items[v.Rule-1].Kind-1]
		}
		if v.At > int64(len(route)) {
			kind += " return"
		}
	}
	return kind
}

func lookAtSeen(t *testing.T, seen map[string]int, least int) {
	t.Helper()
	for _, kind := range []string{"accepted", "pairing", "pairing return", "each", "end return", "sum", "never", "apart", "lifo", "ride", "streak"} {
		if seen[kind] < least {
			t.Errorf("%s came up %d times only", kind, seen[kind])
		}
	}
}

func TestJudgeAgainstTheSlowOne(t *testing.T) {
	r := rand.New(rand.NewSource(41))
	seen := map[string]int{}
	for i := range 20000 {
		in := tightInst(r)
		v := r.Int63n(int64(len(in.Vehicles)))
		route := anyRoute(r, in)
		p := closeProg(r, in, v, route)
		if i%4 == 0 {
			p = progOf(randomTyped(r, r.Intn(5), 8, 0)...)
		}
		want := slowJudge(p, in, v, route)
		if got := impl.Judge(p, in, v, route); got != want {
			t.Fatalf("%s%s%d %v: judged %+v, not %+v", impl.PrintProg(p), impl.PrintInst(in), v, route, got, want)
		}
		if got := impl.RunRoute(impl.Compile(p), in, v, route); got != want {
			t.Fatalf("%s%s%d %v: run gives %+v, not %+v", impl.PrintProg(p), impl.PrintInst(in), v, route, got, want)
		}
		seen[brokenKind(p, route, want)]++
	}
	lookAtSeen(t, seen, 100)
}

// Here the numbers of the instances go up to their bounds.
func TestJudgeAgainstTheSlowOneOverWideNumbers(t *testing.T) {
	r := rand.New(rand.NewSource(42))
	seen := map[int64]int{}
	for range 4000 {
		in := randomInst(r)
		if len(in.Vehicles) == 0 || len(in.Requests) == 0 {
			continue
		}
		v := r.Int63n(int64(len(in.Vehicles)))
		route := anyRoute(r, in)
		p := closeProg(r, in, v, route)
		want := slowJudge(p, in, v, route)
		if got := impl.Judge(p, in, v, route); got != want {
			t.Fatalf("%s%s%d %v: judged %+v, not %+v", impl.PrintProg(p), impl.PrintInst(in), v, route, got, want)
		}
		if got := byStates(t, impl.Compile(p), in, v, route); got != want {
			t.Fatalf("%s%s%d %v: the states give %+v, not %+v", impl.PrintProg(p), impl.PrintInst(in), v, route, got, want)
		}
		seen[want.Code]++
	}
	if seen[1] < 200 || seen[2] < 200 {
		t.Errorf("verdicts: %v", seen)
	}
}
