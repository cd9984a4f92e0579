package tests

import (
	"bytes"
	"math"
	"math/rand"
	"strings"
	"testing"

	"loop.example/s0023/impl"
)

func sameReport(x, y impl.Report) bool {
	return x.Stage == y.Stage && x.Code == y.Code && x.Item == y.Item && x.At == y.At && samePlan(x.Plan, y.Plan)
}

func lookAtReport(t *testing.T, prog, inst string, fuel int64, want impl.Report) {
	t.Helper()
	progText, instText := []byte(prog), []byte(inst)
	if got := impl.PlanText(progText, instText, fuel); !sameReport(got, want) {
		t.Errorf("%.80q, %.80q, %d: %+v, not %+v", prog, inst, fuel, got, want)
	}
	if !bytes.Equal(progText, []byte(prog)) || !bytes.Equal(instText, []byte(inst)) {
		t.Errorf("%.80q, %.80q: a text is written into", prog, inst)
	}
}

// wrongTexts are what may stand in for a right text at a stage, with what the report says of it.
var (
	wrongSyntax = map[string]impl.Report{
		"each;":                                   {Stage: 1, Code: impl.SynToken, At: 4},
		"each 1; each 1":                          {Stage: 1, Code: impl.SynToken, At: 14},
		"each time; each zz; lifo 1; \t":          {Stage: 1, Code: impl.SynByte, At: 28},
		"lifo 05;":                                {Stage: 1, Code: impl.SynForm, At: 5},
		strings.Repeat(" ", impl.ProgTextMax+1):   {Stage: 1, Code: impl.SynTooLong},
		strings.Repeat("lifo 1;", impl.ItemMax+1): {Stage: 1, Code: impl.SynItems, At: 7 * impl.ItemMax},
	}
	wrongTypes = map[string]impl.Report{
		"lifo 1; each 1;":                   {Stage: 2, Code: impl.CheckWhole, Item: 1, At: 0},
		"each zz;":                          {Stage: 2, Code: impl.CheckName, Item: 0, At: 0},
		"each 1 + true < 3; each zz;":       {Stage: 2, Code: impl.CheckOp, Item: 0, At: 2},
		"let a = 1; let b = 2; let a = zz;": {Stage: 2, Code: impl.CheckTwice, Item: 2, At: -1},
		"lifo 1; end true; lifo 1;":         {Stage: 2, Code: impl.CheckLifo, Item: 2, At: -1},
		"never true or pick then leg;":      {Stage: 2, Code: impl.CheckWhole, Item: 0, At: 3},
	}
	wrongInst = map[string]impl.Report{
		"x\n":                                    {Stage: 3, Code: impl.InstWord, At: 1},
		smallText + "x\n":                        {Stage: 3, Code: impl.InstWord, At: 9},
		smallText + "road 0 5 0\n":               {Stage: 3, Code: impl.InstRoadOrder, At: 9},
		smallText + "road 5 5 0\nx":              {Stage: 3, Code: impl.InstRange, At: 9},
		smallText + "road 5":                     {Stage: 3, Code: impl.InstNoNewline, At: 9},
		"road\nx\n":                              {Stage: 3, Code: impl.InstFields, At: 1},
		smallText + "vehicle\n":                  {Stage: 3, Code: impl.InstOrder, At: 9},
		"vehicle 00 - 0 0 0 0 0\n":               {Stage: 3, Code: impl.InstForm, At: 1},
		strings.Repeat("\n", impl.InstTextMax+1): {Stage: 3, Code: impl.InstTooLong, At: 0},
		strings.Repeat("vehicle 0 - 0 0 0 0 0\n", impl.VehMax+1): {Stage: 3, Code: impl.InstTooMany, At: impl.VehMax + 1},
	}
	wrongFuel = []int64{-1, impl.FuelMax + 1, math.MinInt64, math.MaxInt64}
)

func TestReportOfEachStage(t *testing.T) {
	right := "lifo 1; each time <= close or true;"
	for prog, want := range wrongSyntax {
		lookAtReport(t, prog, smallText, 100, want)
	}
	for prog, want := range wrongTypes {
		lookAtReport(t, prog, smallText, 100, want)
	}
	for inst, want := range wrongInst {
		lookAtReport(t, right, inst, 100, want)
	}
	for _, fuel := range wrongFuel {
		lookAtReport(t, right, smallText, fuel, impl.Report{Stage: 4})
	}
}

func TestReportOfSeveralErrors(t *testing.T) {
	for prog, want := range wrongSyntax {
		for inst := range wrongInst {
			lookAtReport(t, prog, inst, 100, want)
			lookAtReport(t, prog, inst, -1, want)
		}
		lookAtReport(t, prog, smallText, impl.FuelMax+1, want)
	}
	for prog, want := range wrongTypes {
		for inst := range wrongInst {
			lookAtReport(t, prog, inst, 100, want)
			lookAtReport(t, prog, inst, -1, want)
		}
		lookAtReport(t, prog, smallText, impl.FuelMax+1, want)
	}
	for inst, want := range wrongInst {
		for _, fuel := range wrongFuel {
			lookAtReport(t, "", inst, fuel, want)
		}
	}
}

func TestReportOfAPlan(t *testing.T) {
	text := string(impl.PrintInst(lineInst()))
	lookAtReport(t, "", text, impl.FuelMax, impl.Report{Stage: 5, Plan: impl.Plan{
		Ok: true, Tours: toursOf([]int64{2, 6, 7, 3}, []int64{4, 5}), Costs: []int64{100, 40}, Cost: 140, Tries: 32}})
	lookAtReport(t, "# two stops a tour\neach pos <= 2;", text, 31, impl.Report{Stage: 5, Plan: impl.Plan{
		Ok: true, Tours: toursOf([]int64{2, 3}, []int64{4, 5}), Costs: []int64{40, 40}, Cost: 80, Unserved: []int64{2}, Tries: 20, Stopped: true}})
	lookAtReport(t, "", "", 0, impl.Report{Stage: 5, Plan: impl.Plan{Ok: true}})
	lookAtReport(t, "end false;", "", impl.FuelMax, impl.Report{Stage: 5, Plan: impl.Plan{Ok: true}})
	lookAtReport(t, "", "vehicle 0 - 0 0 0 0 0\n", 0, impl.Report{Stage: 5, Plan: impl.Plan{Ok: true, Tours: toursOf(nil), Costs: []int64{0}}})
	lookAtReport(t, strings.Repeat(" ", impl.ProgTextMax), "", 0, impl.Report{Stage: 5, Plan: impl.Plan{Ok: true}})
}

func TestReportAgainstItsParts(t *testing.T) {
	r := rand.New(rand.NewSource(60))
	seen := map[int64]int{}
	for n := range 2000 {
		in := tightInst(r)
		p := progNearPlan(r, in)
		if n%3 == 0 {
			p = progOf(randomTyped(r, r.Intn(4), 8, 0.1)...)
		}
		fuel := r.Int63n(impl.FuelMax+400)>>r.Intn(12) - 20
		prog, inst := impl.PrintProg(p), impl.PrintInst(in)
		want := impl.Report{Stage: impl.StagePlan}
		if checked := impl.Check(p); checked.Err != 0 {
			want = impl.Report{Stage: impl.StageTypes, Code: checked.Err, Item: checked.Item, At: checked.At}
		} else if fuel < 0 || fuel > 20000 {
			want = impl.Report{Stage: impl.StageFuel}
		} else {
			want.Plan = impl.PlanAll(p, in, fuel)
		}
		lookAtReport(t, string(prog), string(inst), fuel, want)
		seen[want.Stage]++
	}
	if seen[impl.StageTypes] < 50 || seen[impl.StageFuel] < 50 || seen[impl.StagePlan] < 500 {
		t.Errorf("stages: %v", seen)
	}
}
