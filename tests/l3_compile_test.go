package tests

import (
	"slices"
	"strconv"
	"strings"
	"testing"

	"loop.example/s0023/impl"
)

// wantCode has the blocks as texts for assembled.
type wantCode struct {
	regs  int64
	slots int64
	init  string
	step  string
	final string
}

func lookAtCode(t *testing.T, text string, want wantCode) {
	t.Helper()
	p := soundProg(t, text)
	kept := copyProg(p)
	got := impl.Compile(p)
	if got.Regs != want.regs || got.Slots != want.slots {
		t.Errorf("%q: %d registers and %d slots, not %d and %d", text, got.Regs, got.Slots, want.regs, want.slots)
	}
	look := func(name string, block []impl.Ins, words string) {
		t.Helper()
		if wanted := assembled(t, words); !slices.Equal(block, wanted) {
			t.Errorf("%q, %s:\n%s\nnot\n%s", text, name, listing(block), listing(wanted))
		}
	}
	look("Init", got.Init, want.init)
	look("Step", got.Step, want.step)
	look("Final", got.Final, want.final)
	if !impl.ValidCode(got) {
		t.Errorf("%q: the code is not valid", text)
	}
	if !sameProg(p, kept) {
		t.Errorf("%q is written into", text)
	}
}

func TestCompileEachKindOfItem(t *testing.T) {
	lookAtCode(t, "", wantCode{regs: 13})
	lookAtCode(t, "let a = leg;", wantCode{regs: 15, step: "Move 14 1; Move 13 14", final: "Move 14 1; Move 13 14"})
	lookAtCode(t, "each pick;", wantCode{regs: 14, step: "Move 13 11; Check 13 1"})
	lookAtCode(t, "end drop;", wantCode{regs: 14, final: "Move 13 12; Check 13 1"})
	lookAtCode(t, "sum leg from -3 in -4 .. 5;", wantCode{regs: 15, init: "Const 13 -3",
		step: "Move 14 1; Add 13 13 14; Const 14 -4; Le 14 14 13; Check 14 1; Const 14 5; Le 14 13 14; Check 14 1"})
	lookAtCode(t, "never pick then drop;", wantCode{regs: 15, init: "Const 13 0",
		step: "Jz 13 4; Move 14 12; Not 14 14; Check 14 1; Move 14 11; Jz 14 7; Const 13 1"})
	lookAtCode(t, "apart c p;", wantCode{regs: 20, init: "Const 13 0; Const 14 0; Const 15 0",
		step: "Sub 16 11 12; Tag 17 2; Tag 18 15; Mul 19 17 16; Add 13 13 19; Mul 19 18 16; Add 14 14 19; " +
			"Mul 17 17 18; Mul 17 17 16; Add 15 15 17; Mul 19 13 14; Le 19 19 15; Check 19 1"})
	lookAtCode(t, "lifo 7;", wantCode{regs: 15, slots: 1, init: "Const 13 0",
		step: "Jz 11 8; Const 14 1; Add 13 13 14; Save 0 13; Const 14 7; Le 14 13 14; Check 14 1; Jump 13; " +
			"Load 14 0; Eq 14 14 13; Check 14 1; Const 14 1; Sub 13 13 14"})
	lookAtCode(t, "ride time in -6 .. 90;", wantCode{regs: 15, slots: 1,
		step: "Move 13 0; Jz 11 4; Save 0 13; Jump 12; Load 14 0; Sub 13 13 14; Const 14 -6; Le 14 14 13; Check 14 1; " +
			"Const 14 90; Le 14 13 14; Check 14 1"})
	lookAtCode(t, "streak has b most 4;", wantCode{regs: 15, init: "Const 13 0",
		step: "Tag 14 1; Jz 14 8; Const 14 1; Add 13 13 14; Const 14 4; Le 14 13 14; Check 14 1; Jump 9; Const 13 0"})
}

func TestCompileEveryLeaf(t *testing.T) {
	rows := map[string]string{
		"0": "Const 14 0", "999999999": "Const 14 999999999", "true": "Const 14 1", "false": "Const 14 0",
		"has a": "Tag 14 0", "has p": "Tag 14 15", "skill a": "Skill 14 0", "skill p": "Skill 14 15",
	}
	for n, word := range attributeWords {
		rows[word] = "Move 14 " + strconv.Itoa(n)
	}
	for leaf, ins := range rows {
		lookAtCode(t, "let x = "+leaf+";", wantCode{regs: 15, step: ins + "; Move 13 14", final: ins + "; Move 13 14"})
	}
}

func TestCompileEveryOperator(t *testing.T) {
	rows := map[string]string{
		"-leg":           "Move 14 1; Neg 14 14",
		"not pick":       "Move 14 11; Not 14 14",
		"leg * 3":        "Move 14 1; Const 15 3; Mul 14 14 15",
		"leg + 3":        "Move 14 1; Const 15 3; Add 14 14 15",
		"leg - 3":        "Move 14 1; Const 15 3; Sub 14 14 15",
		"leg < 3":        "Move 14 1; Const 15 3; Lt 14 14 15",
		"leg <= 3":       "Move 14 1; Const 15 3; Le 14 14 15",
		"leg = 3":        "Move 14 1; Const 15 3; Eq 14 14 15",
		"pick = drop":    "Move 14 11; Move 15 12; Eq 14 14 15",
		"min(leg, 3)":    "Move 14 1; Const 15 3; Min 14 14 15",
		"max(leg, 3)":    "Move 14 1; Const 15 3; Max 14 14 15",
		"pick and drop":  "Move 14 11; Jz 14 3; Move 14 12",
		"pick or drop":   "Move 14 11; Jnz 14 3; Move 14 12",
		"if(pick, 1, 2)": "Move 14 11; Jz 14 4; Const 14 1; Jump 5; Const 14 2",
	}
	for e, ins := range rows {
		regs := int64(15)
		if strings.Contains(ins, " 15") {
			regs = 16
		}
		lookAtCode(t, "let x = "+e+";", wantCode{regs: regs, step: ins + "; Move 13 14", final: ins + "; Move 13 14"})
	}
}

func TestCompileNestedOperands(t *testing.T) {
	rows := []struct {
		e    string
		regs int64
		ins  string
	}{
		{"1 - 2 - 3", 16, "Const 14 1; Const 15 2; Sub 14 14 15; Const 15 3; Sub 14 14 15"},
		{"1 - (2 - 3)", 17, "Const 14 1; Const 15 2; Const 16 3; Sub 15 15 16; Sub 14 14 15"},
		{"-(1 * -(2 + leg))", 17, "Const 14 1; Const 15 2; Move 16 1; Add 15 15 16; Neg 15 15; Mul 14 14 15; Neg 14 14"},
		{"min(1, max(2, min(3, 4)))", 18, "Const 14 1; Const 15 2; Const 16 3; Const 17 4; Min 16 16 17; Max 15 15 16; Min 14 14 15"},
		{"min(max(min(1, 2), 3), 4)", 16, "Const 14 1; Const 15 2; Min 14 14 15; Const 15 3; Max 14 14 15; Const 15 4; Min 14 14 15"},
		{"pick and (drop or true)", 15, "Move 14 11; Jz 14 5; Move 14 12; Jnz 14 5; Const 14 1"},
		{"pick and drop and true", 15, "Move 14 11; Jz 14 3; Move 14 12; Jz 14 5; Const 14 1"},
		{"pick or drop and true", 15, "Move 14 11; Jnz 14 5; Move 14 12; Jz 14 5; Const 14 1"},
		{"pick = (drop and true)", 16, "Move 14 11; Move 15 12; Jz 15 4; Const 15 1; Eq 14 14 15"},
		{"1 + if(pick, leg, 2 * 3)", 17, "Const 14 1; Move 15 11; Jz 15 5; Move 15 1; Jump 8; Const 15 2; Const 16 3; Mul 15 15 16; Add 14 14 15"},
		{"if(pick and drop, if(pick, 1, 2), 3)", 15,
			"Move 14 11; Jz 14 3; Move 14 12; Jz 14 10; Move 14 11; Jz 14 8; Const 14 1; Jump 9; Const 14 2; Jump 11; Const 14 3"},
		{"if(pick, 1, if(drop, 2, 3))", 15,
			"Move 14 11; Jz 14 4; Const 14 1; Jump 9; Move 14 12; Jz 14 8; Const 14 2; Jump 9; Const 14 3"},
		{"if(if(pick, drop, true), 1, 2)", 15,
			"Move 14 11; Jz 14 4; Move 14 12; Jump 5; Const 14 1; Jz 14 8; Const 14 1; Jump 9; Const 14 2"},
		{"not (1 < 2) = (3 <= 4)", 17, "Const 14 1; Const 15 2; Lt 14 14 15; Not 14 14; Const 15 3; Const 16 4; Le 15 15 16; Eq 14 14 15"},
	}
	for _, row := range rows {
		lookAtCode(t, "let x = "+row.e+";", wantCode{regs: row.regs, step: row.ins + "; Move 13 14", final: row.ins + "; Move 13 14"})
	}
}

func TestCompileLabels(t *testing.T) {
	lookAtCode(t, "each pick or drop; each pick and drop; end pick or drop;", wantCode{regs: 14,
		step:  "Move 13 11; Jnz 13 3; Move 13 12; Check 13 1; Move 13 11; Jz 13 7; Move 13 12; Check 13 2",
		final: "Move 13 11; Jnz 13 3; Move 13 12; Check 13 3"})
	lookAtCode(t, "each true; never pick or drop then if(pick, drop, true); each false;", wantCode{regs: 15, init: "Const 13 0",
		step: "Const 14 1; Check 14 1; " +
			"Jz 13 10; Move 14 11; Jz 14 7; Move 14 12; Jump 8; Const 14 1; Not 14 14; Check 14 2; " +
			"Move 14 11; Jnz 14 13; Move 14 12; Jz 14 15; Const 13 1; " +
			"Const 14 0; Check 14 3"})
	lookAtCode(t, "streak pick and drop most 1; never true then pick;", wantCode{regs: 16, init: "Const 13 0; Const 14 0",
		step: "Move 15 11; Jz 15 3; Move 15 12; Jz 15 10; Const 15 1; Add 13 13 15; Const 15 1; Le 15 13 15; Check 15 1; Jump 11; Const 13 0; " +
			"Jz 14 15; Move 15 11; Not 15 15; Check 15 2; Const 15 1; Jz 15 18; Const 14 1"})
	lookAtCode(t, "ride if(pick, 1, 2) in 3 .. 4; lifo 5;", wantCode{regs: 16, slots: 2, init: "Const 13 0",
		step: "Move 14 11; Jz 14 4; Const 14 1; Jump 5; Const 14 2; " +
			"Jz 11 8; Save 0 14; Jump 16; Load 15 0; Sub 14 14 15; Const 15 3; Le 15 15 14; Check 15 1; Const 15 4; Le 15 14 15; Check 15 1; " +
			"Jz 11 24; Const 14 1; Add 13 13 14; Save 1 13; Const 14 5; Le 14 13 14; Check 14 2; Jump 29; " +
			"Load 14 1; Eq 14 14 13; Check 14 2; Const 14 1; Sub 13 13 14"})
}

func TestCompileLetsBetweenRules(t *testing.T) {
	lookAtCode(t, "sum leg from 9 in 0 .. 1; let a = 5; streak pick most 2; let b = a < 6; each b; let c = -a;", wantCode{regs: 20,
		init: "Const 16 9; Const 17 0",
		step: "Move 18 1; Add 16 16 18; Const 18 0; Le 18 18 16; Check 18 1; Const 18 1; Le 18 16 18; Check 18 1; " +
			"Const 18 5; Move 13 18; " +
			"Move 18 11; Jz 18 18; Const 18 1; Add 17 17 18; Const 18 2; Le 18 17 18; Check 18 3; Jump 19; Const 17 0; " +
			"Move 18 13; Const 19 6; Lt 18 18 19; Move 14 18; " +
			"Move 18 14; Check 18 5; " +
			"Move 18 13; Neg 18 18; Move 15 18",
		final: "Const 18 5; Move 13 18; Move 18 13; Const 19 6; Lt 18 18 19; Move 14 18; Move 18 13; Neg 18 18; Move 15 18"})
}

func TestCompileSlots(t *testing.T) {
	span := func(reg, slot, lo, hi, rule, at string) string {
		a, _ := strconv.Atoi(at)
		next, over := strconv.Itoa(a+4), strconv.Itoa(a+12)
		r, _ := strconv.Atoi(reg)
		up := strconv.Itoa(r + 1)
		return "Move " + reg + " 3; Jz 11 " + next + "; Save " + slot + " " + reg + "; Jump " + over + "; Load " + up + " " + slot +
			"; Sub " + reg + " " + reg + " " + up + "; Const " + up + " " + lo + "; Le " + up + " " + up + " " + reg + "; Check " + up + " " + rule +
			"; Const " + up + " " + hi + "; Le " + up + " " + reg + " " + up + "; Check " + up + " " + rule + "; "
	}
	lookAtCode(t, "ride dist in 0 .. 1; each true; ride dist in 2 .. 3; lifo 4; ride dist in 5 .. 6;", wantCode{regs: 16, slots: 4, init: "Const 13 0",
		step: span("14", "0", "0", "1", "1", "0") + "Const 14 1; Check 14 2; " + span("14", "1", "2", "3", "3", "14") +
			"Jz 11 34; Const 14 1; Add 13 13 14; Save 2 13; Const 14 4; Le 14 13 14; Check 14 4; Jump 39; " +
			"Load 14 2; Eq 14 14 13; Check 14 4; Const 14 1; Sub 13 13 14; " +
			span("14", "3", "5", "6", "5", "39")})
	lookAtCode(t, "ride 1 in 0 .. 0; let a = 1; end true;", wantCode{regs: 16, slots: 1,
		step: "Const 14 1; Jz 11 4; Save 0 14; Jump 12; Load 15 0; Sub 14 14 15; Const 15 0; Le 15 15 14; Check 15 1; " +
			"Const 15 0; Le 15 14 15; Check 15 1; Const 14 1; Move 13 14",
		final: "Const 14 1; Move 13 14; Const 14 1; Check 14 3"})
}

func TestCompileRegistersOfRules(t *testing.T) {
	c := impl.Compile(soundProg(t, "never pick then drop; apart a b; let x = 1; sum x from -8 in 0 .. 0; apart c c; lifo 1; sum 1 from 999999999 in 0 .. 0; ride 1 in 0 .. 0; streak pick most 0; end true;"))
	want := assembled(t, "Const 14 0; Const 15 0; Const 16 0; Const 17 0; Const 18 -8; Const 19 0; Const 20 0; Const 21 0; Const 22 0; Const 23 999999999; Const 24 0")
	if !slices.Equal(c.Init, want) {
		t.Errorf("Init:\n%s", listing(c.Init))
	}
	if c.Regs != 29 || c.Slots != 2 {
		t.Errorf("%d registers and %d slots", c.Regs, c.Slots)
	}
	apart := assembled(t, "Sub 25 11 12; Tag 26 2; Tag 27 2; Mul 28 26 25; Add 19 19 28; Mul 28 27 25; Add 20 20 28; "+
		"Mul 26 26 27; Mul 26 26 25; Add 21 21 26; Mul 28 19 20; Le 28 28 21; Check 28 5")
	at := slices.Index(c.Step, apart[1])
	if at < 1 || !slices.Equal(c.Step[at-1:at-1+len(apart)], apart) {
		t.Errorf("the second apart stands not in\n%s", listing(c.Step))
	}
}

func TestCompileFinal(t *testing.T) {
	lookAtCode(t, "end pick; let a = 1; each true; end a < 2; let b = a; sum b from 1 in 1 .. 1; end if(true, pick, drop);", wantCode{regs: 18,
		init: "Const 15 1",
		step: "Const 16 1; Move 13 16; Const 16 1; Check 16 3; Move 16 13; Move 14 16; " +
			"Move 16 14; Add 15 15 16; Const 16 1; Le 16 16 15; Check 16 6; Const 16 1; Le 16 15 16; Check 16 6",
		final: "Move 16 11; Check 16 1; Const 16 1; Move 13 16; Move 16 13; Const 17 2; Lt 16 16 17; Check 16 4; " +
			"Move 16 13; Move 14 16; Const 16 1; Jz 16 14; Move 16 11; Jump 15; Move 16 12; Check 16 7"})
	lookAtCode(t, "end min(1, 2) < 3;", wantCode{regs: 15, final: "Const 13 1; Const 14 2; Min 13 13 14; Const 14 3; Lt 13 13 14; Check 13 1"})
}

func TestCompileRegsByTheBlockThatNamesMost(t *testing.T) {
	rows := []struct {
		text string
		regs int64
	}{
		{"", 13},
		{"each 1 < 2; end pick;", 15},
		{"each pick; end 1 < 2;", 15},
		{"each pick; end 1 < (2 + 3 * 4);", 17},
		{"each 1 < 2 + 3 * 4; end 1 < 2;", 17},
		{"let a = 1; let b = 2; each pick;", 16},
		{"let a = 1 < 2; let b = 2; each pick;", 17},
		{"lifo 1;", 15},
		{"apart a b; each 1 < 2 + 3 * (4 - 5 * 6);", 22},
		{"apart a b; each 1 < 2 + 3 * 4;", 20},
	}
	for _, row := range rows {
		if c := impl.Compile(soundProg(t, row.text)); c.Regs != row.regs {
			t.Errorf("%q: %d registers, not %d", row.text, c.Regs, row.regs)
		}
	}
}

func TestCompileAtTheLimits(t *testing.T) {
	deep := "1"
	for range impl.DepthMax {
		deep = "min(1, 1 + 1 * " + deep + ")"
	}
	texts := []string{
		strings.Repeat("apart a b;", 99) + "let a = 1 < " + deep + ";",
		strings.Repeat("ride leg in 0 .. 1;", 100),
		strings.Repeat("sum 1 from 1 in 1 .. 1;", 99) + "lifo 999999999;",
		"let a = 1" + strings.Repeat("+1", 999) + ";",
		"each " + strings.Repeat("if(true, false, ", 64) + "true" + strings.Repeat(")", 64) + ";",
		strings.Repeat("never pick then drop;", 100),
		"each pick" + strings.Repeat(" and pick", 999) + ";",
	}
	for _, text := range texts {
		c := impl.Compile(soundProg(t, text))
		if c.Regs < 13 || !impl.ValidCode(c) {
			t.Errorf("%.60q: code of %d registers, %d slots, %d instructions is not valid", text, c.Regs, c.Slots, len(c.Step))
		}
		if back := impl.DecodeCode(impl.EncodeCode(c)); !sameCode(back, c) {
			t.Errorf("%.60q: the code does not come back", text)
		}
	}
	c := impl.Compile(soundProg(t, texts[0]))
	if want := int64(13 + 1 + 297 + 1 + 1 + 3*64); c.Regs != want {
		t.Errorf("%d registers, not %d", c.Regs, want)
	}
	if c := impl.Compile(soundProg(t, texts[1])); c.Slots != 100 || c.Step[len(c.Step)-1] != insOf("Check", 14, 100) {
		t.Errorf("%d slots and %+v at the end", c.Slots, c.Step[len(c.Step)-1])
	}
}

func TestCompileRefusesProgramsThatAreNotSound(t *testing.T) {
	for _, text := range []string{
		"each 1;", "each zz;", "let a = 1; let a = 2;", "lifo 1; lifo 2;", "each 1 + true;", "never pick then 1;",
		"let a = 1; each pick; sum a from 0 in 0 .. 1; end time;",
	} {
		if c := impl.Compile(soundProg(t, text)); !sameCode(c, impl.Code{}) {
			t.Errorf("%q has the code %+v", text, c)
		}
	}
}

// spread writes into all that the list could grow into.
func spread(block []impl.Ins) {
	full := block[:cap(block)]
	for i := range full {
		full[i] = impl.Ins{Op: -1, A: -1, B: -1, C: -1}
	}
}

func lookAtBlocksApart(t *testing.T, name string, make func() impl.Code) {
	t.Helper()
	kept := copyCode(make())
	for i := range 3 {
		c := make()
		blocks := []*[]impl.Ins{&c.Init, &c.Step, &c.Final}
		spread(*blocks[i])
		*blocks[i] = nil
		rest := copyCode(kept)
		*[]*[]impl.Ins{&rest.Init, &rest.Step, &rest.Final}[i] = nil
		if !sameCode(c, rest) {
			t.Errorf("%s: writing into block %d changes another", name, i)
		}
		if again := make(); !sameCode(again, kept) {
			t.Errorf("%s: writing into block %d changes a later answer", name, i)
		}
	}
}

func TestCompileAnswersAreNewMemory(t *testing.T) {
	p := soundProg(t, "let a = 1; sum a from 2 in 0 .. 9; lifo 3; never pick then drop; apart a b; end a < 5;")
	lookAtBlocksApart(t, "Compile", func() impl.Code { return impl.Compile(p) })
	text := impl.EncodeCode(impl.Compile(p))
	kept := slices.Clone(text)
	lookAtBlocksApart(t, "DecodeCode", func() impl.Code { return impl.DecodeCode(text) })
	if !slices.Equal(text, kept) {
		t.Errorf("DecodeCode writes into its argument")
	}
}
