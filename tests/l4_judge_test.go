package tests

import (
	"strconv"
	"strings"
	"testing"

	"loop.example/s0023/impl"
)

// attributeRows are found by hand: time leg wait dist load size open close hold room pos pick drop, at position 0, at every stop and at the return.
var attributeRows = []struct {
	v     int64
	route []int64
	rows  [][]int64
}{
	{0, []int64{2, 3, 4, 5}, [][]int64{
		{5, 0, 0, 0, 0, 0, 5, 200, 3, 10, 0, 0, 0},
		{28, 20, 0, 20, 4, 4, 0, 100, 2, 10, 1, 1, 0},
		{60, 2, 28, 22, 0, 4, 60, 90, 1, 10, 2, 0, 1},
		{111, 50, 0, 72, 7, 7, 10, 101, 2, 10, 3, 1, 0},
		{117, 4, 0, 76, 0, 7, 0, 102, 0, 10, 4, 0, 1},
		{118, 1, 0, 77, 0, 0, 5, 200, 3, 10, 5, 0, 0},
	}},
	{0, []int64{4, 2, 5, 3}, [][]int64{
		{5, 0, 0, 0, 0, 0, 5, 200, 3, 10, 0, 0, 0},
		{12, 4, 0, 4, 7, 7, 10, 101, 2, 10, 1, 1, 0},
		{21, 7, 0, 11, 11, 4, 0, 100, 2, 10, 2, 1, 0},
		{34, 11, 0, 22, 4, 7, 0, 102, 0, 10, 3, 0, 1},
		{60, 13, 13, 35, 0, 4, 60, 90, 1, 10, 4, 0, 1},
		{66, 5, 0, 40, 0, 0, 5, 200, 3, 10, 5, 0, 0},
	}},
	{1, []int64{8, 9}, [][]int64{
		{300, 0, 0, 0, 0, 0, 300, 400, 0, 7, 0, 0, 0},
		{321, 21, 0, 21, 0, 0, 0, 105, 0, 7, 1, 1, 0},
		{322, 1, 0, 22, 0, 0, 0, 106, 6, 7, 2, 0, 1},
		{350, 22, 0, 44, 0, 0, 300, 400, 0, 7, 3, 0, 0},
	}},
	{0, nil, [][]int64{
		{5, 0, 0, 0, 0, 0, 5, 200, 3, 10, 0, 0, 0},
		{8, 0, 0, 0, 0, 0, 5, 200, 3, 10, 1, 0, 0},
	}},
}

// sameAs is a text that is true where the attribute has the value.
func sameAs(attr int, value int64) string {
	if attr >= impl.AttrPick {
		return attributeWords[attr] + " = " + []string{"false", "true"}[value]
	}
	return attributeWords[attr] + " = " + strconv.FormatInt(value, 10)
}

func TestAttributesByJudge(t *testing.T) {
	in := machineInst()
	for _, x := range attributeRows {
		for i := 1; i < len(x.rows); i++ {
			for attr, value := range x.rows[i] {
				off := value + 1
				if attr >= impl.AttrPick {
					off = 1 - value
				}
				rule := "each not (pos = " + strconv.Itoa(i) + ") or "
				if i == len(x.rows)-1 {
					rule = "end "
				}
				lookAtVerdict(t, rule+sameAs(attr, value)+";", in, x.v, x.route, accepted)
				if attr != impl.AttrPos || rule == "end " {
					lookAtVerdict(t, rule+sameAs(attr, off)+";", in, x.v, x.route, rejected(int64(i), 1))
				}
			}
		}
	}
}

func TestAttributesInTheRegisters(t *testing.T) {
	in := machineInst()
	c := impl.Code{Regs: 13}
	for _, x := range attributeRows {
		s := impl.StartState(c, in, x.v)
		for i, row := range x.rows[:len(x.rows)-1] {
			if i > 0 {
				s = impl.StepState(c, in, x.v, s, x.route[i-1])
			}
			lookAtNums(t, "registers", s.Regs, row)
			if s.Pos != int64(i) || s.Time != row[0] || s.Dist != row[3] || s.Load != row[4] {
				t.Errorf("%v: state %+v at position %d", x.route, s, i)
			}
		}
		for attr, value := range x.rows[len(x.rows)-1] {
			c := impl.Code{Regs: 14, Final: []impl.Ins{insOf("Const", 13, value), insOf("Eq", 13, 13, int64(attr)), insOf("Check", 13, 1)}}
			if got := impl.RunRoute(c, in, x.v, x.route); got != accepted {
				t.Errorf("%v: %s is not %d at the return: %+v", x.route, attributeWords[attr], value, got)
			}
		}
	}
}

func TestTagsAndSkills(t *testing.T) {
	in := machineInst()
	in.Requests[0].Tags, in.Requests[3].Tags = 65535, 1<<15
	for tag := range 16 {
		letter := string(rune('a' + tag))
		lookAtVerdict(t, "each has "+letter+"; end not has "+letter+";", in, 0, []int64{2, 3}, accepted)
		lookAtVerdict(t, "end has "+letter+";", in, 0, []int64{2, 3}, rejected(3, 1))
		want := rejected(1, 1)
		if letter == "p" {
			want = accepted
		}
		lookAtVerdict(t, "each has "+letter+";", in, 0, []int64{8, 9}, want)
		for v, skills := range []string{"ac", "p"} {
			want, atReturn := rejected(1, 1), rejected(3, 1)
			if strings.Contains(skills, letter) {
				want, atReturn = accepted, accepted
			}
			lookAtVerdict(t, "each skill "+letter+";", in, int64(v), []int64{2, 3}, want)
			lookAtVerdict(t, "end skill "+letter+";", in, int64(v), []int64{2, 3}, atReturn)
		}
	}
}

// On this route of vehicle 0 time is 28 37 60 74 75, leg 20 7 9 13 1, dist 20 27 36 49 50, load 4 11 7 0 0; the tags are a b a b.
var crossed = []int64{2, 4, 3, 5}

func TestJudgeEachKindOfItem(t *testing.T) {
	in := machineInst()
	nested := []int64{2, 4, 6, 7, 5, 3}
	rows := []struct {
		text  string
		route []int64
		want  impl.Verdict
	}{
		{"each load <= 11;", crossed, accepted},
		{"each load <= 10;", crossed, rejected(2, 1)},
		{"each time <= 74;", crossed, accepted},
		{"each time <= 73;", crossed, rejected(4, 1)},
		{"each true;", crossed, accepted},
		{"each false;", crossed, rejected(1, 1)},
		{"each pos < 5;", crossed, accepted},
		{"each 0 < pos;", crossed, accepted},
		{"sum leg from 0 in 0 .. 49;", crossed, accepted},
		{"sum leg from 0 in 0 .. 48;", crossed, rejected(4, 1)},
		{"sum leg from 0 in 0 .. 27;", crossed, rejected(3, 1)},
		{"sum leg from 0 in 0 .. 19;", crossed, rejected(1, 1)},
		{"sum leg from 0 in 20 .. 49;", crossed, accepted},
		{"sum leg from 0 in 21 .. 49;", crossed, rejected(1, 1)},
		{"sum leg from -20 in 0 .. 29;", crossed, accepted},
		{"sum leg from -21 in 0 .. 29;", crossed, rejected(1, 1)},
		{"sum -leg from 0 in -49 .. -20;", crossed, accepted},
		{"sum -leg from 0 in -48 .. -20;", crossed, rejected(4, 1)},
		{"sum -leg from 0 in -49 .. -21;", crossed, rejected(1, 1)},
		{"sum leg from 5 in 9 .. 8;", crossed, rejected(1, 1)},
		{"sum leg from 5 in 9 .. 8;", nil, accepted},
		{"sum leg from 999999979 in 0 .. 999999999;", []int64{2, 3}, rejected(2, 1)},
		{"sum 0 from 999999999 in 999999999 .. 999999999;", crossed, accepted},
		{"sum if(pos = 1, 999999999, -999999999) from 999999999 in 0 .. 999999999;", crossed, rejected(1, 1)},
		{"sum if(pos < 3, if(pos = 1, 999999998, 999999999), -1) from 1 in 0 .. 999999999;", crossed, rejected(2, 1)},
		{"sum -999999999 from -999999999 in -999999999 .. 0;", crossed, rejected(1, 1)},
		{"never has b then has a;", crossed, rejected(3, 1)},
		{"never has a then has b;", crossed, rejected(2, 1)},
		{"never has a then has a;", crossed, rejected(3, 1)},
		{"never drop then pick;", crossed, accepted},
		{"never pick and has a then pick and has a;", crossed, accepted},
		{"never pos = 2 then pos = 2;", crossed, accepted},
		{"never pos = 2 then pos <= 2;", crossed, accepted},
		{"never pos = 1 then pos = 4;", crossed, rejected(4, 1)},
		{"never pos = 3 then pos = 4;", crossed, rejected(4, 1)},
		{"never pos = 4 then true;", crossed, accepted},
		{"never pos = 0 then true;", crossed, accepted},
		{"never true then pos = 1;", crossed, accepted},
		{"never true then true;", crossed, rejected(2, 1)},
		{"never pos = 1 then 4 < pos;", crossed, accepted},
		{"apart a b;", crossed, rejected(2, 1)},
		{"apart b a;", crossed, rejected(2, 1)},
		{"apart a b;", []int64{2, 3, 4, 5}, accepted},
		{"apart a b;", []int64{8, 2, 4, 3, 5, 9}, rejected(3, 1)},
		{"apart a c;", crossed, accepted},
		{"apart a a;", crossed, accepted},
		{"apart b b;", crossed, accepted},
		{"apart a b;", []int64{6, 7}, accepted},
		{"apart b a;", []int64{6, 8, 7, 9}, accepted},
		{"apart a b;", []int64{2, 6, 7, 3}, rejected(2, 1)},
		{"apart b a;", []int64{6, 2, 7, 3}, rejected(2, 1)},
		{"apart a a;", []int64{2, 6, 7, 3}, rejected(2, 1)},
		{"apart b b;", []int64{2, 6, 7, 3}, accepted},
		{"apart b b;", []int64{4, 8, 6, 7, 5, 9}, rejected(3, 1)},
		{"apart a a;", []int64{2, 3, 6, 7}, accepted},
		{"lifo 2;", crossed, rejected(3, 1)},
		{"lifo 1;", crossed, rejected(2, 1)},
		{"lifo 2;", []int64{2, 4, 5, 3}, accepted},
		{"lifo 1;", []int64{2, 4, 5, 3}, rejected(2, 1)},
		{"lifo 3;", nested, accepted},
		{"lifo 2;", nested, rejected(3, 1)},
		{"lifo 999999999;", nested, accepted},
		{"lifo 3;", []int64{2, 4, 6, 7, 3, 5}, rejected(5, 1)},
		{"lifo 3;", []int64{2, 4, 6, 5, 7, 3}, rejected(4, 1)},
		{"lifo 2;", []int64{2, 4, 5, 6, 7, 8, 9, 3}, accepted},
		{"lifo 2;", []int64{2, 4, 5, 6, 7, 8, 3, 9}, rejected(7, 1)},
		{"lifo 1;", []int64{2, 3, 4, 5, 6, 7}, accepted},
		{"lifo 0;", []int64{2, 3}, rejected(1, 1)},
		{"lifo 0;", nil, accepted},
		{"ride time in 32 .. 37;", crossed, accepted},
		{"ride time in 33 .. 37;", crossed, rejected(3, 1)},
		{"ride time in 32 .. 36;", crossed, rejected(4, 1)},
		{"ride time in 0 .. 31;", crossed, rejected(3, 1)},
		{"ride -time in -37 .. -32;", crossed, accepted},
		{"ride -time in -36 .. -32;", crossed, rejected(4, 1)},
		{"ride load in -11 .. 3;", crossed, accepted},
		{"ride load in -10 .. 3;", crossed, rejected(4, 1)},
		{"ride time in 5 .. 4;", crossed, rejected(3, 1)},
		{"ride time in 5 .. 4;", nil, accepted},
		{"ride if(pick, 0, 999999999) in 0 .. 999999999;", crossed, accepted},
		{"ride if(pick, -1, 999999999) in 0 .. 999999999;", crossed, rejected(3, 1)},
		{"ride if(pick, -999999999, 999999999) in 0 .. 999999999;", crossed, rejected(3, 1)},
		{"ride if(pick, 999999999, -999999999) in -999999999 .. 0;", crossed, rejected(3, 1)},
		{"streak pick most 2;", crossed, accepted},
		{"streak pick most 1;", crossed, rejected(2, 1)},
		{"streak drop most 1;", crossed, rejected(4, 1)},
		{"streak true most 4;", crossed, accepted},
		{"streak true most 3;", crossed, rejected(4, 1)},
		{"streak true most 0;", crossed, rejected(1, 1)},
		{"streak false most 0;", crossed, accepted},
		{"streak has a most 1;", crossed, accepted},
		{"streak has a most 0;", crossed, rejected(1, 1)},
		{"streak 1 < pos most 2;", crossed, rejected(4, 1)},
		{"streak 1 < pos most 3;", crossed, accepted},
		{"streak true most 999999999;", crossed, accepted},
		{"streak pick most 1;", []int64{2, 3, 4, 5}, accepted},
		{"streak not (pos = 3) most 2;", nested, rejected(6, 1)},
		{"end false;", crossed, rejected(5, 1)},
		{"end false;", nil, rejected(1, 1)},
		{"end pos = 5;", crossed, accepted},
		{"end time = 75 and dist = 50 and leg = 1;", crossed, accepted},
		{"end time <= 74;", crossed, rejected(5, 1)},
		{"end pick or drop;", crossed, rejected(5, 1)},
		{"let x = leg; each x <= 20;", crossed, accepted},
		{"let x = leg; each x <= 19;", crossed, rejected(1, 2)},
		{"let x = leg; let y = x + dist; each y < 62;", crossed, rejected(4, 3)},
		{"let x = false;", crossed, accepted},
		{"let y = dist; end y = 50;", crossed, accepted},
		{"let y = has a; end y;", crossed, rejected(5, 2)},
	}
	for _, row := range rows {
		lookAtVerdict(t, row.text, in, 0, row.route, row.want)
	}
}

// On the route of one request below, pos is 1 and 2, pick and drop are in turn true.
func TestJudgeEveryOperator(t *testing.T) {
	in := machineInst()
	const most = "999999999 + 1"
	for _, row := range [][2]string{
		{"-pos", "0 - pos"}, {"--5", "5"}, {"-(999999999 + 1)", "-999999999 - 1"},
		{"3 * 4", "12"}, {"-3 * 4", "-12"}, {"-3 * -4", "12"}, {"40000 * 40000", most}, {"-40000 * 40000", "-(" + most + ")"}, {"31622 * 31622", "999950884"},
		{"3 + 4", "7"}, {"-3 + 4", "1"}, {"999999999 + 999999999", most}, {"999999999 + 999999999 - 999999999", "1"}, {"-999999999 + -999999999", "-(" + most + ")"},
		{"3 - 4", "-1"}, {"10 - 4 - 3", "3"}, {"10 - (4 - 3)", "9"}, {"0 - 999999999 - 999999999", "-(" + most + ")"}, {"999999999 - -999999999", most}, {"0 - 999999999 - 999999999 + 999999999", "-1"},
		{"min(3, 4)", "3"}, {"min(4, 3)", "3"}, {"min(-4, 3)", "-4"}, {"max(3, 4)", "4"}, {"max(4, 3)", "4"}, {"max(-4, 3)", "3"},
		{"if(pick, 7, 8)", "6 + pos"}, {"if(drop, 7, 8)", "9 - pos"}, {"if(true, -1, 1)", "-1"},
		{"3 < 4", "true"}, {"4 < 4", "false"}, {"5 < 4", "false"}, {"-5 < 4", "true"},
		{"3 <= 4", "true"}, {"4 <= 4", "true"}, {"5 <= 4", "false"},
		{"3 = 4", "false"}, {"4 = 4", "true"}, {"pick = drop", "false"}, {"(pick = pick) = (drop = drop)", "true"}, {"false = false", "true"},
		{"pick and drop", "false"}, {"pick and true", "pick"}, {"true and true", "true"}, {"false and true", "false"}, {"true and false", "false"}, {"false and false", "false"},
		{"pick or drop", "true"}, {"pick or false", "pick"}, {"false or false", "false"}, {"true or true", "true"}, {"true or false", "true"}, {"false or true", "true"},
		{"not pick", "drop"}, {"not not pick", "pick"}, {"if(pick, drop, pick)", "false"}, {"if(pick, pick, drop)", "true"},
	} {
		lookAtVerdict(t, "let x = "+row[0]+"; each x = ("+row[1]+"); each ("+row[0]+") = x;", in, 0, []int64{2, 3}, accepted)
		lookAtVerdict(t, "let x = "+row[0]+"; each not (x = ("+row[1]+"));", in, 0, []int64{2, 3}, rejected(1, 2))
	}
}

func TestJudgeWhichRuleAndWhere(t *testing.T) {
	in := machineInst()
	rows := []struct {
		text  string
		route []int64
		want  impl.Verdict
	}{
		{"", crossed, accepted},
		{"", nil, accepted},
		{"", []int64{}, accepted},
		{"each false; never true then true; streak true most 0; lifo 0; sum 1 from 9 in 0 .. 0; ride 1 in 1 .. 0;", nil, accepted},
		{"each pos < 2; each load < 11;", crossed, rejected(2, 1)},
		{"each load < 11; each pos < 2;", crossed, rejected(2, 1)},
		{"apart a b; each pos < 2; lifo 1; streak pick most 1;", crossed, rejected(2, 1)},
		{"each pos < 3; each pos < 2;", crossed, rejected(2, 2)},
		{"end false; each pos < 4; each pos < 3;", crossed, rejected(3, 3)},
		{"end false; end false; let a = 1;", crossed, rejected(5, 1)},
		{"let a = 1; end true; let b = 2; end false; end false;", crossed, rejected(5, 4)},
		{"end false; ride time in 0 .. 36;", crossed, rejected(4, 2)},
		{"", []int64{2, 2}, rejected(2, 0)},
		{"", []int64{2, 3, 3}, rejected(3, 0)},
		{"", []int64{2, 3, 2}, rejected(3, 0)},
		{"", []int64{3, 2}, rejected(1, 0)},
		{"", []int64{3}, rejected(1, 0)},
		{"", []int64{4, 3, 2, 5}, rejected(2, 0)},
		{"", []int64{2}, rejected(2, 0)},
		{"", []int64{2, 4, 5}, rejected(4, 0)},
		{"", []int64{2, 4, 3}, rejected(4, 0)},
		{"", []int64{8, 9, 8}, rejected(3, 0)},
		{"", []int64{9}, rejected(1, 0)},
		{"each false;", []int64{3}, rejected(1, 0)},
		{"each pos < 2;", []int64{2, 2}, rejected(2, 0)},
		{"each pos < 1;", []int64{2, 2}, rejected(1, 1)},
		{"lifo 1; each pos < 2; apart a a;", []int64{2, 5}, rejected(2, 0)},
		{"end false;", []int64{2}, rejected(2, 0)},
		{"end pos < 1;", []int64{2, 4, 5}, rejected(4, 0)},
		{"each pos < 2;", []int64{2, 4, 5}, rejected(2, 1)},
	}
	for _, row := range rows {
		lookAtVerdict(t, row.text, in, 0, row.route, row.want)
	}
	last := strings.Repeat("each true;", impl.ItemMax-1)
	lookAtVerdict(t, last+"each pos < 4;", in, 0, crossed, rejected(4, impl.ItemMax))
	lookAtVerdict(t, last+"end false;", in, 0, crossed, rejected(5, impl.ItemMax))
}

func TestJudgeRoadsInTheirOwnDirectionAlone(t *testing.T) {
	in := machineInst()
	lookAtVerdict(t, "each not (pos = 1) or leg = 20; end leg = 5;", in, 0, []int64{2, 3}, accepted)
	in.Roads = []impl.Road{{A: 2, B: 0, Time: 7}, {A: 3, B: 0, Time: 0}, {A: 3, B: 2, Time: 9}}
	lookAtVerdict(t, "each leg = if(pos = 1, 3, 2); end leg = 0 and dist = 5;", in, 0, []int64{2, 3}, accepted)
	in.Roads = []impl.Road{{A: 0, B: 1, Time: 11}, {A: 1, B: 2, Time: 100000}, {A: 2, B: 3, Time: 0}}
	lookAtVerdict(t, "each leg = if(pos = 1, 100000, 0); end leg = 15 and dist = 100015;", in, 1, []int64{2, 3}, accepted)
}

func TestJudgeWait(t *testing.T) {
	in := machineInst()
	for _, row := range []struct{ open, wait int64 }{{0, 0}, {31, 0}, {32, 0}, {33, 1}, {90, 58}} {
		in.Requests[0].To.Open = row.open
		n := strconv.FormatInt
		text := "each not drop or wait = " + n(row.wait, 10) + " and time = " + n(32+row.wait, 10) + "; end wait = 0;"
		lookAtVerdict(t, text, in, 0, []int64{2, 3}, accepted)
	}
}

func TestJudgeSaturates(t *testing.T) {
	in := manyRequests(600, impl.Request{From: impl.Place{Close: 1, Hold: impl.TimeMax}, To: impl.Place{Close: 1, Hold: impl.TimeMax}})
	route := inTurn(in)
	// The time at position i is (i - 1) * 1000000.
	lookAtVerdict(t, "each time <= 999999999;", in, 0, route, rejected(1001, 1))
	lookAtVerdict(t, "each time <= 999999999 + 1 and wait = 0; end time = 999999999 + 1 and wait = 0;", in, 0, route, accepted)
	lookAtVerdict(t, "let x = time * time; each x <= 999999999;", in, 0, route, rejected(2, 2))
	lookAtVerdict(t, "let x = -(time * time) - time; each -999999999 <= x;", in, 0, route, rejected(2, 2))
	lookAtVerdict(t, "sum time from 0 in 0 .. 999999999;", in, 0, route, rejected(46, 1))
	in.Roads = []impl.Road{{A: 0, B: 1, Time: impl.RoadTimeMax}}
	lookAtVerdict(t, "sum dist * 10000 - 999999999 from -1 in 0 .. 999999999;", in, 0, route[:4], accepted)
}

func TestJudgeTheLongestRouteThatPairs(t *testing.T) {
	in := manyRequests(impl.ReqMax, impl.Request{Size: impl.SizeMax, Tags: 3, From: impl.Place{X: impl.CoordMax, Close: 1}, To: impl.Place{X: -impl.CoordMax, Close: 1}})
	lookAtVerdict(t, "end pos = 2001 and dist = 40000000;", in, 0, inTurn(in), accepted)
	lookAtVerdict(t, "each load <= 10000000; each 0 <= load; end load = 0;", in, 0, allAtOnce(in), accepted)
	lookAtVerdict(t, "each load < 10000000;", in, 0, allAtOnce(in), rejected(1000, 1))
	lookAtVerdict(t, "streak pick most 999;", in, 0, allAtOnce(in), rejected(1000, 1))
	lookAtVerdict(t, "streak drop most 999;", in, 0, allAtOnce(in), rejected(2000, 1))
	lookAtVerdict(t, "lifo 1000;", in, 0, allAtOnce(in), rejected(1001, 1))
	lookAtVerdict(t, "lifo 999;", in, 0, allAtOnce(in), rejected(1000, 1))
	lookAtVerdict(t, "apart a b;", in, 0, inTurn(in), accepted)
}

// doublings names every let twice in the next one.
func doublings() string {
	text := "let x0 = pos;"
	for i := 1; i < impl.ItemMax-1; i++ {
		was := "x" + strconv.Itoa(i-1)
		text += "let x" + strconv.Itoa(i) + " = " + was + " + " + was + ";"
	}
	return text
}

func TestJudgeEndsSoon(t *testing.T) {
	in := machineInst()
	lookAtVerdict(t, doublings()+"end x98 = 999999999 + 1;", in, 0, crossed, accepted)
	lookAtVerdict(t, doublings()+"each x20 < 4194304;", in, 0, crossed, rejected(4, 100))
	many := manyRequests(impl.ReqMax, impl.Request{Tags: 1})
	for _, text := range []string{
		strings.Repeat("apart a b;", impl.ItemMax),
		strings.Repeat("never false then true;", impl.ItemMax),
		strings.Repeat("streak not (pos = 1000) most 1001;", impl.ItemMax),
		strings.Repeat("sum size from 0 in 0 .. 0;", impl.ItemMax),
		"each 0 < pos" + strings.Repeat("+pos", 998) + ";",
	} {
		lookAtVerdict(t, text, many, 0, allAtOnce(many), accepted)
	}
}
