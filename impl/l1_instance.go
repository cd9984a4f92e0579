package impl

import (
	"bytes"
	"cmp"
	"errors"
	"slices"
	"strconv"
)

const (
	Cap         = 1000000000
	VehMax      = 64
	ReqMax      = 1000
	RoadMax     = 4000
	CoordMax    = 10000
	TimeMax     = 1000000
	RoadTimeMax = 100000
	SizeMax     = 10000
	RoomMax     = 1000000
	TagCount    = 16
	InstTextMax = 300000
)

const (
	InstTooLong   = 1
	InstNoNewline = 2
	InstWord      = 3
	InstOrder     = 4
	InstFields    = 5
	InstForm      = 6
	InstRange     = 7
	InstRoadOrder = 8
	InstTooMany   = 9
)

type Place struct {
	X     int64
	Y     int64
	Open  int64
	Close int64
	Hold  int64
}

type Vehicle struct {
	Room   int64
	Skills int64
	Home   Place
}

type Request struct {
	Size int64
	Tags int64
	From Place
	To   Place
}

type Road struct {
	A    int64
	B    int64
	Time int64
}

type Inst struct {
	Vehicles []Vehicle
	Requests []Request
	Roads    []Road
}

type InstRes struct {
	Err  int64
	Line int64
	Inst Inst
}

// The kinds of lines, in the order in which they may stand.
const (
	lineVehicle = iota
	lineRequest
	lineRoad
	lineUnknown
)

const (
	tagSetMax   = 1<<TagCount - 1
	digitsMax   = 9
	vehicleWord = "vehicle"
	requestWord = "request"
	roadWord    = "road"
)

// SatAdd is the sum, held within -Cap..Cap.
func SatAdd(a int64, b int64) int64 { return clamp(clamp(a) + clamp(b)) }

// SatMul is the product, held within -Cap..Cap.
func SatMul(a int64, b int64) int64 { return clamp(clamp(a) * clamp(b)) }

func clamp(x int64) int64 { return min(max(x, -Cap), Cap) }

// ValidInst tells whether the instance keeps every bound of the document's 1.3.
func ValidInst(in Inst) bool {
	if len(in.Vehicles) > VehMax || len(in.Requests) > ReqMax || len(in.Roads) > RoadMax {
		return false
	}
	for _, v := range in.Vehicles {
		if !validVehicle(v) {
			return false
		}
	}
	for _, q := range in.Requests {
		if !validRequest(q) {
			return false
		}
	}
	return validRoads(in.Roads, nodeCount(in))
}

func within(x int64, lo int64, hi int64) bool { return lo <= x && x <= hi }

func validPlace(p Place) bool {
	return within(p.X, -CoordMax, CoordMax) && within(p.Y, -CoordMax, CoordMax) &&
		within(p.Open, 0, p.Close) && p.Close <= TimeMax && within(p.Hold, 0, TimeMax)
}

func validVehicle(v Vehicle) bool {
	return within(v.Room, 0, RoomMax) && within(v.Skills, 0, tagSetMax) && validPlace(v.Home)
}

func validRequest(q Request) bool {
	return within(q.Size, 0, SizeMax) && within(q.Tags, 0, tagSetMax) && validPlace(q.From) && validPlace(q.To)
}

func validRoad(r Road, nodes int64) bool {
	return within(r.A, 0, nodes-1) && within(r.B, 0, nodes-1) && r.A != r.B && within(r.Time, 0, RoadTimeMax)
}

func validRoads(roads []Road, nodes int64) bool {
	for i, r := range roads {
		if !validRoad(r, nodes) || i > 0 && compareRoads(roads[i-1], r) >= 0 {
			return false
		}
	}
	return true
}

// compareRoads leaves Time out: two roads between the same nodes are one too many.
func compareRoads(x Road, y Road) int {
	return cmp.Or(cmp.Compare(x.A, y.A), cmp.Compare(x.B, y.B))
}

func nodeCount(in Inst) int64 { return int64(len(in.Vehicles)) + 2*int64(len(in.Requests)) }

// Travel is the travel time from node a to node b, or -1 where there is none.
func Travel(in Inst, a int64, b int64) int64 {
	last := nodeCount(in) - 1
	if !within(a, 0, last) || !within(b, 0, last) || !ValidInst(in) {
		return -1
	}
	return travelBetween(in, a, b)
}

// travelBetween trusts its caller: to look the whole instance over again would cost more than the answer.
func travelBetween(in Inst, a int64, b int64) int64 {
	if a == b {
		return 0
	}
	i, found := slices.BinarySearchFunc(in.Roads, Road{A: a, B: b}, compareRoads)
	if found {
		return in.Roads[i].Time
	}
	from, to := nodePlace(in, a), nodePlace(in, b)
	return distance(from.X, to.X) + distance(from.Y, to.Y)
}

func distance(x int64, y int64) int64 { return max(x-y, y-x) }

func nodePlace(in Inst, node int64) Place {
	homes := int64(len(in.Vehicles))
	if node < homes {
		return in.Vehicles[node].Home
	}
	q := in.Requests[(node-homes)/2]
	if (node-homes)%2 == 0 {
		return q.From
	}
	return q.To
}

// PrintInst is the text of a valid instance, and the empty text for any other.
func PrintInst(in Inst) []byte {
	b := []byte{}
	if !ValidInst(in) {
		return b
	}
	for _, v := range in.Vehicles {
		b = appendNumbers(append(b, vehicleWord...), v.Room)
		b = appendPlace(appendTags(b, v.Skills), v.Home)
		b = append(b, '\n')
	}
	for _, q := range in.Requests {
		b = appendNumbers(append(b, requestWord...), q.Size)
		b = appendPlace(appendPlace(appendTags(b, q.Tags), q.From), q.To)
		b = append(b, '\n')
	}
	for _, r := range in.Roads {
		b = appendNumbers(append(b, roadWord...), r.A, r.B, r.Time)
		b = append(b, '\n')
	}
	return b
}

func appendNumbers(b []byte, numbers ...int64) []byte {
	for _, n := range numbers {
		b = strconv.AppendInt(append(b, ' '), n, 10)
	}
	return b
}

func appendPlace(b []byte, p Place) []byte {
	return appendNumbers(b, p.X, p.Y, p.Open, p.Close, p.Hold)
}

func appendTags(b []byte, tags int64) []byte {
	b = append(b, ' ')
	if tags == 0 {
		return append(b, '-')
	}
	for t := range TagCount {
		if tags&(1<<t) != 0 {
			b = append(b, byte('a'+t))
		}
	}
	return b
}

// ParseInst reads the text of an instance, or tells its first error and the line of it.
func ParseInst(text []byte) InstRes {
	if len(text) > InstTextMax {
		return InstRes{Err: InstTooLong}
	}
	var r instReader
	for line := int64(1); len(text) > 0; line++ {
		rest, err := r.readLine(text)
		var fault lineError
		if errors.As(err, &fault) {
			return InstRes{Err: fault.code, Line: line}
		}
		text = rest
	}
	return InstRes{Inst: r.inst}
}

// lineError is the failure of one line. It carries the code alone, since a line does not know its own number.
type lineError struct {
	code int64
}

func (e lineError) Error() string {
	return "error " + strconv.FormatInt(e.code, 10) + " in a line of an instance"
}

// instReader holds what the lines so far have given.
type instReader struct {
	inst Inst
	kind int
}

// readLine takes in the first line of the text and gives back what stands after it.
func (r *instReader) readLine(text []byte) ([]byte, error) {
	line, rest, ended := bytes.Cut(text, []byte{'\n'})
	if !ended {
		return nil, lineError{InstNoNewline}
	}
	c := lineCursor{rest: line}
	if err := r.enterKind(&c); err != nil {
		return nil, err
	}
	return rest, r.readValues(&c)
}

// enterKind looks at all that must be right about a line before any of its values is read.
func (r *instReader) enterKind(c *lineCursor) error {
	fields := c.countFields()
	kind, wanted := kindOfWord(c.field())
	switch {
	case kind == lineUnknown:
		return lineError{InstWord}
	case kind < r.kind:
		return lineError{InstOrder}
	case fields != wanted:
		return lineError{InstFields}
	}
	r.kind = kind
	return nil
}

// kindOfWord gives the kind of a line that begins with the word, and how many fields such a line has.
func kindOfWord(word []byte) (kind int, fields int) {
	switch string(word) {
	case vehicleWord:
		return lineVehicle, 8
	case requestWord:
		return lineRequest, 13
	case roadWord:
		return lineRoad, 4
	}
	return lineUnknown, 0
}

func (r *instReader) readValues(c *lineCursor) error {
	switch r.kind {
	case lineVehicle:
		return r.addVehicle(c)
	case lineRequest:
		return r.addRequest(c)
	}
	return r.addRoad(c)
}

func (r *instReader) addVehicle(c *lineCursor) error {
	v := c.vehicle()
	switch {
	case c.err != nil:
		return c.err
	case !validVehicle(v):
		return lineError{InstRange}
	case len(r.inst.Vehicles) == VehMax:
		return lineError{InstTooMany}
	}
	r.inst.Vehicles = append(r.inst.Vehicles, v)
	return nil
}

func (r *instReader) addRequest(c *lineCursor) error {
	q := c.request()
	switch {
	case c.err != nil:
		return c.err
	case !validRequest(q):
		return lineError{InstRange}
	case len(r.inst.Requests) == ReqMax:
		return lineError{InstTooMany}
	}
	r.inst.Requests = append(r.inst.Requests, q)
	return nil
}

func (r *instReader) addRoad(c *lineCursor) error {
	road := c.road()
	before := len(r.inst.Roads)
	switch {
	case c.err != nil:
		return c.err
	case !validRoad(road, nodeCount(r.inst)):
		return lineError{InstRange}
	case before > 0 && compareRoads(r.inst.Roads[before-1], road) >= 0:
		return lineError{InstRoadOrder}
	case before == RoadMax:
		return lineError{InstTooMany}
	}
	r.inst.Roads = append(r.inst.Roads, road)
	return nil
}

// lineCursor reads the fields of one line from the left. It keeps its first failure, so that a whole line is read before anyone asks.
type lineCursor struct {
	rest []byte
	err  error
}

func (c *lineCursor) countFields() int { return bytes.Count(c.rest, []byte{' '}) + 1 }

func (c *lineCursor) field() []byte {
	field, rest, _ := bytes.Cut(c.rest, []byte{' '})
	c.rest = rest
	return field
}

func (c *lineCursor) failForm() int64 {
	if c.err == nil {
		c.err = lineError{InstForm}
	}
	return 0
}

func (c *lineCursor) number() int64 {
	digits, negative := bytes.CutPrefix(c.field(), []byte{'-'})
	n, ok := plainNumber(digits)
	if !ok || negative && n == 0 {
		return c.failForm()
	}
	if negative {
		return -n
	}
	return n
}

// plainNumber reads a number without a sign; it fails for more than digitsMax digits and for a '0' in front of another.
func plainNumber(digits []byte) (int64, bool) {
	if len(digits) == 0 || len(digits) > digitsMax || len(digits) > 1 && digits[0] == '0' {
		return 0, false
	}
	n := int64(0)
	for _, d := range digits {
		if !isDigit(d) {
			return 0, false
		}
		n = 10*n + int64(d-'0')
	}
	return n, true
}

func isDigit(c byte) bool { return '0' <= c && c <= '9' }

func (c *lineCursor) tags() int64 {
	field := c.field()
	if string(field) == "-" {
		return 0
	}
	if len(field) == 0 {
		return c.failForm()
	}
	tags := int64(0)
	for _, letter := range field {
		if letter < 'a' || letter >= 'a'+TagCount {
			return c.failForm()
		}
		tag := int64(1) << (letter - 'a')
		// A set whose letters ascend is below the value of its next letter alone.
		if tags >= tag {
			return c.failForm()
		}
		tags |= tag
	}
	return tags
}

func (c *lineCursor) place() Place {
	return Place{X: c.number(), Y: c.number(), Open: c.number(), Close: c.number(), Hold: c.number()}
}

func (c *lineCursor) vehicle() Vehicle {
	return Vehicle{Room: c.number(), Skills: c.tags(), Home: c.place()}
}

func (c *lineCursor) request() Request {
	return Request{Size: c.number(), Tags: c.tags(), From: c.place(), To: c.place()}
}

func (c *lineCursor) road() Road {
	return Road{A: c.number(), B: c.number(), Time: c.number()}
}
