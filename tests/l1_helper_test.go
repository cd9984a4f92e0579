package tests

import (
	"math/rand"
	"slices"

	"loop.example/s0023/impl"
)

func smallInst() impl.Inst {
	return impl.Inst{
		Vehicles: []impl.Vehicle{
			{Room: 10, Skills: 5, Home: impl.Place{Close: 100}},
			{Room: 0, Skills: 1 << 15, Home: impl.Place{X: -3, Y: 9, Open: 7, Close: 7, Hold: 1}},
		},
		Requests: []impl.Request{
			{Size: 4, From: impl.Place{X: 3, Y: 4, Open: 5, Close: 60, Hold: 2}, To: impl.Place{X: -6, Y: 8, Close: 90, Hold: 1}},
			{Size: 0, Tags: 65535, From: impl.Place{X: 1}, To: impl.Place{Y: -1}},
		},
		Roads: []impl.Road{{A: 0, B: 5, Time: 0}, {A: 2, B: 1, Time: 3}, {A: 2, B: 3, Time: 50}, {A: 5, B: 4, Time: 100000}},
	}
}

const smallText = "vehicle 10 ac 0 0 0 100 0\n" +
	"vehicle 0 p -3 9 7 7 1\n" +
	"request 4 - 3 4 5 60 2 -6 8 0 90 1\n" +
	"request 0 abcdefghijklmnop 1 0 0 0 0 0 -1 0 0 0\n" +
	"road 0 5 0\n" +
	"road 2 1 3\n" +
	"road 2 3 50\n" +
	"road 5 4 100000\n"

// fullInst has as much of everything as may be, every number as long as may be.
func fullInst() impl.Inst {
	p := impl.Place{X: -impl.CoordMax, Y: -impl.CoordMax, Open: impl.TimeMax, Close: impl.TimeMax, Hold: impl.TimeMax}
	var in impl.Inst
	for range impl.VehMax {
		in.Vehicles = append(in.Vehicles, impl.Vehicle{Room: impl.RoomMax, Skills: 65535, Home: p})
	}
	for range impl.ReqMax {
		in.Requests = append(in.Requests, impl.Request{Size: impl.SizeMax, Tags: 65535, From: p, To: p})
	}
	last := int64(impl.VehMax + 2*impl.ReqMax - 1)
	for k := range int64(impl.RoadMax) {
		in.Roads = append(in.Roads, impl.Road{A: last - 3 + k/1000, B: 1000 + k%1000, Time: impl.RoadTimeMax})
	}
	return in
}

func copyInst(in impl.Inst) impl.Inst {
	return impl.Inst{Vehicles: slices.Clone(in.Vehicles), Requests: slices.Clone(in.Requests), Roads: slices.Clone(in.Roads)}
}

func sameInst(x, y impl.Inst) bool {
	return slices.Equal(x.Vehicles, y.Vehicles) && slices.Equal(x.Requests, y.Requests) && slices.Equal(x.Roads, y.Roads)
}

func emptyInst(in impl.Inst) bool { return sameInst(in, impl.Inst{}) }

func randomPlace(r *rand.Rand) impl.Place {
	span := []int64{2, 10, impl.CoordMax}[r.Intn(3)]
	p := impl.Place{X: r.Int63n(2*span+1) - span, Y: r.Int63n(2*span+1) - span}
	p.Close = r.Int63n(impl.TimeMax+1) >> r.Intn(21)
	p.Open = r.Int63n(p.Close + 1)
	p.Hold = r.Int63n(impl.TimeMax+1) >> r.Intn(21)
	return p
}

func randomInst(r *rand.Rand) impl.Inst {
	var in impl.Inst
	for range r.Intn(4) {
		in.Vehicles = append(in.Vehicles, impl.Vehicle{Room: r.Int63n(impl.RoomMax + 1), Skills: r.Int63n(65536), Home: randomPlace(r)})
	}
	for range r.Intn(4) {
		in.Requests = append(in.Requests, impl.Request{Size: r.Int63n(impl.SizeMax + 1), Tags: r.Int63n(65536), From: randomPlace(r), To: randomPlace(r)})
	}
	nodes := int64(len(in.Vehicles) + 2*len(in.Requests))
	for a := range nodes {
		for b := range nodes {
			if a != b && r.Intn(3) == 0 {
				in.Roads = append(in.Roads, impl.Road{A: a, B: b, Time: r.Int63n(impl.RoadTimeMax + 1)})
			}
		}
	}
	return in
}
