package tests

import (
	"math"
	"math/big"
	"math/rand"
	"testing"

	"loop.example/s0023/impl"
)

// The reference works on big numbers, where neither a sum nor a product can wrap round.
func bigClamp(x *big.Int) *big.Int {
	top, bottom := big.NewInt(impl.Cap), big.NewInt(-impl.Cap)
	if x.Cmp(top) > 0 {
		return top
	}
	if x.Cmp(bottom) < 0 {
		return bottom
	}
	return x
}

func wantedSum(a, b int64) int64 {
	x, y := bigClamp(big.NewInt(a)), bigClamp(big.NewInt(b))
	return bigClamp(new(big.Int).Add(x, y)).Int64()
}

func wantedProduct(a, b int64) int64 {
	x, y := bigClamp(big.NewInt(a)), bigClamp(big.NewInt(b))
	return bigClamp(new(big.Int).Mul(x, y)).Int64()
}

func lookAtPair(t *testing.T, a, b int64) {
	t.Helper()
	if got, want := impl.SatAdd(a, b), wantedSum(a, b); got != want {
		t.Errorf("SatAdd(%d, %d) = %d, not %d", a, b, got, want)
	}
	if got, want := impl.SatMul(a, b), wantedProduct(a, b); got != want {
		t.Errorf("SatMul(%d, %d) = %d, not %d", a, b, got, want)
	}
}

func edgeNumbers() []int64 {
	middles := []int64{0, 5, 31622, impl.Cap / 2, impl.Cap, 2 * impl.Cap, math.MaxInt32, math.MaxUint32, impl.Cap * impl.Cap, math.MaxInt64 - 2}
	var out []int64
	for _, m := range middles {
		for d := int64(-2); d <= 2; d++ {
			out = append(out, m+d, -m+d)
		}
	}
	return append(out, math.MinInt64, math.MinInt64+1)
}

func TestArithmeticAtTheEdges(t *testing.T) {
	for _, a := range edgeNumbers() {
		for _, b := range edgeNumbers() {
			lookAtPair(t, a, b)
		}
	}
}

func TestArithmeticAtManyPairs(t *testing.T) {
	r := rand.New(rand.NewSource(1))
	for range 20000 {
		a, b := int64(r.Uint64())>>r.Intn(64), int64(r.Uint64())>>r.Intn(64)
		lookAtPair(t, a, b)
	}
}

func TestArithmeticWrittenOut(t *testing.T) {
	const least, most = math.MinInt64, math.MaxInt64
	sums := [][3]int64{
		{2, 3, 5}, {-7, 3, -4}, {0, 0, 0},
		{impl.Cap - 1, 1, impl.Cap}, {impl.Cap, 1, impl.Cap}, {impl.Cap, -1, impl.Cap - 1}, {impl.Cap + 1, -1, impl.Cap - 1},
		{1 - impl.Cap, -1, -impl.Cap}, {-impl.Cap, -1, -impl.Cap}, {-impl.Cap - 1, 1, 1 - impl.Cap},
		{most, most, impl.Cap}, {least, least, -impl.Cap}, {least, most, 0}, {most, -5, impl.Cap - 5},
	}
	for _, s := range sums {
		if got := impl.SatAdd(s[0], s[1]); got != s[2] {
			t.Errorf("SatAdd(%d, %d) = %d, not %d", s[0], s[1], got, s[2])
		}
	}
	products := [][3]int64{
		{6, 7, 42}, {-6, 7, -42}, {-6, -7, 42}, {0, most, 0},
		{31622, 31623, 999982506}, {31623, 31623, impl.Cap}, {-31623, 31623, -impl.Cap},
		{impl.Cap, 1, impl.Cap}, {impl.Cap, -1, -impl.Cap}, {impl.Cap + 1, 1, impl.Cap}, {impl.Cap, impl.Cap, impl.Cap},
		{least, -1, impl.Cap}, {least, 1, -impl.Cap}, {least, least, impl.Cap}, {most, least, -impl.Cap},
	}
	for _, p := range products {
		if got := impl.SatMul(p[0], p[1]); got != p[2] {
			t.Errorf("SatMul(%d, %d) = %d, not %d", p[0], p[1], got, p[2])
		}
	}
}
