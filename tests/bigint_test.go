package tests

import (
	"math"
	"math/big"
	"math/rand"
	"slices"
	"strings"
	"testing"

	"loop.example/g00822/impl"
)

// signedBig returns the value of a big integer.
func signedBig(x impl.BigInt) *big.Int {
	value := bigOf(x.Mag)
	if x.Neg {
		value.Neg(value)
	}
	return value
}

// bigIntOfBig returns a number in the form of the program, or the zero value if it has too many limbs.
func bigIntOfBig(value *big.Int) impl.BigInt {
	mag := limbsOfBig(new(big.Int).Abs(value))
	return impl.BigInt{Neg: value.Sign() < 0 && len(mag) > 0, Mag: mag}
}

// sameBigInt compares all fields; nil and the empty list are the same.
func sameBigInt(x impl.BigInt, y impl.BigInt) bool {
	return x.Neg == y.Neg && slices.Equal(x.Mag, y.Mag)
}

func isZeroBigInt(x impl.BigInt) bool {
	return sameBigInt(x, impl.BigInt{})
}

// sampleBigInts returns the sample numbers with both signs; 0 occurs as nil and as the empty list.
func sampleBigInts() []impl.BigInt {
	var list []impl.BigInt
	for _, a := range sampleNats() {
		list = append(list, impl.BigInt{Mag: a})
		if len(a) > 0 {
			list = append(list, impl.BigInt{Neg: true, Mag: a})
		}
	}
	return list
}

// invalidBigInts returns values that are no big integers.
func invalidBigInts() map[string]impl.BigInt {
	bad := map[string]impl.BigInt{
		"negative 0 as nil":        {Neg: true},
		"negative 0 as empty list": {Neg: true, Mag: []int{}},
	}
	for name, a := range invalidNats() {
		bad[name] = impl.BigInt{Mag: a}
		bad["negative, "+name] = impl.BigInt{Neg: true, Mag: a}
	}
	return bad
}

func randomBigInt(r *rand.Rand, n int) impl.BigInt {
	return impl.BigInt{Neg: n > 0 && r.Intn(2) == 0, Mag: randomNat(r, n)}
}

func TestBigIntOk(t *testing.T) {
	for _, x := range sampleBigInts() {
		if !impl.BigIntOk(x) {
			t.Errorf("BigIntOk(%v) = false", x)
		}
	}
	for name, x := range invalidBigInts() {
		if impl.BigIntOk(x) {
			t.Errorf("BigIntOk of %s = true", name)
		}
	}
	for _, x := range []impl.BigInt{{}, {Mag: []int{}}, {Mag: []int{1}}, {Neg: true, Mag: []int{1}}, {Neg: true, Mag: repeated(natBase-1, natMost)}} {
		if !impl.BigIntOk(x) {
			t.Errorf("BigIntOk(%v) = false", x)
		}
	}
}

func TestBigIntOf(t *testing.T) {
	cases := []struct {
		n    int
		want impl.BigInt
	}{
		{0, impl.BigInt{}},
		{1, impl.BigInt{Mag: []int{1}}},
		{-1, impl.BigInt{Neg: true, Mag: []int{1}}},
		{999999999, impl.BigInt{Mag: []int{999999999}}},
		{-999999999, impl.BigInt{Neg: true, Mag: []int{999999999}}},
		{1000000000, impl.BigInt{Mag: []int{0, 1}}},
		{-1000000000, impl.BigInt{Neg: true, Mag: []int{0, 1}}},
		{-1000000001, impl.BigInt{Neg: true, Mag: []int{1, 1}}},
		{-1000000000000000000, impl.BigInt{Neg: true, Mag: []int{0, 0, 1}}},
		{math.MaxInt64 - 1, impl.BigInt{Mag: []int{854775806, 223372036, 9}}},
		{math.MaxInt64, impl.BigInt{Mag: []int{854775807, 223372036, 9}}},
		{math.MinInt64 + 2, impl.BigInt{Neg: true, Mag: []int{854775806, 223372036, 9}}},
		{math.MinInt64 + 1, impl.BigInt{Neg: true, Mag: []int{854775807, 223372036, 9}}},
		{math.MinInt64, impl.BigInt{Neg: true, Mag: []int{854775808, 223372036, 9}}},
	}
	for _, c := range cases {
		if got := impl.BigIntOf(c.n); !sameBigInt(got, c.want) {
			t.Errorf("BigIntOf(%d) = %v, want %v", c.n, got, c.want)
		}
	}
}

func TestIntsAreRecoveredFromTheirBigInts(t *testing.T) {
	for _, base := range append(sampleInts, 999999999, -999999999, -1000000000, 999999999999999999, -999999999999999999, math.MaxInt64/2, math.MinInt64/2) {
		for d := -20; d <= 20; d++ {
			n := base + d
			x := impl.BigIntOf(n)
			if !sameBigInt(x, bigIntOfBig(big.NewInt(int64(n)))) || !impl.BigIntOk(x) {
				t.Errorf("BigIntOf(%d) = %v", n, x)
			}
			got, ok := impl.BigIntToInt(x)
			if n == math.MinInt64 {
				if got != 0 || ok {
					t.Errorf("BigIntToInt of the least int = %d, %v", got, ok)
				}
			} else if got != n || !ok {
				t.Errorf("BigIntToInt(BigIntOf(%d)) = %d, %v", n, got, ok)
			}
		}
	}
}

func TestBigIntToIntOfGreatNumbers(t *testing.T) {
	cases := []struct {
		mag  []int
		want int
		ok   bool
	}{
		{[]int{5}, 5, true},
		{[]int{0, 7}, 7000000000, true},
		{[]int{854775806, 223372036, 9}, math.MaxInt64 - 1, true},
		{[]int{854775807, 223372036, 9}, math.MaxInt64, true},
		{[]int{854775808, 223372036, 9}, 0, false},
		{[]int{854775809, 223372036, 9}, 0, false},
		{[]int{0, 223372037, 9}, 0, false},
		{[]int{0, 0, 10}, 0, false},
		{[]int{709551616, 446744073, 18}, 0, false},
		{[]int{709551623, 446744073, 18}, 0, false},
		{[]int{0, 0, 0, 1}, 0, false},
		{repeated(natBase-1, natMost), 0, false},
	}
	for _, c := range cases {
		if got, ok := impl.BigIntToInt(impl.BigInt{Mag: c.mag}); got != c.want || ok != c.ok {
			t.Errorf("BigIntToInt(%v) = %d, %v", c.mag, got, ok)
		}
		if got, ok := impl.BigIntToInt(impl.BigInt{Neg: true, Mag: c.mag}); got != -c.want || ok != c.ok {
			t.Errorf("BigIntToInt(-%v) = %d, %v", c.mag, got, ok)
		}
	}
	for _, zero := range []impl.BigInt{{}, {Mag: []int{}}} {
		if got, ok := impl.BigIntToInt(zero); got != 0 || !ok {
			t.Errorf("BigIntToInt(%v) = %d, %v", zero, got, ok)
		}
	}
}

// checkBigIntPair compares all operations of two big integers with those of another implementation.
func checkBigIntPair(t *testing.T, x impl.BigInt, y impl.BigInt) {
	t.Helper()
	a, b := signedBig(x), signedBig(y)
	same := func(name string, got impl.BigInt, want *big.Int) {
		t.Helper()
		if !sameBigInt(got, bigIntOfBig(want)) {
			t.Errorf("%s(%v, %v) = %v, want %v", name, x, y, got, bigIntOfBig(want))
		}
	}
	same("BigIntNeg", impl.BigIntNeg(x), new(big.Int).Neg(a))
	same("BigIntAdd", impl.BigIntAdd(x, y), new(big.Int).Add(a, b))
	same("BigIntSub", impl.BigIntSub(x, y), new(big.Int).Sub(a, b))
	same("BigIntMul", impl.BigIntMul(x, y), new(big.Int).Mul(a, b))
	if got := impl.BigIntCmp(x, y); got != a.Cmp(b) {
		t.Errorf("BigIntCmp(%v, %v) = %d, want %d", x, y, got, a.Cmp(b))
	}
	checkFloorDiv(t, x, y.Mag)
}

// checkFloorDiv compares the quotient and the remainder with another implementation, and with what they were made of.
func checkFloorDiv(t *testing.T, x impl.BigInt, m []int) {
	t.Helper()
	quotient, rest := new(big.Int), new(big.Int)
	if len(m) > 0 {
		// For a positive divisor, Euclidean division is that with rounding down.
		quotient.DivMod(signedBig(x), bigOf(m), rest)
	}
	q, r := impl.BigIntFloorDiv(x, m)
	if !sameBigInt(q, bigIntOfBig(quotient)) || !slices.Equal(r, limbsOfBig(rest)) {
		t.Errorf("BigIntFloorDiv(%v, %v) = %v, %v, want %v, %v", x, m, q, r, bigIntOfBig(quotient), limbsOfBig(rest))
	}
	product := new(big.Int).Mul(signedBig(q), bigOf(m))
	if len(m) > 0 && (product.Add(product, bigOf(r)).Cmp(signedBig(x)) != 0 || bigOf(r).Cmp(bigOf(m)) >= 0) {
		t.Errorf("BigIntFloorDiv(%v, %v) = %v, %v: not recovered", x, m, q, r)
	}
}

func TestBigIntOperationsOnAllPairs(t *testing.T) {
	list := sampleBigInts()
	for _, x := range list {
		for _, y := range list {
			checkBigIntPair(t, x, y)
		}
	}
}

func TestBigIntOperationsOnInts(t *testing.T) {
	var list []impl.BigInt
	for n := -12; n <= 12; n++ {
		list = append(list, impl.BigIntOf(n))
	}
	for _, n := range []int{natBase, -natBase, math.MaxInt64, math.MinInt64} {
		for d := -3; d <= 3; d++ {
			list = append(list, impl.BigIntOf(n+d))
		}
	}
	for _, x := range list {
		for _, y := range list {
			checkBigIntPair(t, x, y)
		}
	}
}

func TestBigIntOperationsOnRandomNumbers(t *testing.T) {
	r := rand.New(rand.NewSource(31))
	for range 4000 {
		checkBigIntPair(t, randomBigInt(r, r.Intn(natMost+1)), randomBigInt(r, r.Intn(natMost+1)))
		checkBigIntPair(t, randomBigInt(r, r.Intn(9)), randomBigInt(r, r.Intn(6)))
		n := r.Intn(natMost + 1)
		checkBigIntPair(t, randomBigInt(r, n), randomBigInt(r, n))
	}
}

func TestBigIntZeroHasNoSign(t *testing.T) {
	for _, zero := range []impl.BigInt{{}, {Mag: []int{}}, impl.BigIntOf(0)} {
		if !isZeroBigInt(impl.BigIntNeg(zero)) || impl.FormatBigInt(zero) != "0" {
			t.Errorf("BigIntNeg(%v) = %v, FormatBigInt: %q", zero, impl.BigIntNeg(zero), impl.FormatBigInt(zero))
		}
		for _, other := range []impl.BigInt{{}, {Mag: []int{}}} {
			if impl.BigIntCmp(zero, other) != 0 || !isZeroBigInt(impl.BigIntAdd(zero, other)) || !isZeroBigInt(impl.BigIntSub(zero, other)) || !isZeroBigInt(impl.BigIntMul(zero, other)) {
				t.Errorf("operations of %v and %v", zero, other)
			}
		}
		for _, x := range sampleBigInts() {
			if !isZeroBigInt(impl.BigIntMul(x, zero)) || !isZeroBigInt(impl.BigIntMul(zero, x)) {
				t.Errorf("BigIntMul of %v and 0", x)
			}
			if !sameBigInt(impl.BigIntAdd(x, zero), x) || !sameBigInt(impl.BigIntAdd(zero, x), x) || !sameBigInt(impl.BigIntSub(x, zero), x) {
				t.Errorf("sum of %v and 0", x)
			}
			if !sameBigInt(impl.BigIntSub(zero, x), impl.BigIntNeg(x)) {
				t.Errorf("BigIntSub(0, %v) = %v", x, impl.BigIntSub(zero, x))
			}
			if q, r := impl.BigIntFloorDiv(zero, x.Mag); !isZeroBigInt(q) || len(r) != 0 {
				t.Errorf("BigIntFloorDiv(0, %v) = %v, %v", x.Mag, q, r)
			}
		}
	}
}

func TestOppositeBigInts(t *testing.T) {
	for _, x := range sampleBigInts() {
		opposite := impl.BigIntNeg(x)
		if len(x.Mag) > 0 && opposite.Neg == x.Neg || !slices.Equal(opposite.Mag, x.Mag) || !sameBigInt(impl.BigIntNeg(opposite), x) {
			t.Errorf("BigIntNeg(%v) = %v", x, opposite)
		}
		if !isZeroBigInt(impl.BigIntAdd(x, opposite)) || !isZeroBigInt(impl.BigIntAdd(opposite, x)) || !isZeroBigInt(impl.BigIntSub(x, x)) {
			t.Errorf("sums of %v and its opposite are not 0", x)
		}
		order := 1
		if x.Neg {
			order = -1
		}
		if len(x.Mag) == 0 {
			order = 0
		}
		if impl.BigIntCmp(x, opposite) != order || impl.BigIntCmp(opposite, x) != -order || impl.BigIntCmp(x, impl.BigInt{}) != order || impl.BigIntCmp(impl.BigInt{}, x) != -order || impl.BigIntCmp(x, x) != 0 {
			t.Errorf("BigIntCmp of %v, its opposite and 0", x)
		}
	}
}

func TestBigIntCmpIsTheOrderOfNumbers(t *testing.T) {
	rising := []impl.BigInt{
		{Neg: true, Mag: repeated(natBase-1, natMost)}, {Neg: true, Mag: power(59)}, {Neg: true, Mag: repeated(natBase-1, 59)},
		impl.BigIntOf(math.MinInt64), impl.BigIntOf(math.MinInt64 + 1), impl.BigIntOf(-natBase), impl.BigIntOf(1 - natBase),
		impl.BigIntOf(-2), impl.BigIntOf(-1), impl.BigIntOf(0), impl.BigIntOf(1), impl.BigIntOf(2),
		impl.BigIntOf(natBase - 1), impl.BigIntOf(natBase), impl.BigIntOf(math.MaxInt64 - 1), impl.BigIntOf(math.MaxInt64),
		{Mag: repeated(natBase-1, 59)}, {Mag: power(59)}, {Mag: repeated(natBase-1, natMost)},
	}
	for i, x := range rising {
		for k, y := range rising {
			want := min(1, max(-1, i-k))
			if got := impl.BigIntCmp(x, y); got != want {
				t.Errorf("BigIntCmp(%v, %v) = %d, want %d", x, y, got, want)
			}
		}
	}
}

func TestBigIntSumsWhoseSignTurns(t *testing.T) {
	cases := []struct{ x, y, sum, difference, product int }{
		{5, 3, 8, 2, 15}, {3, 5, 8, -2, 15}, {-5, 3, -2, -8, -15}, {-3, 5, 2, -8, -15}, {5, -3, 2, 8, -15}, {3, -5, -2, 8, -15},
		{-5, -3, -8, -2, 15}, {-3, -5, -8, 2, 15}, {5, 5, 10, 0, 25}, {-5, -5, -10, 0, 25}, {5, -5, 0, 10, -25}, {-5, 5, 0, -10, -25},
		{0, 7, 7, -7, 0}, {0, -7, -7, 7, 0}, {7, 0, 7, 7, 0}, {-7, 0, -7, -7, 0}, {-1, 1000000000, 999999999, -1000000001, -1000000000},
		{1000000000, -1000000001, -1, 2000000001, -1000000001000000000}, {999999999, 1, 1000000000, 999999998, 999999999},
		{-999999999, -1, -1000000000, -999999998, 999999999}, {-1, -1, -2, 0, 1}, {1, -1, 0, 2, -1},
	}
	for _, c := range cases {
		x, y := impl.BigIntOf(c.x), impl.BigIntOf(c.y)
		sum, difference, product := impl.BigIntAdd(x, y), impl.BigIntSub(x, y), impl.BigIntMul(x, y)
		if !sameBigInt(sum, impl.BigIntOf(c.sum)) || !sameBigInt(difference, impl.BigIntOf(c.difference)) || !sameBigInt(product, impl.BigIntOf(c.product)) {
			t.Errorf("operations of %d and %d: %v, %v, %v", c.x, c.y, sum, difference, product)
		}
	}
}

func TestBigIntResultsAtTheLimit(t *testing.T) {
	positive := func(mag []int) impl.BigInt { return impl.BigInt{Mag: mag} }
	negative := func(mag []int) impl.BigInt { return impl.BigInt{Neg: true, Mag: mag} }
	greatest := repeated(natBase-1, natMost)
	almost := append([]int{natBase - 2}, repeated(natBase-1, natMost-1)...)
	one := []int{1}
	results := map[string]struct{ got, want impl.BigInt }{
		"greatest - 1":             {impl.BigIntSub(positive(greatest), positive(one)), positive(almost)},
		"almost + 1":               {impl.BigIntAdd(positive(almost), positive(one)), positive(greatest)},
		"almost - -1":              {impl.BigIntSub(positive(almost), negative(one)), positive(greatest)},
		"-almost - 1":              {impl.BigIntSub(negative(almost), positive(one)), negative(greatest)},
		"-almost + -1":             {impl.BigIntAdd(negative(almost), negative(one)), negative(greatest)},
		"greatest + 1":             {impl.BigIntAdd(positive(greatest), positive(one)), impl.BigInt{}},
		"1 + greatest":             {impl.BigIntAdd(positive(one), positive(greatest)), impl.BigInt{}},
		"greatest - -1":            {impl.BigIntSub(positive(greatest), negative(one)), impl.BigInt{}},
		"-greatest - 1":            {impl.BigIntSub(negative(greatest), positive(one)), impl.BigInt{}},
		"-1 - greatest":            {impl.BigIntSub(negative(one), positive(greatest)), impl.BigInt{}},
		"-greatest + -1":           {impl.BigIntAdd(negative(greatest), negative(one)), impl.BigInt{}},
		"-greatest + 1":            {impl.BigIntAdd(negative(greatest), positive(one)), negative(almost)},
		"1 - greatest":             {impl.BigIntSub(positive(one), positive(greatest)), negative(almost)},
		"-greatest - -1":           {impl.BigIntSub(negative(greatest), negative(one)), negative(almost)},
		"greatest - greatest":      {impl.BigIntSub(positive(greatest), positive(greatest)), impl.BigInt{}},
		"-greatest - greatest":     {impl.BigIntSub(negative(greatest), positive(greatest)), impl.BigInt{}},
		"-(greatest)":              {impl.BigIntNeg(positive(greatest)), negative(greatest)},
		"-(-greatest)":             {impl.BigIntNeg(negative(greatest)), positive(greatest)},
		"greatest * -1":            {impl.BigIntMul(positive(greatest), negative(one)), negative(greatest)},
		"-1 * -greatest":           {impl.BigIntMul(negative(one), negative(greatest)), positive(greatest)},
		"greatest * -2":            {impl.BigIntMul(positive(greatest), negative([]int{2})), impl.BigInt{}},
		"product of 60 limbs":      {impl.BigIntMul(negative(power(29)), positive(power(30))), negative(power(59))},
		"product of 61 limbs":      {impl.BigIntMul(negative(power(30)), positive(power(30))), impl.BigInt{}},
		"square of 60 limbs":       {impl.BigIntMul(negative(power(29)), negative(power(29))), positive(power(58))},
		"square of a negative one": {impl.BigIntMul(negative(power(30)), negative(power(30))), impl.BigInt{}},
	}
	for name, c := range results {
		if !sameBigInt(c.got, c.want) {
			t.Errorf("%s: %v, want %v", name, c.got, c.want)
		}
	}
}

func TestBigIntFloorDivOfInts(t *testing.T) {
	cases := []struct{ x, m, quotient, rest int }{
		{7, 2, 3, 1}, {-7, 2, -4, 1}, {6, 2, 3, 0}, {-6, 2, -3, 0}, {1, 2, 0, 1}, {-1, 2, -1, 1}, {0, 2, 0, 0},
		{7, 1, 7, 0}, {-7, 1, -7, 0}, {0, 1, 0, 0}, {7, 7, 1, 0}, {-7, 7, -1, 0}, {7, 8, 0, 7}, {-7, 8, -1, 1}, {6, 7, 0, 6}, {-6, 7, -1, 1}, {-8, 7, -2, 6},
		{-1, 1000000000, -1, 999999999}, {1, 1000000000, 0, 1}, {-1, 9223372036854775807, -1, 9223372036854775806},
		{-1000000000, 1000000000, -1, 0}, {-1000000001, 1000000000, -2, 999999999}, {-999999999, 1000000000, -1, 1},
		{-999999999000000001, 1000000000, -1000000000, 999999999}, {-9223372036854775807, 9223372036854775806, -2, 9223372036854775805},
	}
	for _, c := range cases {
		q, r := impl.BigIntFloorDiv(impl.BigIntOf(c.x), impl.NatOf(c.m))
		if !sameBigInt(q, impl.BigIntOf(c.quotient)) || !slices.Equal(r, impl.NatOf(c.rest)) {
			t.Errorf("BigIntFloorDiv(%d, %d) = %v, %v, want %d, %d", c.x, c.m, q, r, c.quotient, c.rest)
		}
	}
	for x := -60; x <= 60; x++ {
		for m := 1; m <= 25; m++ {
			checkFloorDiv(t, impl.BigIntOf(x), impl.NatOf(m))
		}
	}
}

func TestBigIntFloorDivOfLongNumbers(t *testing.T) {
	greatest := repeated(natBase-1, natMost)
	for _, x := range []impl.BigInt{{Mag: greatest}, {Neg: true, Mag: greatest}, {Mag: power(59)}, {Neg: true, Mag: power(59)}, {Neg: true, Mag: []int{1}}} {
		for _, m := range [][]int{{1}, {2}, {3}, {natBase - 1}, power(1), power(30), power(59), greatest, repeated(natBase-1, 30)} {
			checkFloorDiv(t, x, m)
		}
		if q, r := impl.BigIntFloorDiv(x, []int{1}); !sameBigInt(q, x) || len(r) != 0 {
			t.Errorf("BigIntFloorDiv(%v, 1) = %v, %v", x, q, r)
		}
		for _, zero := range [][]int{nil, {}} {
			if q, r := impl.BigIntFloorDiv(x, zero); !isZeroBigInt(q) || len(r) != 0 {
				t.Errorf("BigIntFloorDiv(%v, 0) = %v, %v", x, q, r)
			}
		}
	}
}

// TestBigIntFloorDivNextToMultiples rounds where the remainder is 0, the least one and the greatest one.
func TestBigIntFloorDivNextToMultiples(t *testing.T) {
	r := rand.New(rand.NewSource(32))
	for range 300 {
		m := randomNat(r, 1+r.Intn(29))
		product := impl.BigIntMul(randomBigInt(r, r.Intn(30)), impl.BigInt{Mag: m})
		for d := -2; d <= 2; d++ {
			checkFloorDiv(t, impl.BigIntAdd(product, impl.BigIntOf(d)), m)
		}
	}
}

func TestFormatBigInt(t *testing.T) {
	cases := []struct {
		x    impl.BigInt
		want string
	}{
		{impl.BigInt{}, "0"}, {impl.BigInt{Mag: []int{}}, "0"}, {impl.BigIntOf(7), "7"}, {impl.BigIntOf(-7), "-7"}, {impl.BigIntOf(-1000000001), "-1000000001"},
		{impl.BigIntOf(math.MaxInt64), "9223372036854775807"}, {impl.BigIntOf(math.MinInt64), "-9223372036854775808"}, {impl.BigIntOf(math.MinInt64 + 1), "-9223372036854775807"},
		{impl.BigInt{Neg: true, Mag: power(59)}, "-1" + strings.Repeat("0", 531)},
		{impl.BigInt{Neg: true, Mag: repeated(natBase-1, natMost)}, "-" + strings.Repeat("9", 540)},
		{impl.BigInt{Mag: repeated(natBase-1, natMost)}, strings.Repeat("9", 540)},
	}
	for _, c := range cases {
		if got := impl.FormatBigInt(c.x); got != c.want {
			t.Errorf("FormatBigInt(%v) = %q, want %q", c.x, got, c.want)
		}
	}
}

func TestBigIntsAreRecoveredFromTheirText(t *testing.T) {
	r := rand.New(rand.NewSource(33))
	list := sampleBigInts()
	for n := range natMost + 1 {
		list = append(list, randomBigInt(r, n), randomBigInt(r, n))
	}
	for _, x := range list {
		text := impl.FormatBigInt(x)
		got, ok := impl.ParseBigInt(text)
		if text != signedBig(x).String() || !sameBigInt(got, x) || !ok {
			t.Errorf("ParseBigInt(FormatBigInt(%v)) = %v, %v by %q", x, got, ok, text)
		}
	}
}

func TestParseBigIntOfEachLength(t *testing.T) {
	for n := 1; n <= 545; n++ {
		for _, digits := range []string{strings.Repeat("9", n), "1" + strings.Repeat("0", n-1)} {
			for _, s := range []string{digits, "-" + digits} {
				value, _ := new(big.Int).SetString(s, 10)
				got, ok := impl.ParseBigInt(s)
				if ok != (n <= 540) || !sameBigInt(got, bigIntOfBig(value)) {
					t.Errorf("ParseBigInt of %d digits, %.3q = %v, %v", n, s, got, ok)
				}
			}
		}
	}
}

func TestParseBigIntOfOtherTexts(t *testing.T) {
	bad := []string{
		"", "-", "+", "--", "+-", "-+", "-0", "-00", "+0", "--0", "+1", "--1", "---1", "+-1", "-+1", "-01", "01", "00", "-007", "-0000000001",
		" ", "- 1", " -1", "-1 ", "-1\n", "- ", "1-", "-1-", "1-2", "-1-2", "-1/2", "1/2", "-1.0", "-1e3", "-0x1", "-a", "-1a", "-\x00", "-1\x00", "-\xff", "\xff1",
		"\u22121", "\u20131", "-\u0661", "\uff0d1", "-" + strings.Repeat("0", 540), "-0" + strings.Repeat("9", 539), "-" + strings.Repeat("9", 541),
		strings.Repeat("9", 541), "--" + strings.Repeat("9", 540), "-1" + strings.Repeat("0", 540), strings.Repeat("-", 1000), "-" + strings.Repeat("9", 100000),
		"-00000000" + "1", "-1000000000-", "-100000000 ", "-10000000-0",
	}
	for _, s := range bad {
		if got, ok := impl.ParseBigInt(s); !isZeroBigInt(got) || ok {
			t.Errorf("ParseBigInt(%.30q) = %v, %v", s, got, ok)
		}
	}
	if got, ok := impl.ParseBigInt("0"); !isZeroBigInt(got) || !ok {
		t.Errorf("ParseBigInt(\"0\") = %v, %v", got, ok)
	}
}

func TestParseBigIntOfAllShortTexts(t *testing.T) {
	for _, s := range textsOver("-+019 /:_\xff", 4) {
		n, isInt := impl.ParseInt(s)
		got, ok := impl.ParseBigInt(s)
		if ok != isInt || !sameBigInt(got, impl.BigIntOf(n)) {
			t.Errorf("ParseBigInt(%q) = %v, %v", s, got, ok)
		}
		if ok && impl.FormatBigInt(got) != s {
			t.Errorf("FormatBigInt(ParseBigInt(%q)) = %q", s, impl.FormatBigInt(got))
		}
	}
}

// bigIntOperations returns the functions of two big integers, of the second of which division takes the magnitude.
func bigIntOperations() map[string]func(x impl.BigInt, y impl.BigInt) (impl.BigInt, []int) {
	return map[string]func(x impl.BigInt, y impl.BigInt) (impl.BigInt, []int){
		"BigIntNeg":      func(x impl.BigInt, y impl.BigInt) (impl.BigInt, []int) { return impl.BigIntNeg(x), nil },
		"BigIntAdd":      func(x impl.BigInt, y impl.BigInt) (impl.BigInt, []int) { return impl.BigIntAdd(x, y), nil },
		"BigIntSub":      func(x impl.BigInt, y impl.BigInt) (impl.BigInt, []int) { return impl.BigIntSub(x, y), nil },
		"BigIntMul":      func(x impl.BigInt, y impl.BigInt) (impl.BigInt, []int) { return impl.BigIntMul(x, y), nil },
		"BigIntFloorDiv": func(x impl.BigInt, y impl.BigInt) (impl.BigInt, []int) { return impl.BigIntFloorDiv(x, y.Mag) },
	}
}

func TestInvalidBigInts(t *testing.T) {
	for name, x := range invalidBigInts() {
		if got := impl.BigIntNeg(x); !isZeroBigInt(got) {
			t.Errorf("BigIntNeg of %s = %v", name, got)
		}
		if got, ok := impl.BigIntToInt(x); got != 0 || ok {
			t.Errorf("BigIntToInt of %s = %d, %v", name, got, ok)
		}
		if got := impl.FormatBigInt(x); got != "" {
			t.Errorf("FormatBigInt of %s = %q", name, got)
		}
		others := append(sampleBigInts(), x, impl.BigInt{Neg: true}, impl.BigInt{Mag: []int{-1}}, impl.BigInt{Mag: repeated(1, natMost+1)})
		for _, y := range others {
			checkNoBigInt(t, name, x, y)
		}
	}
}

// checkNoBigInt expects zero values of all functions of x, which is invalid, and y.
func checkNoBigInt(t *testing.T, name string, x impl.BigInt, y impl.BigInt) {
	t.Helper()
	if impl.BigIntCmp(x, y) != 0 || impl.BigIntCmp(y, x) != 0 {
		t.Errorf("BigIntCmp of %s and %v is not 0", name, y)
	}
	for f, operation := range bigIntOperations() {
		if got, rest := operation(x, y); !isZeroBigInt(got) || len(rest) != 0 {
			t.Errorf("%s of %s and %v = %v, %v", f, name, y, got, rest)
		}
		if f == "BigIntNeg" {
			continue // It takes the first number only. Division takes the magnitude of x, which is 0 if it is valid.
		}
		if got, rest := operation(y, x); !isZeroBigInt(got) || len(rest) != 0 {
			t.Errorf("%s of %v and %s = %v, %v", f, y, name, got, rest)
		}
	}
}

func TestBigIntArgumentsStayUnchanged(t *testing.T) {
	list := sampleBigInts()
	for _, given := range list {
		for _, other := range list {
			for name, operation := range bigIntOperations() {
				a, roomA := withRoom(given.Mag)
				b, roomB := withRoom(other.Mag)
				keptA, keptB := slices.Clone(roomA), slices.Clone(roomB)
				x, y := impl.BigInt{Neg: given.Neg, Mag: a}, impl.BigInt{Neg: other.Neg, Mag: b}
				result, rest := operation(x, y)
				operation(x, x)
				impl.BigIntCmp(x, y)
				if !slices.Equal(roomA, keptA) || !slices.Equal(roomB, keptB) {
					t.Fatalf("%s(%v, %v) changes an argument or what is behind it", name, given, other)
				}
				kept := overwrite([][]int{result.Mag, rest})
				if !slices.Equal(roomA, keptA) || !slices.Equal(roomB, keptB) {
					t.Fatalf("a result of %s(%v, %v) shares memory with an argument", name, given, other)
				}
				if kept != 2 {
					t.Fatalf("the results of %s(%v, %v) share memory", name, given, other)
				}
			}
		}
	}
}

func TestBigIntFunctionsOfOneArgumentLeaveItUnchanged(t *testing.T) {
	list := sampleBigInts()
	for _, x := range invalidBigInts() {
		list = append(list, x)
	}
	for _, given := range list {
		mag, room := withRoom(given.Mag)
		kept := slices.Clone(room)
		x := impl.BigInt{Neg: given.Neg, Mag: mag}
		impl.BigIntOk(x)
		impl.BigIntToInt(x)
		impl.FormatBigInt(x)
		impl.BigIntNeg(x)
		impl.BigIntAdd(x, x)
		impl.BigIntFloorDiv(x, mag)
		if !slices.Equal(room, kept) {
			t.Errorf("%v or what is behind it is changed", given)
		}
	}
}

func TestBigIntResultsAreNewEachTime(t *testing.T) {
	want := impl.BigInt{Neg: true, Mag: []int{854775807, 223372036, 9}}
	makers := map[string]func() impl.BigInt{
		"BigIntOf":    func() impl.BigInt { return impl.BigIntOf(-math.MaxInt64) },
		"ParseBigInt": func() impl.BigInt { x, _ := impl.ParseBigInt("-9223372036854775807"); return x },
	}
	for name, maker := range makers {
		overwrite([][]int{maker().Mag})
		if got := maker(); !sameBigInt(got, want) {
			t.Errorf("%s after a change of an earlier result: %v", name, got)
		}
	}
}
