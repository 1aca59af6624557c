package tests

import (
	"math"
	"math/big"
	"math/rand"
	"slices"
	"strings"
	"testing"

	"loop.example/g00822/impl"
)

const (
	ratMost   = 24
	ratDigits = 9 * ratMost
)

// bigOfRat returns the value of a valid fraction.
func bigOfRat(r impl.Rat) *big.Rat {
	return new(big.Rat).SetFrac(signedBig(r.Num), bigOf(r.Den))
}

// ratOfBig returns a fraction in the form of the program, or the zero value if it is too large.
func ratOfBig(value *big.Rat) impl.Rat {
	r := impl.Rat{Num: bigIntOfBig(value.Num()), Den: limbsOfBig(value.Denom())}
	if signedBig(r.Num).Cmp(value.Num()) != 0 || len(r.Num.Mag) > ratMost || len(r.Den) == 0 || len(r.Den) > ratMost {
		return impl.Rat{}
	}
	return r
}

// sameRat compares all fields; nil and the empty list are the same.
func sameRat(r impl.Rat, s impl.Rat) bool {
	return sameBigInt(r.Num, s.Num) && slices.Equal(r.Den, s.Den)
}

func isZeroRat(r impl.Rat) bool {
	return sameRat(r, impl.Rat{})
}

// rat returns a fraction with these limbs, as they are.
func rat(neg bool, num []int, den []int) impl.Rat {
	return impl.Rat{Num: impl.BigInt{Neg: neg, Mag: num}, Den: den}
}

// whole returns n as a fraction, made without the program.
func whole(n int) impl.Rat {
	return ratOfBig(new(big.Rat).SetInt64(int64(n)))
}

// quotientOf returns n / d in lowest terms, made without the program.
func quotientOf(n int, d int) impl.Rat {
	return ratOfBig(big.NewRat(int64(n), int64(d)))
}

// greatestRat is the greatest fraction, and leastOver has it as its denominator.
func greatestRat() impl.Rat {
	return rat(false, repeated(natBase-1, ratMost), []int{1})
}

func leastOver() impl.Rat {
	return rat(false, []int{1}, repeated(natBase-1, ratMost))
}

// oddPower returns the power of the base with this exponent, plus 1, which has no common divisor with the power.
func oddPower(n int) []int {
	a := power(n)
	a[0] = 1
	return a
}

// sampleRats returns fractions of both signs with numerators and denominators of all lengths.
func sampleRats() []impl.Rat {
	r := rand.New(rand.NewSource(41))
	list := []impl.Rat{
		rat(false, nil, []int{1}), rat(false, []int{}, []int{1}), greatestRat(), leastOver(), quotientOf(1, 2), quotientOf(1, 3), quotientOf(2, 3),
		quotientOf(5, 6), quotientOf(3, 2), quotientOf(4, 3), quotientOf(7, 6), whole(1), whole(2), whole(6), whole(natBase - 1), whole(natBase), whole(natBase + 1),
		whole(math.MaxInt64), quotientOf(1, natBase), quotientOf(1, math.MaxInt64), quotientOf(natBase-1, natBase),
		rat(false, power(23), []int{1}), rat(false, []int{1}, power(23)), rat(false, power(23), oddPower(23)), rat(false, oddPower(23), power(23)),
		rat(false, power(11), oddPower(11)), rat(false, oddPower(12), power(12)),
	}
	for _, n := range []int{1, 2, 3, 8, 12, 23, 24} {
		list = append(list, randomRat(r, n, n), randomRat(r, n, 1), randomRat(r, 1, n), randomRat(r, n, 25-n))
	}
	for _, x := range slices.Clone(list) {
		if len(x.Num.Mag) > 0 {
			list = append(list, rat(!x.Num.Neg, x.Num.Mag, x.Den))
		}
	}
	return list
}

// randomRat returns a fraction whose numerator and denominator have at most this many limbs.
func randomRat(r *rand.Rand, n int, d int) impl.Rat {
	value := new(big.Rat).SetFrac(bigOf(randomNat(r, n)), bigOf(randomNat(r, d)))
	if r.Intn(2) == 0 {
		value.Neg(value)
	}
	return ratOfBig(value)
}

// invalidRats returns values that are no fractions.
func invalidRats() map[string]impl.Rat {
	bad := map[string]impl.Rat{
		"the zero value":                         {},
		"0 without a denominator":                rat(false, []int{}, []int{}),
		"1 over nil":                             rat(false, []int{1}, nil),
		"1 over an empty list":                   rat(false, []int{1}, []int{}),
		"-1 over nil":                            rat(true, []int{1}, nil),
		"0 over 2":                               rat(false, nil, []int{2}),
		"0 over an empty numerator and 2":        rat(false, []int{}, []int{2}),
		"0 over a long number":                   rat(false, nil, power(23)),
		"negative 0 over 1":                      rat(true, nil, []int{1}),
		"negative empty 0 over 1":                rat(true, []int{}, []int{1}),
		"2 over 4":                               rat(false, []int{2}, []int{4}),
		"-2 over 4":                              rat(true, []int{2}, []int{4}),
		"4 over 2":                               rat(false, []int{4}, []int{2}),
		"3 over 3":                               rat(false, []int{3}, []int{3}),
		"15 over 35":                             rat(false, []int{15}, []int{35}),
		"long equal numbers":                     rat(false, repeated(7, ratMost), repeated(7, ratMost)),
		"long numbers with a common divisor":     rat(false, power(23), []int{0, 6}),
		"long numbers with the common divisor 3": rat(false, repeated(3, ratMost), []int{natBase - 1, natBase - 1}),
		"a numerator of one limb too many":       rat(false, power(ratMost), []int{1}),
		"a negative one of one limb too many":    rat(true, power(ratMost), []int{1}),
		"a denominator of one limb too many":     rat(false, []int{1}, power(ratMost)),
		"both of one limb too many":              rat(false, power(ratMost), oddPower(ratMost)),
		"0 over one limb too many":               rat(false, nil, power(ratMost)),
		"a numerator of 60 limbs":                rat(false, power(59), []int{1}),
		"a denominator of 60 limbs":              rat(false, []int{1}, power(59)),
	}
	for name, a := range invalidNats() {
		bad["numerator: "+name] = rat(false, a, []int{1})
		bad["negative numerator: "+name] = rat(true, a, []int{7})
		bad["denominator: "+name] = rat(false, []int{1}, a)
		bad["denominator of 0: "+name] = rat(false, nil, a)
		bad["both: "+name] = rat(false, a, a)
	}
	return bad
}

// ratOperations returns the functions of two fractions with a fraction as their result.
func ratOperations() map[string]func(r impl.Rat, s impl.Rat) impl.Rat {
	return map[string]func(r impl.Rat, s impl.Rat) impl.Rat{
		"RatAdd": impl.RatAdd, "RatSub": impl.RatSub, "RatMul": impl.RatMul, "RatDiv": impl.RatDiv, "RatMin": impl.RatMin, "RatMax": impl.RatMax,
	}
}

func TestRatConstant(t *testing.T) {
	if impl.MaxRat != ratMost {
		t.Errorf("MaxRat = %d", impl.MaxRat)
	}
}

func TestRatOk(t *testing.T) {
	for _, x := range sampleRats() {
		if !impl.RatOk(x) {
			t.Errorf("RatOk(%v) = false", x)
		}
	}
	for name, x := range invalidRats() {
		if impl.RatOk(x) {
			t.Errorf("RatOk of %s = true", name)
		}
	}
	for _, x := range []impl.Rat{
		rat(false, nil, []int{1}), rat(false, []int{}, []int{1}), rat(true, []int{1}, []int{1}), rat(true, []int{8}, []int{9}), rat(false, []int{9}, []int{8}),
		greatestRat(), leastOver(), rat(true, power(23), oddPower(23)), rat(true, oddPower(23), power(23)), rat(false, []int{0, 1}, []int{natBase - 1}),
	} {
		if !impl.RatOk(x) {
			t.Errorf("RatOk(%v) = false", x)
		}
	}
}

func TestRatOkIsTheTestForLowestTerms(t *testing.T) {
	for n := range 40 {
		for d := range 40 {
			for _, neg := range []bool{false, true} {
				want := d > 0 && new(big.Int).GCD(nil, nil, big.NewInt(int64(n)), big.NewInt(int64(d))).Int64() == 1 && (n > 0 || !neg)
				if got := impl.RatOk(rat(neg, impl.NatOf(n), impl.NatOf(d))); got != want {
					t.Errorf("RatOk of %d over %d, negative: %v, = %v", n, d, neg, got)
				}
			}
		}
	}
	r := rand.New(rand.NewSource(42))
	for range 500 {
		factor := randomNat(r, 1+r.Intn(8))
		num, den := impl.NatMul(factor, randomNat(r, 1+r.Intn(16))), impl.NatMul(factor, randomNat(r, 1+r.Intn(16)))
		want := new(big.Int).GCD(nil, nil, bigOf(num), bigOf(den)).Cmp(big.NewInt(1)) == 0
		if got := impl.RatOk(rat(false, num, den)); got != want {
			t.Errorf("RatOk of %v over %v = %v", num, den, got)
		}
	}
}

func TestRatOf(t *testing.T) {
	cases := []struct {
		n, d int
		want impl.Rat
	}{
		{0, 1, rat(false, nil, []int{1})}, {0, 5, rat(false, nil, []int{1})}, {0, -5, rat(false, nil, []int{1})}, {0, math.MinInt64, rat(false, nil, []int{1})},
		{6, 4, rat(false, []int{3}, []int{2})}, {6, -4, rat(true, []int{3}, []int{2})}, {-6, 4, rat(true, []int{3}, []int{2})}, {-6, -4, rat(false, []int{3}, []int{2})},
		{1, -1, rat(true, []int{1}, []int{1})}, {-7, -7, rat(false, []int{1}, []int{1})}, {12, 3, rat(false, []int{4}, []int{1})}, {3, 12, rat(false, []int{1}, []int{4})},
		{1000000000, 3, rat(false, []int{0, 1}, []int{3})}, {3, -1000000000, rat(true, []int{3}, []int{0, 1})},
		{math.MaxInt64, 1, rat(false, []int{854775807, 223372036, 9}, []int{1})}, {1, math.MaxInt64, rat(false, []int{1}, []int{854775807, 223372036, 9})},
		{math.MinInt64, 1, rat(true, []int{854775808, 223372036, 9}, []int{1})}, {1, math.MinInt64, rat(true, []int{1}, []int{854775808, 223372036, 9})},
		{math.MinInt64, -1, rat(false, []int{854775808, 223372036, 9}, []int{1})}, {-1, math.MinInt64, rat(false, []int{1}, []int{854775808, 223372036, 9})},
		{math.MinInt64, math.MinInt64, rat(false, []int{1}, []int{1})}, {math.MaxInt64, math.MaxInt64, rat(false, []int{1}, []int{1})},
		{math.MinInt64, math.MaxInt64, rat(true, []int{854775808, 223372036, 9}, []int{854775807, 223372036, 9})},
		{math.MaxInt64, math.MinInt64, rat(true, []int{854775807, 223372036, 9}, []int{854775808, 223372036, 9})},
		{math.MinInt64, 2, rat(true, []int{427387904, 611686018, 4}, []int{1})},
		{1, 0, impl.Rat{}}, {0, 0, impl.Rat{}}, {-1, 0, impl.Rat{}}, {math.MinInt64, 0, impl.Rat{}}, {math.MaxInt64, 0, impl.Rat{}},
	}
	for _, c := range cases {
		if got := impl.RatOf(c.n, c.d); !sameRat(got, c.want) {
			t.Errorf("RatOf(%d, %d) = %v, want %v", c.n, c.d, got, c.want)
		}
	}
}

func TestRatOfAndRatMakeOfAllPairsOfInts(t *testing.T) {
	ints := slices.Clone(sampleInts)
	for n := -30; n <= 30; n++ {
		ints = append(ints, n)
	}
	for _, n := range ints {
		for _, d := range ints {
			want := impl.Rat{}
			if d != 0 {
				want = ratOfBig(big.NewRat(int64(n), int64(d)))
			}
			if got := impl.RatOf(n, d); !sameRat(got, want) {
				t.Errorf("RatOf(%d, %d) = %v, want %v", n, d, got, want)
			}
			if got := impl.RatMake(impl.BigIntOf(n), impl.BigIntOf(d)); !sameRat(got, want) {
				t.Errorf("RatMake(%d, %d) = %v, want %v", n, d, got, want)
			}
		}
	}
}

func TestRatFromInt(t *testing.T) {
	cases := []struct {
		n    int
		want impl.Rat
	}{
		{0, rat(false, nil, []int{1})}, {1, rat(false, []int{1}, []int{1})}, {-1, rat(true, []int{1}, []int{1})}, {-1000000000, rat(true, []int{0, 1}, []int{1})},
		{math.MaxInt64, rat(false, []int{854775807, 223372036, 9}, []int{1})}, {math.MinInt64, rat(true, []int{854775808, 223372036, 9}, []int{1})},
	}
	for _, c := range cases {
		if got := impl.RatFromInt(c.n); !sameRat(got, c.want) {
			t.Errorf("RatFromInt(%d) = %v, want %v", c.n, got, c.want)
		}
	}
	for _, n := range sampleInts {
		if got := impl.RatFromInt(n); !sameRat(got, whole(n)) || !impl.RatOk(got) || !sameRat(got, impl.RatOf(n, 1)) {
			t.Errorf("RatFromInt(%d) = %v", n, got)
		}
	}
}

func TestRatMakeOfLongNumbers(t *testing.T) {
	positive := func(mag []int) impl.BigInt { return impl.BigInt{Mag: mag} }
	negative := func(mag []int) impl.BigInt { return impl.BigInt{Neg: true, Mag: mag} }
	cases := map[string]struct{ got, want impl.Rat }{
		"24 limbs over 1":               {impl.RatMake(positive(repeated(natBase-1, 24)), positive([]int{1})), greatestRat()},
		"25 limbs over 1":               {impl.RatMake(positive(power(24)), positive([]int{1})), impl.Rat{}},
		"1 over 24 limbs":               {impl.RatMake(negative([]int{1}), negative(repeated(natBase-1, 24))), leastOver()},
		"1 over 25 limbs":               {impl.RatMake(positive([]int{1}), positive(power(24))), impl.Rat{}},
		"1 over 25 limbs, negative":     {impl.RatMake(positive([]int{1}), negative(power(24))), impl.Rat{}},
		"0 over 60 limbs":               {impl.RatMake(impl.BigInt{}, positive(repeated(natBase-1, 60))), whole(0)},
		"0 over -60 limbs":              {impl.RatMake(positive([]int{}), negative(power(59))), whole(0)},
		"60 limbs over themselves":      {impl.RatMake(positive(repeated(7, 60)), positive(repeated(7, 60))), whole(1)},
		"60 limbs over their opposite":  {impl.RatMake(positive(repeated(7, 60)), negative(repeated(7, 60))), whole(-1)},
		"power 59 over power 36":        {impl.RatMake(negative(power(59)), positive(power(36))), rat(true, power(23), []int{1})},
		"power 59 over power 35":        {impl.RatMake(positive(power(59)), positive(power(35))), impl.Rat{}},
		"power 36 over power 59":        {impl.RatMake(positive(power(36)), negative(power(59))), rat(true, []int{1}, power(23))},
		"power 35 over power 59":        {impl.RatMake(positive(power(35)), positive(power(59))), impl.Rat{}},
		"25 limbs over 2":               {impl.RatMake(positive(append(make([]int, 24), 2)), positive([]int{4})), rat(false, append(make([]int, 23), natBase/2), []int{1})},
		"25 limbs over 3":               {impl.RatMake(positive(append(make([]int, 24), 2)), positive([]int{3})), impl.Rat{}},
		"60 limbs over 0 as nil":        {impl.RatMake(positive(power(59)), impl.BigInt{}), impl.Rat{}},
		"60 limbs over 0 as empty list": {impl.RatMake(positive(power(59)), positive([]int{})), impl.Rat{}},
		"0 over 0":                      {impl.RatMake(impl.BigInt{}, impl.BigInt{}), impl.Rat{}},
	}
	for name, c := range cases {
		if !sameRat(c.got, c.want) {
			t.Errorf("%s: %v, want %v", name, c.got, c.want)
		}
	}
	for _, x := range sampleBigInts() {
		for _, y := range sampleBigInts() {
			checkRatMake(t, x, y)
		}
	}
}

func checkRatMake(t *testing.T, x impl.BigInt, y impl.BigInt) {
	t.Helper()
	want := impl.Rat{}
	if len(y.Mag) > 0 {
		want = ratOfBig(new(big.Rat).SetFrac(signedBig(x), signedBig(y)))
	}
	if got := impl.RatMake(x, y); !sameRat(got, want) {
		t.Errorf("RatMake(%v, %v) = %v, want %v", x, y, got, want)
	}
}

// TestRatMakeTakesOutCommonDivisors makes fractions that become small enough only by this.
func TestRatMakeTakesOutCommonDivisors(t *testing.T) {
	r := rand.New(rand.NewSource(43))
	for range 800 {
		factor := randomNat(r, 1+r.Intn(36))
		x, y := impl.NatMul(factor, randomNat(r, r.Intn(26))), impl.NatMul(factor, randomNat(r, 1+r.Intn(25)))
		checkRatMake(t, impl.BigInt{Neg: len(x) > 0 && r.Intn(2) == 0, Mag: x}, impl.BigInt{Neg: len(y) > 0 && r.Intn(2) == 0, Mag: y})
	}
}

func TestRatMakeOfInvalidNumbers(t *testing.T) {
	for name, x := range invalidBigInts() {
		for _, y := range append(sampleBigInts(), x) {
			if got := impl.RatMake(x, y); !isZeroRat(got) {
				t.Errorf("RatMake of %s and %v = %v", name, y, got)
			}
			if got := impl.RatMake(y, x); !isZeroRat(got) {
				t.Errorf("RatMake of %v and %s = %v", y, name, got)
			}
		}
	}
}

// checkRatPair compares all operations of two fractions with those of another implementation.
func checkRatPair(t *testing.T, r impl.Rat, s impl.Rat) {
	t.Helper()
	x, y := bigOfRat(r), bigOfRat(s)
	same := func(name string, got impl.Rat, want *big.Rat) {
		t.Helper()
		if !sameRat(got, ratOfBig(want)) {
			t.Errorf("%s(%v, %v) = %v, want %v", name, r, s, got, ratOfBig(want))
		}
	}
	same("RatNeg", impl.RatNeg(r), new(big.Rat).Neg(x))
	same("RatAdd", impl.RatAdd(r, s), new(big.Rat).Add(x, y))
	same("RatSub", impl.RatSub(r, s), new(big.Rat).Sub(x, y))
	same("RatMul", impl.RatMul(r, s), new(big.Rat).Mul(x, y))
	if y.Sign() != 0 {
		same("RatDiv", impl.RatDiv(r, s), new(big.Rat).Quo(x, y))
	} else if got := impl.RatDiv(r, s); !isZeroRat(got) {
		t.Errorf("RatDiv(%v, 0) = %v", r, got)
	}
	less, greater := x, y
	if x.Cmp(y) > 0 {
		less, greater = y, x
	}
	same("RatMin", impl.RatMin(r, s), less)
	same("RatMax", impl.RatMax(r, s), greater)
	if got := impl.RatCmp(r, s); got != x.Cmp(y) {
		t.Errorf("RatCmp(%v, %v) = %d, want %d", r, s, got, x.Cmp(y))
	}
	if got := impl.RatSign(r); got != x.Sign() {
		t.Errorf("RatSign(%v) = %d", r, got)
	}
	if got := impl.RatEqual(r, s); got != (x.Cmp(y) == 0) {
		t.Errorf("RatEqual(%v, %v) = %v", r, s, got)
	}
}

func TestRatOperationsOnAllPairs(t *testing.T) {
	list := sampleRats()
	for _, r := range list {
		for _, s := range list {
			checkRatPair(t, r, s)
		}
	}
}

func TestRatOperationsOnSmallFractions(t *testing.T) {
	var list []impl.Rat
	for n := -7; n <= 7; n++ {
		for d := 1; d <= 8; d++ {
			list = append(list, quotientOf(n, d))
		}
	}
	for _, r := range list {
		for _, s := range list {
			checkRatPair(t, r, s)
		}
	}
}

func TestRatOperationsOnRandomFractions(t *testing.T) {
	r := rand.New(rand.NewSource(44))
	length := func(most int) int { return 1 + r.Intn(most) }
	for range 2500 {
		checkRatPair(t, randomRat(r, length(ratMost), length(ratMost)), randomRat(r, length(ratMost), length(ratMost)))
		checkRatPair(t, randomRat(r, length(12), length(12)), randomRat(r, length(12), length(12)))
		checkRatPair(t, randomRat(r, length(3), length(3)), randomRat(r, length(3), length(3)))
	}
}

// TestRatOperationsWithSharedFactors combines fractions whose numerators and denominators are products of few factors.
func TestRatOperationsWithSharedFactors(t *testing.T) {
	r := rand.New(rand.NewSource(45))
	factors := []*big.Int{big.NewInt(2), big.NewInt(3), big.NewInt(natBase - 1), bigOf(randomNat(r, 3)), bigOf(randomNat(r, 7)), bigOf(oddPower(6)), bigOf(power(5))}
	product := func() *big.Int {
		value := big.NewInt(1)
		for range r.Intn(4) {
			value.Mul(value, factors[r.Intn(len(factors))])
		}
		return value
	}
	one := func() impl.Rat {
		value := new(big.Rat).SetFrac(product(), product())
		if r.Intn(2) == 0 {
			value.Neg(value)
		}
		return ratOfBig(value)
	}
	for range 2500 {
		x, y := one(), one()
		if len(x.Den) > 0 && len(y.Den) > 0 {
			checkRatPair(t, x, y)
			checkRatPair(t, x, impl.RatNeg(x))
		}
	}
}

func TestRatArithmetic(t *testing.T) {
	cases := []struct{ r, s, sum, difference, product, quotient string }{
		{"1/2", "1/3", "5/6", "1/6", "1/6", "3/2"}, {"-3/2", "3/4", "-3/4", "-9/4", "-9/8", "-2"}, {"1/6", "1/3", "1/2", "-1/6", "1/18", "1/2"},
		{"1/2", "-1/2", "0", "1", "-1/4", "-1"}, {"0", "5/7", "5/7", "-5/7", "0", "0"}, {"0", "-1", "-1", "1", "0", "0"}, {"5", "0", "5", "5", "0", ""},
		{"0", "0", "0", "0", "0", ""}, {"-5", "-5", "-10", "0", "25", "1"}, {"2/3", "3/2", "13/6", "-5/6", "1", "4/9"}, {"7/10", "3/10", "1", "2/5", "21/100", "7/3"},
		{"-1/3", "-2/3", "-1", "1/3", "2/9", "1/2"}, {"1/1000000000", "1/1000000001", "2000000001/1000000001000000000", "1/1000000001000000000", "1/1000000001000000000", "1000000001/1000000000"},
	}
	for _, c := range cases {
		r, okR := impl.ParseRat(c.r)
		s, okS := impl.ParseRat(c.s)
		got := []string{impl.FormatRat(impl.RatAdd(r, s)), impl.FormatRat(impl.RatSub(r, s)), impl.FormatRat(impl.RatMul(r, s)), impl.FormatRat(impl.RatDiv(r, s))}
		if !okR || !okS || !slices.Equal(got, []string{c.sum, c.difference, c.product, c.quotient}) {
			t.Errorf("%s and %s: %q", c.r, c.s, got)
		}
	}
}

func TestRatZeroHasTheDenominatorOne(t *testing.T) {
	zero := rat(false, nil, []int{1})
	for _, x := range sampleRats() {
		zeros := map[string]impl.Rat{
			"x - x": impl.RatSub(x, x), "x + -x": impl.RatAdd(x, impl.RatNeg(x)), "-x + x": impl.RatAdd(impl.RatNeg(x), x),
			"x * 0": impl.RatMul(x, zero), "0 * x": impl.RatMul(rat(false, []int{}, []int{1}), x), "-0": impl.RatNeg(zero),
		}
		if len(x.Num.Mag) > 0 {
			zeros["0 / x"] = impl.RatDiv(zero, x)
		}
		for name, got := range zeros {
			if !sameRat(got, zero) || !impl.RatOk(got) || impl.RatSign(got) != 0 || impl.FormatRat(got) != "0" {
				t.Errorf("%s for %v: %v", name, x, got)
			}
		}
		if !sameRat(impl.RatAdd(x, zero), x) || !sameRat(impl.RatAdd(zero, x), x) || !sameRat(impl.RatSub(x, zero), x) || !sameRat(impl.RatSub(zero, x), impl.RatNeg(x)) {
			t.Errorf("sums of %v and 0", x)
		}
		if got := impl.RatDiv(x, zero); !isZeroRat(got) {
			t.Errorf("RatDiv(%v, 0) = %v", x, got)
		}
	}
}

func TestRatWithOneAndMinusOne(t *testing.T) {
	for _, x := range sampleRats() {
		opposite := impl.RatNeg(x)
		if !sameRat(impl.RatMul(x, whole(1)), x) || !sameRat(impl.RatDiv(x, whole(1)), x) || !sameRat(impl.RatMul(whole(-1), x), opposite) || !sameRat(impl.RatDiv(x, whole(-1)), opposite) {
			t.Errorf("products of %v with 1 and -1", x)
		}
		if len(x.Num.Mag) > 0 {
			if !sameRat(impl.RatDiv(x, x), whole(1)) || !sameRat(impl.RatDiv(x, opposite), whole(-1)) || !sameRat(impl.RatDiv(whole(1), x), rat(x.Num.Neg, x.Den, x.Num.Mag)) {
				t.Errorf("quotients of %v", x)
			}
		}
	}
}

// TestRatLaws checks that sums and products are exact where nothing is too large.
func TestRatLaws(t *testing.T) {
	r := rand.New(rand.NewSource(46))
	for range 600 {
		x, y, z := randomRat(r, 1+r.Intn(6), 1+r.Intn(5)), randomRat(r, 1+r.Intn(6), 1+r.Intn(5)), randomRat(r, 1+r.Intn(6), 1+r.Intn(5))
		sum, product := impl.RatAdd(x, y), impl.RatMul(x, y)
		laws := map[string][2]impl.Rat{
			"sum and difference":        {impl.RatSub(sum, y), x},
			"product and quotient":      {impl.RatDiv(product, y), x},
			"order of a sum":            {sum, impl.RatAdd(y, x)},
			"order of a product":        {product, impl.RatMul(y, x)},
			"grouping of a sum":         {impl.RatAdd(sum, z), impl.RatAdd(x, impl.RatAdd(y, z))},
			"grouping of a product":     {impl.RatMul(product, z), impl.RatMul(x, impl.RatMul(y, z))},
			"product of a sum":          {impl.RatMul(sum, z), impl.RatAdd(impl.RatMul(x, z), impl.RatMul(y, z))},
			"opposite of the opposite":  {impl.RatNeg(impl.RatNeg(x)), x},
			"least and greatest number": {impl.RatAdd(impl.RatMin(x, y), impl.RatMax(x, y)), sum},
		}
		for name, law := range laws {
			if !impl.RatOk(law[0]) || !sameRat(law[0], law[1]) {
				t.Errorf("%s of %v, %v and %v: %v, %v", name, x, y, z, law[0], law[1])
			}
		}
		if impl.RatCmp(x, y) != impl.RatSign(impl.RatSub(x, y)) || impl.RatCmp(x, y) != -impl.RatCmp(y, x) {
			t.Errorf("RatCmp(%v, %v)", x, y)
		}
	}
}

func TestRatResultsAtTheLimit(t *testing.T) {
	one, two := whole(1), whole(2)
	almost := append([]int{natBase - 2}, repeated(natBase-1, 23)...)
	greatest, least := greatestRat(), leastOver()
	cases := map[string]struct{ got, want impl.Rat }{
		"greatest - 1":                      {impl.RatSub(greatest, one), rat(false, almost, []int{1})},
		"almost + 1":                        {impl.RatAdd(rat(false, almost, []int{1}), one), greatest},
		"1 + almost":                        {impl.RatAdd(one, rat(false, almost, []int{1})), greatest},
		"-almost - 1":                       {impl.RatSub(rat(true, almost, []int{1}), one), impl.RatNeg(greatest)},
		"greatest + 1":                      {impl.RatAdd(greatest, one), impl.Rat{}},
		"1 + greatest":                      {impl.RatAdd(one, greatest), impl.Rat{}},
		"-greatest - 1":                     {impl.RatSub(impl.RatNeg(greatest), one), impl.Rat{}},
		"greatest - -1":                     {impl.RatSub(greatest, whole(-1)), impl.Rat{}},
		"greatest + 1/2":                    {impl.RatAdd(greatest, quotientOf(1, 2)), impl.Rat{}},
		"greatest - 1/2":                    {impl.RatSub(greatest, quotientOf(1, 2)), impl.Rat{}},
		"greatest * 2":                      {impl.RatMul(greatest, two), impl.Rat{}},
		"-2 * greatest":                     {impl.RatMul(whole(-2), greatest), impl.Rat{}},
		"greatest / 2":                      {impl.RatDiv(greatest, two), rat(false, repeated(natBase-1, 24), []int{2})},
		"greatest / 1/2":                    {impl.RatDiv(greatest, quotientOf(1, 2)), impl.Rat{}},
		"greatest * 1/3":                    {impl.RatMul(greatest, quotientOf(1, 3)), rat(false, repeated(natBase/3, 24), []int{1})},
		"greatest * least":                  {impl.RatMul(greatest, least), one},
		"greatest / least":                  {impl.RatDiv(greatest, least), impl.Rat{}},
		"least / greatest":                  {impl.RatDiv(least, greatest), impl.Rat{}},
		"least / 2":                         {impl.RatDiv(least, two), impl.Rat{}},
		"least * 2":                         {impl.RatMul(least, two), rat(false, []int{2}, repeated(natBase-1, 24))},
		"least + 1":                         {impl.RatAdd(least, one), impl.Rat{}},
		"1 - least":                         {impl.RatSub(one, least), rat(false, almost, repeated(natBase-1, 24))},
		"least + least":                     {impl.RatAdd(least, least), rat(false, []int{2}, repeated(natBase-1, 24))},
		"greatest + -greatest":              {impl.RatAdd(greatest, impl.RatNeg(greatest)), whole(0)},
		"least - least":                     {impl.RatSub(least, least), whole(0)},
		"product of 24 limbs":               {impl.RatMul(rat(false, power(11), []int{1}), rat(true, power(12), []int{1})), rat(true, power(23), []int{1})},
		"product of 25 limbs":               {impl.RatMul(rat(false, power(12), []int{1}), rat(true, power(12), []int{1})), impl.Rat{}},
		"denominator of 24 limbs":           {impl.RatMul(rat(false, []int{1}, power(11)), rat(false, []int{1}, power(12))), rat(false, []int{1}, power(23))},
		"denominator of 25 limbs":           {impl.RatMul(rat(false, []int{1}, power(12)), rat(false, []int{1}, power(12))), impl.Rat{}},
		"sum with a denominator of 24":      {impl.RatAdd(rat(false, []int{1}, power(11)), rat(false, []int{1}, oddPower(12))), ratOfBig(new(big.Rat).SetFrac(new(big.Int).Add(bigOf(power(11)), bigOf(oddPower(12))), new(big.Int).Mul(bigOf(power(11)), bigOf(oddPower(12)))))},
		"sum with a denominator of 25":      {impl.RatAdd(rat(false, []int{1}, power(12)), rat(false, []int{1}, oddPower(12))), impl.Rat{}},
		"sum of two denominators of 24":     {impl.RatAdd(rat(false, []int{1}, power(23)), rat(false, []int{1}, oddPower(23))), impl.Rat{}},
		"product of quotients":              {impl.RatMul(rat(false, power(23), oddPower(23)), rat(true, oddPower(23), power(23))), whole(-1)},
		"quotient of equal quotients":       {impl.RatDiv(rat(false, power(23), oddPower(23)), rat(false, power(23), oddPower(23))), one},
		"product whose top cancels":         {impl.RatMul(rat(false, power(23), []int{7}), rat(false, []int{7}, power(20))), rat(false, power(3), []int{1})},
		"sum of parts of 1":                 {impl.RatAdd(rat(false, power(22), oddPower(23)), rat(false, impl.NatSub(oddPower(23), power(22)), oddPower(23))), one},
		"difference with a shared part":     {impl.RatSub(rat(false, []int{7}, power(23)), rat(false, []int{3}, power(23))), rat(false, []int{1}, append(make([]int, 22), natBase/4))},
		"sum of 25 limbs that is halved":    {impl.RatAdd(rat(false, repeated(natBase-1, 24), []int{2}), rat(false, repeated(natBase-1, 24), []int{2})), greatest},
		"sum of 25 limbs over 2":            {impl.RatAdd(rat(false, repeated(natBase-1, 24), []int{2}), one), impl.Rat{}},
		"sum of halves beyond the greatest": {impl.RatAdd(rat(false, repeated(natBase-1, 24), []int{2}), greatest), impl.Rat{}},
	}
	for name, c := range cases {
		if !sameRat(c.got, c.want) {
			t.Errorf("%s: %v, want %v", name, c.got, c.want)
		}
	}
}

// TestRatResultsOfEachLength multiplies and divides powers, up to one limb more than a fraction may have.
func TestRatResultsOfEachLength(t *testing.T) {
	for n := range ratMost {
		for k := range ratMost {
			checkRatPair(t, rat(false, power(n), []int{1}), rat(true, power(k), []int{1}))
			checkRatPair(t, rat(true, power(n), []int{1}), rat(true, []int{1}, power(k)))
			checkRatPair(t, rat(false, []int{1}, power(n)), rat(false, []int{1}, power(k)))
			checkRatPair(t, rat(false, repeated(natBase-1, n+1), []int{1}), rat(false, []int{1}, repeated(natBase-1, k+1)))
		}
	}
}

func TestTooLargeRatsSpoilWhatIsComputedFromThem(t *testing.T) {
	tooLarge := map[string]impl.Rat{
		"sum": impl.RatAdd(greatestRat(), whole(1)), "difference": impl.RatSub(impl.RatNeg(greatestRat()), whole(1)), "product": impl.RatMul(greatestRat(), whole(2)),
		"quotient": impl.RatDiv(leastOver(), whole(2)), "quotient by 0": impl.RatDiv(whole(1), whole(0)), "RatOf": impl.RatOf(1, 0),
		"RatMake": impl.RatMake(impl.BigInt{Mag: power(24)}, impl.BigIntOf(1)), "opposite of nothing": impl.RatNeg(impl.RatOf(1, 0)),
	}
	for name, x := range tooLarge {
		if !isZeroRat(x) || impl.RatOk(x) {
			t.Errorf("%s = %v", name, x)
		}
		for _, y := range sampleRats() {
			checkNoRat(t, name, x, y)
		}
		if got := impl.RatSub(impl.RatMul(x, whole(0)), impl.RatNeg(x)); !isZeroRat(got) {
			t.Errorf("further computation with %s = %v", name, got)
		}
	}
}

func TestRatCmpIsTheOrderOfNumbers(t *testing.T) {
	rising := []impl.Rat{
		impl.RatNeg(greatestRat()), whole(math.MinInt64), whole(-math.MaxInt64), whole(-2), quotientOf(-3, 2), whole(-1), quotientOf(-2, 3), quotientOf(-1, 2), quotientOf(-1, 3),
		quotientOf(-1, math.MaxInt64), impl.RatNeg(leastOver()), whole(0), leastOver(), quotientOf(1, math.MaxInt64), quotientOf(1, 3), quotientOf(1, 2), quotientOf(2, 3),
		rat(false, power(23), oddPower(23)), whole(1), rat(false, oddPower(23), power(23)), quotientOf(3, 2), whole(2), whole(math.MaxInt64 - 1), whole(math.MaxInt64), greatestRat(),
	}
	for i, r := range rising {
		for k, s := range rising {
			want := min(1, max(-1, i-k))
			if got := impl.RatCmp(r, s); got != want {
				t.Errorf("RatCmp(%v, %v) = %d, want %d", r, s, got, want)
			}
			if !sameRat(impl.RatMin(r, s), rising[min(i, k)]) || !sameRat(impl.RatMax(r, s), rising[max(i, k)]) {
				t.Errorf("RatMin and RatMax of %v and %v: %v, %v", r, s, impl.RatMin(r, s), impl.RatMax(r, s))
			}
		}
		if got := impl.RatSign(r); got != min(1, max(-1, i-11)) {
			t.Errorf("RatSign(%v) = %d", r, got)
		}
	}
}

// TestRatCmpOfNeighbours compares fractions that differ as little as their denominators allow.
func TestRatCmpOfNeighbours(t *testing.T) {
	r := rand.New(rand.NewSource(47))
	for range 500 {
		mag := randomNat(r, 24)
		if mag[0] >= natBase-1 {
			continue
		}
		next := slices.Clone(mag)
		next[0]++
		below, above := rat(false, mag, next), rat(false, next, mag)
		if impl.RatCmp(below, above) != -1 || impl.RatCmp(below, whole(1)) != -1 || impl.RatCmp(above, whole(1)) != 1 || impl.RatCmp(above, below) != 1 {
			t.Errorf("RatCmp of %v, 1 and %v", below, above)
		}
		if impl.RatCmp(rat(true, mag, next), rat(true, next, mag)) != 1 || impl.RatCmp(rat(true, mag, next), below) != -1 || impl.RatCmp(below, below) != 0 {
			t.Errorf("RatCmp of %v with signs", below)
		}
	}
}

func TestRatsThatDifferInTheSignAlone(t *testing.T) {
	for _, x := range sampleRats() {
		if len(x.Num.Mag) == 0 {
			continue
		}
		positive, negative := rat(false, x.Num.Mag, x.Den), rat(true, x.Num.Mag, x.Den)
		if impl.RatCmp(positive, negative) != 1 || impl.RatCmp(negative, positive) != -1 || impl.RatSign(positive) != 1 || impl.RatSign(negative) != -1 {
			t.Errorf("RatCmp or RatSign of %v and its opposite", positive)
		}
		if impl.RatEqual(positive, negative) || impl.RatEqual(negative, positive) || !impl.RatEqual(negative, negative) {
			t.Errorf("RatEqual of %v and its opposite", positive)
		}
		for _, pair := range [][2]impl.Rat{{positive, negative}, {negative, positive}} {
			if !sameRat(impl.RatMin(pair[0], pair[1]), negative) || !sameRat(impl.RatMax(pair[0], pair[1]), positive) {
				t.Errorf("RatMin or RatMax of %v and %v", pair[0], pair[1])
			}
		}
		if !sameRat(impl.RatMin(negative, negative), negative) || !sameRat(impl.RatMax(negative, negative), negative) || impl.RatCmp(negative, negative) != 0 {
			t.Errorf("RatMin, RatMax or RatCmp of equal fractions %v", negative)
		}
	}
}

// TestRatEqualComparesFields checks that RatEqual compares all values alike, valid or not.
func TestRatEqualComparesFields(t *testing.T) {
	var list []impl.Rat
	for _, x := range invalidRats() {
		list = append(list, x)
	}
	list = append(list, sampleRats()...)
	list = append(list, rat(false, []int{1}, []int{2}), rat(false, []int{1, 0}, []int{2}), rat(false, []int{1}, []int{2, 0}), rat(true, []int{}, nil))
	for _, r := range list {
		for _, s := range list {
			if got := impl.RatEqual(r, s); got != sameRat(r, s) {
				t.Errorf("RatEqual(%v, %v) = %v", r, s, got)
			}
		}
	}
	same := [][2]impl.Rat{
		{{}, {}}, {{}, rat(false, []int{}, []int{})}, {rat(false, nil, []int{1}), rat(false, []int{}, []int{1})}, {rat(true, nil, nil), rat(true, []int{}, []int{})},
		{rat(false, []int{2}, []int{4}), rat(false, []int{2}, []int{4})}, {rat(true, []int{-5, 0}, []int{0}), rat(true, []int{-5, 0}, []int{0})},
	}
	for _, pair := range same {
		if !impl.RatEqual(pair[0], pair[1]) || !impl.RatEqual(pair[1], pair[0]) {
			t.Errorf("RatEqual(%v, %v) = false", pair[0], pair[1])
		}
	}
	different := [][2]impl.Rat{
		{{}, whole(0)}, {rat(false, []int{2}, []int{4}), quotientOf(1, 2)}, {rat(true, nil, []int{1}), whole(0)}, {rat(true, nil, nil), {}}, {quotientOf(1, 2), quotientOf(1, 3)},
		{quotientOf(1, 2), quotientOf(3, 2)}, {whole(1), quotientOf(1, 2)}, {rat(false, []int{1, 0}, []int{1}), whole(1)}, {rat(false, []int{1}, []int{1, 0}), whole(1)},
	}
	for _, pair := range different {
		if impl.RatEqual(pair[0], pair[1]) || impl.RatEqual(pair[1], pair[0]) {
			t.Errorf("RatEqual(%v, %v) = true", pair[0], pair[1])
		}
	}
}

func TestFormatRat(t *testing.T) {
	nines := strings.Repeat("9", ratDigits)
	cases := []struct {
		r    impl.Rat
		want string
	}{
		{rat(false, nil, []int{1}), "0"}, {rat(false, []int{}, []int{1}), "0"}, {whole(7), "7"}, {whole(-7), "-7"}, {quotientOf(1, 2), "1/2"}, {quotientOf(-3, 2), "-3/2"},
		{whole(1), "1"}, {whole(-1000000000), "-1000000000"}, {quotientOf(-1, 1000000001), "-1/1000000001"}, {quotientOf(1000000007, 1000000000), "1000000007/1000000000"},
		{whole(math.MinInt64), "-9223372036854775808"}, {quotientOf(1, math.MaxInt64), "1/9223372036854775807"},
		{greatestRat(), nines}, {leastOver(), "1/" + nines}, {rat(true, repeated(natBase-1, 24), []int{2}), "-" + nines + "/2"},
		{rat(true, power(23), oddPower(23)), "-1" + strings.Repeat("0", 207) + "/1" + strings.Repeat("0", 206) + "1"},
		{impl.Rat{}, ""}, {rat(false, []int{2}, []int{4}), ""}, {rat(false, power(24), []int{1}), ""}, {rat(true, nil, []int{1}), ""},
	}
	for _, c := range cases {
		if got := impl.FormatRat(c.r); got != c.want {
			t.Errorf("FormatRat(%v) = %q, want %q", c.r, got, c.want)
		}
	}
}

func TestRatsAreRecoveredFromTheirText(t *testing.T) {
	r := rand.New(rand.NewSource(48))
	list := sampleRats()
	for n := 1; n <= ratMost; n++ {
		list = append(list, randomRat(r, n, 1), randomRat(r, 1, n), randomRat(r, n, n), randomRat(r, n, ratMost), randomRat(r, ratMost, n))
	}
	for _, x := range list {
		text := impl.FormatRat(x)
		got, ok := impl.ParseRat(text)
		if text != bigOfRat(x).RatString() || !sameRat(got, x) || !ok {
			t.Errorf("ParseRat(FormatRat(%v)) = %v, %v by %q", x, got, ok, text)
		}
	}
}

func TestParseRatOfEachLength(t *testing.T) {
	for n := 1; n <= ratDigits+12; n++ {
		nines, power := strings.Repeat("9", n), "1"+strings.Repeat("0", n-1)
		for _, s := range []string{nines, "-" + nines, power, "-" + power, nines + "/2", "-1/" + nines, "1/" + power, nines + "/1" + strings.Repeat("0", n), "-1" + strings.Repeat("0", n) + "/" + nines} {
			value, _ := new(big.Rat).SetString(s)
			got, ok := impl.ParseRat(s)
			top, bottom, _ := strings.Cut(strings.TrimPrefix(s, "-"), "/")
			want := len(top) <= ratDigits && len(bottom) <= ratDigits && s == value.RatString()
			if ok != want || ok && !sameRat(got, ratOfBig(value)) || !ok && !isZeroRat(got) {
				t.Errorf("ParseRat(%q) = %v, %v", s, got, ok)
			}
		}
	}
}

func TestParseRatOfOtherTexts(t *testing.T) {
	bad := []string{
		"", "/", "//", "1/", "/1", "-", "-/", "-/1", "/-1", "1/0", "0/0", "-1/0", "2/4", "-2/4", "4/2", "3/3", "15/35", "0/2", "0/1", "0/5", "1/1", "-1/1", "7/1", "-7/1", "1/-2", "-1/-2", "1/-1",
		"-0", "-0/1", "-0/2", "--1/2", "+1/2", "1/+2", "+1", "1/2/3", "1/2/", "/1/2", "1//2", "01/2", "1/02", "-01/2", "00", "1/00", "00/1", "007", "0000000001/2", "1/0000000002",
		" 1/2", "1/2 ", "1 /2", "1/ 2", "1 / 2", " ", "1 2", "1/2\n", "\n1/2", "1.5", "1/2.0", "1e3", "1/2e3", "0x1/2", "a", "a/2", "1/a", "1/2a", "1:2", "1\\2", "1\u20442", "\u00bd", "\u0661/2", "1/\u0662",
		"\xff", "1/2\xff", "1\xff/2", "1/\xff2", "1/2\x00", "\x001/2", "1000000000/2000000000", "1000000000/1000000000", "1000000000/15",
		strings.Repeat("9", 217), "1" + strings.Repeat("0", 216), "-" + strings.Repeat("9", 217), "1/" + strings.Repeat("9", 217), "1/1" + strings.Repeat("0", 216), strings.Repeat("9", 217) + "/2",
		strings.Repeat("9", 540), "1/" + strings.Repeat("9", 540), strings.Repeat("9", 541), "1/" + strings.Repeat("9", 541), strings.Repeat("9", 217) + "/" + strings.Repeat("9", 217),
		strings.Repeat("9", 216) + "/" + strings.Repeat("9", 216), "0" + strings.Repeat("9", 215), "1/0" + strings.Repeat("9", 215), strings.Repeat("9", 100000), "1/" + strings.Repeat("9", 100000),
		strings.Repeat("/", 1000), strings.Repeat("1/", 1000) + "2",
	}
	for _, s := range bad {
		if got, ok := impl.ParseRat(s); !isZeroRat(got) || ok {
			t.Errorf("ParseRat(%.30q) = %v, %v", s, got, ok)
		}
	}
	good := map[string]impl.Rat{
		"0": whole(0), "1": whole(1), "-1": whole(-1), "10": whole(10), "1/2": quotientOf(1, 2), "-1/2": quotientOf(-1, 2), "10/3": quotientOf(10, 3), "-7/1000000000": quotientOf(-7, 1000000000),
		strings.Repeat("9", 216): greatestRat(), "1/" + strings.Repeat("9", 216): leastOver(), "-9223372036854775808": whole(math.MinInt64),
	}
	for s, want := range good {
		if got, ok := impl.ParseRat(s); !sameRat(got, want) || !ok {
			t.Errorf("ParseRat(%.30q) = %v, %v", s, got, ok)
		}
	}
}

// isTextOfRat tells the texts of short fractions by another implementation, which writes each fraction in one way, too.
func isTextOfRat(s string) bool {
	for i := range len(s) {
		if !strings.Contains("-0123456789/", s[i:i+1]) {
			return false
		}
	}
	if strings.HasSuffix(s, "/0") {
		return false
	}
	value, ok := new(big.Rat).SetString(s)
	return ok && value.RatString() == s
}

func TestParseRatOfAllShortTexts(t *testing.T) {
	accepted := 0
	for _, s := range append(textsOver("-+0126/ ", 5), textsOver("-01234689/", 4)...) {
		got, ok := impl.ParseRat(s)
		if ok != isTextOfRat(s) || ok && impl.FormatRat(got) != s || !ok && !isZeroRat(got) {
			t.Errorf("ParseRat(%q) = %v, %v", s, got, ok)
		}
		if ok {
			accepted++
		}
	}
	if accepted < 500 {
		t.Errorf("only %d texts are those of fractions", accepted)
	}
}

func TestInvalidRats(t *testing.T) {
	bad := invalidRats()
	for name, x := range bad {
		if impl.RatSign(x) != 0 || !isZeroRat(impl.RatNeg(x)) || impl.FormatRat(x) != "" {
			t.Errorf("%s: RatSign %d, RatNeg %v, FormatRat %q", name, impl.RatSign(x), impl.RatNeg(x), impl.FormatRat(x))
		}
		for _, y := range append(sampleRats(), x, impl.Rat{}, rat(false, []int{2}, []int{4}), rat(true, nil, []int{1}), rat(false, []int{-1}, []int{1}), rat(false, []int{1}, []int{5, 0})) {
			checkNoRat(t, name, x, y)
		}
	}
}

// checkNoRat expects the zero values of all functions of two fractions, the first of which is invalid.
func checkNoRat(t *testing.T, name string, x impl.Rat, y impl.Rat) {
	t.Helper()
	if impl.RatCmp(x, y) != 0 || impl.RatCmp(y, x) != 0 {
		t.Errorf("RatCmp of %s and %v is not 0", name, y)
	}
	for f, operation := range ratOperations() {
		if got := operation(x, y); !isZeroRat(got) {
			t.Errorf("%s of %s and %v = %v", f, name, y, got)
		}
		if got := operation(y, x); !isZeroRat(got) {
			t.Errorf("%s of %v and %s = %v", f, y, name, got)
		}
	}
}

// ratWithRoom returns a copy of r with further elements behind its lists, and the whole memory of both.
func ratWithRoom(r impl.Rat) (impl.Rat, [2][]int) {
	num, roomNum := withRoom(r.Num.Mag)
	den, roomDen := withRoom(r.Den)
	return rat(r.Num.Neg, num, den), [2][]int{roomNum, roomDen}
}

// isAsBefore reports whether the memory of a copy of r is as ratWithRoom has made it.
func isAsBefore(rooms [2][]int, r impl.Rat) bool {
	_, kept := ratWithRoom(r)
	return slices.Equal(rooms[0], kept[0]) && slices.Equal(rooms[1], kept[1])
}

func TestRatArgumentsStayUnchanged(t *testing.T) {
	list := append(sampleRats(), impl.Rat{}, rat(false, []int{2}, []int{4}), rat(true, nil, []int{1}))
	operations := ratOperations()
	operations["RatNeg"] = func(r impl.Rat, s impl.Rat) impl.Rat { return impl.RatNeg(r) }
	operations["RatMake"] = func(r impl.Rat, s impl.Rat) impl.Rat { return impl.RatMake(r.Num, s.Num) }
	operations["RatMake of a list"] = func(r impl.Rat, s impl.Rat) impl.Rat { return impl.RatMake(r.Num, impl.BigInt{Mag: s.Den}) }
	for _, given := range list {
		for _, other := range list {
			for name, operation := range operations {
				r, roomsR := ratWithRoom(given)
				s, roomsS := ratWithRoom(other)
				result := operation(r, s)
				operation(r, r)
				impl.RatCmp(r, s)
				impl.RatEqual(r, s)
				if !isAsBefore(roomsR, given) || !isAsBefore(roomsS, other) {
					t.Fatalf("%s(%v, %v) changes an argument or what is behind it", name, given, other)
				}
				kept := overwrite([][]int{result.Num.Mag, result.Den})
				if !isAsBefore(roomsR, given) || !isAsBefore(roomsS, other) {
					t.Fatalf("the result of %s(%v, %v) shares memory with an argument", name, given, other)
				}
				if kept != 2 {
					t.Fatalf("the lists of the result of %s(%v, %v) share memory", name, given, other)
				}
			}
		}
	}
}

// TestRatOperationsOnOneMemory gives the same memory to both arguments, and to numerator and denominator.
func TestRatOperationsOnOneMemory(t *testing.T) {
	for _, given := range sampleRats() {
		for name, operation := range ratOperations() {
			r, rooms := ratWithRoom(given)
			want := operation(given, rat(given.Num.Neg, slices.Clone(given.Num.Mag), slices.Clone(given.Den)))
			result := operation(r, r)
			if !sameRat(result, want) {
				t.Errorf("%s of %v and itself = %v, want %v", name, given, result, want)
			}
			if overwrite([][]int{result.Num.Mag, result.Den}) != 2 || !isAsBefore(rooms, given) {
				t.Errorf("the result of %s of %v and itself shares memory", name, given)
			}
		}
	}
	mag, room := withRoom([]int{5, 7})
	kept := slices.Clone(room)
	one := impl.RatMake(impl.BigInt{Mag: mag}, impl.BigInt{Neg: true, Mag: mag})
	if !sameRat(one, whole(-1)) || overwrite([][]int{one.Num.Mag, one.Den}) != 2 || !slices.Equal(room, kept) {
		t.Errorf("RatMake of one list = %v", one)
	}
	unit, room := withRoom([]int{1})
	kept = slices.Clone(room)
	for name, operation := range ratOperations() {
		result := operation(rat(false, unit, unit), rat(true, unit, unit))
		if !impl.RatOk(result) || overwrite([][]int{result.Num.Mag, result.Den}) != 2 || !slices.Equal(room, kept) {
			t.Errorf("%s of 1 and -1 in one list = %v", name, result)
		}
	}
}

func TestRatFunctionsOfOneArgumentLeaveItUnchanged(t *testing.T) {
	list := sampleRats()
	for _, x := range invalidRats() {
		list = append(list, x)
	}
	for _, given := range list {
		r, rooms := ratWithRoom(given)
		impl.RatOk(r)
		impl.RatSign(r)
		impl.FormatRat(r)
		impl.RatNeg(r)
		if !isAsBefore(rooms, given) {
			t.Errorf("%v or what is behind it is changed", given)
		}
	}
}

func TestRatResultsAreNewEachTime(t *testing.T) {
	makers := map[string]func() impl.Rat{
		"RatFromInt":           func() impl.Rat { return impl.RatFromInt(-math.MaxInt64) },
		"RatOf":                func() impl.Rat { return impl.RatOf(math.MaxInt64, -1) },
		"ParseRat":             func() impl.Rat { r, _ := impl.ParseRat("-9223372036854775807"); return r },
		"RatOf of 1":           func() impl.Rat { return impl.RatOf(3, 3) },
		"RatFromInt of 1":      func() impl.Rat { return impl.RatFromInt(1) },
		"quotient of ParseRat": func() impl.Rat { r, _ := impl.ParseRat("1/1000000001"); return r },
	}
	for name, maker := range makers {
		want := impl.FormatRat(maker())
		first := maker()
		if overwrite([][]int{first.Num.Mag, first.Den}) != 2 {
			t.Errorf("the lists of a result of %s share memory", name)
		}
		if got := maker(); impl.FormatRat(got) != want || !impl.RatOk(got) {
			t.Errorf("%s after a change of an earlier result: %v", name, got)
		}
	}
}
