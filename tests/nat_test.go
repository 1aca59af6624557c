package tests

import (
	"math"
	"math/big"
	"math/rand"
	"slices"
	"strings"
	"testing"

	"loop.example/g00822/impl"
)

const (
	natBase = 1000000000
	natMost = 60
)

// bigOf returns the value of a list of limbs.
func bigOf(a []int) *big.Int {
	x := new(big.Int)
	for _, limb := range slices.Backward(a) {
		x.Mul(x, big.NewInt(natBase))
		x.Add(x, big.NewInt(int64(limb)))
	}
	return x
}

// limbsOfBig returns the limbs of a number, or nil if it is negative or has too many of them.
func limbsOfBig(x *big.Int) []int {
	var a []int
	if x.Sign() < 0 {
		return nil
	}
	rest := new(big.Int).Set(x)
	limb := new(big.Int)
	for rest.Sign() > 0 {
		rest.QuoRem(rest, big.NewInt(natBase), limb)
		a = append(a, int(limb.Int64()))
	}
	if len(a) > natMost {
		return nil
	}
	return a
}

// repeated returns n equal limbs.
func repeated(limb int, n int) []int {
	return slices.Repeat([]int{limb}, n)
}

// power returns the power of the base with this exponent.
func power(n int) []int {
	return append(make([]int, n), 1)
}

// randomNat returns a number of n limbs, many of which are 0, near half of the base, or the greatest ones.
func randomNat(r *rand.Rand, n int) []int {
	special := []int{0, 0, 1, 2, natBase/2 - 1, natBase / 2, natBase/2 + 1, natBase - 2, natBase - 1, natBase - 1}
	a := make([]int, n)
	for i := range a {
		a[i] = r.Intn(natBase)
		if r.Intn(3) > 0 {
			a[i] = special[r.Intn(len(special))]
		}
	}
	if n > 0 {
		a[n-1] = max(a[n-1], 1)
	}
	return a
}

// sampleNats returns natural numbers of all lengths, among them the least and the greatest one of each.
func sampleNats() [][]int {
	r := rand.New(rand.NewSource(2))
	list := [][]int{nil, {}, {1}, {2}, {3}, {10}, {natBase / 2}, {natBase - 2}, {7, 1}, {0, natBase - 1}, {775807000, 0, 6}}
	for _, n := range []int{1, 2, 3, 4, 5, 7, 29, 30, 31, 59, 60} {
		list = append(list, power(n-1), repeated(natBase-1, n), repeated(natBase/2, n), randomNat(r, n), randomNat(r, n))
	}
	return list
}

// invalidNats returns lists that are no natural numbers.
func invalidNats() map[string][]int {
	return map[string][]int{
		"a zero":                      {0},
		"a zero limb at the end":      {5, 0},
		"two zero limbs at the end":   {5, 0, 0},
		"zero limbs":                  {0, 0, 0},
		"zero limbs to the limit":     make([]int, natMost),
		"a negative limb":             {-1},
		"a negative limb below":       {-1, 1},
		"a negative limb in between":  {1, -5, 1},
		"a negative limb at the end":  {1, -1},
		"the least int":               {math.MinInt64},
		"the least int below":         {math.MinInt64, 1},
		"the base":                    {natBase},
		"the base below":              {natBase, 1},
		"the base in between":         {1, natBase, 1},
		"the base at the end":         {1, natBase},
		"the greatest int":            {math.MaxInt64},
		"the greatest int at the end": {1, math.MaxInt64},
		"one limb too many":           repeated(1, natMost+1),
		"a power that is too long":    power(natMost),
		"a zero limb above the limit": append(repeated(1, natMost), 0),
		"very many limbs":             repeated(natBase-1, 3000),
		"very many zero limbs":        make([]int, 3000),
	}
}

func TestNatConstants(t *testing.T) {
	if impl.Base != natBase || impl.MaxLimbs != natMost {
		t.Errorf("Base = %d, MaxLimbs = %d", impl.Base, impl.MaxLimbs)
	}
}

func TestNatOk(t *testing.T) {
	for _, a := range sampleNats() {
		if !impl.NatOk(a) {
			t.Errorf("NatOk(%v) = false", a)
		}
	}
	for name, a := range invalidNats() {
		if impl.NatOk(a) {
			t.Errorf("NatOk of %s = true", name)
		}
	}
	for i := range natMost {
		for _, limb := range []int{-1, natBase} {
			a := repeated(1, natMost)
			a[i] = limb
			if impl.NatOk(a) {
				t.Errorf("NatOk with the limb %d at %d = true", limb, i)
			}
		}
	}
}

func TestNatOf(t *testing.T) {
	cases := []struct {
		n    int
		want []int
	}{
		{0, nil}, {1, []int{1}}, {9, []int{9}}, {999999999, []int{999999999}}, {1000000000, []int{0, 1}}, {1000000001, []int{1, 1}},
		{999999999999999999, []int{999999999, 999999999}}, {1000000000000000000, []int{0, 0, 1}},
		{math.MaxInt64 - 1, []int{854775806, 223372036, 9}}, {math.MaxInt64, []int{854775807, 223372036, 9}},
		{-1, nil}, {-1000000000, nil}, {math.MinInt64, nil}, {math.MinInt64 + 1, nil}, {-math.MaxInt64 / 2, nil},
	}
	for _, c := range cases {
		if got := impl.NatOf(c.n); !slices.Equal(got, c.want) {
			t.Errorf("NatOf(%d) = %v, want %v", c.n, got, c.want)
		}
	}
}

func TestIntsAreRecoveredFromTheirNats(t *testing.T) {
	for _, base := range append(sampleInts, 999999999, 999999999999999999, math.MaxInt64/2) {
		for d := -20; d <= 20; d++ {
			n := base + d
			if n < 0 {
				continue
			}
			a := impl.NatOf(n)
			got, ok := impl.NatToInt(a)
			if got != n || !ok || !impl.NatOk(a) {
				t.Errorf("NatToInt(NatOf(%d)) = %d, %v", n, got, ok)
			}
		}
	}
}

func TestNatToIntOfGreatNumbers(t *testing.T) {
	cases := []struct {
		a    []int
		want int
		ok   bool
	}{
		{nil, 0, true}, {[]int{}, 0, true}, {[]int{5}, 5, true}, {[]int{0, 7}, 7000000000, true},
		{[]int{854775806, 223372036, 9}, math.MaxInt64 - 1, true},
		{[]int{854775807, 223372036, 9}, math.MaxInt64, true},
		{[]int{854775808, 223372036, 9}, 0, false},
		{[]int{854775809, 223372036, 9}, 0, false},
		{[]int{999999999, 223372036, 9}, 0, false},
		{[]int{999999999, 223372035, 9}, 9223372035999999999, true},
		{[]int{0, 223372037, 9}, 0, false},
		{[]int{0, 0, 9}, 9000000000000000000, true},
		{[]int{0, 0, 10}, 0, false},
		{[]int{999999999, 999999999, 8}, 8999999999999999999, true},
		{[]int{709551615, 446744073, 18}, 0, false},
		{[]int{709551616, 446744073, 18}, 0, false},
		{[]int{709551623, 446744073, 18}, 0, false},
		{[]int{0, 0, 999999999}, 0, false},
		{[]int{0, 0, 0, 1}, 0, false},
		{[]int{7, 0, 0, 0, 1}, 0, false},
		{repeated(natBase-1, natMost), 0, false},
		{power(natMost - 1), 0, false},
	}
	for _, c := range cases {
		if got, ok := impl.NatToInt(c.a); got != c.want || ok != c.ok {
			t.Errorf("NatToInt(%v) = %d, %v, want %d, %v", c.a, got, ok, c.want, c.ok)
		}
	}
}

// checkNatPair compares all operations with those of another implementation of integers.
func checkNatPair(t *testing.T, a []int, b []int) {
	t.Helper()
	x, y := bigOf(a), bigOf(b)
	same := func(name string, got []int, want *big.Int) {
		t.Helper()
		if !slices.Equal(got, limbsOfBig(want)) {
			t.Errorf("%s(%v, %v) = %v, want %v", name, a, b, got, limbsOfBig(want))
		}
	}
	if got := impl.NatCmp(a, b); got != x.Cmp(y) {
		t.Errorf("NatCmp(%v, %v) = %d", a, b, got)
	}
	same("NatAdd", impl.NatAdd(a, b), new(big.Int).Add(x, y))
	same("NatSub", impl.NatSub(a, b), new(big.Int).Sub(x, y))
	same("NatMul", impl.NatMul(a, b), new(big.Int).Mul(x, y))
	same("NatGcd", impl.NatGcd(a, b), new(big.Int).GCD(nil, nil, x, y))
	quotient, remainder := new(big.Int), new(big.Int)
	if y.Sign() > 0 {
		quotient.QuoRem(x, y, remainder)
	}
	q, r := impl.NatDiv(a, b)
	same("quotient of NatDiv", q, quotient)
	same("remainder of NatDiv", r, remainder)
}

func TestNatOperationsOnAllPairs(t *testing.T) {
	list := sampleNats()
	for _, a := range list {
		for _, b := range list {
			checkNatPair(t, a, b)
		}
	}
}

func TestNatOperationsOnSmallNumbers(t *testing.T) {
	for n := range 40 {
		for k := range 40 {
			checkNatPair(t, impl.NatOf(n), impl.NatOf(k))
		}
	}
	for n := natBase - 5; n < natBase+5; n++ {
		for k := natBase - 5; k < natBase+5; k++ {
			checkNatPair(t, impl.NatOf(n), impl.NatOf(k))
		}
	}
}

func TestNatOperationsOnRandomNumbers(t *testing.T) {
	r := rand.New(rand.NewSource(3))
	for range 5000 {
		checkNatPair(t, randomNat(r, r.Intn(natMost+1)), randomNat(r, r.Intn(natMost+1)))
		checkNatPair(t, randomNat(r, r.Intn(9)), randomNat(r, r.Intn(6)))
	}
}

func TestNatCmpAtEachLimb(t *testing.T) {
	for i := range natMost {
		a, b := repeated(5, natMost), repeated(5, natMost)
		for k := range i {
			a[k], b[k] = 1, natBase-1
		}
		a[i] = 6
		if impl.NatCmp(a, b) != 1 || impl.NatCmp(b, a) != -1 || impl.NatCmp(a, slices.Clone(a)) != 0 {
			t.Errorf("NatCmp of numbers that differ first in limb %d", i)
		}
	}
	if impl.NatCmp(nil, []int{}) != 0 || impl.NatCmp([]int{}, nil) != 0 || impl.NatCmp(nil, []int{1}) != -1 || impl.NatCmp([]int{1}, []int{}) != 1 {
		t.Error("NatCmp with 0")
	}
}

func TestNatCarriesAndBorrows(t *testing.T) {
	for n := 1; n < natMost; n++ {
		all := repeated(natBase-1, n)
		if got := impl.NatAdd(all, []int{1}); !slices.Equal(got, power(n)) {
			t.Errorf("NatAdd(Base^%d - 1, 1) = %v", n, got)
		}
		if got := impl.NatAdd([]int{1}, all); !slices.Equal(got, power(n)) {
			t.Errorf("NatAdd(1, Base^%d - 1) = %v", n, got)
		}
		if got := impl.NatSub(power(n), []int{1}); !slices.Equal(got, all) {
			t.Errorf("NatSub(Base^%d, 1) = %v", n, got)
		}
		if got := impl.NatSub(power(n), all); !slices.Equal(got, []int{1}) {
			t.Errorf("NatSub(Base^%d, Base^%d - 1) = %v", n, n, got)
		}
		if got := impl.NatSub([]int{1}, power(n)); len(got) != 0 {
			t.Errorf("NatSub(1, Base^%d) = %v", n, got)
		}
		if got := impl.NatSub(all, power(n)); len(got) != 0 {
			t.Errorf("NatSub(Base^%d - 1, Base^%d) = %v", n, n, got)
		}
		if got := impl.NatSub(all, slices.Clone(all)); len(got) != 0 {
			t.Errorf("NatSub of equal numbers = %v", got)
		}
	}
}

func TestNatResultsAtTheLimit(t *testing.T) {
	greatest := repeated(natBase-1, natMost)
	almost := slices.Clone(greatest)
	almost[0]--
	results := map[string]struct{ got, want []int }{
		"sum to the greatest number":            {impl.NatAdd(almost, []int{1}), greatest},
		"sum with 0":                            {impl.NatAdd(nil, greatest), greatest},
		"sum beyond the greatest number":        {impl.NatAdd(greatest, []int{1}), nil},
		"sum of 1 and the greatest number":      {impl.NatAdd([]int{1}, greatest), nil},
		"sum of the greatest numbers":           {impl.NatAdd(greatest, greatest), nil},
		"sum of halves of 60 limbs":             {impl.NatAdd(append(make([]int, 59), natBase/2), append(make([]int, 59), natBase/2)), nil},
		"sum of less than halves":               {impl.NatAdd(append(make([]int, 59), natBase/2-1), append(make([]int, 59), natBase/2)), append(make([]int, 59), natBase-1)},
		"product of powers with 60 limbs":       {impl.NatMul(power(29), power(30)), power(59)},
		"product of powers with 61 limbs":       {impl.NatMul(power(30), power(30)), nil},
		"product of 59 and 2 limbs":             {impl.NatMul(power(58), power(1)), power(59)},
		"product of 60 and 2 limbs":             {impl.NatMul(power(59), power(1)), nil},
		"product with 1":                        {impl.NatMul(greatest, []int{1}), greatest},
		"product with 2":                        {impl.NatMul(greatest, []int{2}), nil},
		"product of the greatest numbers":       {impl.NatMul(greatest, greatest), nil},
		"product of the greatest number with 0": {impl.NatMul(greatest, nil), nil},
		"gcd of the greatest number":            {impl.NatGcd(greatest, slices.Clone(greatest)), greatest},
		"gcd with 0":                            {impl.NatGcd(greatest, nil), greatest},
	}
	for name, r := range results {
		if !slices.Equal(r.got, r.want) {
			t.Errorf("%s: %v, want %v", name, r.got, r.want)
		}
	}
	for n := 1; n <= natMost; n++ {
		checkNatPair(t, repeated(natBase-1, n), repeated(natBase-1, natMost-n))
		checkNatPair(t, repeated(natBase-1, n), repeated(natBase-1, natMost-n+1))
		checkNatPair(t, power(n-1), power(natMost-n))
		checkNatPair(t, power(n-1), repeated(natBase-1, natMost-n+1))
	}
}

func TestNatDivRounds(t *testing.T) {
	big60 := repeated(123456789, natMost)
	cases := []struct{ a, b, q, r []int }{
		{nil, []int{7}, nil, nil},
		{[]int{}, big60, nil, nil},
		{[]int{6}, []int{7}, nil, []int{6}},
		{[]int{7}, []int{7}, []int{1}, nil},
		{[]int{20}, []int{7}, []int{2}, []int{6}},
		{[]int{natBase - 1}, big60, nil, []int{natBase - 1}},
		{big60, big60, []int{1}, nil},
		{big60, []int{1}, big60, nil},
		{big60, []int{123456789}, repeated(1, natMost), nil},
		{power(59), power(58), []int{0, 1}, nil},
		{repeated(natBase-1, 60), power(30), repeated(natBase-1, 30), repeated(natBase-1, 30)},
		{[]int{0, 0, 1}, []int{natBase - 1}, []int{1, 1}, []int{1}},
		{[]int{natBase - 1, natBase - 1}, []int{natBase - 1}, []int{1, 1}, nil},
		{[]int{7}, nil, nil, nil},
		{nil, nil, nil, nil},
		{big60, []int{}, nil, nil},
	}
	for _, c := range cases {
		q, r := impl.NatDiv(c.a, c.b)
		if !slices.Equal(q, c.q) || !slices.Equal(r, c.r) {
			t.Errorf("NatDiv(%v, %v) = %v, %v, want %v, %v", c.a, c.b, q, r, c.q, c.r)
		}
	}
}

// TestNatDivNearMultiples divides numbers next to multiples, for which guessed quotient limbs are often too large.
func TestNatDivNearMultiples(t *testing.T) {
	r := rand.New(rand.NewSource(4))
	divisors := [][]int{
		{natBase - 1, 0, natBase / 2}, {natBase - 1, 0, 1}, {1, 0, natBase / 8}, {natBase - 1, natBase - 1, natBase / 2},
		{0, natBase - 1, natBase / 2}, {natBase - 1, natBase/2 - 1}, {natBase - 1, natBase / 2}, {natBase - 1, 1}, {1, natBase - 1},
		append(repeated(natBase-1, 20), 0, natBase/2), append(repeated(natBase-1, 20), 0, 0, 0, 3),
		append([]int{natBase - 1}, append(make([]int, 25), natBase/2)...),
	}
	for range 60 {
		divisors = append(divisors, randomNat(r, 1+r.Intn(29)))
	}
	one := big.NewInt(1)
	for _, b := range divisors {
		for _, q := range [][]int{{1}, {2}, {natBase - 1}, {0, 1}, {1, 1}, {natBase - 1, natBase - 1}, {3, 0, natBase - 1}, randomNat(r, 5), randomNat(r, 30), repeated(natBase-1, 30)} {
			product := new(big.Int).Mul(bigOf(b), bigOf(q))
			checkNatPair(t, limbsOfBig(new(big.Int).Sub(product, one)), b)
			checkNatPair(t, limbsOfBig(product), b)
			checkNatPair(t, limbsOfBig(new(big.Int).Add(product, one)), b)
		}
	}
}

func TestNatDivIsRecoveredByMultiplication(t *testing.T) {
	r := rand.New(rand.NewSource(5))
	for range 2000 {
		a, b := randomNat(r, r.Intn(natMost+1)), randomNat(r, 1+r.Intn(natMost))
		q, rest := impl.NatDiv(a, b)
		if impl.NatCmp(rest, b) != -1 || !slices.Equal(impl.NatAdd(impl.NatMul(q, b), rest), a) {
			t.Errorf("NatDiv(%v, %v) = %v, %v", a, b, q, rest)
		}
	}
}

func TestNatGcdWithZero(t *testing.T) {
	for _, a := range sampleNats() {
		for _, zero := range [][]int{nil, {}} {
			if !slices.Equal(impl.NatGcd(a, zero), a) || !slices.Equal(impl.NatGcd(zero, a), a) {
				t.Errorf("NatGcd of %v and 0", a)
			}
		}
	}
}

func TestNatGcdOfCommonMultiples(t *testing.T) {
	r := rand.New(rand.NewSource(6))
	for range 1500 {
		factor := randomNat(r, 1+r.Intn(30))
		a, b := randomNat(r, r.Intn(31)), randomNat(r, r.Intn(31))
		checkNatPair(t, impl.NatMul(factor, a), impl.NatMul(factor, b))
		checkNatPair(t, impl.NatMul(factor, a), factor)
		checkNatPair(t, factor, impl.NatAdd(impl.NatMul(factor, a), []int{1}))
	}
}

// TestNatGcdOfFibonacciNumbers takes the pairs for which Euclid's algorithm has the most steps.
func TestNatGcdOfFibonacciNumbers(t *testing.T) {
	a, b := big.NewInt(0), big.NewInt(1)
	for len(limbsOfBig(b)) > 0 {
		checkNatPair(t, limbsOfBig(a), limbsOfBig(b))
		checkNatPair(t, limbsOfBig(new(big.Int).Add(a, b)), limbsOfBig(a))
		a.Add(a, b)
		a, b = b, a
	}
}

// continuant returns two neighbouring remainders of Euclid's algorithm, given its quotients.
func continuant(quotients []int64) (*big.Int, *big.Int) {
	x, y := big.NewInt(1), big.NewInt(0)
	for _, q := range quotients {
		y.Add(y, new(big.Int).Mul(x, big.NewInt(q)))
		x, y = y, x
	}
	return x, y
}

func TestNatGcdWithGivenQuotients(t *testing.T) {
	r := rand.New(rand.NewSource(7))
	kinds := []int64{1, 1, 2, 3, 10, natBase / 2, natBase - 1, natBase, natBase + 1, natBase * natBase, 8 * natBase * natBase}
	for range 1500 {
		var quotients []int64
		for range r.Intn(200) {
			quotients = append(quotients, kinds[r.Intn(1+r.Intn(len(kinds)))])
		}
		x, y := continuant(quotients)
		if a, b := limbsOfBig(x), limbsOfBig(y); len(a) > 0 {
			checkNatPair(t, a, b)
			checkNatPair(t, b, a)
		}
	}
}

func TestFormatNat(t *testing.T) {
	cases := []struct {
		a    []int
		want string
	}{
		{nil, "0"}, {[]int{}, "0"}, {[]int{7}, "7"}, {[]int{10}, "10"}, {[]int{999999999}, "999999999"},
		{[]int{0, 1}, "1000000000"}, {[]int{1, 1}, "1000000001"}, {[]int{20, 3}, "3000000020"}, {[]int{123456789, 12}, "12123456789"},
		{[]int{7, 0, 1000}, "1000000000000000000007"}, {[]int{854775807, 223372036, 9}, "9223372036854775807"},
		{power(59), "1" + strings.Repeat("0", 531)}, {repeated(natBase-1, natMost), strings.Repeat("9", 540)},
		{repeated(1, natMost), "1" + strings.Repeat("000000001", 59)},
	}
	for _, c := range cases {
		if got := impl.FormatNat(c.a); got != c.want {
			t.Errorf("FormatNat(%v) = %q, want %q", c.a, got, c.want)
		}
	}
}

func TestNatsAreRecoveredFromTheirText(t *testing.T) {
	r := rand.New(rand.NewSource(8))
	list := sampleNats()
	for n := range natMost + 1 {
		list = append(list, randomNat(r, n), randomNat(r, n))
	}
	for _, a := range list {
		text := impl.FormatNat(a)
		got, ok := impl.ParseNat(text)
		if text != bigOf(a).String() || !slices.Equal(got, a) || !ok {
			t.Errorf("ParseNat(FormatNat(%v)) = %v, %v by %q", a, got, ok, text)
		}
	}
}

func TestParseNatOfEachLength(t *testing.T) {
	for n := 1; n <= 560; n++ {
		for _, s := range []string{strings.Repeat("9", n), "1" + strings.Repeat("0", n-1), strings.Repeat("1203", 140)[:n]} {
			x, _ := new(big.Int).SetString(s, 10)
			got, ok := impl.ParseNat(s)
			if ok != (n <= 540) || !slices.Equal(got, limbsOfBig(x)) {
				t.Errorf("ParseNat of %d digits = %v, %v", n, got, ok)
			}
		}
	}
}

func TestParseNatOfOtherTexts(t *testing.T) {
	bad := []string{
		"", "-", "+", "-0", "+0", "-1", "+1", "--1", "00", "01", "007", "0000000000", "01000000000", "000000001000000000",
		" ", " 1", "1 ", "1\n", "1 2", "1.0", "1e3", "1_000", "1,000", "0x10", "a", "1a", "a1", "/", ":", "1/", "1/2", ":1", "1:",
		"1234567-9", "1-00000000", "1+00000000", "1 00000000", "-100000000000", "10000000000 ", "1000000000a", "a1000000000",
		"\x00", "1\x00", "\x001", "\xff", "1\xff", "\xff1", "\u0661", "\uff11", "1\u00b2", "\u22121", "\ufffd",
		strings.Repeat("0", 540), "0" + strings.Repeat("9", 539), "0" + strings.Repeat("9", 540), strings.Repeat("0", 541) + "1",
		strings.Repeat("9", 541), "1" + strings.Repeat("0", 540), strings.Repeat("9", 100000), strings.Repeat("a", 100000),
	}
	for _, s := range bad {
		if got, ok := impl.ParseNat(s); len(got) != 0 || ok {
			t.Errorf("ParseNat(%.30q) = %v, %v, want nil, false", s, got, ok)
		}
	}
	if got, ok := impl.ParseNat("0"); len(got) != 0 || !ok {
		t.Errorf("ParseNat(\"0\") = %v, %v", got, ok)
	}
}

func TestParseNatOfAllShortTexts(t *testing.T) {
	for _, s := range textsOver("-+019 /:_\xff", 4) {
		want, isInt := impl.ParseInt(s)
		isNat := isInt && s[0] != '-'
		got, ok := impl.ParseNat(s)
		if ok != isNat || !ok && len(got) != 0 || ok && !slices.Equal(got, impl.NatOf(want)) {
			t.Errorf("ParseNat(%q) = %v, %v", s, got, ok)
		}
	}
}

func TestInvalidNats(t *testing.T) {
	for name, a := range invalidNats() {
		if got, ok := impl.NatToInt(a); got != 0 || ok {
			t.Errorf("NatToInt of %s = %d, %v", name, got, ok)
		}
		if got := impl.FormatNat(a); got != "" {
			t.Errorf("FormatNat of %s = %q", name, got)
		}
		others := append(sampleNats(), a, []int{-1}, repeated(1, natMost+1))
		for _, b := range others {
			checkNoNat(t, name, a, b)
			checkNoNat(t, name, b, a)
		}
	}
}

// checkNoNat expects zero values of all functions of two numbers, one of which is invalid.
func checkNoNat(t *testing.T, name string, a []int, b []int) {
	t.Helper()
	if got := impl.NatCmp(a, b); got != 0 {
		t.Errorf("%s: NatCmp(%v, %v) = %d", name, a, b, got)
	}
	for f, operation := range natOperations() {
		for _, got := range operation(a, b) {
			if len(got) != 0 {
				t.Errorf("%s: %s(%v, %v) = %v", name, f, a, b, got)
			}
		}
	}
}

// natOperations returns the functions of two numbers with all their lists of limbs.
func natOperations() map[string]func(a []int, b []int) [][]int {
	return map[string]func(a []int, b []int) [][]int{
		"NatAdd": func(a []int, b []int) [][]int { return [][]int{impl.NatAdd(a, b)} },
		"NatSub": func(a []int, b []int) [][]int { return [][]int{impl.NatSub(a, b)} },
		"NatMul": func(a []int, b []int) [][]int { return [][]int{impl.NatMul(a, b)} },
		"NatGcd": func(a []int, b []int) [][]int { return [][]int{impl.NatGcd(a, b)} },
		"NatDiv": func(a []int, b []int) [][]int {
			q, r := impl.NatDiv(a, b)
			return [][]int{q, r}
		},
	}
}

// withRoom returns a in a memory of its own, with further elements behind it, and this whole memory.
func withRoom(a []int) ([]int, []int) {
	room := append(slices.Clone(a), repeated(-77, 70)...)
	return room[:len(a)], room
}

func TestNatArgumentsStayUnchanged(t *testing.T) {
	list := sampleNats()
	for _, given := range list {
		for _, other := range list {
			for name, operation := range natOperations() {
				a, roomA := withRoom(given)
				b, roomB := withRoom(other)
				keptA, keptB := slices.Clone(roomA), slices.Clone(roomB)
				results := operation(a, b)
				operation(a, a)
				impl.NatCmp(a, b)
				if !slices.Equal(roomA, keptA) || !slices.Equal(roomB, keptB) {
					t.Fatalf("%s(%v, %v) changes an argument or what is behind it", name, given, other)
				}
				kept := overwrite(results)
				if !slices.Equal(roomA, keptA) || !slices.Equal(roomB, keptB) {
					t.Fatalf("a result of %s(%v, %v) shares memory with an argument", name, given, other)
				}
				if kept != len(results) {
					t.Fatalf("the results of %s(%v, %v) share memory", name, given, other)
				}
			}
		}
	}
}

// overwrite fills each list and its spare capacity with a number of its own, and counts the lists that keep theirs.
func overwrite(lists [][]int) int {
	for i, list := range lists {
		list = list[:cap(list)]
		for k := range list {
			list[k] = -100 - i
		}
	}
	kept := 0
	for i, list := range lists {
		if !slices.ContainsFunc(list[:cap(list)], func(limb int) bool { return limb != -100-i }) {
			kept++
		}
	}
	return kept
}

func TestNatFunctionsOfOneArgumentLeaveItUnchanged(t *testing.T) {
	lists := sampleNats()
	for _, a := range invalidNats() {
		lists = append(lists, a)
	}
	for _, given := range lists {
		a, room := withRoom(given)
		kept := slices.Clone(room)
		impl.NatOk(a)
		impl.NatToInt(a)
		impl.FormatNat(a)
		if !slices.Equal(room, kept) {
			t.Errorf("%v or what is behind it is changed", given)
		}
	}
}

func TestNatResultsAreNewEachTime(t *testing.T) {
	makers := map[string]func() []int{
		"NatOf":    func() []int { return impl.NatOf(math.MaxInt64) },
		"ParseNat": func() []int { a, _ := impl.ParseNat("9223372036854775807"); return a },
	}
	for name, maker := range makers {
		overwrite([][]int{maker()})
		if got := maker(); !slices.Equal(got, []int{854775807, 223372036, 9}) {
			t.Errorf("%s after a change of an earlier result: %v", name, got)
		}
	}
}
