package tests

import (
	"math"
	"math/big"
	"math/rand"
	"slices"
	"strings"
	"testing"

	"loop.example/g00822/impl"
)

const vectorMost = 24

// vectorOf returns the fractions of a text, made without the program.
func vectorOf(text string) []impl.Rat {
	v := []impl.Rat{}
	for _, field := range strings.Fields(text) {
		value, ok := new(big.Rat).SetString(field)
		if !ok {
			panic("no fraction: " + field)
		}
		v = append(v, ratOfBig(value))
	}
	return v
}

// sameVector compares all fields of all elements; nil and the empty list are the same.
func sameVector(a []impl.Rat, b []impl.Rat) bool {
	return slices.EqualFunc(a, b, sameRat)
}

// randomVector returns n fractions of at most this many limbs.
func randomVector(r *rand.Rand, n int, limbs int) []impl.Rat {
	v := make([]impl.Rat, n)
	for i := range v {
		v[i] = randomRat(r, 1+r.Intn(limbs), 1+r.Intn(limbs))
		if r.Intn(4) == 0 {
			v[i] = whole(r.Intn(5) - 2)
		}
	}
	return v
}

// withElement returns v with another fraction at the index i.
func withElement(v []impl.Rat, i int, r impl.Rat) []impl.Rat {
	v = slices.Clone(v)
	v[i] = r
	return v
}

// pairwise is a model of the functions of two vectors; it fails where a number is too large.
func pairwise(a []impl.Rat, b []impl.Rat, operation func(z, x, y *big.Rat) *big.Rat) ([]impl.Rat, bool) {
	list := []impl.Rat{}
	for i := range a {
		r := ratOfBig(operation(new(big.Rat), bigOfRat(a[i]), bigOfRat(b[i])))
		if isZeroRat(r) {
			return nil, false
		}
		list = append(list, r)
	}
	return list, true
}

// innerModel is a model of InnerProduct; it fails where a number is too large.
func innerModel(a []impl.Rat, b []impl.Rat) (impl.Rat, bool) {
	products, ok := pairwise(a, b, (*big.Rat).Mul)
	if !ok {
		return impl.Rat{}, false
	}
	sum := new(big.Rat)
	for _, p := range products {
		sum.Add(sum, bigOfRat(p))
		if isZeroRat(ratOfBig(sum)) {
			return impl.Rat{}, false
		}
	}
	return ratOfBig(sum), true
}

// innerAsVector returns the InnerProduct as a vector of one element.
func innerAsVector(a []impl.Rat, b []impl.Rat) ([]impl.Rat, bool) {
	p, ok := impl.InnerProduct(a, b)
	if !ok && isZeroRat(p) {
		return nil, false
	}
	return []impl.Rat{p}, ok
}

// scaleByFirst multiplies b by the first element of a, for tests of all functions of two vectors.
func scaleByFirst(a []impl.Rat, b []impl.Rat) ([]impl.Rat, bool) {
	return impl.ScaleVector(a[0], b)
}

// vectorOperations returns the functions of two vectors, which fail under the same conditions.
func vectorOperations() map[string]func(a []impl.Rat, b []impl.Rat) ([]impl.Rat, bool) {
	return map[string]func(a []impl.Rat, b []impl.Rat) ([]impl.Rat, bool){
		"AddVectors": impl.AddVectors, "SubtractVectors": impl.SubtractVectors, "InnerProduct": innerAsVector,
	}
}

// checkVectors compares all functions of two valid vectors of the same length with their models.
func checkVectors(t *testing.T, a []impl.Rat, b []impl.Rat) {
	t.Helper()
	check := func(name string, got []impl.Rat, ok bool, want []impl.Rat, fine bool) {
		t.Helper()
		if ok != fine || !sameVector(got, want) {
			t.Errorf("%s of %v and %v = %v, %v, want %v, %v", name, a, b, got, ok, want, fine)
		}
	}
	got, ok := impl.AddVectors(a, b)
	want, fine := pairwise(a, b, (*big.Rat).Add)
	check("AddVectors", got, ok, want, fine)
	got, ok = impl.SubtractVectors(a, b)
	want, fine = pairwise(a, b, (*big.Rat).Sub)
	check("SubtractVectors", got, ok, want, fine)
	for _, r := range a[:min(2, len(a))] {
		got, ok = impl.ScaleVector(r, b)
		want, fine = pairwise(slices.Repeat([]impl.Rat{r}, len(b)), b, (*big.Rat).Mul)
		check("ScaleVector", got, ok, want, fine)
	}
	p, ok := impl.InnerProduct(a, b)
	q, fine := innerModel(a, b)
	check("InnerProduct", []impl.Rat{p}, ok, []impl.Rat{q}, fine)
}

func TestVectorConstant(t *testing.T) {
	if impl.MaxLength != vectorMost {
		t.Errorf("MaxLength = %d", impl.MaxLength)
	}
}

func TestIsVector(t *testing.T) {
	r := rand.New(rand.NewSource(51))
	for n := range 60 {
		v := randomVector(r, n, 24)
		if got := impl.IsVector(v); got != (n <= vectorMost) {
			t.Errorf("IsVector of %d elements = %v", n, got)
		}
	}
	for _, v := range [][]impl.Rat{nil, {}, {whole(0)}, {greatestRat(), leastOver()}, make([]impl.Rat, 0, 100), vectorOf("0 0 0"), vectorOf("-1/2 3")} {
		if !impl.IsVector(v) {
			t.Errorf("IsVector(%v) = false", v)
		}
	}
	if impl.IsVector(slices.Repeat(vectorOf("1"), 100000)) || impl.IsVector(make([]impl.Rat, 25)) {
		t.Error("IsVector of a very long list = true")
	}
}

func TestInvalidElements(t *testing.T) {
	for name, bad := range invalidRats() {
		for _, n := range []int{1, 2, 3, 5, vectorMost} {
			good := slices.Repeat(vectorOf("1/2"), n)
			for _, place := range []int{0, n / 2, n - 1} {
				v := withElement(good, place, bad)
				if impl.IsVector(v) || impl.FormatVector(v) != "" {
					t.Errorf("%s at %d of %d: IsVector %v, FormatVector %q", name, place, n, impl.IsVector(v), impl.FormatVector(v))
				}
				for f, operation := range vectorOperations() {
					for _, pair := range [][2][]impl.Rat{{v, good}, {good, v}, {v, v}} {
						if got, ok := operation(pair[0], pair[1]); ok || len(got) != 0 {
							t.Errorf("%s with %s at %d of %d = %v, %v", f, name, place, n, got, ok)
						}
					}
				}
				for _, factor := range []impl.Rat{whole(0), whole(1), bad} {
					if got, ok := impl.ScaleVector(factor, v); ok || got != nil {
						t.Errorf("ScaleVector by %v with %s at %d of %d = %v, %v", factor, name, place, n, got, ok)
					}
				}
			}
			if got, ok := impl.ScaleVector(bad, good); ok || got != nil {
				t.Errorf("ScaleVector by %s = %v, %v", name, got, ok)
			}
		}
		for _, empty := range [][]impl.Rat{nil, {}} {
			if got, ok := impl.ScaleVector(bad, empty); ok || got != nil {
				t.Errorf("ScaleVector of the empty vector by %s = %v, %v", name, got, ok)
			}
		}
	}
}

func TestZeroVector(t *testing.T) {
	for n := range vectorMost + 1 {
		v := impl.ZeroVector(n)
		if !sameVector(v, slices.Repeat([]impl.Rat{whole(0)}, n)) || !impl.IsVector(v) {
			t.Errorf("ZeroVector(%d) = %v", n, v)
		}
	}
	for _, n := range []int{-1, -2, -24, -25, 25, 26, 1000, math.MinInt64, math.MinInt64 + 1, math.MaxInt64} {
		if v := impl.ZeroVector(n); v != nil {
			t.Errorf("ZeroVector(%d) = %v", n, v)
		}
	}
}

func TestUnitVector(t *testing.T) {
	for n := range vectorMost + 1 {
		for k := range n {
			want := withElement(slices.Repeat([]impl.Rat{whole(0)}, n), k, whole(1))
			if v := impl.UnitVector(n, k); !sameVector(v, want) || !impl.IsVector(v) {
				t.Errorf("UnitVector(%d, %d) = %v", n, k, v)
			}
		}
	}
	ints := []int{-25, -2, -1, 0, 1, 23, 24, 25, 26, math.MinInt64, math.MinInt64 + 1, math.MaxInt64, math.MaxInt64 - 1}
	for _, n := range ints {
		for _, k := range append(ints, n, n-1, n+1) {
			isIndex := n >= 0 && n <= vectorMost && k >= 0 && k < n
			if v := impl.UnitVector(n, k); (v != nil) != isIndex {
				t.Errorf("UnitVector(%d, %d) = %v", n, k, v)
			}
		}
	}
}

func TestVectorExamples(t *testing.T) {
	cases := []struct{ a, b, sum, difference, inner string }{
		{"1 2 3", "4 5 6", "5 7 9", "-3 -3 -3", "32"}, {"1/2 -1/3", "1/2 1/3", "1 0", "0 -2/3", "5/36"}, {"0", "0", "0", "0", "0"}, {"", "", "", "", "0"},
		{"-7", "-1/7", "-50/7", "-48/7", "1"}, {"1 1", "1 -1", "2 0", "0 2", "0"}, {"1/6 0 2", "1/10 5 -1/2", "4/15 5 3/2", "1/15 -5 5/2", "-59/60"},
		{"1/2 1/3 1/6", "1 1 1", "3/2 4/3 7/6", "-1/2 -2/3 -5/6", "1"}, {"1000000000 1", "1000000000 1", "2000000000 2", "0 0", "1000000000000000001"},
	}
	for _, c := range cases {
		a, b := vectorOf(c.a), vectorOf(c.b)
		sum, ok := impl.AddVectors(a, b)
		difference, fine := impl.SubtractVectors(a, b)
		inner, good := impl.InnerProduct(a, b)
		if !ok || !fine || !good || !sameVector(sum, vectorOf(c.sum)) || !sameVector(difference, vectorOf(c.difference)) || !sameRat(inner, vectorOf(c.inner)[0]) {
			t.Errorf("%q and %q: sum %v, difference %v, inner product %v", c.a, c.b, sum, difference, inner)
		}
	}
	scaled := []struct{ factor, v, want string }{
		{"1/2", "1 2 3", "1/2 1 3/2"}, {"0", "1/2 -3 0", "0 0 0"}, {"-1", "1 -2/3 0", "-1 2/3 0"}, {"1", "5/7", "5/7"}, {"-6/5", "5/6 5/2 1/3", "-1 -3 -2/5"}, {"0", "", ""}, {"7", "", ""},
	}
	for _, c := range scaled {
		if got, ok := impl.ScaleVector(vectorOf(c.factor)[0], vectorOf(c.v)); !ok || !sameVector(got, vectorOf(c.want)) {
			t.Errorf("ScaleVector(%s, %q) = %v, %v", c.factor, c.v, got, ok)
		}
	}
}

func TestVectorsOfAllLengths(t *testing.T) {
	r := rand.New(rand.NewSource(52))
	for n := range vectorMost + 1 {
		for _, limbs := range []int{1, 1, 2, 6, 12, 24} {
			checkVectors(t, randomVector(r, n, limbs), randomVector(r, n, limbs))
		}
		whole, short := randomVector(r, n, 1), vectorOf(strings.Repeat("-2/3 ", n))
		checkVectors(t, whole, short)
		checkVectors(t, short, short)
	}
}

func TestVectorsOfSampleRats(t *testing.T) {
	list := sampleRats()
	for _, x := range list {
		for _, y := range list {
			checkVectors(t, []impl.Rat{x}, []impl.Rat{y})
			checkVectors(t, []impl.Rat{x, y}, []impl.Rat{y, x})
		}
	}
}

func TestEmptyVectors(t *testing.T) {
	empties := [][]impl.Rat{nil, {}, make([]impl.Rat, 0, 3)}
	for _, a := range empties {
		for _, b := range empties {
			sum, ok := impl.AddVectors(a, b)
			difference, fine := impl.SubtractVectors(a, b)
			inner, good := impl.InnerProduct(a, b)
			if !ok || !fine || !good || len(sum) != 0 || len(difference) != 0 || !sameRat(inner, whole(0)) || !impl.EqualVectors(a, b) {
				t.Errorf("empty vectors: %v, %v, %v, %v, %v, %v", sum, ok, difference, fine, inner, good)
			}
		}
		for _, factor := range []impl.Rat{whole(0), whole(-2), greatestRat(), leastOver()} {
			if got, ok := impl.ScaleVector(factor, a); !ok || len(got) != 0 {
				t.Errorf("ScaleVector of the empty vector by %v = %v, %v", factor, got, ok)
			}
		}
		if !impl.IsVector(a) || impl.FormatVector(a) != "" {
			t.Error("the empty vector is not valid, or has a text")
		}
		for _, v := range [][]impl.Rat{vectorOf("0"), vectorOf("1 2"), {{}}} {
			for f, operation := range vectorOperations() {
				for _, pair := range [][2][]impl.Rat{{a, v}, {v, a}} {
					if got, ok := operation(pair[0], pair[1]); ok || len(got) != 0 {
						t.Errorf("%s of the empty vector and %v = %v, %v", f, v, got, ok)
					}
				}
			}
			if impl.EqualVectors(a, v) || impl.EqualVectors(v, a) {
				t.Errorf("the empty vector equals %v", v)
			}
		}
	}
	if v, ok := impl.ParseVector(""); !ok || len(v) != 0 {
		t.Errorf("ParseVector of the empty string = %v, %v", v, ok)
	}
}

func TestVectorsOfDifferentLengths(t *testing.T) {
	lengths := []int{0, 1, 2, 3, 23, 24, 25, 26, 50}
	for _, n := range lengths {
		for _, k := range lengths {
			a, b := slices.Repeat(vectorOf("1/2"), n), slices.Repeat(vectorOf("1/2"), k)
			fits := n == k && n <= vectorMost
			for f, operation := range vectorOperations() {
				if got, ok := operation(a, b); ok != fits || !ok && len(got) != 0 {
					t.Errorf("%s of %d and %d elements = %v, %v", f, n, k, got, ok)
				}
			}
			if got := impl.EqualVectors(a, b); got != (n == k) {
				t.Errorf("EqualVectors of %d and %d elements = %v", n, k, got)
			}
		}
		v := slices.Repeat(vectorOf("1/2"), n)
		if got, ok := impl.ScaleVector(whole(2), v); ok != (n <= vectorMost) || !ok && got != nil || ok && len(got) != n {
			t.Errorf("ScaleVector of %d elements = %v, %v", n, got, ok)
		}
		if got := impl.FormatVector(v); (got != "") != (n > 0 && n <= vectorMost) {
			t.Errorf("FormatVector of %d elements = %q", n, got)
		}
	}
}

func TestVectorsWithOneNumberThatIsTooLarge(t *testing.T) {
	greatest, least := greatestRat(), leastOver()
	opposite := impl.RatNeg(greatest)
	for _, n := range []int{1, 2, 3, vectorMost} {
		ones, twos := slices.Repeat(vectorOf("1"), n), slices.Repeat(vectorOf("2"), n)
		for place := range n {
			cases := map[string]func() ([]impl.Rat, bool){
				"sum": func() ([]impl.Rat, bool) { return impl.AddVectors(withElement(ones, place, greatest), ones) },
				"negative sum": func() ([]impl.Rat, bool) {
					return impl.AddVectors(withElement(ones, place, opposite), vectorOf(strings.Repeat("-1 ", n)))
				},
				"sum of quotients": func() ([]impl.Rat, bool) { return impl.AddVectors(withElement(ones, place, least), ones) },
				"difference":       func() ([]impl.Rat, bool) { return impl.SubtractVectors(withElement(ones, place, opposite), ones) },
				"other difference": func() ([]impl.Rat, bool) { return impl.SubtractVectors(ones, withElement(ones, place, opposite)) },
				"multiple":         func() ([]impl.Rat, bool) { return impl.ScaleVector(whole(2), withElement(ones, place, greatest)) },
				"part":             func() ([]impl.Rat, bool) { return impl.ScaleVector(quotientOf(1, 2), withElement(ones, place, least)) },
				"multiple of twos": func() ([]impl.Rat, bool) { return impl.ScaleVector(greatest, withElement(ones, place, whole(-2))) },
				"product":          func() ([]impl.Rat, bool) { return innerAsVector(withElement(ones, place, greatest), twos) },
				"negative product": func() ([]impl.Rat, bool) { return innerAsVector(twos, withElement(ones, place, opposite)) },
				"product of two": func() ([]impl.Rat, bool) {
					return innerAsVector(withElement(ones, place, greatest), withElement(ones, place, greatest))
				},
				"denominator of it": func() ([]impl.Rat, bool) {
					return innerAsVector(withElement(ones, place, least), withElement(ones, place, least))
				},
			}
			for name, operation := range cases {
				if got, ok := operation(); ok || got != nil {
					t.Errorf("%s that is too large at %d of %d = %v, %v", name, place, n, got, ok)
				}
			}
		}
	}
	if got, ok := impl.ScaleVector(whole(0), []impl.Rat{greatest, least, opposite}); !ok || !sameVector(got, vectorOf("0 0 0")) {
		t.Errorf("ScaleVector by 0 = %v, %v", got, ok)
	}
}

func TestInnerProductsThatAreTooLargeOnTheWay(t *testing.T) {
	greatest := greatestRat()
	opposite := impl.RatNeg(greatest)
	one, two := whole(1), whole(2)
	unlike := quotientOf(1, 7)
	cases := map[string]struct {
		a, b []impl.Rat
		want impl.Rat
	}{
		"a product, then its opposite":         {[]impl.Rat{greatest, opposite}, []impl.Rat{two, two}, impl.Rat{}},
		"a sum, then back to 1":                {[]impl.Rat{greatest, one, opposite}, []impl.Rat{one, one, one}, impl.Rat{}},
		"a negative sum, then back to -1":      {[]impl.Rat{opposite, whole(-1), greatest}, []impl.Rat{one, one, one}, impl.Rat{}},
		"a sum of products, then back":         {[]impl.Rat{one, greatest, opposite}, []impl.Rat{one, one, one}, impl.Rat{}},
		"a denominator, then back":             {[]impl.Rat{leastOver(), unlike, impl.RatNeg(unlike)}, []impl.Rat{one, quotientOf(1, natBase), quotientOf(1, natBase)}, impl.Rat{}},
		"the same sum in another order":        {[]impl.Rat{greatest, opposite, one}, []impl.Rat{one, one, one}, one},
		"the same denominator in another":      {[]impl.Rat{unlike, impl.RatNeg(unlike), leastOver()}, []impl.Rat{unlike, unlike, one}, leastOver()},
		"a product that is just small enough":  {[]impl.Rat{greatest, opposite}, []impl.Rat{one, one}, whole(0)},
		"a sum that is the greatest at last":   {[]impl.Rat{impl.RatSub(greatest, one), one}, []impl.Rat{one, one}, greatest},
		"a sum that is too large at last":      {[]impl.Rat{one, greatest}, []impl.Rat{one, one}, impl.Rat{}},
		"a sum of 25 limbs in lowest terms":    {[]impl.Rat{rat(false, repeated(natBase-1, 24), []int{2}), one}, []impl.Rat{one, one}, impl.Rat{}},
		"a sum whose 25 limbs are halved":      {[]impl.Rat{greatest, greatest}, []impl.Rat{quotientOf(1, 2), quotientOf(1, 2)}, greatest},
		"a product whose parts cancel":         {[]impl.Rat{greatest}, []impl.Rat{leastOver()}, one},
		"products that are too large but two ": {[]impl.Rat{one, one, greatest}, []impl.Rat{one, one, greatest}, impl.Rat{}},
	}
	for name, c := range cases {
		got, ok := impl.InnerProduct(c.a, c.b)
		if ok != impl.RatOk(c.want) || !sameRat(got, c.want) {
			t.Errorf("%s: %v, %v", name, got, ok)
		}
		checkVectors(t, c.a, c.b)
	}
}

// TestInnerProductsInRandomOrder meets sums that are too large on the way only.
func TestInnerProductsInRandomOrder(t *testing.T) {
	r := rand.New(rand.NewSource(53))
	refused := 0
	for range 300 {
		a, b := []impl.Rat{}, []impl.Rat{}
		for range 3 {
			x := rat(r.Intn(2) == 0, repeated(natBase-1, 24), []int{1})
			a = append(a, x, impl.RatNeg(x))
			b = append(b, whole(1), whole(1))
		}
		r.Shuffle(len(a), func(i, k int) { a[i], a[k] = a[k], a[i] })
		checkVectors(t, a, b)
		if _, ok := impl.InnerProduct(a, b); !ok {
			refused++
		}
	}
	if refused < 50 || refused > 250 {
		t.Errorf("%d of 300 sums are too large on the way", refused)
	}
}

func TestVectorLaws(t *testing.T) {
	r := rand.New(rand.NewSource(54))
	for range 200 {
		n := r.Intn(6)
		a, b, c := randomVector(r, n, 2), randomVector(r, n, 2), randomVector(r, n, 2)
		factor := randomRat(r, 1, 1)
		sum, _ := impl.AddVectors(a, b)
		back, _ := impl.SubtractVectors(sum, b)
		swapped, _ := impl.AddVectors(b, a)
		multiple, _ := impl.ScaleVector(factor, a)
		whole, _ := impl.InnerProduct(sum, c)
		left, _ := impl.InnerProduct(a, c)
		right, _ := impl.InnerProduct(b, c)
		scaled, _ := impl.InnerProduct(multiple, c)
		if !impl.EqualVectors(back, a) || !impl.EqualVectors(sum, swapped) {
			t.Errorf("sum and difference of %v and %v", a, b)
		}
		if !sameRat(whole, impl.RatAdd(left, right)) || !sameRat(scaled, impl.RatMul(factor, left)) {
			t.Errorf("inner products of %v, %v and %v", a, b, c)
		}
	}
}

func TestEqualVectors(t *testing.T) {
	list := [][]impl.Rat{
		nil, {}, {{}}, {{}, {}}, vectorOf("0"), vectorOf("0 0"), vectorOf("1"), vectorOf("-1"), vectorOf("1 2"), vectorOf("2 1"), vectorOf("1 2 3"), vectorOf("1/2"), vectorOf("1/2 1/3"),
		vectorOf("1/3 1/2"), {rat(false, []int{2}, []int{4})}, {rat(true, nil, []int{1})}, {rat(false, []int{}, []int{1})}, {rat(false, []int{1}, []int{0})}, {rat(false, []int{1, 0}, []int{1})},
		slices.Repeat(vectorOf("5"), 24), slices.Repeat(vectorOf("5"), 25), withElement(slices.Repeat(vectorOf("5"), 25), 24, whole(6)), withElement(slices.Repeat(vectorOf("5"), 25), 0, whole(6)),
		withElement(vectorOf("1 2 3"), 0, impl.Rat{}), withElement(vectorOf("1 2 3"), 1, impl.Rat{}), withElement(vectorOf("1 2 3"), 2, impl.Rat{}), withElement(vectorOf("1 2 3"), 2, whole(4)),
	}
	for i, a := range list {
		for k, b := range list {
			if got := impl.EqualVectors(a, b); got != sameVector(a, b) {
				t.Errorf("EqualVectors of the vectors %d and %d = %v", i, k, got)
			}
		}
		copied := make([]impl.Rat, len(a))
		for m, x := range a {
			copied[m] = rat(x.Num.Neg, slices.Clone(x.Num.Mag), slices.Clone(x.Den))
		}
		if !impl.EqualVectors(a, copied) || !impl.EqualVectors(a, a) {
			t.Errorf("the vector %d does not equal its copy", i)
		}
	}
	for name, bad := range invalidRats() {
		v := withElement(vectorOf("1 2 3"), 1, bad)
		if !impl.EqualVectors(v, slices.Clone(v)) || impl.EqualVectors(v, vectorOf("1 2 3")) || impl.EqualVectors(v, v[:2]) {
			t.Errorf("EqualVectors with %s", name)
		}
	}
}

func TestFormatVector(t *testing.T) {
	for _, text := range []string{"", "0", "1", "-1", "1/2", "-1/2", "1 2 3", "1/2 1 3/2", "0 0", "-1 0 1/1000000001", strings.Repeat("7 ", 23) + "-7/8"} {
		if got := impl.FormatVector(vectorOf(text)); got != text {
			t.Errorf("FormatVector = %q, want %q", got, text)
		}
	}
	nines := strings.Repeat("9", ratDigits)
	if got := impl.FormatVector([]impl.Rat{greatestRat(), leastOver()}); got != nines+" 1/"+nines {
		t.Errorf("FormatVector of the greatest and the least fraction = %q", got)
	}
	if got := impl.FormatVector(slices.Repeat(vectorOf("1"), 25)); got != "" {
		t.Errorf("FormatVector of 25 elements = %q", got)
	}
}

func TestVectorsAreRecoveredFromTheirText(t *testing.T) {
	r := rand.New(rand.NewSource(55))
	for n := range vectorMost + 1 {
		for _, limbs := range []int{1, 2, 24} {
			v := randomVector(r, n, limbs)
			got, ok := impl.ParseVector(impl.FormatVector(v))
			if !ok || !sameVector(got, v) {
				t.Errorf("ParseVector of the text of %v = %v, %v", v, got, ok)
			}
		}
	}
	for _, x := range sampleRats() {
		got, ok := impl.ParseVector(impl.FormatVector([]impl.Rat{x, x}))
		if !ok || !sameVector(got, []impl.Rat{x, x}) {
			t.Errorf("ParseVector of the text of %v twice = %v, %v", x, got, ok)
		}
	}
}

func TestTextsThatAreNoVectors(t *testing.T) {
	nines := strings.Repeat("9", ratDigits)
	bad := []string{
		" ", "  ", " 1", "1 ", "1  2", " 1 2", "1 2 ", "1 2  3", "1   2", "2/4", "1 2/4", "2/4 1", "1/1", "1 1/1", "1/1 2", "1/0", "1/0 1", "0/1", "0/0", "-0", "-0 1", "+1", "01", "1 01", "00",
		"1,2", "1;2", "1\t2", "1\n2", "1 2\n", "\n", "\t", "1\v2", "1\f2", "1\r2", "1 2\r", "1\u00a02", "1 \u00a02", "1_2", "1|2", "1.5", "1 2.0", "1e3", "x", "1 x", "x 1", "1 x 2", "1/", "/2", "/", "1/2/3", "1 /2", "1/ 2",
		"1/-2", "--1", "- 1", "1 -", "-", "\x00", "1\x002", "1 \x00", "1\xff2", "\xff", "\xc2", "1 \xa0", "٣", "1 ٣", "1٣", "１", nines + "9", "1 " + nines + "9", "1/1" + nines, "1/1" + nines + " 1", "1/3 3/3", "6/9", "4/2",
		"[1 2]", "(1)", "1 2]", "\"1\"", "1 2 3 4 5 6 7 8 9 10 11 12 13 14 15 16 17 18 19 20 21 22 23 24 25", strings.Repeat("0 ", 24) + "0", strings.Repeat("1/2 ", 24) + "x",
		strings.Repeat("1 ", 24), " " + strings.TrimSuffix(strings.Repeat("1 ", 24), " "), strings.Repeat(" ", 23), strings.Repeat(" ", 24), strings.Repeat("1 ", 100000) + "1", strings.Repeat("9", 100000), strings.Repeat(" ", 100000),
	}
	for _, s := range bad {
		if v, ok := impl.ParseVector(s); ok || v != nil {
			t.Errorf("ParseVector(%.60q) = %v, %v", s, v, ok)
		}
	}
	for _, text := range []string{strings.Repeat("0 ", 23) + "0", strings.Repeat("-1/2 ", 23) + nines, nines + " -" + nines + "/" + strings.Repeat("9", ratDigits-1) + "8"} {
		if v, ok := impl.ParseVector(text); !ok || impl.FormatVector(v) != text || !sameVector(v, vectorOf(text)) {
			t.Errorf("ParseVector(%q) = %v, %v", text, v, ok)
		}
	}
}

// TestParseVectorTakesTheTextsOfVectorsOnly tries all short texts over an alphabet.
func TestParseVectorTakesTheTextsOfVectorsOnly(t *testing.T) {
	accepted := 0
	for _, s := range textsOver("01 2/-", 6) {
		v, ok := impl.ParseVector(s)
		isText := s == ""
		if fields := strings.Split(s, " "); s != "" {
			isText = !slices.ContainsFunc(fields, func(field string) bool {
				value, fine := new(big.Rat).SetString(field)
				return !fine || strings.TrimSuffix(value.String(), "/1") != field
			})
		}
		if ok != isText || ok && impl.FormatVector(v) != s || !ok && v != nil {
			t.Errorf("ParseVector(%q) = %v, %v", s, v, ok)
		}
		if ok {
			accepted++
		}
	}
	if accepted < 1000 {
		t.Errorf("only %d texts are those of vectors", accepted)
	}
}

// roomyVector is a vector in a memory of its own, with further elements behind it and behind the limbs of its elements.
type roomyVector struct {
	v     []impl.Rat
	given []impl.Rat
	rooms [][2][]int
	whole []impl.Rat
}

func vectorWithRoom(given []impl.Rat) *roomyVector {
	v := &roomyVector{given: slices.Clone(given)}
	for _, x := range append(slices.Clone(given), whole(77), impl.Rat{}, whole(-78)) {
		r, rooms := ratWithRoom(x)
		v.whole = append(v.whole, r)
		v.rooms = append(v.rooms, rooms)
	}
	v.v = v.whole[:len(given)]
	return v
}

// isAsBefore reports whether all of its memory is as vectorWithRoom has made it.
func (v *roomyVector) isAsBefore() bool {
	for i, x := range append(slices.Clone(v.given), whole(77), impl.Rat{}, whole(-78)) {
		if !sameRat(v.whole[i], x) || !isAsBefore(v.rooms[i], x) {
			return false
		}
	}
	return true
}

// overwriteVector fills all lists of limbs of v with numbers of their own and its memory with the zero Rat, and reports whether all lists are apart.
func overwriteVector(v []impl.Rat) bool {
	var lists [][]int
	for _, r := range v {
		lists = append(lists, r.Num.Mag, r.Den)
	}
	kept := overwrite(lists)
	clear(v[:cap(v)])
	return kept == len(lists)
}

func TestVectorArgumentsStayUnchanged(t *testing.T) {
	r := rand.New(rand.NewSource(56))
	list := [][]impl.Rat{nil, vectorOf("1"), vectorOf("0 0"), vectorOf("1 -1 1/2"), vectorOf("0 1 2"), vectorOf("1 1 1"), {{}, {}, {}}, {rat(false, []int{2}, []int{4}), whole(1)}, slices.Repeat(vectorOf("-1/2"), 25)}
	for _, n := range []int{1, 2, 3, 24} {
		list = append(list, randomVector(r, n, 2), randomVector(r, n, 6), randomVector(r, n, 24))
	}
	operations := vectorOperations()
	operations["ScaleVector"] = scaleByFirst
	for _, a := range list {
		for _, b := range list {
			for name, operation := range operations {
				if name == "ScaleVector" && len(a) == 0 {
					continue
				}
				checkApart(t, name, a, b, operation)
			}
		}
	}
}

// checkApart expects that an operation changes neither its arguments nor what is behind them, and that its result is in a memory of its own.
func checkApart(t *testing.T, name string, a []impl.Rat, b []impl.Rat, operation func(a []impl.Rat, b []impl.Rat) ([]impl.Rat, bool)) {
	t.Helper()
	first, second := vectorWithRoom(a), vectorWithRoom(b)
	result, _ := operation(first.v, second.v)
	same, _ := operation(first.v, first.v)
	impl.EqualVectors(first.v, second.v)
	impl.IsVector(first.v)
	impl.FormatVector(first.v)
	if !first.isAsBefore() || !second.isAsBefore() {
		t.Fatalf("%s(%v, %v) changes an argument or what is behind it", name, a, b)
	}
	if !overwriteVector(result) || !overwriteVector(same) {
		t.Fatalf("two elements of the result of %s(%v, %v) share memory", name, a, b)
	}
	if !first.isAsBefore() || !second.isAsBefore() {
		t.Fatalf("the result of %s(%v, %v) shares memory with an argument", name, a, b)
	}
}

// TestVectorsOfOneElementInOneMemory gives vectors whose elements all have the same limbs.
func TestVectorsOfOneElementInOneMemory(t *testing.T) {
	for _, x := range []impl.Rat{whole(1), whole(-1), whole(0), quotientOf(1, 2), quotientOf(-3, 5), rat(false, power(5), oddPower(5))} {
		r, rooms := ratWithRoom(x)
		v := slices.Repeat([]impl.Rat{r}, 5)
		for _, other := range [][]impl.Rat{v, vectorOf("0 0 0 0 0"), vectorOf("1 1 1 1 1"), vectorOf("1/7 -1 0 3 5")} {
			sum, _ := impl.AddVectors(v, other)
			difference, _ := impl.SubtractVectors(other, v)
			multiple, _ := impl.ScaleVector(r, other)
			inner, _ := impl.InnerProduct(v, other)
			all := slices.Concat(sum, difference, multiple, []impl.Rat{inner})
			if len(all) != 16 || !overwriteVector(all) || !isAsBefore(rooms, x) {
				t.Errorf("results for %v and %v share memory", x, other)
			}
		}
	}
}

func TestVectorResultsAreNewEachTime(t *testing.T) {
	makers := map[string]func() []impl.Rat{
		"ZeroVector":  func() []impl.Rat { return impl.ZeroVector(5) },
		"UnitVector":  func() []impl.Rat { return impl.UnitVector(5, 2) },
		"ParseVector": func() []impl.Rat { v, _ := impl.ParseVector("1 0 -1/2 1 0"); return v },
	}
	for name, maker := range makers {
		want := impl.FormatVector(maker())
		if first := maker(); len(first) != 5 || !overwriteVector(first) {
			t.Errorf("two elements of a result of %s share memory", name)
		}
		if got := maker(); impl.FormatVector(got) != want {
			t.Errorf("%s after a change of an earlier result: %v", name, got)
		}
	}
}
