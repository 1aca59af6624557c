package tests

import (
	"fmt"
	"math"
	"math/big"
	"math/rand"
	"slices"
	"testing"

	"loop.example/g00822/impl"
)

// isSymmetricModel is a model of IsSymmetric for valid matrices.
func isSymmetricModel(m impl.Matrix) bool {
	return sameMatrix(m, transposeModel(m))
}

// factorModel is a model of Factor for symmetric matrices; it fails where a d is not positive or a number is too large.
func factorModel(m impl.Matrix) (impl.Matrix, []impl.Rat, bool) {
	lower, d, reason := factorWithin(m, fits)
	if reason != "" {
		return impl.Matrix{}, nil, false
	}
	return matrixOfBigs(lower), vectorOfBigs(d), true
}

// factorWithin computes factors as long as its numbers are within a limit. It names the first thing that prevents them.
func factorWithin(m impl.Matrix, isWithin func(list ...*big.Rat) bool) ([][]*big.Rat, []*big.Rat, string) {
	rows, lower, d := bigRows(m), bigRows(unitMatrix(m.Rows)), []*big.Rat{}
	for k := range m.Rows {
		for i := k; i < m.Rows; i++ {
			rest := new(big.Rat).Set(rows[i][k])
			for j := range k {
				square := new(big.Rat).Mul(lower[i][j], lower[k][j])
				product := new(big.Rat).Mul(square, d[j])
				rest.Sub(rest, product)
				switch {
				case !isWithin(square):
					return nil, nil, "square"
				case !isWithin(product):
					return nil, nil, "product"
				case !isWithin(rest):
					return nil, nil, "difference"
				}
			}
			if i == k {
				if rest.Sign() <= 0 {
					return nil, nil, "d"
				}
				d = append(d, rest)
				continue
			}
			lower[i][k] = new(big.Rat).Quo(rest, d[k])
			if !isWithin(lower[i][k]) {
				return nil, nil, "quotient"
			}
		}
	}
	return lower, d, ""
}

// matrixOfBigs returns the square matrix with these rows; too large elements are the zero Rat.
func matrixOfBigs(rows [][]*big.Rat) impl.Matrix {
	return impl.Matrix{Rows: len(rows), Cols: len(rows), Cells: vectorOfBigs(slices.Concat(rows...))}
}

func vectorOfBigs(list []*big.Rat) []impl.Rat {
	v := []impl.Rat{}
	for _, x := range list {
		v = append(v, ratOfBig(x))
	}
	return v
}

// composed returns the product of lower, the diagonal matrix with d, and the transpose of lower, without a limit.
func composed(lower impl.Matrix, d []impl.Rat) [][]*big.Rat {
	rows := bigRows(lower)
	product := [][]*big.Rat{}
	for i := range rows {
		multiples := []*big.Rat{}
		for j, x := range bigsOf(d) {
			multiples = append(multiples, x.Mul(x, rows[i][j]))
		}
		list := []*big.Rat{}
		for k := range rows {
			list = append(list, sumOfProducts(multiples, rows[k]))
		}
		product = append(product, list)
	}
	return product
}

// quadraticModel is a model of QuadraticForm for valid arguments.
func quadraticModel(m impl.Matrix, v []impl.Rat) (impl.Rat, bool) {
	if m.Rows != m.Cols || len(v) != m.Cols {
		return impl.Rat{}, false
	}
	image, ok := applyModel(m, v)
	if !ok {
		return impl.Rat{}, false
	}
	return innerModel(v, image)
}

// diagonalModel is a model of DiagonalOf for valid square matrices.
func diagonalModel(m impl.Matrix) []impl.Rat {
	list := []impl.Rat{}
	for i := range m.Rows {
		list = append(list, m.Cells[i*m.Cols+i])
	}
	return list
}

// traceModel is a model of TraceOf for valid matrices.
func traceModel(m impl.Matrix) (impl.Rat, bool) {
	if m.Rows != m.Cols {
		return impl.Rat{}, false
	}
	return innerModel(diagonalModel(m), slices.Repeat([]impl.Rat{whole(1)}, m.Rows))
}

// submatrixModel is a model of Submatrix for valid matrices.
func submatrixModel(m impl.Matrix, list []int) (impl.Matrix, bool) {
	for place, i := range list {
		if i < 0 || i >= m.Rows || place > 0 && list[place-1] >= i {
			return impl.Matrix{}, false
		}
	}
	part := impl.Matrix{Rows: len(list), Cols: len(list)}
	for place := range len(list) * len(list) {
		part.Cells = append(part.Cells, m.Cells[list[place/len(list)]*m.Cols+list[place%len(list)]])
	}
	return part, m.Rows == m.Cols
}

// checkSymmetric compares the functions of a valid matrix with their models, and its factors with the matrix.
func checkSymmetric(t *testing.T, m impl.Matrix) {
	t.Helper()
	lower, d, ok := impl.Factor(m)
	want, numbers, fine := impl.Matrix{}, []impl.Rat(nil), false
	if isSymmetricModel(m) {
		want, numbers, fine = factorModel(m)
	}
	if ok != fine || !sameMatrix(lower, want) || !sameVector(d, numbers) || !ok && d != nil {
		t.Errorf("Factor(%v) = %v, %v, %v, want %v, %v, %v", m, lower, d, ok, want, numbers, fine)
	}
	if impl.IsPositive(m) != fine || impl.IsSymmetric(m) != isSymmetricModel(m) {
		t.Errorf("%v: IsPositive %v, want %v, IsSymmetric %v", m, impl.IsPositive(m), fine, impl.IsSymmetric(m))
	}
	if ok {
		checkFactors(t, m, lower, d)
	}
	r, ok := impl.TraceOf(m)
	if want, fine := traceModel(m); ok != fine || !sameRat(r, want) {
		t.Errorf("TraceOf(%v) = %v, %v, want %v, %v", m, r, ok, want, fine)
	}
	list := impl.DiagonalOf(m)
	if m.Rows == m.Cols && !sameVector(list, diagonalModel(m)) || m.Rows != m.Cols && list != nil {
		t.Errorf("DiagonalOf(%v) = %v", m, list)
	}
}

// checkFactors checks factors without a model: they have to be of their form, and m is their product.
func checkFactors(t *testing.T, m impl.Matrix, lower impl.Matrix, d []impl.Rat) {
	t.Helper()
	isForm := impl.MatrixOk(lower) && lower.Rows == m.Rows && lower.Cols == m.Rows && impl.IsVector(d) && len(d) == m.Rows
	for i := 0; isForm && i < m.Rows; i++ {
		isForm = impl.RatSign(d[i]) > 0 && sameRat(lower.Cells[i*m.Cols+i], whole(1)) && sameVector(rowModel(lower, i)[i+1:], slices.Repeat([]impl.Rat{whole(0)}, m.Rows-1-i))
	}
	if !isForm || !sameMatrix(matrixOfBigs(composed(lower, d)), m) {
		t.Errorf("Factor(%v) = %v, %v", m, lower, d)
	}
}

// checkForm compares QuadraticForm of valid arguments with its model.
func checkForm(t *testing.T, m impl.Matrix, v []impl.Rat) {
	t.Helper()
	r, ok := impl.QuadraticForm(m, v)
	if want, fine := quadraticModel(m, v); ok != fine || !sameRat(r, want) {
		t.Errorf("QuadraticForm(%v, %v) = %v, %v, want %v, %v", m, v, r, ok, want, fine)
	}
}

// checkPart compares Submatrix of a valid matrix with its model.
func checkPart(t *testing.T, m impl.Matrix, list []int) {
	t.Helper()
	part, ok := impl.Submatrix(m, list)
	want, fine := submatrixModel(m, list)
	if !fine {
		want = impl.Matrix{}
	}
	if ok != fine || !sameMatrix(part, want) {
		t.Errorf("Submatrix of %s with %v = %v, %v, want %v, %v", sizeOf(m), list, part, ok, want, fine)
	}
}

// checkNoFactor expects that a matrix has no factors.
func checkNoFactor(t *testing.T, name string, m impl.Matrix) {
	t.Helper()
	lower, d, ok := impl.Factor(m)
	if ok || !isZeroMatrix(lower) || d != nil || impl.IsPositive(m) {
		t.Errorf("%s: Factor(%v) = %v, %v, %v, IsPositive %v", name, m, lower, d, ok, impl.IsPositive(m))
	}
}

// checkNoSquare expects that no function has a result for a matrix, because it is not valid or its rows and columns differ.
func checkNoSquare(t *testing.T, name string, m impl.Matrix) {
	t.Helper()
	checkNoFactor(t, name, m)
	r, ok := impl.TraceOf(m)
	list := impl.DiagonalOf(m)
	if ok || !isZeroRat(r) || list != nil || impl.IsSymmetric(m) {
		t.Errorf("%s: TraceOf %v, %v, DiagonalOf %v, IsSymmetric %v", name, r, ok, list, impl.IsSymmetric(m))
	}
	for _, n := range []int{0, 1, 2, 3, 24, 25, m.Rows, m.Cols, len(m.Cells)} {
		if n < 0 || n > 1000 {
			continue
		}
		for _, x := range []impl.Rat{whole(0), whole(1)} {
			if r, ok := impl.QuadraticForm(m, slices.Repeat([]impl.Rat{x}, n)); ok || !isZeroRat(r) {
				t.Errorf("%s: QuadraticForm with %d times %v = %v, %v", name, n, x, r, ok)
			}
		}
	}
	for _, list := range [][]int{nil, {}, {0}, {1}, {0, 1}, {m.Rows - 1}, {m.Rows}, {-1}, {m.Cols - 1}, upTo(24)} {
		if part, ok := impl.Submatrix(m, list); ok || !isZeroMatrix(part) {
			t.Errorf("%s: Submatrix with %v = %v, %v", name, list, part, ok)
		}
	}
}

// upTo returns the numbers from 0 up to n.
func upTo(n int) []int {
	list := []int{}
	for i := range n {
		list = append(list, i)
	}
	return list
}

// symmetricOf returns the symmetric matrix with this lower triangle, row by row.
func symmetricOf(list ...impl.Rat) impl.Matrix {
	n := 0
	for n*(n+1)/2 < len(list) {
		n++
	}
	m := filled(n, n, whole(0))
	for i := range n {
		for k := range i + 1 {
			r := list[i*(i+1)/2+k]
			m.Cells[i*n+k], m.Cells[k*n+i] = r, r
		}
	}
	return m
}

// tens returns the power of 10 with this exponent, which may be negative, and threes that of 3.
func tens(exponent int) *big.Rat {
	return powerOf(10, exponent)
}

func threes(exponent int) *big.Rat {
	return powerOf(3, exponent)
}

func powerOf(base int64, exponent int) *big.Rat {
	x := new(big.Rat).SetInt(new(big.Int).Exp(big.NewInt(base), big.NewInt(max(int64(exponent), -int64(exponent))), nil))
	if exponent < 0 {
		x.Inv(x)
	}
	return x
}

func plusBig(x *big.Rat, y *big.Rat) *big.Rat {
	return new(big.Rat).Add(x, y)
}

func timesBig(x *big.Rat, y *big.Rat) *big.Rat {
	return new(big.Rat).Mul(x, y)
}

func TestFactorExamples(t *testing.T) {
	cases := []struct {
		n               int
		m, lower, d     string
		trace, diagonal string
	}{
		{0, "", "", "", "0", ""}, {1, "5", "1", "5", "5", "5"}, {1, "2/3", "1", "2/3", "2/3", "2/3"}, {2, "4 2 2 3", "1 0 1/2 1", "4 2", "7", "4 3"}, {2, "1 0 0 1", "1 0 0 1", "1 1", "2", "1 1"}, {2, "2 -1 -1 2", "1 0 -1/2 1", "2 3/2", "4", "2 2"},
		{2, "1/2 1/3 1/3 1/4", "1 0 2/3 1", "1/2 1/36", "3/4", "1/2 1/4"}, {3, "2 -1 0 -1 2 -1 0 -1 2", "1 0 0 -1/2 1 0 0 -2/3 1", "2 3/2 4/3", "6", "2 2 2"}, {3, "1 1 1 1 2 2 1 2 3", "1 0 0 1 1 0 1 1 1", "1 1 1", "6", "1 2 3"},
		{3, "1 1/2 1/3 1/2 1/3 1/4 1/3 1/4 1/5", "1 0 0 1/2 1 0 1/3 1 1", "1 1/12 1/180", "23/15", "1 1/3 1/5"}, {3, "4 12 -16 12 37 -43 -16 -43 98", "1 0 0 3 1 0 -4 5 1", "4 1 9", "139", "4 37 98"},
		{3, "1 2 3 2 5 6 3 6 10", "1 0 0 2 1 0 3 0 1", "1 1 1", "16", "1 5 10"}, {4, "1 0 0 1 0 2 0 1 0 0 3 1 1 1 1 4", "1 0 0 0 0 1 0 0 0 0 1 0 1 1/2 1/3 1", "1 2 3 13/6", "10", "1 2 3 4"},
	}
	for _, c := range cases {
		m := matrixOf(c.n, c.n, c.m)
		lower, d, ok := impl.Factor(m)
		if !ok || !sameMatrix(lower, matrixOf(c.n, c.n, c.lower)) || !sameVector(d, vectorOf(c.d)) || !impl.IsPositive(m) || !impl.IsSymmetric(m) {
			t.Errorf("Factor(%s) = %v, %v, %v, IsPositive %v, IsSymmetric %v", c.m, lower, d, ok, impl.IsPositive(m), impl.IsSymmetric(m))
		}
		r, ok := impl.TraceOf(m)
		if !ok || !sameRat(r, vectorOf(c.trace)[0]) || !sameVector(impl.DiagonalOf(m), vectorOf(c.diagonal)) {
			t.Errorf("%s: TraceOf %v, %v, DiagonalOf %v", c.m, r, ok, impl.DiagonalOf(m))
		}
		product, one := impl.Multiply(lower, diagonal(d...))
		again, two := impl.Multiply(product, impl.Transpose(lower))
		if !one || !two || !sameMatrix(again, m) {
			t.Errorf("the factors of %s have the product %v, %v, %v", c.m, again, one, two)
		}
		checkSymmetric(t, m)
	}
}

func TestFormAndPartExamples(t *testing.T) {
	forms := []struct {
		n          int
		m, v, want string
	}{
		{0, "", "", "0"}, {1, "5", "3", "45"}, {1, "-2/3", "1/2", "-1/6"}, {1, "0", "7", "0"}, {2, "4 2 2 3", "1 -1", "3"}, {2, "4 2 2 3", "0 0", "0"}, {2, "1 2 2 1", "1 -1", "-2"}, {2, "1 1 1 1", "1 -1", "0"},
		{2, "0 1 0 0", "2 3", "6"}, {2, "0 0 1 0", "2 3", "6"}, {2, "0 5 -5 0", "2 3", "0"}, {2, "1 2 3 4", "1/2 1/3", "55/36"}, {3, "1 2 3 4 5 6 7 8 9", "1 0 -1", "0"}, {3, "2 -1 0 -1 2 -1 0 -1 2", "1 2 1", "4"}, {3, "0 0 7 0 0 0 0 0 0", "1/7 5 2", "2"},
	}
	for _, c := range forms {
		m := matrixOf(c.n, c.n, c.m)
		r, ok := impl.QuadraticForm(m, vectorOf(c.v))
		if !ok || !sameRat(r, vectorOf(c.want)[0]) {
			t.Errorf("QuadraticForm(%s, %s) = %v, %v", c.m, c.v, r, ok)
		}
		checkForm(t, m, vectorOf(c.v))
	}
	numbers := matrixOf(4, 4, "11 12 13 14 21 22 23 24 31 32 33 34 41 42 43 44")
	parts := []struct {
		list []int
		want string
		ok   bool
	}{
		{nil, "", true}, {[]int{}, "", true}, {[]int{0}, "11", true}, {[]int{3}, "44", true}, {[]int{0, 1, 2, 3}, "11 12 13 14 21 22 23 24 31 32 33 34 41 42 43 44", true}, {[]int{1, 3}, "22 24 42 44", true}, {[]int{0, 3}, "11 14 41 44", true}, {[]int{0, 1, 3}, "11 12 14 21 22 24 41 42 44", true},
		{[]int{1, 1}, "", false}, {[]int{0, 0, 1}, "", false}, {[]int{0, 2, 2}, "", false}, {[]int{3, 3}, "", false}, {[]int{1, 0}, "", false}, {[]int{3, 2, 1, 0}, "", false}, {[]int{0, 2, 1}, "", false}, {[]int{1, 0, 2}, "", false}, {[]int{-1}, "", false}, {[]int{-1, 0}, "", false}, {[]int{-1, 0, 1, 2}, "", false},
		{[]int{4}, "", false}, {[]int{0, 4}, "", false}, {[]int{0, 1, 2, 3, 4}, "", false}, {[]int{5}, "", false}, {[]int{math.MinInt64}, "", false}, {[]int{math.MaxInt64}, "", false}, {[]int{math.MinInt64, 0}, "", false}, {[]int{0, math.MaxInt64}, "", false}, {[]int{0, -1}, "", false}, {[]int{2, -2}, "", false},
	}
	for _, c := range parts {
		part, ok := impl.Submatrix(numbers, c.list)
		want := impl.Matrix{}
		if c.ok {
			want = matrixOf(len(c.list), len(c.list), c.want)
		}
		if ok != c.ok || !sameMatrix(part, want) {
			t.Errorf("Submatrix with %v = %v, %v", c.list, part, ok)
		}
		checkPart(t, numbers, c.list)
	}
}

// TestSymmetricWithoutElements has the matrix with 0 rows and 0 columns, and those with 0 of only one of them.
func TestSymmetricWithoutElements(t *testing.T) {
	for _, m := range emptyMatrices() {
		if m.Rows != m.Cols {
			checkNoSquare(t, sizeOf(m), m)
			continue
		}
		lower, d, ok := impl.Factor(m)
		r, fine := impl.TraceOf(m)
		if !ok || !fine || !isZeroMatrix(lower) || len(d) != 0 || !sameRat(r, whole(0)) || len(impl.DiagonalOf(m)) != 0 || !impl.IsSymmetric(m) || !impl.IsPositive(m) {
			t.Errorf("without elements: Factor %v, %v, %v, TraceOf %v, %v, DiagonalOf %v, IsSymmetric %v, IsPositive %v", lower, d, ok, r, fine, impl.DiagonalOf(m), impl.IsSymmetric(m), impl.IsPositive(m))
		}
		for n := range 27 {
			r, ok := impl.QuadraticForm(m, slices.Repeat([]impl.Rat{whole(1)}, n))
			if ok != (n == 0) || ok && !sameRat(r, whole(0)) || !ok && !isZeroRat(r) {
				t.Errorf("without elements: QuadraticForm with %d elements = %v, %v", n, r, ok)
			}
		}
		if r, ok := impl.QuadraticForm(m, nil); !ok || !sameRat(r, whole(0)) {
			t.Errorf("without elements: QuadraticForm with nil = %v, %v", r, ok)
		}
		for _, list := range [][]int{nil, {}, {0}, {-1}, {1}, {0, 0}, {0, 1}, {math.MinInt64}, {math.MaxInt64}} {
			part, ok := impl.Submatrix(m, list)
			if ok != (len(list) == 0) || !isZeroMatrix(part) {
				t.Errorf("without elements: Submatrix with %v = %v, %v", list, part, ok)
			}
		}
	}
}

func TestSymmetricWithOneElement(t *testing.T) {
	for _, x := range sampleRats() {
		m := impl.Matrix{Rows: 1, Cols: 1, Cells: []impl.Rat{x}}
		lower, d, ok := impl.Factor(m)
		isPositive := bigOfRat(x).Sign() > 0
		if ok != isPositive || impl.IsPositive(m) != isPositive || !impl.IsSymmetric(m) || ok && (!sameMatrix(lower, unitMatrix(1)) || !sameVector(d, []impl.Rat{x})) || !ok && (!isZeroMatrix(lower) || d != nil) {
			t.Errorf("%v: Factor %v, %v, %v, IsPositive %v, IsSymmetric %v", x, lower, d, ok, impl.IsPositive(m), impl.IsSymmetric(m))
		}
		r, ok := impl.TraceOf(m)
		part, fine := impl.Submatrix(m, []int{0})
		if !ok || !fine || !sameRat(r, x) || !sameMatrix(part, m) || !sameVector(impl.DiagonalOf(m), []impl.Rat{x}) {
			t.Errorf("%v: TraceOf %v, %v, Submatrix %v, %v, DiagonalOf %v", x, r, ok, part, fine, impl.DiagonalOf(m))
		}
		for _, list := range [][]int{nil, {1}, {-1}, {0, 0}, {0, 1}, {-1, 0}} {
			checkPart(t, m, list)
		}
		checkSymmetric(t, m)
		for _, y := range sampleRats() {
			checkForm(t, m, []impl.Rat{y})
		}
	}
}

// TestMatricesThatAreNotPositive has symmetric matrices whose first d that is not positive is at each column.
func TestMatricesThatAreNotPositive(t *testing.T) {
	r := rand.New(rand.NewSource(81))
	for n := 1; n <= 6; n++ {
		for column := range n {
			for _, bad := range []impl.Rat{whole(0), whole(-1), whole(-7), quotientOf(-1, 1000), rat(true, []int{1}, power(5))} {
				d := slices.Repeat([]impl.Rat{quotientOf(1+r.Intn(5), 1+r.Intn(3))}, n)
				d[column] = bad
				checkNoFactor(t, "a diagonal matrix", diagonal(d...))
				m := matrixOfBigs(composed(randomLower(r, n), d))
				checkNoFactor(t, fmt.Sprintf("the d at %d of %d is %v", column, n, bad), m)
				checkSymmetric(t, m)
				// The columns before this one belong to a positive definite matrix, those with it to none.
				first, ok := impl.Submatrix(m, upTo(column))
				more, fine := impl.Submatrix(m, upTo(column+1))
				if !ok || !fine || !impl.IsPositive(first) || impl.IsPositive(more) {
					t.Errorf("the d at %d of %d is %v: IsPositive %v, %v", column, n, bad, impl.IsPositive(first), impl.IsPositive(more))
				}
			}
		}
	}
	cases := map[string]impl.Matrix{
		"a zero at first": matrixOf(2, 2, "0 0 0 1"), "a zero with others beside it": matrixOf(2, 2, "0 1 1 0"), "a zero at last": matrixOf(2, 2, "1 0 0 0"), "equal elements": matrixOf(2, 2, "1 1 1 1"), "a greater one beside the diagonal": matrixOf(2, 2, "1 2 2 1"), "a negative one at last": matrixOf(2, 2, "1 0 0 -1"),
		"semidefinite of the rank 1": matrixOf(2, 2, "1 2 2 4"), "semidefinite of the rank 2": matrixOf(3, 3, "2 -1 -1 -1 2 -1 -1 -1 2"), "semidefinite with a zero in the middle": matrixOf(3, 3, "1 1 0 1 1 0 0 0 1"), "semidefinite, equal elements": filled(4, 4, whole(3)), "zero": filled(3, 3, whole(0)), "one zero": matrixOf(1, 1, "0"), "one negative": matrixOf(1, 1, "-1/2"),
		"a zero in the middle, but the determinant is not 0": matrixOf(3, 3, "1 1 1 1 1 2 1 2 3"), "two negative ones, so that the determinant is positive": matrixOf(2, 2, "-1 0 0 -1"), "two negative ones at last": matrixOf(3, 3, "1 0 0 0 -1 0 0 0 -1"), "a middle one": matrixOf(3, 3, "1 2 0 2 1 0 0 0 1"), "the last one": matrixOf(3, 3, "1 0 1 0 1 1 1 1 2"),
	}
	for name, m := range cases {
		checkNoFactor(t, name, m)
		checkSymmetric(t, m)
		if !impl.IsSymmetric(m) {
			t.Errorf("%s: IsSymmetric = false", name)
		}
	}
	if r, ok := impl.QuadraticForm(cases["semidefinite of the rank 2"], vectorOf("5 5 5")); !ok || !sameRat(r, whole(0)) {
		t.Errorf("QuadraticForm of a semidefinite matrix = %v, %v", r, ok)
	}
}

// randomLower returns a lower triangular matrix with ones in its diagonal and small fractions, which may be 0, below.
func randomLower(r *rand.Rand, n int) impl.Matrix {
	lower := unitMatrix(n)
	for i := range n {
		for k := range i {
			lower.Cells[i*n+k] = quotientOf(r.Intn(7)-3, 1+r.Intn(4))
		}
	}
	return lower
}

// TestFactorsAreRecovered multiplies factors whose elements are fractions: Factor finds them again.
func TestFactorsAreRecovered(t *testing.T) {
	r := rand.New(rand.NewSource(82))
	for range 400 {
		n := r.Intn(8)
		lower, d := randomLower(r, n), []impl.Rat{}
		for range n {
			d = append(d, quotientOf(1+r.Intn(9), 1+r.Intn(9)))
		}
		m := matrixOfBigs(composed(lower, d))
		gotLower, gotD, ok := impl.Factor(m)
		if !ok || !sameMatrix(gotLower, lower) || !sameVector(gotD, d) || !impl.IsPositive(m) || !impl.IsSymmetric(m) {
			t.Errorf("Factor(%v) = %v, %v, %v, want %v, %v", m, gotLower, gotD, ok, lower, d)
		}
		determinant, ok := impl.Determinant(m)
		product := big.NewRat(1, 1)
		for _, x := range bigsOf(d) {
			product.Mul(product, x)
		}
		if !ok || !sameRat(determinant, ratOfBig(product)) {
			t.Errorf("Determinant(%v) = %v, %v, want the product of %v", m, determinant, ok, d)
		}
		checkSymmetric(t, m)
	}
}

// TestAllSmallSymmetricMatrices compares positive definite matrices with those whose leading minors are all positive.
func TestAllSmallSymmetricMatrices(t *testing.T) {
	for _, c := range []struct{ n, least, most int }{{1, -3, 3}, {2, -3, 4}, {3, -1, 2}} {
		for triangle := range smallVectors(c.n*(c.n+1)/2, c.least, c.most) {
			m := symmetricOf(triangle...)
			isPositive := true
			for size := range c.n + 1 {
				minor, _ := submatrixModel(m, upTo(size))
				isPositive = isPositive && expanded(bigRows(minor)).Sign() > 0
			}
			if impl.IsPositive(m) != isPositive {
				t.Errorf("IsPositive(%v) = %v", m, !isPositive)
			}
			checkSymmetric(t, m)
			for _, v := range []string{"1 0 0", "1 -1 0", "-1 1 2", "1/2 -1/3 1"} {
				r, ok := impl.QuadraticForm(m, vectorOf(v)[:c.n])
				if !ok || isPositive && impl.RatSign(r) <= 0 {
					t.Errorf("QuadraticForm(%v, %s) = %v, %v", m, v, r, ok)
				}
				checkForm(t, m, vectorOf(v)[:c.n])
			}
		}
	}
}

// TestMatricesThatDifferFromTheirTranspose changes one element at each place in turn.
func TestMatricesThatDifferFromTheirTranspose(t *testing.T) {
	r := rand.New(rand.NewSource(83))
	for _, n := range []int{2, 3, 5, 23, 24} {
		good := diagonal(slices.Repeat([]impl.Rat{whole(99)}, n)...)
		for i := range n {
			for k := range i {
				x := quotientOf(1+r.Intn(9), 1+r.Intn(5))
				good.Cells[i*n+k], good.Cells[k*n+i] = x, x
			}
		}
		if !impl.IsSymmetric(good) || n < 6 && !impl.IsPositive(good) {
			t.Errorf("%v: IsSymmetric %v, IsPositive %v", good, impl.IsSymmetric(good), impl.IsPositive(good))
		}
		for i := range n {
			for k := range n {
				x := good.Cells[i*n+k]
				for _, other := range []impl.Rat{impl.RatNeg(x), impl.RatAdd(x, quotientOf(1, 7)), rat(false, x.Num.Mag, []int{9901}), whole(0)} {
					m := withCell(good, i, k, other)
					if impl.IsSymmetric(m) != (i == k) {
						t.Errorf("%d rows with %v instead of %v at %d, %d: IsSymmetric %v", n, other, x, i, k, i != k)
					}
					if i == k {
						continue
					}
					if n < 6 || i+k == n/2 {
						checkNoFactor(t, "not symmetric", m)
					}
					if d, ok := impl.TraceOf(m); !ok || !sameRat(d, whole(99*n)) || !sameVector(impl.DiagonalOf(m), slices.Repeat([]impl.Rat{whole(99)}, n)) {
						t.Errorf("TraceOf a matrix that is not symmetric = %v, %v, DiagonalOf %v", d, ok, impl.DiagonalOf(m))
					}
					if n < 6 {
						checkForm(t, m, slices.Repeat([]impl.Rat{quotientOf(-1, 2)}, n))
						checkPart(t, m, upTo(n))
					}
				}
			}
		}
	}
	for _, m := range []impl.Matrix{matrixOf(2, 2, "1 2 3 1"), matrixOf(2, 2, "4 1 0 3"), matrixOf(2, 2, "4 0 1 3"), matrixOf(3, 3, "1 2 3 4 5 6 7 8 9"), matrixOf(3, 3, "9 0 0 0 9 1/2 0 -1/2 9"), matrixOf(2, 2, "1 2 -2 9")} {
		if impl.IsSymmetric(m) {
			t.Errorf("IsSymmetric(%v) = true", m)
		}
		checkNoFactor(t, "not symmetric", m)
		checkSymmetric(t, m)
	}
}

func TestSymmetricOfDifferentRowsAndColumns(t *testing.T) {
	for rows := range matrixMost + 1 {
		for cols := range matrixMost + 1 {
			if rows != cols {
				checkNoSquare(t, "rows and columns differ", filled(rows, cols, whole(0)))
				checkNoSquare(t, "rows and columns differ", filled(rows, cols, whole(1)))
			}
		}
	}
	for _, m := range []impl.Matrix{matrixOf(1, 2, "1 0"), matrixOf(2, 1, "1 0"), matrixOf(2, 3, "4 2 0 2 3 0"), matrixOf(3, 2, "4 2 2 3 0 0"), matrixOf(1, 4, "4 2 2 3"), matrixOf(4, 1, "4 2 2 3")} {
		checkNoSquare(t, sizeOf(m), m)
		checkSymmetric(t, m)
	}
}

// TestSymmetricOfGreatestMatrices has exactly MaxLength rows and columns, and one more.
func TestSymmetricOfGreatestMatrices(t *testing.T) {
	r := rand.New(rand.NewSource(84))
	steps := filled(24, 24, whole(0))
	for i := range 24 {
		steps.Cells[i*24+i] = whole(2)
		if i > 0 {
			steps.Cells[i*24+i-1], steps.Cells[i*24-24+i] = whole(-1), whole(-1)
		}
	}
	lower, d, ok := impl.Factor(steps)
	if !ok || !sameRat(d[23], quotientOf(25, 24)) || !sameRat(lower.Cells[575], whole(1)) || !sameRat(lower.Cells[574], quotientOf(-23, 24)) {
		t.Errorf("Factor of 24 rows = %v, %v, %v", lower, d, ok)
	}
	even := evenMatrix(r, 24)
	square, _ := multiplyModel(even, transposeModel(even))
	for _, m := range []impl.Matrix{steps, unitMatrix(24), square, filled(24, 24, quotientOf(-2, 3)), smallMatrix(r, 24, 24, 9), filled(24, 24, greatestRat()), withCell(steps, 23, 23, whole(0))} {
		checkSymmetric(t, m)
		checkForm(t, m, slices.Repeat([]impl.Rat{quotientOf(1, 2)}, 24))
		checkForm(t, m, randomVector(r, 24, 1))
		for _, list := range [][]int{nil, upTo(24), upTo(23), upTo(25), upTo(24)[1:], {0, 23}, {23}, {24}, {22, 23}, {23, 22}, {-1, 23}, {23, 23}, {0, 2, 4, 6, 8, 10, 12, 14, 16, 18, 20, 22}, append(upTo(24), 23), append(upTo(24), 24), append([]int{-1}, upTo(24)...)} {
			checkPart(t, m, list)
		}
	}
	if !impl.IsPositive(square) || !impl.IsPositive(steps) || impl.IsPositive(withCell(steps, 23, 23, whole(0))) {
		t.Errorf("IsPositive of 24 rows: %v, %v, %v", impl.IsPositive(square), impl.IsPositive(steps), impl.IsPositive(withCell(steps, 23, 23, whole(0))))
	}
	if part, ok := impl.Submatrix(steps, upTo(24)); !ok || !sameMatrix(part, steps) {
		t.Errorf("Submatrix with all of 24 indices = %v, %v", part, ok)
	}
	for _, size := range [][2]int{{25, 25}, {25, 24}, {24, 25}, {26, 26}, {0, 25}, {25, 0}} {
		checkNoSquare(t, "one too many", filled(size[0], size[1], whole(1)))
	}
	checkNoSquare(t, "the identity of 25 rows", unitMatrix(25))
}

func TestSymmetricOfAllSizes(t *testing.T) {
	r := rand.New(rand.NewSource(85))
	for n := range 8 {
		for _, limbs := range []int{1, 2, 6, 24} {
			m := randomMatrix(r, n, n, limbs)
			checkSymmetric(t, m)
			for length := range 10 {
				checkForm(t, m, randomVector(r, length, limbs))
			}
			list := []impl.Rat{}
			for i := range n {
				list = append(list, randomVector(r, i, 1)...)
				list = append(list, whole(1000*natBase))
			}
			checkSymmetric(t, symmetricOf(list...))
		}
	}
}

// TestFormsWithVectorsThatDoNotFit has one element too few, one too many, none, and elements that are not valid.
func TestFormsWithVectorsThatDoNotFit(t *testing.T) {
	for n := range matrixMost + 1 {
		m := unitMatrix(n)
		for length := range 27 {
			r, ok := impl.QuadraticForm(m, slices.Repeat([]impl.Rat{quotientOf(1, 2)}, length))
			if ok != (length == n) || ok && !sameRat(r, quotientOf(n, 4)) || !ok && !isZeroRat(r) {
				t.Errorf("QuadraticForm of %d rows with %d elements = %v, %v", n, length, r, ok)
			}
		}
		if r, ok := impl.QuadraticForm(m, nil); ok != (n == 0) || !ok && !isZeroRat(r) {
			t.Errorf("QuadraticForm of %d rows with nil = %v, %v", n, r, ok)
		}
	}
	for name, bad := range invalidRats() {
		for _, n := range []int{1, 2, 3} {
			for place := range n {
				for _, m := range []impl.Matrix{unitMatrix(n), filled(n, n, whole(0))} {
					v := withElement(slices.Repeat([]impl.Rat{whole(1)}, n), place, bad)
					if r, ok := impl.QuadraticForm(m, v); ok || !isZeroRat(r) {
						t.Errorf("QuadraticForm of %d rows with %s at %d = %v, %v", n, name, place, r, ok)
					}
				}
			}
		}
		if r, ok := impl.QuadraticForm(impl.Matrix{}, []impl.Rat{bad}); ok || !isZeroRat(r) {
			t.Errorf("QuadraticForm without rows with %s = %v, %v", name, r, ok)
		}
	}
}

func TestSymmetricOfInvalidMatrices(t *testing.T) {
	for name, bad := range invalidRats() {
		for _, good := range []impl.Matrix{unitMatrix(1), unitMatrix(2), unitMatrix(3), filled(3, 3, whole(0)), matrixOf(2, 2, "4 2 2 3"), matrixOf(1, 2, "1 2")} {
			for place := range good.Cells {
				m := impl.Matrix{Rows: good.Rows, Cols: good.Cols, Cells: withElement(good.Cells, place, bad)}
				checkNoSquare(t, fmt.Sprintf("%s at %d of %s", name, place, sizeOf(m)), m)
			}
		}
		// Equal to its transpose, but not valid.
		m := matrixOf(2, 2, "4 2 2 3")
		m.Cells[1], m.Cells[2] = bad, bad
		checkNoSquare(t, name+" at two places", m)
		checkNoSquare(t, name+" everywhere", filled(2, 2, bad))
		checkNoSquare(t, name+" in a matrix without rows", impl.Matrix{Cells: []impl.Rat{bad}})
	}
	for _, m := range matricesOfWrongSizes() {
		checkNoSquare(t, sizeOf(m), m)
	}
}

// factorCase is a symmetric matrix by its lower triangle, and the first thing that prevents its factors, if any.
type factorCase struct {
	name   string
	list   []*big.Rat
	reason string
}

// factorCases returns matrices in whose factorization one number is too large, or just small enough.
func factorCases() []factorCase {
	g, l, one, zero := bigOfRat(greatestRat()), bigOfRat(leastOver()), big.NewRat(1, 1), new(big.Rat)
	half, two, three := big.NewRat(1, 2), big.NewRat(2, 1), big.NewRat(3, 1)
	minus, opposite := big.NewRat(-1, 1), new(big.Rat).Neg(g)
	less := plusBig(g, minus)
	return []factorCase{
		{"a square", []*big.Rat{one, tens(110), g}, "square"}, {"a negative number's square", []*big.Rat{one, timesBig(minus, tens(110)), g}, "square"}, {"a square whose denominator is", []*big.Rat{one, threes(-230), one}, "square"},
		{"a square in the second column", []*big.Rat{one, zero, one, zero, tens(110), g}, "square"}, {"a square from the first column", []*big.Rat{one, zero, one, tens(110), zero, g}, "square"}, {"a square in the last row", []*big.Rat{one, zero, one, zero, zero, one, zero, zero, tens(110), g}, "square"},
		{"a product of two below the diagonal", []*big.Rat{one, tens(107), tens(215), tens(110), zero, g}, "square"},
		{"a square by d", []*big.Rat{tens(200), tens(210), g}, "product"}, {"a square by d whose denominator is", []*big.Rat{threes(-230), timesBig(threes(-230), tens(-100)), one}, "product"}, {"a product below the diagonal", []*big.Rat{tens(200), tens(207), tens(215), tens(211), g, g}, "product"},
		{"a quotient", []*big.Rat{half, g, g}, "quotient"}, {"a negative quotient", []*big.Rat{half, opposite, g}, "quotient"}, {"a quotient whose denominator is", []*big.Rat{two, l, one}, "quotient"}, {"a quotient of two long numbers", []*big.Rat{tens(120), threes(-230), one}, "quotient"},
		{"a quotient in the last row", []*big.Rat{half, zero, one, g, zero, one}, "quotient"}, {"a quotient in the second column", []*big.Rat{one, zero, half, zero, g, one}, "quotient"}, {"a quotient after a difference", []*big.Rat{one, half, half, two, g, one}, "quotient"},
		{"a difference", []*big.Rat{one, tens(-54), plusBig(one, threes(-230))}, "difference"}, {"a difference in the second column", []*big.Rat{one, zero, one, zero, tens(-54), plusBig(one, threes(-230))}, "difference"}, {"a difference from the first column", []*big.Rat{one, zero, one, tens(-54), zero, plusBig(one, threes(-230))}, "difference"},
		{"a difference below the diagonal", []*big.Rat{one, one, two, minus, g, g}, "difference"}, {"a negative difference", []*big.Rat{one, one, two, one, opposite, g}, "difference"}, {"a difference below, whose denominator is", []*big.Rat{one, tens(-54), two, tens(-54), threes(-230), one}, "difference"},
		{"the greatest square", []*big.Rat{one, tens(107), g}, ""}, {"the least square", []*big.Rat{one, tens(-107), one}, ""}, {"the greatest quotient", []*big.Rat{one, tens(107), g, zero, zero, g}, ""}, {"the greatest quotient by 1/2", []*big.Rat{half, timesBig(half, tens(107)), g}, ""},
		{"the greatest number", []*big.Rat{g}, ""}, {"the least number", []*big.Rat{l}, ""}, {"the greatest and the least", []*big.Rat{g, zero, l}, ""}, {"a quotient of equal long numbers", []*big.Rat{less, less, g}, ""}, {"a quotient of equal short numbers", []*big.Rat{l, l, one}, ""},
		{"zeros beside the greatest", []*big.Rat{g, zero, g, zero, zero, g}, ""}, {"a product with 0", []*big.Rat{one, zero, tens(200), tens(100), zero, g}, ""}, {"a difference of denominators", []*big.Rat{one, tens(-53), plusBig(one, threes(-220))}, ""}, {"the greatest difference below", []*big.Rat{one, one, two, minus, less, g}, "square"},
		{"the greatest after differences", []*big.Rat{one, one, two, one, two, g}, ""}, {"a quotient that is too large where the next d would be 0", []*big.Rat{one, one, one, one, g, one}, "d"}, {"a d that is 0 after a long number", []*big.Rat{tens(200), tens(100), one}, "d"}, {"a d that is negative after a long number", []*big.Rat{one, tens(107), one}, "d"},
		{"a difference below on the way", []*big.Rat{one, zero, one, threes(-100), one, plusBig(one, timesBig(two, threes(-200))), threes(-220), tens(-107), tens(-107), plusBig(two, tens(-214))}, "difference"},
		{"a d that is negative before a difference", []*big.Rat{one, one, threes(-230), one, three, tens(-108)}, "d"},
	}
}

// casesOnTheWay returns matrices whose factors are small enough, but not all numbers by which they are computed, or not those of another order.
func casesOnTheWay() []factorCase {
	zero, one, two := new(big.Rat), big.NewRat(1, 1), big.NewRat(2, 1)
	first, second, small := tens(-54), threes(-115), plusBig(one, threes(-230))
	return []factorCase{
		{"a square, though not times d", []*big.Rat{tens(-108), tens(9), plusBig(tens(126), one)}, "square"}, {"a square whose denominator is, though not times d", []*big.Rat{tens(108), tens(-2), one}, "square"},
		{"a difference at first, then not", []*big.Rat{one, zero, one, first, second, small}, "difference"}, {"the same differences in the other order", []*big.Rat{one, zero, one, second, first, small}, ""}, {"two products whose sum is", []*big.Rat{one, zero, one, first, second, plusBig(one, tens(-108))}, ""},
		{"the same two in the other order", []*big.Rat{one, zero, one, second, first, plusBig(one, tens(-108))}, "difference"}, {"a difference on the way in the last row", []*big.Rat{one, zero, one, zero, zero, one, first, second, zero, small}, "difference"}, {"the same in the other order", []*big.Rat{one, zero, one, zero, zero, one, second, first, zero, small}, ""},
		{"two products below whose sum is", []*big.Rat{one, zero, one, one, threes(-100), plusBig(one, timesBig(two, threes(-200))), tens(-107), threes(-220), tens(-107), plusBig(two, tens(-214))}, ""},
	}
}

// checkFactorCase expects that the first thing that prevents the factors is that of the case.
func checkFactorCase(t *testing.T, name string, m impl.Matrix, reason string) {
	t.Helper()
	if _, _, got := factorWithin(m, fits); got != reason || !impl.IsSymmetric(m) {
		t.Errorf("%s: the test has a matrix for the reason %q, not %q; IsSymmetric %v", name, got, reason, impl.IsSymmetric(m))
	}
	if reason != "" {
		checkNoFactor(t, name, m)
	} else if !impl.IsPositive(m) {
		t.Errorf("%s: IsPositive = false", name)
	}
	checkSymmetric(t, m)
}

// surrounded returns a matrix with a further row and column on each side, so that its columns come in later steps, and others follow.
func surrounded(m impl.Matrix) impl.Matrix {
	wide := unitMatrix(m.Rows + 2)
	for i := range m.Rows {
		copy(wide.Cells[(i+1)*wide.Cols+1:], rowModel(m, i))
	}
	return wide
}

func TestFactorsThatAreTooLarge(t *testing.T) {
	for _, c := range factorCases() {
		m := symmetricOf(vectorOfBigs(c.list)...)
		checkFactorCase(t, c.name, m, c.reason)
		checkFactorCase(t, c.name+", with others around", surrounded(m), c.reason)
	}
}

func TestFactorsThatAreTooLargeOnTheWay(t *testing.T) {
	isWithin := func(list ...*big.Rat) bool { return true }
	for _, c := range casesOnTheWay() {
		m := symmetricOf(vectorOfBigs(c.list)...)
		lower, d, reason := factorWithin(m, isWithin)
		if reason != "" || !fits(slices.Concat(lower...)...) || !fits(d...) {
			t.Errorf("%s: the test has a matrix without small factors: %v, %v, %s", c.name, lower, d, reason)
		}
		checkFactorCase(t, c.name, m, c.reason)
		checkFactorCase(t, c.name+", with others around", surrounded(m), c.reason)
	}
}

// TestFormsThatAreTooLarge has one number that is too large in the product of the matrix and the vector, or in the inner product.
func TestFormsThatAreTooLarge(t *testing.T) {
	g, l, zero, one, two := greatestRat(), leastOver(), whole(0), whole(1), whole(2)
	opposite, half := impl.RatNeg(g), quotientOf(1, 2)
	long := func(exponent int) impl.Rat { return ratOfBig(tens(exponent)) }
	row := func(list ...impl.Rat) []impl.Rat { return list }
	cases := map[string]struct {
		m    impl.Matrix
		v    []impl.Rat
		want impl.Rat
	}{
		"a product with the matrix":                   {diagonal(g), row(two), impl.Rat{}},
		"a negative product with the matrix":          {diagonal(g), row(whole(-2)), impl.Rat{}},
		"a denominator":                               {diagonal(l), row(half), impl.Rat{}},
		"a product with the vector":                   {diagonal(long(200)), row(long(10)), impl.Rat{}},
		"a denominator of a product with the vector":  {diagonal(ratOfBig(threes(-400))), row(ratOfBig(threes(-30))), impl.Rat{}},
		"a product with the greatest matrix":          {diagonal(g), row(one), g},
		"a product with the opposite of the greatest": {diagonal(opposite), row(one), opposite},
		"the greatest by -1":                          {diagonal(g), row(whole(-1)), g},
		"a square of the vector":                      {diagonal(one), row(long(110)), impl.Rat{}},
		"a square of the vector, by 0":                {diagonal(zero), row(long(110)), zero},
		"a square of the vector, back to 1":           {diagonal(long(-200)), row(long(100)), one},
		"a square of the vector, by a small number":   {diagonal(long(-215)), row(long(110)), long(5)},
		"a sum in a row":                              {matrix2(g, one, zero, zero), row(one, one), impl.Rat{}},
		"a sum in the last row":                       {matrix2(zero, zero, g, one), row(one, one), impl.Rat{}},
		"a sum in a row that is multiplied by 0":      {impl.Matrix{Rows: 3, Cols: 3, Cells: slices.Concat(row(one, zero, zero), row(zero, one, zero), row(g, one, zero))}, row(one, one, zero), impl.Rat{}},
		"a sum in a row on the way":                   {impl.Matrix{Rows: 3, Cols: 3, Cells: slices.Concat(row(g, one, opposite), row(zero, zero, zero), row(zero, zero, zero))}, row(one, one, one), impl.Rat{}},
		"the same sum in another order":               {impl.Matrix{Rows: 3, Cols: 3, Cells: slices.Concat(row(g, opposite, one), row(zero, zero, zero), row(zero, zero, zero))}, row(one, one, one), one},
		"the last sum":                                {diagonal(g, one), row(one, one), impl.Rat{}},
		"the last sum, of denominators":               {diagonal(l, half), row(one, one), impl.Rat{}},
		"the last sum on the way":                     {diagonal(g, one, opposite), row(one, one, one), impl.Rat{}},
		"the last sum on the way from below":          {diagonal(opposite, whole(-1), g), row(one, one, one), impl.Rat{}},
		"the last sum in another order":               {diagonal(g, opposite, one), row(one, one, one), one},
		"the greatest sum":                            {diagonal(impl.RatSub(g, one), one), row(one, one), g},
		"the vector's last number first":              {matrix2(zero, long(100), zero, zero), row(long(-100), long(150)), impl.Rat{}},
		"the vector's first number first":             {matrix2(zero, zero, long(100), zero), row(long(-100), long(150)), long(150)},
	}
	for name, c := range cases {
		r, ok := impl.QuadraticForm(c.m, c.v)
		if ok != impl.RatOk(c.want) || !sameRat(r, c.want) {
			t.Errorf("%s: QuadraticForm = %v, %v, want %v", name, r, ok, c.want)
		}
		checkForm(t, c.m, c.v)
		checkForm(t, transposeModel(c.m), c.v)
	}
}

// matrix2 returns the matrix of 2 rows and columns with these elements.
func matrix2(list ...impl.Rat) impl.Matrix {
	return impl.Matrix{Rows: 2, Cols: 2, Cells: list}
}

func TestTracesThatAreTooLarge(t *testing.T) {
	g, l, zero, one, half := greatestRat(), leastOver(), whole(0), whole(1), quotientOf(1, 2)
	minus, opposite := whole(-1), impl.RatNeg(g)
	cases := []struct {
		list []impl.Rat
		want impl.Rat
	}{
		{[]impl.Rat{g}, g}, {[]impl.Rat{l}, l}, {[]impl.Rat{opposite}, opposite}, {[]impl.Rat{g, zero, zero}, g}, {[]impl.Rat{zero, zero, g}, g}, {[]impl.Rat{g, minus, one}, g}, {[]impl.Rat{impl.RatSub(g, one), one}, g}, {[]impl.Rat{g, opposite}, zero}, {[]impl.Rat{l, impl.RatNeg(l)}, zero},
		{[]impl.Rat{g, one}, impl.Rat{}}, {[]impl.Rat{one, g}, impl.Rat{}}, {[]impl.Rat{opposite, minus}, impl.Rat{}}, {[]impl.Rat{l, half}, impl.Rat{}}, {[]impl.Rat{half, l}, impl.Rat{}}, {[]impl.Rat{g, g}, impl.Rat{}}, {[]impl.Rat{zero, g, zero, one}, impl.Rat{}},
		{[]impl.Rat{g, one, opposite}, impl.Rat{}}, {[]impl.Rat{g, opposite, one}, one}, {[]impl.Rat{one, g, opposite}, impl.Rat{}}, {[]impl.Rat{one, opposite, g}, one}, {[]impl.Rat{g, one, minus}, impl.Rat{}}, {[]impl.Rat{one, minus, g}, g}, {[]impl.Rat{g, g, opposite, opposite}, impl.Rat{}},
		{[]impl.Rat{g, opposite, g, opposite}, zero}, {[]impl.Rat{l, half, impl.RatNeg(half)}, impl.Rat{}}, {[]impl.Rat{half, impl.RatNeg(half), l}, l}, {[]impl.Rat{opposite, minus, one}, impl.Rat{}}, {[]impl.Rat{minus, one, opposite}, opposite},
	}
	for _, c := range cases {
		n := len(c.list)
		for _, beside := range []impl.Rat{zero, one, g} {
			m := filled(n, n, beside)
			for i, r := range c.list {
				m.Cells[i*n+i] = r
			}
			r, ok := impl.TraceOf(m)
			if ok != impl.RatOk(c.want) || !sameRat(r, c.want) || !sameVector(impl.DiagonalOf(m), c.list) {
				t.Errorf("TraceOf(%v) = %v, %v, want %v, DiagonalOf %v", m, r, ok, c.want, impl.DiagonalOf(m))
			}
			checkSymmetric(t, m)
		}
	}
}

// TestPartsOfAllShortLists takes all lists of a few numbers from -1 to one more than the number of rows.
func TestPartsOfAllShortLists(t *testing.T) {
	for n := range 5 {
		m := impl.Matrix{Rows: n, Cols: n}
		for i := range n * n {
			m.Cells = append(m.Cells, quotientOf(i-3, 2))
		}
		lists := [][]int{{}}
		for place := 0; place < len(lists); place++ {
			checkPart(t, m, lists[place])
			if len(lists[place]) < 4 {
				for i := -1; i <= n+1; i++ {
					lists = append(lists, append(slices.Clone(lists[place]), i))
				}
			}
		}
		checkPart(t, m, nil)
	}
	r := rand.New(rand.NewSource(86))
	for range 300 {
		n := 1 + r.Intn(24)
		m := smallMatrix(r, n, n, 99)
		list := r.Perm(n)[:r.Intn(n+1)]
		checkPart(t, m, list)
		slices.Sort(list)
		checkPart(t, m, list)
		if len(list) > 0 {
			checkPart(t, m, append(list, list[len(list)-1]))
			checkPart(t, m, append(list, n))
			checkPart(t, m, append([]int{list[0]}, list...))
		}
	}
}

// TestPartsOfPositiveMatrices has positive definite matrices: their parts are so, too, with the traces of their diagonals.
func TestPartsOfPositiveMatrices(t *testing.T) {
	r := rand.New(rand.NewSource(87))
	for range 100 {
		n := 1 + r.Intn(6)
		d := []impl.Rat{}
		for range n {
			d = append(d, quotientOf(1+r.Intn(9), 1+r.Intn(5)))
		}
		m := matrixOfBigs(composed(randomLower(r, n), d))
		for mask := range 1 << n {
			list, trace := []int{}, new(big.Rat)
			for i := range n {
				if mask>>i&1 == 1 {
					list = append(list, i)
					trace.Add(trace, bigOfRat(m.Cells[i*n+i]))
				}
			}
			part, ok := impl.Submatrix(m, list)
			x, fine := impl.TraceOf(part)
			if !ok || !fine || !sameRat(x, ratOfBig(trace)) || !impl.IsPositive(part) || !impl.IsSymmetric(part) {
				t.Errorf("Submatrix(%v, %v) = %v, %v, TraceOf %v, %v, IsPositive %v", m, list, part, ok, x, fine, impl.IsPositive(part))
			}
		}
		v := randomVector(r, n, 1)
		lower, d, _ := impl.Factor(m)
		image, _ := impl.ApplyMatrix(impl.Transpose(lower), v)
		sum := new(big.Rat)
		for i, x := range bigsOf(image) {
			sum.Add(sum, timesBig(timesBig(x, x), bigOfRat(d[i])))
		}
		if x, ok := impl.QuadraticForm(m, v); !ok || bigOfRat(x).Cmp(sum) != 0 {
			t.Errorf("QuadraticForm(%v, %v) = %v, %v, by its factors %v", m, v, x, ok, sum)
		}
	}
}

// TestSymmetricOfRandomNumbers takes symmetric matrices in which numbers often, but not always, become too large.
func TestSymmetricOfRandomNumbers(t *testing.T) {
	r := rand.New(rand.NewSource(88))
	special := vectorOf("0 0 0 1 1 -1 1/2 -1/3 2")
	special = append(special, vectorOfBigs([]*big.Rat{tens(54), tens(-54), threes(110), threes(-110), tens(110), tens(170), threes(-225), tens(-20)})...)
	counts := map[string]int{}
	for range 3000 {
		n := 2 + r.Intn(3)
		list := []impl.Rat{}
		for i := range n {
			for range i {
				list = append(list, special[r.Intn(len(special))])
			}
			list = append(list, []impl.Rat{whole(1), whole(9), ratOfBig(tens(120)), greatestRat(), special[r.Intn(len(special))]}[r.Intn(5)])
		}
		m := symmetricOf(list...)
		_, _, reason := factorWithin(m, fits)
		counts[reason]++
		checkSymmetric(t, m)
		checkForm(t, m, list[:n])
	}
	for _, reason := range []string{"", "d", "square", "product", "difference", "quotient"} {
		if counts[reason] < 10 {
			t.Errorf("too few matrices for %q: %v", reason, counts)
		}
	}
}

// symmetricResults returns functions with all lists of fractions that a function of a matrix, and of a vector from another one, returns.
func symmetricResults() map[string]func(a impl.Matrix, b impl.Matrix) [][]impl.Rat {
	return map[string]func(a impl.Matrix, b impl.Matrix) [][]impl.Rat{
		"IsSymmetric and IsPositive": func(a impl.Matrix, b impl.Matrix) [][]impl.Rat {
			impl.IsSymmetric(a)
			impl.IsPositive(a)
			return nil
		},
		"Factor": func(a impl.Matrix, b impl.Matrix) [][]impl.Rat {
			lower, d, _ := impl.Factor(a)
			return [][]impl.Rat{lower.Cells, d}
		},
		"QuadraticForm": func(a impl.Matrix, b impl.Matrix) [][]impl.Rat {
			r, _ := impl.QuadraticForm(a, b.Cells[:min(len(b.Cells), max(a.Rows, 0))])
			return [][]impl.Rat{{r}}
		},
		"DiagonalOf": func(a impl.Matrix, b impl.Matrix) [][]impl.Rat {
			return [][]impl.Rat{impl.DiagonalOf(a), impl.DiagonalOf(a)}
		},
		"TraceOf": func(a impl.Matrix, b impl.Matrix) [][]impl.Rat {
			r, _ := impl.TraceOf(a)
			s, _ := impl.TraceOf(a)
			return [][]impl.Rat{{r}, {s}}
		},
		"Submatrix": func(a impl.Matrix, b impl.Matrix) [][]impl.Rat {
			part, _ := impl.Submatrix(a, []int{0})
			last, _ := impl.Submatrix(a, []int{a.Rows - 1})
			all, _ := impl.Submatrix(a, upTo(max(0, min(a.Rows, 24))))
			return [][]impl.Rat{part.Cells, last.Cells, all.Cells}
		},
	}
}

func TestSymmetricArgumentsStayUnchanged(t *testing.T) {
	r := rand.New(rand.NewSource(89))
	list := []impl.Matrix{
		{}, {Rows: 2}, {Cols: 2}, matrixOf(1, 1, "1"), matrixOf(1, 1, "0"), matrixOf(1, 1, "-2"), unitMatrix(2), unitMatrix(3), filled(2, 2, whole(0)), filled(3, 3, whole(1)), filled(2, 3, whole(1)), filled(3, 2, quotientOf(1, 2)), matrixOf(2, 2, "4 2 2 3"), matrixOf(2, 2, "1 2 2 1"), matrixOf(2, 2, "1 2 3 4"),
		matrixOf(3, 3, "4 12 -16 12 37 -43 -16 -43 98"), matrixOf(3, 3, "2 -1 -1 -1 2 -1 -1 -1 2"), filled(2, 2, impl.Rat{}), filled(2, 2, rat(false, []int{2}, []int{4})), matrixOf(2, 2, "1 2 3"), matrixOf(2, 2, "1 2 3 4 5"), {Rows: -1, Cols: -1, Cells: vectorOf("1")}, filled(25, 25, whole(1)),
		filled(2, 2, greatestRat()), diagonal(greatestRat(), whole(1)), filled(2, 2, leastOver()), diagonal(leastOver(), greatestRat()),
	}
	for _, c := range append(factorCases(), casesOnTheWay()...) {
		if c.reason == "" || len(c.list) == 6 {
			list = append(list, symmetricOf(vectorOfBigs(c.list)...))
		}
	}
	for _, n := range []int{1, 2, 3, 4} {
		d := slices.Repeat([]impl.Rat{quotientOf(2, 3)}, n)
		list = append(list, randomMatrix(r, n, n, 2), randomMatrix(r, n, n, 24), matrixOfBigs(composed(randomLower(r, n), d)))
	}
	for _, a := range list {
		for _, b := range []impl.Matrix{a, filled(1, a.Rows&7, whole(1)), filled(5, 5, whole(0)), randomMatrix(r, 4, 4, 2), randomMatrix(r, 3, 3, 24)} {
			for name, operation := range symmetricResults() {
				checkMatricesApart(t, name, a, b, operation)
			}
		}
	}
	for name, operation := range symmetricResults() {
		checkMatricesApart(t, name, diagonal(randomVector(r, 24, 1)...), unitMatrix(24), operation)
		checkMatricesApart(t, name, unitMatrix(24), unitMatrix(24), operation)
	}
}

// TestFactorsAreApart changes one of the two results and expects the other one as before.
func TestFactorsAreApart(t *testing.T) {
	for _, m := range []impl.Matrix{unitMatrix(3), matrixOf(2, 2, "4 2 2 3"), unitMatrix(24)} {
		want, numbers, _ := factorModel(m)
		lower, d, _ := impl.Factor(m)
		all := d[:cap(d)]
		for i := range all {
			all[i] = whole(-99)
		}
		if !sameMatrix(lower, want) {
			t.Errorf("Factor(%v): a change of d changes the matrix to %v", m, lower)
		}
		lower, d, _ = impl.Factor(m)
		clear(lower.Cells[:cap(lower.Cells)])
		if again, same, ok := impl.Factor(m); !sameVector(d, numbers) || !ok || !sameVector(same, numbers) || !sameMatrix(again, want) {
			t.Errorf("Factor(%v) after a change of an earlier result = %v, %v, %v; its d %v", m, again, same, ok, d)
		}
	}
}

func TestListsOfIndicesStayUnchanged(t *testing.T) {
	for _, list := range [][]int{nil, {0}, {0, 2}, {0, 1, 2}, {2, 0}, {1, 1}, {-1}, {3}} {
		given, room := withRoom(list)
		kept := slices.Clone(room)
		part, ok := impl.Submatrix(unitMatrix(3), given)
		if !slices.Equal(room, kept) || ok != (impl.MatrixOk(part) && part.Rows == len(list)) {
			t.Errorf("Submatrix with %v = %v, %v, and the memory of the list is %v", list, part, ok, room)
		}
		for i := range room {
			room[i] = 5
		}
		if ok && !sameMatrix(part, unitMatrix(len(list))) {
			t.Errorf("Submatrix keeps the list %v: %v", list, part)
		}
	}
}

// TestSymmetricOfOneElementInOneMemory gives matrices whose elements all have the same limbs.
func TestSymmetricOfOneElementInOneMemory(t *testing.T) {
	for _, x := range []impl.Rat{whole(1), whole(-1), whole(0), quotientOf(1, 2), quotientOf(-3, 5), rat(false, power(5), oddPower(5))} {
		r, rooms := ratWithRoom(x)
		for _, other := range []impl.Matrix{filled(3, 3, whole(0)), unitMatrix(3), symmetricOf(vectorOf("9 1 9 1/2 1/3 9")...)} {
			for mask := range 1 << 6 {
				m := impl.Matrix{Rows: 3, Cols: 3, Cells: slices.Clone(other.Cells)}
				for place, pair := range [][2]int{{0, 0}, {1, 3}, {4, 4}, {2, 6}, {5, 7}, {8, 8}} {
					if mask>>place&1 == 1 {
						m.Cells[pair[0]], m.Cells[pair[1]] = r, r
					}
				}
				for name, operation := range symmetricResults() {
					all := slices.Concat(operation(m, filled(3, 1, r))...)
					want := slices.Concat(operation(matrixWithRoom(m).m, matrixWithRoom(filled(3, 1, x)).m)...)
					if !sameVector(all, want) || !overwriteVector(all) || !isAsBefore(rooms, x) {
						t.Errorf("%s with %v in one memory at %b of %v", name, x, mask, other)
					}
				}
			}
		}
	}
}
