package tests

import (
	"fmt"
	"math"
	"math/big"
	"math/rand"
	"slices"
	"strings"
	"testing"

	"loop.example/g00822/impl"
)

const matrixMost = 24

// matrixOf returns the matrix of the fractions of a text, made without the program.
func matrixOf(rows int, cols int, text string) impl.Matrix {
	return impl.Matrix{Rows: rows, Cols: cols, Cells: vectorOf(text)}
}

// filled returns a matrix whose elements are all r.
func filled(rows int, cols int, r impl.Rat) impl.Matrix {
	return impl.Matrix{Rows: rows, Cols: cols, Cells: slices.Repeat([]impl.Rat{r}, rows*cols)}
}

// unitMatrix returns the matrix with ones in its diagonal, made without the program.
func unitMatrix(n int) impl.Matrix {
	m := filled(n, n, whole(0))
	for i := range n {
		m.Cells[i*n+i] = whole(1)
	}
	return m
}

// randomMatrix returns a matrix of fractions of at most this many limbs.
func randomMatrix(r *rand.Rand, rows int, cols int, limbs int) impl.Matrix {
	return impl.Matrix{Rows: rows, Cols: cols, Cells: randomVector(r, rows*cols, limbs)}
}

// withCell returns m with another element.
func withCell(m impl.Matrix, i int, k int, r impl.Rat) impl.Matrix {
	return impl.Matrix{Rows: m.Rows, Cols: m.Cols, Cells: withElement(m.Cells, i*m.Cols+k, r)}
}

// sameMatrix compares all fields; nil and the empty list are the same.
func sameMatrix(a impl.Matrix, b impl.Matrix) bool {
	return a.Rows == b.Rows && a.Cols == b.Cols && sameVector(a.Cells, b.Cells)
}

func isZeroMatrix(m impl.Matrix) bool {
	return sameMatrix(m, impl.Matrix{})
}

// sizeOf describes a matrix in a message; its elements may be too many to be written.
func sizeOf(m impl.Matrix) string {
	return fmt.Sprintf("%d rows, %d columns, %d elements", m.Rows, m.Cols, len(m.Cells))
}

// rowModel returns a row of a valid matrix, and columnModel a column.
func rowModel(m impl.Matrix, i int) []impl.Rat {
	list := []impl.Rat{}
	for k := range m.Cols {
		list = append(list, m.Cells[i*m.Cols+k])
	}
	return list
}

func columnModel(m impl.Matrix, k int) []impl.Rat {
	list := []impl.Rat{}
	for i := range m.Rows {
		list = append(list, m.Cells[i*m.Cols+k])
	}
	return list
}

// transposeModel is a model of Transpose for valid matrices.
func transposeModel(m impl.Matrix) impl.Matrix {
	t := impl.Matrix{Rows: m.Cols, Cols: m.Rows}
	for k := range m.Cols {
		t.Cells = append(t.Cells, columnModel(m, k)...)
	}
	return t
}

// addModel, multiplyModel and applyModel are models for valid arguments.
func addModel(a impl.Matrix, b impl.Matrix) (impl.Matrix, bool) {
	if a.Rows != b.Rows || a.Cols != b.Cols {
		return impl.Matrix{}, false
	}
	cells, ok := pairwise(a.Cells, b.Cells, (*big.Rat).Add)
	if !ok {
		return impl.Matrix{}, false
	}
	return impl.Matrix{Rows: a.Rows, Cols: a.Cols, Cells: cells}, true
}

func multiplyModel(a impl.Matrix, b impl.Matrix) (impl.Matrix, bool) {
	if a.Cols != b.Rows {
		return impl.Matrix{}, false
	}
	product := impl.Matrix{Rows: a.Rows, Cols: b.Cols}
	for i := range a.Rows {
		for k := range b.Cols {
			r, ok := innerModel(rowModel(a, i), columnModel(b, k))
			if !ok {
				return impl.Matrix{}, false
			}
			product.Cells = append(product.Cells, r)
		}
	}
	return product, true
}

func applyModel(m impl.Matrix, v []impl.Rat) ([]impl.Rat, bool) {
	product, ok := multiplyModel(m, impl.Matrix{Rows: len(v), Cols: 1, Cells: v})
	return product.Cells, ok
}

// checkMatrices compares the functions of two valid matrices, which need not fit, with their models.
func checkMatrices(t *testing.T, a impl.Matrix, b impl.Matrix) {
	t.Helper()
	sum, ok := impl.AddMatrices(a, b)
	if want, fine := addModel(a, b); ok != fine || !sameMatrix(sum, want) {
		t.Errorf("AddMatrices(%v, %v) = %v, %v, want %v, %v", a, b, sum, ok, want, fine)
	}
	product, ok := impl.Multiply(a, b)
	if want, fine := multiplyModel(a, b); ok != fine || !sameMatrix(product, want) {
		t.Errorf("Multiply(%v, %v) = %v, %v, want %v, %v", a, b, product, ok, want, fine)
	}
	for k := range b.Cols {
		v := columnModel(b, k)
		got, ok := impl.ApplyMatrix(a, v)
		if want, fine := applyModel(a, v); ok != fine || !sameVector(got, want) {
			t.Errorf("ApplyMatrix(%v, %v) = %v, %v, want %v, %v", a, v, got, ok, want, fine)
		}
	}
}

// checkMatrix checks the functions of one valid matrix.
func checkMatrix(t *testing.T, m impl.Matrix) {
	t.Helper()
	if !impl.MatrixOk(m) || !impl.EqualMatrices(m, m) {
		t.Errorf("a matrix of %s: MatrixOk %v, EqualMatrices with itself %v", sizeOf(m), impl.MatrixOk(m), impl.EqualMatrices(m, m))
	}
	turned := impl.Transpose(m)
	if !sameMatrix(turned, transposeModel(m)) || !sameMatrix(impl.Transpose(turned), m) {
		t.Errorf("Transpose of %v = %v", m, turned)
	}
	for i := range m.Rows {
		if row := impl.RowOf(m, i); !sameVector(row, rowModel(m, i)) || !sameVector(row, columnModel(turned, i)) {
			t.Errorf("RowOf(%v, %d) = %v", m, i, row)
		}
		for k := range m.Cols {
			if r := impl.CellAt(m, i, k); !sameRat(r, m.Cells[i*m.Cols+k]) {
				t.Errorf("CellAt(%v, %d, %d) = %v", m, i, k, r)
			}
		}
	}
}

// checkNoMatrix expects that no function has a result for a matrix that is not valid.
func checkNoMatrix(t *testing.T, name string, m impl.Matrix) {
	t.Helper()
	if impl.MatrixOk(m) || !isZeroMatrix(impl.Transpose(m)) {
		t.Errorf("%s: MatrixOk %v, Transpose %v", name, impl.MatrixOk(m), impl.Transpose(m))
	}
	ints := []int{0, 1, 2, -1, m.Rows - 1, m.Cols - 1, m.Rows, m.Cols, math.MinInt64, math.MaxInt64}
	for _, i := range ints {
		if row := impl.RowOf(m, i); row != nil {
			t.Errorf("%s: RowOf(%d) = %v", name, i, row)
		}
		for _, k := range ints {
			if r := impl.CellAt(m, i, k); !isZeroRat(r) {
				t.Errorf("%s: CellAt(%d, %d) = %v", name, i, k, r)
			}
		}
	}
	others := []impl.Matrix{m, {}}
	for _, rows := range []int{m.Rows, m.Cols} {
		for _, cols := range []int{m.Rows, m.Cols} {
			if max(rows, cols) <= matrixMost && min(rows, cols) >= 0 {
				others = append(others, filled(rows, cols, whole(0)))
			}
		}
	}
	for _, other := range others {
		for _, pair := range [][2]impl.Matrix{{m, other}, {other, m}} {
			sum, ok := impl.AddMatrices(pair[0], pair[1])
			product, fine := impl.Multiply(pair[0], pair[1])
			if ok || fine || !isZeroMatrix(sum) || !isZeroMatrix(product) {
				t.Errorf("%s and %s: AddMatrices %v, %v, Multiply %v, %v", name, sizeOf(other), sum, ok, product, fine)
			}
		}
	}
	for _, n := range []int{0, 1, m.Cols, m.Rows, len(m.Cells)} {
		if n >= 0 && n <= 1000 {
			v, ok := impl.ApplyMatrix(m, slices.Repeat(vectorOf("0"), n))
			if ok || v != nil {
				t.Errorf("%s: ApplyMatrix to %d elements = %v, %v", name, n, v, ok)
			}
		}
	}
}

// emptyMatrices returns the matrices without elements, with nil and with an empty list.
func emptyMatrices() []impl.Matrix {
	var list []impl.Matrix
	for _, n := range []int{0, 1, 2, 3, matrixMost - 1, matrixMost} {
		for _, cells := range [][]impl.Rat{nil, {}, make([]impl.Rat, 0, 5)} {
			list = append(list, impl.Matrix{Rows: 0, Cols: n, Cells: cells}, impl.Matrix{Rows: n, Cols: 0, Cells: cells})
		}
	}
	return list
}

func TestMatricesWithoutElements(t *testing.T) {
	for _, m := range emptyMatrices() {
		checkMatrix(t, m)
		if turned := impl.Transpose(m); turned.Rows != m.Cols || turned.Cols != m.Rows || len(turned.Cells) != 0 {
			t.Errorf("Transpose of %s = %v", sizeOf(m), turned)
		}
		if made := impl.MatrixOf(m.Rows, m.Cols, nil); !sameMatrix(made, m) || !sameMatrix(impl.MatrixOf(m.Rows, m.Cols, []int{}), m) {
			t.Errorf("MatrixOf(%d, %d, nil) = %v", m.Rows, m.Cols, made)
		}
		for _, i := range []int{-1, 0, 1, m.Rows, m.Cols} {
			if row := impl.RowOf(m, i); len(row) != 0 {
				t.Errorf("RowOf(%d) of %s = %v", i, sizeOf(m), row)
			}
			for _, k := range []int{-1, 0, 1, m.Rows, m.Cols} {
				if r := impl.CellAt(m, i, k); !isZeroRat(r) {
					t.Errorf("CellAt(%d, %d) of %s = %v", i, k, sizeOf(m), r)
				}
			}
		}
		for _, other := range emptyMatrices() {
			same := m.Rows == other.Rows && m.Cols == other.Cols
			sum, ok := impl.AddMatrices(m, other)
			if ok != same || ok && !sameMatrix(sum, m) || !ok && !isZeroMatrix(sum) || impl.EqualMatrices(m, other) != same {
				t.Errorf("%s and %s: AddMatrices %v, %v, EqualMatrices %v", sizeOf(m), sizeOf(other), sum, ok, impl.EqualMatrices(m, other))
			}
		}
		for _, bad := range []impl.Matrix{{Rows: m.Rows, Cols: m.Cols, Cells: vectorOf("0")}, {Rows: m.Rows, Cols: m.Cols, Cells: []impl.Rat{{}}}} {
			checkNoMatrix(t, "without elements, but one: "+sizeOf(bad), bad)
		}
	}
	if !impl.MatrixOk(impl.Matrix{}) || !sameMatrix(impl.IdentityMatrix(0), impl.Matrix{}) {
		t.Error("the zero value is not valid or is not the identity without rows")
	}
}

// TestProductsWithoutInnerElements multiplies matrices whose inner number is 0: all sums are empty, so they are 0.
func TestProductsWithoutInnerElements(t *testing.T) {
	for rows := range matrixMost + 1 {
		for _, cells := range [][]impl.Rat{nil, {}, make([]impl.Rat, 0, 5)} {
			a := impl.Matrix{Rows: rows, Cols: 0, Cells: cells}
			v, ok := impl.ApplyMatrix(a, nil)
			w, fine := impl.ApplyMatrix(a, []impl.Rat{})
			if !ok || !fine || !sameVector(v, slices.Repeat(vectorOf("0"), rows)) || !sameVector(w, v) || rows > 0 && !overwriteVector(v) {
				t.Errorf("ApplyMatrix of %s = %v, %v, %v, %v", sizeOf(a), v, ok, w, fine)
			}
			for cols := range matrixMost + 1 {
				b := impl.Matrix{Rows: 0, Cols: cols, Cells: cells}
				product, ok := impl.Multiply(a, b)
				if !ok || !sameMatrix(product, filled(rows, cols, whole(0))) || !impl.MatrixOk(product) || !overwriteVector(product.Cells) {
					t.Errorf("Multiply of %s and %s = %v, %v", sizeOf(a), sizeOf(b), product, ok)
				}
			}
		}
	}
	for n := range matrixMost + 1 {
		for _, cells := range [][]impl.Rat{nil, {}} {
			none := impl.Matrix{Rows: 0, Cols: n, Cells: cells}
			v, ok := impl.ApplyMatrix(none, slices.Repeat(vectorOf("3"), n))
			product, fine := impl.Multiply(none, filled(n, 7, whole(2)))
			other, good := impl.Multiply(filled(7, n, whole(2)), impl.Transpose(none))
			if !ok || !fine || !good || len(v) != 0 || !sameMatrix(product, impl.Matrix{Rows: 0, Cols: 7}) || !sameMatrix(other, impl.Matrix{Rows: 7, Cols: 0}) {
				t.Errorf("products with %s: %v, %v, %v, %v, %v, %v", sizeOf(none), v, ok, product, fine, other, good)
			}
		}
	}
}

func TestMatrixOkOfAllSizes(t *testing.T) {
	sizes := []int{-25, -2, -1, 0, 1, 2, 5, 23, 24, 25, 26, 48, 576, math.MinInt64, math.MinInt64 + 1, math.MaxInt64, 1 << 32, -1 << 32, 1 << 62, 1 << 63 / 3}
	lengths := []int{0, 1, 2, 4, 5, 23, 24, 25, 26, 48, 575, 576, 577, 600, 625}
	for _, rows := range sizes {
		for _, cols := range sizes {
			inRange := rows >= 0 && rows <= matrixMost && cols >= 0 && cols <= matrixMost
			// The product may leave the range of an int, as it does for a program that does not look at the numbers first.
			for _, n := range append(lengths, rows*cols, rows*cols-1, rows*cols+1) {
				if n < 0 || n > 1000 {
					continue
				}
				m := impl.Matrix{Rows: rows, Cols: cols, Cells: slices.Repeat(vectorOf("1/2"), n)}
				ok := inRange && n == rows*cols
				if impl.MatrixOk(m) != ok {
					t.Errorf("MatrixOk of %s = %v", sizeOf(m), !ok)
				}
				if !ok {
					checkNoMatrix(t, sizeOf(m), m)
				}
				made := impl.MatrixOf(rows, cols, slices.Repeat([]int{-3}, n))
				if ok && !sameMatrix(made, filled(rows, cols, whole(-3))) || !ok && !isZeroMatrix(made) {
					t.Errorf("MatrixOf(%d, %d) of %d ints = %v", rows, cols, n, made)
				}
			}
		}
	}
}

func TestMatricesWithAnInvalidElement(t *testing.T) {
	for name, bad := range invalidRats() {
		for _, size := range [][2]int{{1, 1}, {1, 3}, {3, 1}, {3, 3}} {
			good := filled(size[0], size[1], quotientOf(1, 2))
			for _, place := range []int{0, len(good.Cells) / 2, len(good.Cells) - 1} {
				m := impl.Matrix{Rows: good.Rows, Cols: good.Cols, Cells: withElement(good.Cells, place, bad)}
				checkNoMatrix(t, fmt.Sprintf("%s at %d of %s", name, place, sizeOf(m)), m)
				if !impl.EqualMatrices(m, impl.Matrix{Rows: m.Rows, Cols: m.Cols, Cells: slices.Clone(m.Cells)}) || impl.EqualMatrices(m, good) || impl.EqualMatrices(good, m) {
					t.Errorf("EqualMatrices with %s at %d of %s", name, place, sizeOf(m))
				}
			}
		}
		for _, place := range []int{0, 1, 2} {
			v := withElement(vectorOf("1 1 1"), place, bad)
			for _, rows := range []int{0, 1, 3} {
				if got, ok := impl.ApplyMatrix(filled(rows, 3, whole(0)), v); ok || got != nil {
					t.Errorf("ApplyMatrix to a vector with %s at %d = %v, %v", name, place, got, ok)
				}
			}
		}
	}
	large := filled(matrixMost, matrixMost, quotientOf(-1, 3))
	for place := range large.Cells {
		if impl.MatrixOk(impl.Matrix{Rows: matrixMost, Cols: matrixMost, Cells: withElement(large.Cells, place, impl.Rat{})}) {
			t.Errorf("MatrixOk with the zero Rat at %d = true", place)
		}
	}
}

func TestMatrixOf(t *testing.T) {
	ints := []int{0, 1, -1, 7, -12, natBase - 1, natBase, -natBase, math.MaxInt64, math.MinInt64 + 1, math.MinInt64, 5}
	for _, size := range [][2]int{{1, 12}, {2, 6}, {3, 4}, {4, 3}, {6, 2}, {12, 1}} {
		m := impl.MatrixOf(size[0], size[1], ints)
		if m.Rows != size[0] || m.Cols != size[1] || len(m.Cells) != len(ints) || !impl.MatrixOk(m) {
			t.Errorf("MatrixOf(%d, %d) = %v", size[0], size[1], m)
			continue
		}
		for i, n := range ints {
			if !sameRat(m.Cells[i], whole(n)) || !sameRat(impl.CellAt(m, i/size[1], i%size[1]), whole(n)) {
				t.Errorf("element %d of MatrixOf(%d, %d) = %v, want %d", i, size[0], size[1], m.Cells[i], n)
			}
		}
		checkMatrix(t, m)
		for _, list := range [][]int{ints[:11], append(slices.Clone(ints), 0), ints[:0], nil, ints[:1]} {
			if got := impl.MatrixOf(size[0], size[1], list); !isZeroMatrix(got) {
				t.Errorf("MatrixOf(%d, %d) of %d ints = %v", size[0], size[1], len(list), got)
			}
		}
	}
	cases := []struct{ rows, cols, n int }{
		{-1, -4, 4}, {-4, -1, 4}, {-1, -1, 1}, {-1, 0, 0}, {0, -1, 0}, {25, 0, 0}, {0, 25, 0}, {25, 1, 25}, {1, 25, 25}, {25, 25, 625}, {24, 25, 600}, {25, 24, 600}, {48, 12, 576}, {1, 48, 48},
		{math.MinInt64, 2, 0}, {2, math.MinInt64, 0}, {1 << 32, 1 << 32, 0}, {1 << 62, 4, 0}, {math.MinInt64, 0, 0}, {0, math.MaxInt64, 0}, {math.MaxInt64, math.MaxInt64, 1}, {-1, 1, 1}, {1, -1, 1}, {-1, 1, 0},
		{1, 1, 0}, {1, 1, 2}, {0, 0, 1}, {0, 5, 5}, {5, 0, 5}, {2, 3, 5}, {2, 3, 7}, {24, 24, 575}, {24, 24, 577}, {1, 24, 23}, {24, 1, 25},
	}
	for _, c := range cases {
		if m := impl.MatrixOf(c.rows, c.cols, make([]int, c.n)); !isZeroMatrix(m) {
			t.Errorf("MatrixOf(%d, %d) of %d ints = %v", c.rows, c.cols, c.n, m)
		}
	}
	all := make([]int, matrixMost*matrixMost)
	for i := range all {
		all[i] = i*i - 1000
	}
	if m := impl.MatrixOf(matrixMost, matrixMost, all); !impl.MatrixOk(m) || !sameRat(m.Cells[575], whole(575*575-1000)) || !sameRat(m.Cells[24], whole(24*24-1000)) {
		t.Errorf("MatrixOf of %d ints = %v", len(all), m)
	}
}

func TestIdentityMatrix(t *testing.T) {
	for n := range matrixMost + 1 {
		m := impl.IdentityMatrix(n)
		if !sameMatrix(m, unitMatrix(n)) || !impl.MatrixOk(m) || !sameMatrix(impl.Transpose(m), m) {
			t.Errorf("IdentityMatrix(%d) = %v", n, m)
		}
	}
	for _, n := range []int{-1, -2, -24, -25, 25, 26, 1000, math.MinInt64, math.MinInt64 + 1, math.MaxInt64, math.MaxInt64 - 1, 1 << 32} {
		if m := impl.IdentityMatrix(n); !isZeroMatrix(m) {
			t.Errorf("IdentityMatrix(%d) = %v", n, m)
		}
	}
}

func TestCellsAndRowsAtAllIndices(t *testing.T) {
	ints := []int{math.MinInt64, math.MinInt64 + 1, -1 << 32, -25, -4, -3, -2, -1, 0, 1, 2, 3, 4, 5, 6, 11, 12, 23, 24, 25, 1 << 32, 1 << 60, 1 << 62, math.MaxInt64 - 1, math.MaxInt64}
	for _, size := range [][2]int{{1, 1}, {1, 4}, {4, 1}, {2, 3}, {3, 2}, {3, 4}, {4, 4}, {matrixMost, 2}, {2, matrixMost}, {matrixMost, matrixMost}} {
		m := impl.Matrix{Rows: size[0], Cols: size[1]}
		for i := range size[0] * size[1] {
			m.Cells = append(m.Cells, quotientOf(i+1, 577))
		}
		for _, i := range append(ints, m.Rows-1, m.Rows) {
			isRow := i >= 0 && i < m.Rows
			row := impl.RowOf(m, i)
			if isRow && !sameVector(row, rowModel(m, i)) || !isRow && row != nil {
				t.Errorf("RowOf(%d) of %s = %v", i, sizeOf(m), row)
			}
			for _, k := range append(ints, m.Cols-1, m.Cols) {
				want := impl.Rat{}
				if isRow && k >= 0 && k < m.Cols {
					want = quotientOf(i*m.Cols+k+1, 577)
				}
				if r := impl.CellAt(m, i, k); !sameRat(r, want) {
					t.Errorf("CellAt(%d, %d) of %s = %v", i, k, sizeOf(m), r)
				}
			}
		}
	}
}

func TestTranspose(t *testing.T) {
	cases := []struct{ m, want impl.Matrix }{
		{matrixOf(1, 3, "1 -2 3/4"), matrixOf(3, 1, "1 -2 3/4")}, {matrixOf(3, 1, "1 -2 3/4"), matrixOf(1, 3, "1 -2 3/4")}, {matrixOf(2, 2, "1 2 3 4"), matrixOf(2, 2, "1 3 2 4")},
		{matrixOf(2, 3, "1 2 3 4 5 6"), matrixOf(3, 2, "1 4 2 5 3 6")}, {matrixOf(3, 2, "1 4 2 5 3 6"), matrixOf(2, 3, "1 2 3 4 5 6")}, {matrixOf(1, 1, "-7/2"), matrixOf(1, 1, "-7/2")},
		{matrixOf(3, 3, "1 2 3 4 5 6 7 8 9"), matrixOf(3, 3, "1 4 7 2 5 8 3 6 9")}, {matrixOf(3, 3, "1 2 3 2 5 6 3 6 9"), matrixOf(3, 3, "1 2 3 2 5 6 3 6 9")}, {impl.Matrix{}, impl.Matrix{}},
	}
	for _, c := range cases {
		if got := impl.Transpose(c.m); !sameMatrix(got, c.want) {
			t.Errorf("Transpose(%v) = %v", c.m, got)
		}
	}
	r := rand.New(rand.NewSource(61))
	for rows := range matrixMost + 1 {
		for _, cols := range []int{0, 1, 2, 5, rows, 23, 24} {
			checkMatrix(t, randomMatrix(r, rows, cols, 3))
		}
	}
	checkMatrix(t, randomMatrix(r, 4, 5, 24))
}

func TestMatrixExamples(t *testing.T) {
	sums := []struct{ a, b, want impl.Matrix }{
		{matrixOf(2, 2, "1 2 3 4"), matrixOf(2, 2, "1 0 0 1"), matrixOf(2, 2, "2 2 3 5")}, {matrixOf(1, 3, "1/2 -1/3 0"), matrixOf(1, 3, "1/2 1/3 -4"), matrixOf(1, 3, "1 0 -4")},
		{matrixOf(3, 1, "1/2 -1/3 0"), matrixOf(3, 1, "1/6 1/3 1/7"), matrixOf(3, 1, "2/3 0 1/7")}, {matrixOf(1, 1, "-5"), matrixOf(1, 1, "5"), matrixOf(1, 1, "0")},
	}
	for _, c := range sums {
		if got, ok := impl.AddMatrices(c.a, c.b); !ok || !sameMatrix(got, c.want) {
			t.Errorf("AddMatrices(%v, %v) = %v, %v", c.a, c.b, got, ok)
		}
	}
	products := []struct{ a, b, want impl.Matrix }{
		{matrixOf(2, 2, "1 2 3 4"), matrixOf(2, 1, "5 6"), matrixOf(2, 1, "17 39")}, {matrixOf(1, 2, "5 6"), matrixOf(2, 2, "1 2 3 4"), matrixOf(1, 2, "23 34")},
		{matrixOf(2, 2, "1 2 3 4"), matrixOf(2, 2, "0 1 1 0"), matrixOf(2, 2, "2 1 4 3")}, {matrixOf(2, 2, "0 1 1 0"), matrixOf(2, 2, "1 2 3 4"), matrixOf(2, 2, "3 4 1 2")},
		{matrixOf(1, 3, "1 2 3"), matrixOf(3, 1, "1/2 1/3 -1/6"), matrixOf(1, 1, "2/3")}, {matrixOf(3, 1, "1/2 1/3 -1/6"), matrixOf(1, 3, "1 2 3"), matrixOf(3, 3, "1/2 1 3/2 1/3 2/3 1 -1/6 -1/3 -1/2")},
		{matrixOf(2, 3, "1 2 3 4 5 6"), matrixOf(3, 2, "1 0 0 1 1 1"), matrixOf(2, 2, "4 5 10 11")}, {matrixOf(2, 2, "1/2 0 0 1/3"), matrixOf(2, 2, "2 0 0 3"), matrixOf(2, 2, "1 0 0 1")},
		{matrixOf(2, 2, "1 -1 -1 1"), matrixOf(2, 2, "1 1 1 1"), matrixOf(2, 2, "0 0 0 0")}, {matrixOf(1, 1, "-2/3"), matrixOf(1, 1, "3/2"), matrixOf(1, 1, "-1")},
	}
	for _, c := range products {
		if got, ok := impl.Multiply(c.a, c.b); !ok || !sameMatrix(got, c.want) {
			t.Errorf("Multiply(%v, %v) = %v, %v", c.a, c.b, got, ok)
		}
	}
	applied := []struct {
		m       impl.Matrix
		v, want string
	}{
		{matrixOf(2, 2, "1 2 3 4"), "1 -1", "-1 -1"}, {matrixOf(2, 3, "1 2 3 4 5 6"), "1/2 0 -1/3", "-1/2 0"}, {matrixOf(3, 2, "1 0 0 1 1 1"), "2/3 -1/3", "2/3 -1/3 1/3"},
		{matrixOf(1, 3, "1 1 1"), "1/2 1/3 1/6", "1"}, {matrixOf(3, 1, "1 0 -1/2"), "4", "4 0 -2"}, {impl.Matrix{}, "", ""}, {impl.Matrix{Rows: 2}, "", "0 0"}, {impl.Matrix{Cols: 2}, "1 2", ""},
	}
	for _, c := range applied {
		if got, ok := impl.ApplyMatrix(c.m, vectorOf(c.v)); !ok || !sameVector(got, vectorOf(c.want)) {
			t.Errorf("ApplyMatrix(%v, %s) = %v, %v", c.m, c.v, got, ok)
		}
	}
}

func TestMatricesOfAllSizes(t *testing.T) {
	r := rand.New(rand.NewSource(62))
	sizes := []int{0, 1, 2, 3, 4}
	for _, rows := range sizes {
		for _, inner := range sizes {
			for _, other := range sizes {
				for _, cols := range sizes {
					checkMatrices(t, randomMatrix(r, rows, inner, 2), randomMatrix(r, other, cols, 2))
				}
			}
			for _, limbs := range []int{1, 4, 8, 12, 24} {
				checkMatrices(t, randomMatrix(r, rows, inner, limbs), randomMatrix(r, rows, inner, limbs))
				checkMatrices(t, randomMatrix(r, rows, inner, limbs), randomMatrix(r, inner, rows, limbs))
			}
		}
	}
	for _, x := range sampleRats() {
		for _, y := range sampleRats() {
			checkMatrices(t, impl.Matrix{Rows: 1, Cols: 1, Cells: []impl.Rat{x}}, impl.Matrix{Rows: 1, Cols: 1, Cells: []impl.Rat{y}})
		}
	}
}

// TestGreatestMatrices has exactly MaxLength rows or columns, and one more.
func TestGreatestMatrices(t *testing.T) {
	r := rand.New(rand.NewSource(63))
	for _, size := range [][4]int{{24, 24, 24, 24}, {24, 1, 1, 24}, {1, 24, 24, 1}, {24, 24, 24, 1}, {1, 24, 24, 24}, {24, 2, 2, 24}, {24, 23, 24, 23}, {23, 24, 24, 23}, {24, 24, 23, 24}} {
		a, b := impl.Matrix{Rows: size[0], Cols: size[1]}, impl.Matrix{Rows: size[2], Cols: size[3]}
		for range a.Rows * a.Cols {
			a.Cells = append(a.Cells, quotientOf(r.Intn(41)-20, 1+r.Intn(4)))
		}
		for range b.Rows * b.Cols {
			b.Cells = append(b.Cells, quotientOf(r.Intn(41)-20, 1+r.Intn(4)))
		}
		checkMatrices(t, a, b)
		checkMatrix(t, a)
	}
	for _, size := range [][2]int{{25, 25}, {25, 24}, {24, 25}, {1, 25}, {25, 1}, {0, 25}, {25, 0}} {
		m := filled(size[0], size[1], whole(1))
		checkNoMatrix(t, sizeOf(m), m)
		v, ok := impl.ApplyMatrix(m, slices.Repeat(vectorOf("1"), size[1]))
		if ok || v != nil {
			t.Errorf("ApplyMatrix of %s = %v, %v", sizeOf(m), v, ok)
		}
	}
}

func TestMatricesThatDoNotFit(t *testing.T) {
	sizes := []int{0, 1, 2, 3, 23, 24}
	for _, rows := range sizes {
		for _, inner := range sizes {
			a := filled(rows, inner, whole(1))
			for n := range 27 {
				v, ok := impl.ApplyMatrix(a, slices.Repeat(vectorOf("2"), n))
				if ok != (n == inner) || !ok && v != nil || ok && !sameVector(v, slices.Repeat([]impl.Rat{whole(2 * n)}, rows)) {
					t.Errorf("ApplyMatrix of %s to %d elements = %v, %v", sizeOf(a), n, v, ok)
				}
			}
			for _, other := range sizes {
				for _, cols := range []int{0, 1, 3, 24} {
					b := filled(other, cols, whole(2))
					product, ok := impl.Multiply(a, b)
					if ok != (inner == other) || ok && !sameMatrix(product, filled(rows, cols, whole(2*inner))) || !ok && !isZeroMatrix(product) {
						t.Errorf("Multiply of %s and %s = %v, %v", sizeOf(a), sizeOf(b), product, ok)
					}
					sum, ok := impl.AddMatrices(a, b)
					same := rows == other && inner == cols
					if ok != same || ok && !sameMatrix(sum, filled(rows, cols, whole(3))) || !ok && !isZeroMatrix(sum) {
						t.Errorf("AddMatrices of %s and %s = %v, %v", sizeOf(a), sizeOf(b), sum, ok)
					}
				}
			}
		}
	}
	// The same number of elements is not enough for a sum.
	for _, pair := range [][2]impl.Matrix{{filled(2, 3, whole(1)), filled(3, 2, whole(1))}, {filled(1, 6, whole(1)), filled(6, 1, whole(1))}, {filled(0, 3, whole(1)), filled(3, 0, whole(1))}, {filled(0, 3, whole(1)), filled(0, 2, whole(1))}} {
		if sum, ok := impl.AddMatrices(pair[0], pair[1]); ok || !isZeroMatrix(sum) {
			t.Errorf("AddMatrices of %s and %s = %v, %v", sizeOf(pair[0]), sizeOf(pair[1]), sum, ok)
		}
	}
}

// TestMatricesWithOneNumberThatIsTooLarge has one sum or product that is too large, at each place of the result.
func TestMatricesWithOneNumberThatIsTooLarge(t *testing.T) {
	greatest, least, two, half := greatestRat(), leastOver(), whole(2), quotientOf(1, 2)
	opposite := impl.RatNeg(greatest)
	for _, n := range []int{1, 2, 3, 5} {
		for i := range n {
			for k := range n {
				ones, zeros, unit := filled(n, n, whole(1)), filled(n, n, whole(0)), unitMatrix(n)
				row := withCell(zeros, i, k, greatest)
				cases := map[string][2]impl.Matrix{
					"a product":            {row, withCell(unit, k, k, two)},
					"a negative product":   {withCell(zeros, i, k, opposite), withCell(unit, k, k, two)},
					"a product of two":     {row, withCell(unit, k, k, opposite)},
					"a denominator":        {withCell(zeros, i, k, least), withCell(unit, k, k, half)},
					"a product from right": {withCell(unit, i, i, two), row},
					"a quotient":           {withCell(unit, i, i, half), withCell(zeros, i, k, least)},
				}
				for name, pair := range cases {
					if product, ok := impl.Multiply(pair[0], pair[1]); ok || !isZeroMatrix(product) {
						t.Errorf("%s that is too large at %d, %d of %d: Multiply = %v, %v", name, i, k, n, product, ok)
					}
					checkMatrices(t, pair[0], pair[1])
				}
				for name, pair := range map[string][2]impl.Matrix{
					"a sum":              {withCell(ones, i, k, greatest), ones},
					"a sum from right":   {ones, withCell(ones, i, k, greatest)},
					"a negative sum":     {withCell(ones, i, k, opposite), filled(n, n, whole(-1))},
					"a sum of quotients": {withCell(ones, i, k, least), ones},
				} {
					if sum, ok := impl.AddMatrices(pair[0], pair[1]); ok || !isZeroMatrix(sum) {
						t.Errorf("%s that is too large at %d, %d of %d: AddMatrices = %v, %v", name, i, k, n, sum, ok)
					}
				}
				v, ok := impl.ApplyMatrix(row, slices.Repeat([]impl.Rat{two}, n))
				w, fine := impl.ApplyMatrix(withCell(unit, i, k, two), withElement(slices.Repeat(vectorOf("1"), n), k, greatest))
				x, good := impl.ApplyMatrix(row, slices.Repeat(vectorOf("1"), n))
				if ok || fine || v != nil || w != nil || !good || !sameVector(x, withElement(slices.Repeat(vectorOf("0"), n), i, greatest)) {
					t.Errorf("ApplyMatrix with a number that is too large at %d, %d of %d: %v, %v, %v, %v, %v, %v", i, k, n, v, ok, w, fine, x, good)
				}
			}
		}
	}
}

// TestMatricesThatAreTooLargeOnTheWay has sums of products whose end would be small enough.
func TestMatricesThatAreTooLargeOnTheWay(t *testing.T) {
	greatest := greatestRat()
	opposite, one, zero := impl.RatNeg(greatest), whole(1), whole(0)
	cases := map[string]struct {
		list []impl.Rat
		ok   bool
	}{
		"a sum, then back to 1":                 {[]impl.Rat{greatest, one, opposite}, false},
		"a negative sum, then back":             {[]impl.Rat{opposite, whole(-1), greatest}, false},
		"a sum at last but one, then back":      {[]impl.Rat{one, greatest, opposite}, false},
		"the same sum in another order":         {[]impl.Rat{greatest, opposite, one}, true},
		"the same sum in a third one":           {[]impl.Rat{opposite, greatest, one}, true},
		"a sum with zeros":                      {[]impl.Rat{zero, greatest, zero}, true},
		"a sum that is too large at last":       {[]impl.Rat{one, zero, greatest}, false},
		"a sum that is the greatest at last":    {[]impl.Rat{impl.RatSub(greatest, whole(3)), one, whole(2)}, true},
		"a sum of quotients, then back":         {[]impl.Rat{leastOver(), quotientOf(1, natBase), quotientOf(-1, natBase)}, false},
		"the same quotients in another order":   {[]impl.Rat{quotientOf(1, natBase), quotientOf(-1, natBase), leastOver()}, true},
		"a sum of 25 limbs, then back to fewer": {[]impl.Rat{greatest, greatest, opposite}, false},
	}
	for name, c := range cases {
		ones := slices.Repeat([]impl.Rat{one}, 3)
		v, ok := impl.ApplyMatrix(impl.Matrix{Rows: 1, Cols: 3, Cells: c.list}, ones)
		w, fine := impl.ApplyMatrix(impl.Matrix{Rows: 3, Cols: 3, Cells: slices.Concat(ones, ones, ones)}, c.list)
		if ok != c.ok || fine != c.ok || !ok && (v != nil || w != nil) {
			t.Errorf("%s: ApplyMatrix %v, %v, %v, %v", name, v, ok, w, fine)
		}
		for place := range 3 {
			// Only one row of the left factor, or one column of the right one, has the sum.
			left := filled(3, 3, zero)
			copy(left.Cells[3*place:], c.list)
			right := impl.Transpose(left)
			product, ok := impl.Multiply(left, filled(3, 2, one))
			other, fine := impl.Multiply(filled(2, 3, one), right)
			if ok != c.ok || fine != c.ok || !ok && (!isZeroMatrix(product) || !isZeroMatrix(other)) {
				t.Errorf("%s at %d: Multiply %v, %v, %v, %v", name, place, product, ok, other, fine)
			}
			checkMatrices(t, left, filled(3, 2, one))
			checkMatrices(t, filled(2, 3, one), right)
		}
	}
	two := whole(2)
	v, ok := impl.ApplyMatrix(impl.Matrix{Rows: 1, Cols: 2, Cells: []impl.Rat{greatest, opposite}}, []impl.Rat{two, two})
	product, fine := impl.Multiply(impl.Matrix{Rows: 1, Cols: 2, Cells: []impl.Rat{two, two}}, impl.Matrix{Rows: 2, Cols: 1, Cells: []impl.Rat{greatest, opposite}})
	if ok || fine || v != nil || !isZeroMatrix(product) {
		t.Errorf("a product that is too large, then its opposite: %v, %v, %v, %v", v, ok, product, fine)
	}
}

func TestMatrixLaws(t *testing.T) {
	r := rand.New(rand.NewSource(64))
	sum := func(a impl.Matrix, b impl.Matrix) impl.Matrix {
		m, ok := impl.AddMatrices(a, b)
		if !ok {
			t.Errorf("no sum of %v and %v", a, b)
		}
		return m
	}
	product := func(a impl.Matrix, b impl.Matrix) impl.Matrix {
		m, ok := impl.Multiply(a, b)
		if !ok {
			t.Errorf("no product of %v and %v", a, b)
		}
		return m
	}
	for range 150 {
		n, p, q, s := r.Intn(5), r.Intn(4), r.Intn(5), r.Intn(4)
		a, b, c, d := randomMatrix(r, n, p, 1), randomMatrix(r, p, q, 1), randomMatrix(r, p, q, 1), randomMatrix(r, q, s, 1)
		laws := map[string][2]impl.Matrix{
			"three factors":      {product(product(a, b), d), product(a, product(b, d))},
			"a sum from left":    {product(a, sum(b, c)), sum(product(a, b), product(a, c))},
			"a sum from right":   {product(sum(b, c), d), sum(product(b, d), product(c, d))},
			"swapped sums":       {sum(b, c), sum(c, b)},
			"sums turned":        {impl.Transpose(sum(b, c)), sum(impl.Transpose(b), impl.Transpose(c))},
			"products turned":    {impl.Transpose(product(a, b)), product(impl.Transpose(b), impl.Transpose(a))},
			"the identity left":  {product(impl.IdentityMatrix(n), a), a},
			"the identity right": {product(a, impl.IdentityMatrix(p)), a},
			"zeros in a sum":     {sum(a, filled(n, p, whole(0))), a},
			"zeros in a product": {product(a, filled(p, q, whole(0))), filled(n, q, whole(0))},
		}
		for name, law := range laws {
			if !impl.EqualMatrices(law[0], law[1]) || !sameMatrix(law[0], law[1]) || !impl.MatrixOk(law[0]) {
				t.Errorf("%s of %v, %v, %v and %v: %v, %v", name, a, b, c, d, law[0], law[1])
			}
		}
		for k := range q {
			v, ok := impl.ApplyMatrix(a, columnModel(b, k))
			if !ok || !sameVector(v, columnModel(product(a, b), k)) {
				t.Errorf("ApplyMatrix(%v, column %d of %v) = %v, %v", a, k, b, v, ok)
			}
		}
	}
}

func TestEqualMatrices(t *testing.T) {
	six := vectorOf("1 2 3 4 5 6")
	list := []impl.Matrix{
		{}, {Rows: 1}, {Cols: 1}, {Rows: 1, Cols: 1}, {Rows: -1, Cols: -1}, {Rows: -1, Cols: 1}, {Rows: 25}, {Rows: 25, Cols: 25}, {Cells: six}, {Rows: 2, Cols: 3, Cells: six}, {Rows: 3, Cols: 2, Cells: six}, {Rows: 1, Cols: 6, Cells: six},
		{Rows: 6, Cols: 1, Cells: six}, {Rows: 2, Cols: 2, Cells: six}, {Rows: 2, Cols: 3, Cells: six[:5]}, {Rows: 2, Cols: 3, Cells: append(slices.Clone(six), whole(7))}, {Rows: 2, Cols: 3}, {Rows: 2, Cols: 3, Cells: slices.Repeat(six, 100)},
		{Rows: 2, Cols: 3, Cells: withElement(six, 0, whole(9))}, {Rows: 2, Cols: 3, Cells: withElement(six, 3, whole(9))}, {Rows: 2, Cols: 3, Cells: withElement(six, 5, whole(-6))}, {Rows: 2, Cols: 3, Cells: withElement(six, 5, quotientOf(6, 5))},
		{Rows: 2, Cols: 3, Cells: withElement(six, 0, impl.Rat{})}, {Rows: 2, Cols: 3, Cells: withElement(six, 5, impl.Rat{})}, {Rows: 2, Cols: 3, Cells: withElement(six, 1, rat(false, []int{4}, []int{2}))},
		{Rows: 2, Cols: 3, Cells: withElement(six, 0, rat(false, []int{1, 0}, []int{1}))}, {Rows: 2, Cols: 3, Cells: make([]impl.Rat, 6)}, {Rows: math.MinInt64, Cols: 3, Cells: six}, {Rows: 2, Cols: math.MaxInt64, Cells: six},
		filled(24, 24, whole(1)), withCell(filled(24, 24, whole(1)), 23, 23, whole(2)), withCell(filled(24, 24, whole(1)), 0, 0, whole(2)), filled(25, 25, whole(1)), withCell(filled(25, 25, whole(1)), 24, 24, whole(2)),
	}
	for i, a := range list {
		for k, b := range list {
			if got := impl.EqualMatrices(a, b); got != (i == k) {
				t.Errorf("EqualMatrices of the matrices %d and %d = %v", i, k, got)
			}
		}
		copied := impl.Matrix{Rows: a.Rows, Cols: a.Cols, Cells: []impl.Rat{}}
		for _, x := range a.Cells {
			copied.Cells = append(copied.Cells, rat(x.Num.Neg, slices.Clone(x.Num.Mag), slices.Clone(x.Den)))
		}
		if !impl.EqualMatrices(a, copied) || !impl.EqualMatrices(copied, a) {
			t.Errorf("the matrix %d does not equal its copy", i)
		}
	}
}

// roomyMatrix is a matrix in a memory of its own, with further elements behind its Cells and behind their limbs.
type roomyMatrix struct {
	m     impl.Matrix
	cells *roomyVector
}

func matrixWithRoom(given impl.Matrix) roomyMatrix {
	cells := vectorWithRoom(given.Cells)
	return roomyMatrix{impl.Matrix{Rows: given.Rows, Cols: given.Cols, Cells: cells.v}, cells}
}

// matrixResults returns functions with all lists of fractions that a function of one or two matrices returns.
func matrixResults() map[string]func(a impl.Matrix, b impl.Matrix) [][]impl.Rat {
	return map[string]func(a impl.Matrix, b impl.Matrix) [][]impl.Rat{
		"CellAt": func(a impl.Matrix, b impl.Matrix) [][]impl.Rat {
			return [][]impl.Rat{{impl.CellAt(a, 0, 0)}, {impl.CellAt(a, a.Rows-1, a.Cols-1)}, {impl.CellAt(a, 0, a.Cols-1)}, {impl.CellAt(a, 0, 0)}}
		},
		"RowOf": func(a impl.Matrix, b impl.Matrix) [][]impl.Rat {
			return [][]impl.Rat{impl.RowOf(a, 0), impl.RowOf(a, a.Rows-1), impl.RowOf(a, 1), impl.RowOf(a, 0)}
		},
		"Transpose": func(a impl.Matrix, b impl.Matrix) [][]impl.Rat {
			return [][]impl.Rat{impl.Transpose(a).Cells, impl.Transpose(a).Cells}
		},
		"AddMatrices": func(a impl.Matrix, b impl.Matrix) [][]impl.Rat {
			m, _ := impl.AddMatrices(a, b)
			return [][]impl.Rat{m.Cells}
		},
		"Multiply": func(a impl.Matrix, b impl.Matrix) [][]impl.Rat {
			m, _ := impl.Multiply(a, b)
			return [][]impl.Rat{m.Cells}
		},
		"ApplyMatrix": func(a impl.Matrix, b impl.Matrix) [][]impl.Rat {
			v, _ := impl.ApplyMatrix(a, b.Cells[:min(len(b.Cells), max(a.Cols, 0))])
			return [][]impl.Rat{v}
		},
	}
}

func TestMatrixArgumentsStayUnchanged(t *testing.T) {
	r := rand.New(rand.NewSource(65))
	list := []impl.Matrix{
		{}, {Rows: 2}, {Cols: 2}, matrixOf(1, 1, "1"), matrixOf(1, 1, "0"), unitMatrix(2), unitMatrix(3), filled(2, 2, whole(0)), filled(3, 3, whole(1)), filled(2, 3, whole(-1)), filled(3, 2, quotientOf(1, 2)),
		filled(2, 2, impl.Rat{}), filled(2, 2, rat(false, []int{2}, []int{4})), matrixOf(2, 2, "1 2 3"), matrixOf(2, 2, "1 2 3 4 5"), {Rows: -1, Cols: -1, Cells: vectorOf("1")}, filled(1, 25, whole(1)),
		withCell(filled(2, 2, whole(1)), 1, 1, greatestRat()), filled(2, 2, greatestRat()), filled(2, 2, leastOver()),
	}
	for _, size := range [][2]int{{1, 3}, {3, 1}, {2, 2}, {2, 3}, {3, 2}, {3, 3}} {
		list = append(list, randomMatrix(r, size[0], size[1], 2), randomMatrix(r, size[0], size[1], 6), randomMatrix(r, size[0], size[1], 24))
	}
	for _, a := range list {
		for _, b := range list {
			for name, operation := range matrixResults() {
				checkMatricesApart(t, name, a, b, operation)
			}
		}
	}
	large := randomMatrix(r, 24, 24, 1)
	for name, operation := range matrixResults() {
		checkMatricesApart(t, name, large, unitMatrix(24), operation)
	}
}

// checkMatricesApart expects that an operation changes neither its arguments nor what is behind them, and that its results are in memories of their own.
func checkMatricesApart(t *testing.T, name string, a impl.Matrix, b impl.Matrix, operation func(a impl.Matrix, b impl.Matrix) [][]impl.Rat) {
	t.Helper()
	first, second := matrixWithRoom(a), matrixWithRoom(b)
	results := append(operation(first.m, second.m), operation(first.m, first.m)...)
	impl.MatrixOk(first.m)
	impl.EqualMatrices(first.m, second.m)
	if !first.cells.isAsBefore() || !second.cells.isAsBefore() {
		t.Fatalf("%s(%v, %v) changes an argument or what is behind it", name, a, b)
	}
	if !overwriteVector(slices.Concat(results...)) {
		t.Fatalf("two elements of results of %s(%v, %v) share memory", name, a, b)
	}
	for _, v := range results {
		clear(v[:cap(v)])
	}
	if !first.cells.isAsBefore() || !second.cells.isAsBefore() {
		t.Fatalf("a result of %s(%v, %v) shares memory with an argument", name, a, b)
	}
}

// TestMatricesOfOneElementInOneMemory gives matrices whose elements all have the same limbs.
func TestMatricesOfOneElementInOneMemory(t *testing.T) {
	for _, x := range []impl.Rat{whole(1), whole(-1), whole(0), quotientOf(1, 2), quotientOf(-3, 5), rat(false, power(5), oddPower(5))} {
		r, rooms := ratWithRoom(x)
		m := filled(3, 3, r)
		for _, other := range []impl.Matrix{m, unitMatrix(3), filled(3, 3, whole(0)), matrixOf(3, 3, "1/7 -1 0 3 5 1 1 1 0")} {
			for _, pair := range [][2]impl.Matrix{{m, other}, {other, m}} {
				for name, operation := range matrixResults() {
					results := operation(pair[0], pair[1])
					want := operation(matrixWithRoom(pair[0]).m, matrixWithRoom(pair[1]).m)
					all := slices.Concat(results...)
					if len(all) < 3 || !sameVector(all, slices.Concat(want...)) || !overwriteVector(all) || !isAsBefore(rooms, x) {
						t.Errorf("%s with 9 times %v in one memory", name, x)
					}
				}
			}
		}
	}
}

func TestMatrixResultsAreNewEachTime(t *testing.T) {
	ints := []int{1, 0, -1, 1, 0, 1}
	makers := map[string]func() impl.Matrix{
		"MatrixOf":       func() impl.Matrix { return impl.MatrixOf(2, 3, ints) },
		"IdentityMatrix": func() impl.Matrix { return impl.IdentityMatrix(4) },
		"a product of none": func() impl.Matrix {
			m, _ := impl.Multiply(impl.Matrix{Rows: 3}, impl.Matrix{Cols: 2})
			return m
		},
	}
	for name, maker := range makers {
		first := maker()
		want := impl.FormatVector(first.Cells)
		if len(first.Cells) < 6 || strings.Count(want, " ") != len(first.Cells)-1 || !overwriteVector(first.Cells) {
			t.Errorf("two elements of a result of %s share memory", name)
		}
		if got := maker(); impl.FormatVector(got.Cells) != want {
			t.Errorf("%s after a change of an earlier result: %v", name, got)
		}
	}
	room := []int{4, 5, 6, 7, 8, 9}
	if m := impl.MatrixOf(2, 2, room[:4]); !sameMatrix(m, matrixOf(2, 2, "4 5 6 7")) || !slices.Equal(room, []int{4, 5, 6, 7, 8, 9}) {
		t.Errorf("MatrixOf changes its list to %v, or returns %v", room, m)
	}
	m := impl.MatrixOf(2, 3, ints)
	ints[0] = 8
	if !sameMatrix(m, matrixOf(2, 3, "1 0 -1 1 0 1")) {
		t.Errorf("MatrixOf keeps its list: %v", m)
	}
}
