package tests

import (
	"fmt"
	"iter"
	"math"
	"math/big"
	"math/rand"
	"slices"
	"testing"

	"loop.example/g00822/impl"
)

const systemMost = 12

// reduction is a matrix in reduced form, with the factors of its determinant in order.
type reduction struct {
	rows    [][]*big.Rat
	pivots  []int
	factors []*big.Rat
}

// fits reports whether all of these values are fractions that are not too large.
func fits(list ...*big.Rat) bool {
	return !slices.ContainsFunc(list, func(x *big.Rat) bool { return isZeroRat(ratOfBig(x)) })
}

// reduceModel is a model of Reduce for valid matrices, also for those with more columns; it fails where a number is too large.
func reduceModel(m impl.Matrix) (*reduction, bool) {
	d := &reduction{rows: bigRows(m)}
	for k := range m.Cols {
		next := len(d.pivots)
		found := slices.IndexFunc(d.rows[next:], func(row []*big.Rat) bool { return row[k].Sign() != 0 })
		if found < 0 {
			continue
		}
		if found > 0 {
			d.rows[next], d.rows[next+found] = d.rows[next+found], d.rows[next]
			d.factors = append(d.factors, big.NewRat(-1, 1))
		}
		d.pivots = append(d.pivots, k)
		d.factors = append(d.factors, d.rows[next][k])
		if !d.subtractEverywhere(next, k) {
			return nil, false
		}
	}
	return d, true
}

// subtractEverywhere divides the row at this index by its element in column k and subtracts its multiples from all others.
func (d *reduction) subtractEverywhere(index int, k int) bool {
	used := []*big.Rat{}
	for _, x := range d.rows[index] {
		used = append(used, new(big.Rat).Quo(x, d.rows[index][k]))
	}
	d.rows[index] = used
	if !fits(used...) {
		return false
	}
	for i, row := range d.rows {
		if i == index {
			continue
		}
		changed := []*big.Rat{}
		for c, x := range used {
			multiple := new(big.Rat).Mul(row[k], x)
			changed = append(changed, new(big.Rat).Sub(row[c], multiple))
			if !fits(multiple, changed[c]) {
				return false
			}
		}
		d.rows[i] = changed
	}
	return true
}

// part returns the elements of the columns from this one on.
func (d *reduction) part(from int) []impl.Rat {
	list := []impl.Rat{}
	for _, row := range d.rows {
		for _, x := range row[from:] {
			list = append(list, ratOfBig(x))
		}
	}
	return list
}

// determinantModel is a model of Determinant for valid matrices.
func determinantModel(m impl.Matrix) (impl.Rat, bool) {
	d, ok := reduceModel(m)
	if !ok || m.Rows != m.Cols {
		return impl.Rat{}, false
	}
	if len(d.pivots) < m.Rows {
		return whole(0), true
	}
	product := big.NewRat(1, 1)
	for _, x := range d.factors {
		product.Mul(product, x)
		if !fits(product) {
			return impl.Rat{}, false
		}
	}
	return ratOfBig(product), true
}

// solveModel is a model of Inverse and SolveSystem: it returns the elements on the right of the reduced form of m with right beside it.
func solveModel(m impl.Matrix, right impl.Matrix) ([]impl.Rat, bool) {
	if m.Rows != m.Cols || m.Rows > systemMost || right.Rows != m.Rows {
		return nil, false
	}
	if d, ok := reduceModel(m); !ok || len(d.pivots) < m.Rows {
		return nil, false
	}
	both := impl.Matrix{Rows: m.Rows, Cols: m.Cols + right.Cols}
	for i := range m.Rows {
		both.Cells = slices.Concat(both.Cells, rowModel(m, i), rowModel(right, i))
	}
	d, ok := reduceModel(both)
	if !ok {
		return nil, false
	}
	return d.part(m.Cols), true
}

// nullModel is a model of NullVectors for valid matrices.
func nullModel(m impl.Matrix) ([][]impl.Rat, bool) {
	d, ok := reduceModel(m)
	if !ok {
		return nil, false
	}
	list := [][]impl.Rat{}
	for k := range m.Cols {
		if slices.Contains(d.pivots, k) {
			continue
		}
		v := slices.Repeat([]impl.Rat{whole(0)}, m.Cols)
		v[k] = whole(1)
		for i, pivot := range d.pivots {
			v[pivot] = ratOfBig(new(big.Rat).Neg(d.rows[i][k]))
		}
		list = append(list, v)
	}
	return list, true
}

// expanded returns the determinant of a square matrix by expansion along its first row.
func expanded(rows [][]*big.Rat) *big.Rat {
	if len(rows) == 0 {
		return big.NewRat(1, 1)
	}
	sum := new(big.Rat)
	for k, x := range rows[0] {
		minor := [][]*big.Rat{}
		for _, row := range rows[1:] {
			minor = append(minor, slices.Concat(row[:k], row[k+1:]))
		}
		term := new(big.Rat).Mul(x, expanded(minor))
		if k%2 == 1 {
			term.Neg(term)
		}
		sum.Add(sum, term)
	}
	return sum
}

// bigRows returns the values of the elements of a valid matrix.
func bigRows(m impl.Matrix) [][]*big.Rat {
	rows := [][]*big.Rat{}
	for i := range m.Rows {
		rows = append(rows, bigsOf(rowModel(m, i)))
	}
	return rows
}

// sumOfProducts is the inner product without a limit.
func sumOfProducts(a []*big.Rat, b []*big.Rat) *big.Rat {
	sum := new(big.Rat)
	for i, x := range a {
		sum.Add(sum, new(big.Rat).Mul(x, b[i]))
	}
	return sum
}

func bigsOf(v []impl.Rat) []*big.Rat {
	list := []*big.Rat{}
	for _, r := range v {
		list = append(list, bigOfRat(r))
	}
	return list
}

func sameVectors(a [][]impl.Rat, b [][]impl.Rat) bool {
	return slices.EqualFunc(a, b, sameVector)
}

// checkElimination compares all functions of a valid matrix with their models.
func checkElimination(t *testing.T, m impl.Matrix) {
	t.Helper()
	reduced, pivots, ok := impl.Reduce(m)
	d, fine := reduceModel(m)
	want, places, rank := impl.Matrix{}, []int(nil), -1
	if fine {
		want, places, rank = impl.Matrix{Rows: m.Rows, Cols: m.Cols, Cells: d.part(0)}, d.pivots, len(d.pivots)
	}
	if ok != fine || !sameMatrix(reduced, want) || !slices.Equal(pivots, places) {
		t.Errorf("Reduce(%v) = %v, %v, %v, want %v, %v, %v", m, reduced, pivots, ok, want, places, fine)
	}
	if got := impl.RankOf(m); got != rank {
		t.Errorf("RankOf(%v) = %d, want %d", m, got, rank)
	}
	determinant, ok := impl.Determinant(m)
	if r, fine := determinantModel(m); ok != fine || !sameRat(determinant, r) {
		t.Errorf("Determinant(%v) = %v, %v, want %v, %v", m, determinant, ok, r, fine)
	}
	vectors, ok := impl.NullVectors(m)
	if list, fine := nullModel(m); ok != fine || !sameVectors(vectors, list) || !ok && vectors != nil {
		t.Errorf("NullVectors(%v) = %v, %v, want %v, %v", m, vectors, ok, list, fine)
	}
	inverse, ok := impl.Inverse(m)
	cells, fine := solveModel(m, unitMatrix(m.Rows))
	want = impl.Matrix{}
	if fine {
		want = impl.Matrix{Rows: m.Rows, Cols: m.Rows, Cells: cells}
	}
	if ok != fine || !sameMatrix(inverse, want) {
		t.Errorf("Inverse(%v) = %v, %v, want %v, %v", m, inverse, ok, want, fine)
	}
	checkBySubstitution(t, m)
}

// checkSystem compares SolveSystem of valid arguments with its model.
func checkSystem(t *testing.T, m impl.Matrix, v []impl.Rat) {
	t.Helper()
	x, ok := impl.SolveSystem(m, v)
	want, fine := solveModel(m, impl.Matrix{Rows: len(v), Cols: 1, Cells: v})
	if ok != fine || !sameVector(x, want) || !ok && x != nil {
		t.Errorf("SolveSystem(%v, %v) = %v, %v, want %v, %v", m, v, x, ok, want, fine)
	}
	if !ok {
		return
	}
	for i, row := range bigRows(m) {
		if sumOfProducts(row, bigsOf(x)).Cmp(bigOfRat(v[i])) != 0 {
			t.Errorf("SolveSystem(%v, %v) = %v is no solution", m, v, x)
		}
	}
}

// checkBySubstitution checks the results for a valid matrix without a model: they have to be what their names say.
func checkBySubstitution(t *testing.T, m impl.Matrix) {
	t.Helper()
	rows := bigRows(m)
	if reduced, pivots, ok := impl.Reduce(m); ok {
		checkReducedForm(t, rows, bigRows(reduced), pivots)
	}
	if r, ok := impl.Determinant(m); ok && m.Rows < 5 && bigOfRat(r).Cmp(expanded(rows)) != 0 {
		t.Errorf("Determinant(%v) = %v", m, r)
	}
	if inverse, ok := impl.Inverse(m); ok {
		for i, row := range rows {
			for k := range m.Cols {
				want := big.NewRat(0, 1)
				if i == k {
					want.SetInt64(1)
				}
				if sumOfProducts(row, bigsOf(columnModel(inverse, k))).Cmp(want) != 0 {
					t.Errorf("Inverse(%v) = %v: the product has no 0 or 1 at %d, %d", m, inverse, i, k)
				}
			}
		}
	}
	if vectors, ok := impl.NullVectors(m); ok {
		if len(vectors) != m.Cols-impl.RankOf(m) {
			t.Errorf("NullVectors(%v) has %d vectors, the rank is %d", m, len(vectors), impl.RankOf(m))
		}
		for _, v := range vectors {
			for _, row := range rows {
				if !impl.IsVector(v) || len(v) != m.Cols || sumOfProducts(row, bigsOf(v)).Sign() != 0 {
					t.Errorf("NullVectors(%v) has %v", m, v)
				}
			}
		}
	}
}

// checkReducedForm expects ones at the pivots, zeros around them, and each row as the sum of its multiples of reduced rows.
func checkReducedForm(t *testing.T, rows [][]*big.Rat, reduced [][]*big.Rat, pivots []int) {
	t.Helper()
	if !slices.IsSorted(pivots) || len(slices.Compact(slices.Clone(pivots))) != len(pivots) {
		t.Errorf("pivots %v", pivots)
	}
	for i, row := range reduced {
		for k, x := range row {
			isPivot := i < len(pivots) && k == pivots[i]
			isClear := i >= len(pivots) || k < pivots[i] || slices.Contains(pivots, k)
			if isPivot && x.Cmp(big.NewRat(1, 1)) != 0 || isClear && !isPivot && x.Sign() != 0 {
				t.Errorf("the element %v at %d, %d of a reduced form with the pivots %v", x, i, k, pivots)
			}
		}
	}
	for _, row := range rows {
		for k, x := range row {
			sum := new(big.Rat)
			for i, pivot := range pivots {
				sum.Add(sum, new(big.Rat).Mul(row[pivot], reduced[i][k]))
			}
			if sum.Cmp(x) != 0 {
				t.Errorf("the row %v is no combination of the reduced rows %v", row, reduced)
			}
		}
	}
}

// checkNoElimination expects that no function has a result for a matrix, because it is not valid or a number is too large.
func checkNoElimination(t *testing.T, name string, m impl.Matrix) {
	t.Helper()
	reduced, pivots, ok := impl.Reduce(m)
	if ok || !isZeroMatrix(reduced) || len(pivots) != 0 {
		t.Errorf("%s: Reduce = %v, %v, %v", name, reduced, pivots, ok)
	}
	if rank := impl.RankOf(m); rank != -1 {
		t.Errorf("%s: RankOf = %d", name, rank)
	}
	vectors, ok := impl.NullVectors(m)
	if ok || vectors != nil {
		t.Errorf("%s: NullVectors = %v, %v", name, vectors, ok)
	}
	checkNoSystem(t, name, m)
	if r, ok := impl.Determinant(m); ok || !isZeroRat(r) {
		t.Errorf("%s: Determinant = %v, %v", name, r, ok)
	}
}

// checkNoSystem expects that a matrix has no inverse, and no system with it a solution.
func checkNoSystem(t *testing.T, name string, m impl.Matrix) {
	t.Helper()
	if inverse, ok := impl.Inverse(m); ok || !isZeroMatrix(inverse) {
		t.Errorf("%s: Inverse = %v, %v", name, inverse, ok)
	}
	for _, n := range []int{0, 1, 2, 3, 12, 13, m.Rows, m.Cols, m.Rows - 1, m.Cols + 1, len(m.Cells)} {
		if n < 0 || n > 1000 {
			continue
		}
		for _, r := range []impl.Rat{whole(0), whole(1)} {
			if x, ok := impl.SolveSystem(m, slices.Repeat([]impl.Rat{r}, n)); ok || x != nil {
				t.Errorf("%s: SolveSystem with %d times %v = %v, %v", name, n, r, x, ok)
			}
		}
	}
}

// diagonal returns the square matrix with these elements in its diagonal.
func diagonal(list ...impl.Rat) impl.Matrix {
	m := filled(len(list), len(list), whole(0))
	for i, r := range list {
		m.Cells[i*len(list)+i] = r
	}
	return m
}

// smallMatrix returns a matrix of small integers.
func smallMatrix(r *rand.Rand, rows int, cols int, most int) impl.Matrix {
	m := impl.Matrix{Rows: rows, Cols: cols}
	for range rows * cols {
		m.Cells = append(m.Cells, whole(r.Intn(2*most+1)-most))
	}
	return m
}

// evenMatrix returns a product of triangular matrices of small integers with ones in their diagonals; its determinant is 1.
func evenMatrix(r *rand.Rand, n int) impl.Matrix {
	lower, upper := unitMatrix(n), unitMatrix(n)
	for i := range n {
		for k := range i {
			lower.Cells[i*n+k] = whole(r.Intn(3) - 1)
			upper.Cells[k*n+i] = whole(r.Intn(3) - 1)
		}
	}
	m, _ := multiplyModel(lower, upper)
	return m
}

func TestReduceExamples(t *testing.T) {
	cases := []struct {
		rows, cols int
		m, want    string
		pivots     []int
	}{
		{2, 3, "0 2 4 1 1 1", "1 0 -1 0 1 2", []int{0, 1}}, {2, 2, "1 2 3 4", "1 0 0 1", []int{0, 1}}, {2, 2, "1 2 2 4", "1 2 0 0", []int{0}}, {1, 1, "-5/7", "1", []int{0}}, {1, 1, "0", "0", nil},
		{1, 4, "0 0 -2 3", "0 0 1 -3/2", []int{2}}, {4, 1, "0 0 -2 3", "1 0 0 0", []int{0}}, {2, 3, "0 0 0 0 0 5", "0 0 1 0 0 0", []int{2}}, {3, 3, "1 2 3 4 5 6 7 8 9", "1 0 -1 0 1 2 0 0 0", []int{0, 1}},
		{2, 4, "0 1 2 3 0 1 2 4", "0 1 2 0 0 0 0 1", []int{1, 3}}, {2, 4, "1 2 3 4 2 4 7 9", "1 2 0 1 0 0 1 1", []int{0, 2}}, {3, 2, "1 2 2 4 3 7", "1 0 0 1 0 0", []int{0, 1}}, {3, 3, "0 0 1 0 1 0 1 0 0", "1 0 0 0 1 0 0 0 1", []int{0, 1, 2}},
		{3, 4, "0 0 0 1 0 0 0 2 0 1/2 1/3 0", "0 1 2/3 0 0 0 0 1 0 0 0 0", []int{1, 3}}, {2, 2, "0 0 0 3", "0 1 0 0", []int{1}}, {2, 2, "0 3 0 5", "0 1 0 0", []int{1}}, {2, 3, "1/2 1/3 1/4 1/3 1/4 1/5", "1 0 -3/10 0 1 6/5", []int{0, 1}},
		{3, 5, "0 0 1 2 3 0 0 2 4 7 0 0 0 0 1", "0 0 1 2 0 0 0 0 0 1 0 0 0 0 0", []int{2, 4}}, {2, 2, "2 4 -1 -2", "1 2 0 0", []int{0}}, {2, 2, "0 1 1 0", "1 0 0 1", []int{0, 1}},
	}
	for _, c := range cases {
		m := matrixOf(c.rows, c.cols, c.m)
		reduced, pivots, ok := impl.Reduce(m)
		if !ok || !sameMatrix(reduced, matrixOf(c.rows, c.cols, c.want)) || !slices.Equal(pivots, c.pivots) || impl.RankOf(m) != len(c.pivots) {
			t.Errorf("Reduce(%d, %d, %s) = %v, %v, %v, RankOf %d", c.rows, c.cols, c.m, reduced, pivots, ok, impl.RankOf(m))
		}
		checkElimination(t, m)
	}
}

func TestSystemExamples(t *testing.T) {
	cases := []struct {
		n                             int
		m, determinant, inverse, v, x string
	}{
		{0, "", "1", "", "", ""}, {1, "1", "1", "1", "-3", "-3"}, {1, "-2/3", "-2/3", "-3/2", "5", "-15/2"}, {2, "0 2 3 1", "-6", "-1/6 1/3 1/2 0", "4 5", "1 2"}, {2, "1 2 3 4", "-2", "-2 1 3/2 -1/2", "5 6", "-4 9/2"},
		{2, "0 1 1 0", "-1", "0 1 1 0", "7 8", "8 7"}, {2, "1 0 0 1", "1", "1 0 0 1", "1/2 0", "1/2 0"}, {3, "0 1 0 0 0 1 1 0 0", "1", "0 0 1 1 0 0 0 1 0", "1 2 3", "3 1 2"}, {3, "0 0 1 0 1 0 1 0 0", "-1", "0 0 1 0 1 0 1 0 0", "1 2 3", "3 2 1"},
		{3, "2 0 0 0 3 0 0 0 5", "30", "1/2 0 0 0 1/3 0 0 0 1/5", "1 1 1", "1/2 1/3 1/5"}, {3, "1 1/2 1/3 1/2 1/3 1/4 1/3 1/4 1/5", "1/2160", "9 -36 30 -36 192 -180 30 -180 180", "1 0 0", "9 -36 30"},
		{3, "2 -1 0 -1 2 -1 0 -1 2", "4", "3/4 1/2 1/4 1/2 1 1/2 1/4 1/2 3/4", "0 1 0", "1/2 1 1/2"}, {3, "0 2 0 3 0 0 0 0 5", "-30", "0 1/3 0 1/2 0 0 0 0 1/5", "2 3 5", "1 1 1"},
	}
	for _, c := range cases {
		m := matrixOf(c.n, c.n, c.m)
		r, one := impl.Determinant(m)
		inverse, two := impl.Inverse(m)
		x, three := impl.SolveSystem(m, vectorOf(c.v))
		if !one || !two || !three || !sameRat(r, vectorOf(c.determinant)[0]) || !sameMatrix(inverse, matrixOf(c.n, c.n, c.inverse)) || !sameVector(x, vectorOf(c.x)) {
			t.Errorf("%s: Determinant %v, %v, Inverse %v, %v, SolveSystem %v, %v", c.m, r, one, inverse, two, x, three)
		}
		vectors, ok := impl.NullVectors(m)
		if !ok || len(vectors) != 0 || impl.RankOf(m) != c.n {
			t.Errorf("%s: NullVectors %v, %v, RankOf %d", c.m, vectors, ok, impl.RankOf(m))
		}
		checkElimination(t, m)
		checkSystem(t, m, vectorOf(c.v))
	}
}

func TestNullVectorExamples(t *testing.T) {
	cases := []struct {
		rows, cols int
		m          string
		want       []string
	}{
		{2, 3, "0 2 4 1 1 1", []string{"1 -2 1"}}, {1, 3, "1 2 3", []string{"-2 1 0", "-3 0 1"}}, {1, 3, "0 0 2", []string{"1 0 0", "0 1 0"}}, {1, 3, "0 2 0", []string{"1 0 0", "0 0 1"}}, {1, 3, "0 2 1", []string{"1 0 0", "0 -1/2 1"}},
		{2, 2, "1 2 2 4", []string{"-2 1"}}, {2, 2, "0 0 0 0", []string{"1 0", "0 1"}}, {2, 2, "1 2 3 4", nil}, {3, 2, "1 2 2 4 3 7", nil}, {3, 1, "0 0 0", []string{"1"}}, {3, 1, "0 0 4", nil}, {1, 1, "0", []string{"1"}}, {1, 1, "-3", nil},
		{2, 4, "0 1 2 3 0 1 2 4", []string{"1 0 0 0", "0 -2 1 0"}}, {2, 4, "1 2 3 4 2 4 7 9", []string{"-2 1 0 0", "-1 0 -1 1"}}, {3, 3, "1 -1 0 0 1 -1 1 0 -1", []string{"1 1 1"}}, {2, 4, "1 0 1/2 -1/3 0 1 0 5", []string{"-1/2 0 1 0", "1/3 -5 0 1"}},
	}
	for _, c := range cases {
		vectors, ok := impl.NullVectors(matrixOf(c.rows, c.cols, c.m))
		want := [][]impl.Rat{}
		for _, text := range c.want {
			want = append(want, vectorOf(text))
		}
		if !ok || !sameVectors(vectors, want) {
			t.Errorf("NullVectors(%d, %d, %s) = %v, %v", c.rows, c.cols, c.m, vectors, ok)
		}
		checkElimination(t, matrixOf(c.rows, c.cols, c.m))
	}
}

func TestEliminationWithoutElements(t *testing.T) {
	for _, m := range emptyMatrices() {
		reduced, pivots, ok := impl.Reduce(m)
		if !ok || !sameMatrix(reduced, m) || len(pivots) != 0 || impl.RankOf(m) != 0 {
			t.Errorf("Reduce of %s = %v, %v, %v, RankOf %d", sizeOf(m), reduced, pivots, ok, impl.RankOf(m))
		}
		vectors, ok := impl.NullVectors(m)
		if !ok || len(vectors) != m.Cols {
			t.Errorf("NullVectors of %s = %v, %v", sizeOf(m), vectors, ok)
		}
		for k, v := range vectors {
			if !sameVector(v, rowModel(unitMatrix(m.Cols), k)) {
				t.Errorf("the null vector %d of %s = %v", k, sizeOf(m), v)
			}
		}
		checkElimination(t, m)
		isEmpty := m.Rows == 0 && m.Cols == 0
		r, one := impl.Determinant(m)
		inverse, two := impl.Inverse(m)
		if one != isEmpty || two != isEmpty || one && !sameRat(r, whole(1)) || !one && !isZeroRat(r) || !isZeroMatrix(inverse) {
			t.Errorf("%s: Determinant %v, %v, Inverse %v, %v", sizeOf(m), r, one, inverse, two)
		}
		for n := range 27 {
			for _, v := range [][]impl.Rat{slices.Repeat([]impl.Rat{whole(0)}, n), slices.Repeat([]impl.Rat{whole(1)}, n)} {
				if x, ok := impl.SolveSystem(m, v); ok != (isEmpty && n == 0) || len(x) != 0 {
					t.Errorf("SolveSystem of %s with %d elements = %v, %v", sizeOf(m), n, x, ok)
				}
			}
		}
		if x, ok := impl.SolveSystem(m, nil); ok != isEmpty || len(x) != 0 {
			t.Errorf("SolveSystem of %s with nil = %v, %v", sizeOf(m), x, ok)
		}
	}
}

func TestEliminationOfZeros(t *testing.T) {
	for rows := range matrixMost + 1 {
		for _, cols := range []int{0, 1, 2, 3, 12, 13, 23, 24, rows} {
			m := filled(rows, cols, whole(0))
			reduced, pivots, ok := impl.Reduce(m)
			vectors, fine := impl.NullVectors(m)
			if !ok || !fine || !sameMatrix(reduced, m) || len(pivots) != 0 || impl.RankOf(m) != 0 || len(vectors) != cols {
				t.Errorf("zeros, %s: Reduce %v, %v, %v, RankOf %d, NullVectors %v, %v", sizeOf(m), reduced, pivots, ok, impl.RankOf(m), vectors, fine)
			}
			for k, v := range vectors {
				if !sameVector(v, rowModel(unitMatrix(cols), k)) {
					t.Errorf("zeros, %s: the null vector %d is %v", sizeOf(m), k, v)
				}
			}
			r, ok := impl.Determinant(m)
			if want := rows == cols; ok != want || ok && rows > 0 && !sameRat(r, whole(0)) || !ok && !isZeroRat(r) {
				t.Errorf("zeros, %s: Determinant %v, %v", sizeOf(m), r, ok)
			}
			if rows+cols > 0 {
				checkNoSystem(t, "zeros", m)
			}
		}
	}
}

// smallVectors gives all vectors of n integers, at least 1, from least to most.
func smallVectors(n int, least int, most int) iter.Seq[[]impl.Rat] {
	return func(yield func(v []impl.Rat) bool) {
		numbers := slices.Repeat([]int{least}, n)
		for i := 0; i < n; {
			v := []impl.Rat{}
			for _, number := range numbers {
				v = append(v, whole(number))
			}
			if !yield(v) {
				return
			}
			for i = 0; i < n && numbers[i] == most; i++ {
				numbers[i] = least
			}
			if i < n {
				numbers[i]++
			}
		}
	}
}

// matricesOfWrongSizes returns matrices whose numbers of rows, columns or elements make them invalid.
func matricesOfWrongSizes() []impl.Matrix {
	var list []impl.Matrix
	sizes := []int{-25, -2, -1, 0, 1, 2, 5, 12, 24, 25, 26, 576, math.MinInt64, math.MaxInt64, 1 << 32, 1 << 62}
	for _, rows := range sizes {
		for _, cols := range sizes {
			for _, n := range []int{0, 1, 2, 4, 24, 25, 144, 576, 600, 625, rows * cols, rows*cols - 1, rows*cols + 1} {
				isValid := min(rows, cols) >= 0 && max(rows, cols) <= matrixMost && n == rows*cols
				if n >= 0 && n <= 1000 && !isValid {
					list = append(list, impl.Matrix{Rows: rows, Cols: cols, Cells: slices.Repeat([]impl.Rat{whole(1)}, n)})
				}
			}
		}
	}
	return list
}

// TestEliminationOfAllSmallMatrices takes all matrices of some sizes whose elements are among a few integers.
func TestEliminationOfAllSmallMatrices(t *testing.T) {
	for _, c := range []struct{ rows, cols, least, most int }{{1, 1, -3, 3}, {1, 2, -2, 2}, {2, 1, -2, 2}, {2, 2, -2, 2}, {2, 3, -1, 1}, {3, 2, -1, 1}, {1, 4, -1, 1}, {4, 1, -1, 1}, {3, 3, 0, 1}, {2, 4, 0, 1}, {4, 2, 0, 1}, {3, 4, 0, 1}} {
		for cells := range smallVectors(c.rows*c.cols, c.least, c.most) {
			m := impl.Matrix{Rows: c.rows, Cols: c.cols, Cells: cells}
			checkElimination(t, m)
			if c.rows == c.cols {
				checkSystem(t, m, vectorOf("1 0 -2/3")[:c.rows])
			}
		}
	}
}

// TestReducedFormsAreRecovered multiplies matrices in reduced form by matrices with an inverse: Reduce finds them again.
func TestReducedFormsAreRecovered(t *testing.T) {
	r := rand.New(rand.NewSource(71))
	for range 600 {
		rows, cols := 1+r.Intn(6), 1+r.Intn(7)
		pivots := r.Perm(cols)[:r.Intn(min(rows, cols)+1)]
		slices.Sort(pivots)
		want := filled(rows, cols, whole(0))
		for i, pivot := range pivots {
			for k := pivot; k < cols; k++ {
				if k == pivot {
					want.Cells[i*cols+k] = whole(1)
				} else if !slices.Contains(pivots, k) {
					want.Cells[i*cols+k] = quotientOf(r.Intn(9)-4, 1+r.Intn(3))
				}
			}
		}
		factor := evenMatrix(r, rows)
		shuffled := impl.Matrix{Rows: rows, Cols: rows}
		for _, i := range r.Perm(rows) {
			shuffled.Cells = append(shuffled.Cells, rowModel(factor, i)...)
		}
		m, _ := multiplyModel(shuffled, want)
		reduced, places, ok := impl.Reduce(m)
		if !ok || !sameMatrix(reduced, want) || !slices.Equal(places, pivots) || impl.RankOf(m) != len(pivots) {
			t.Errorf("Reduce(%v) = %v, %v, %v, want %v, %v", m, reduced, places, ok, want, pivots)
		}
		if again, same, ok := impl.Reduce(want); !ok || !sameMatrix(again, want) || !slices.Equal(same, pivots) {
			t.Errorf("Reduce of the reduced form %v = %v, %v, %v", want, again, same, ok)
		}
		checkElimination(t, m)
	}
}

// TestColumnsWithoutAPivot has such columns at the beginning, in the middle and at the end, zeros and sums of the columns before them.
func TestColumnsWithoutAPivot(t *testing.T) {
	for without := range 1 << 5 {
		for _, factor := range []int{0, 1, -3} {
			m := impl.Matrix{Rows: 5, Cols: 5}
			pivots := []int{}
			for k := range 5 {
				if without>>k&1 == 0 {
					pivots = append(pivots, k)
				}
			}
			for i := range 5 {
				for k := range 5 {
					n := 0
					place := slices.Index(pivots, k)
					switch {
					case place == i:
						n = 2
					case place < 0 && i < len(pivots) && pivots[i] < k:
						n = 2 * factor
					}
					m.Cells = append(m.Cells, whole(n))
				}
			}
			_, places, ok := impl.Reduce(m)
			if !ok || !slices.Equal(places, pivots) || impl.RankOf(m) != len(pivots) {
				t.Errorf("Reduce(%v): pivots %v, %v, want %v", m, places, ok, pivots)
			}
			checkElimination(t, m)
			turned := transposeModel(m)
			checkElimination(t, turned)
			if impl.RankOf(turned) != len(pivots) {
				t.Errorf("RankOf(%v) = %d", turned, impl.RankOf(turned))
			}
		}
	}
}

// permutations returns all orders of the numbers below n, and their signs.
func permutations(n int) ([][]int, []int) {
	if n == 0 {
		return [][]int{{}}, []int{1}
	}
	var list [][]int
	var signs []int
	shorter, before := permutations(n - 1)
	for i, p := range shorter {
		for place := range n {
			list = append(list, slices.Insert(slices.Clone(p), place, n-1))
			signs = append(signs, before[i]*(1-2*((n-1-place)%2)))
		}
	}
	return list, signs
}

// TestExchangedRows takes all orders of the rows of diagonal matrices: even and odd numbers of exchanges, and none.
func TestExchangedRows(t *testing.T) {
	for n := range 6 {
		list, signs := permutations(n)
		for i, p := range list {
			m, product := filled(n, n, whole(0)), signs[i]
			want := filled(n, n, whole(0))
			for row, k := range p {
				m.Cells[row*n+k] = whole(row + 2)
				want.Cells[k*n+row] = quotientOf(1, row+2)
				product *= row + 2
			}
			r, ok := impl.Determinant(m)
			inverse, fine := impl.Inverse(m)
			reduced, _, good := impl.Reduce(m)
			if !ok || !fine || !good || !sameRat(r, whole(product)) || !sameMatrix(inverse, want) || !sameMatrix(reduced, unitMatrix(n)) {
				t.Errorf("the order %v: Determinant %v, %v, Inverse %v, %v, Reduce %v, %v", p, r, ok, inverse, fine, reduced, good)
			}
			checkElimination(t, m)
		}
	}
}

func TestEliminationOfAllSizes(t *testing.T) {
	r := rand.New(rand.NewSource(72))
	for rows := range 7 {
		for cols := range 8 {
			for _, most := range []int{1, 2, 9} {
				checkElimination(t, smallMatrix(r, rows, cols, most))
			}
			checkElimination(t, randomMatrix(r, rows, cols, 1))
		}
	}
	for _, x := range sampleRats() {
		checkElimination(t, impl.Matrix{Rows: 1, Cols: 1, Cells: []impl.Rat{x}})
		for _, y := range []impl.Rat{whole(0), whole(1), quotientOf(-1, 2), greatestRat()} {
			checkElimination(t, impl.Matrix{Rows: 1, Cols: 2, Cells: []impl.Rat{x, y}})
			checkElimination(t, impl.Matrix{Rows: 2, Cols: 1, Cells: []impl.Rat{y, x}})
			checkSystem(t, impl.Matrix{Rows: 1, Cols: 1, Cells: []impl.Rat{x}}, []impl.Rat{y})
		}
	}
}

// TestEliminationOfGreatestMatrices has exactly MaxLength rows or columns, and one more.
func TestEliminationOfGreatestMatrices(t *testing.T) {
	r := rand.New(rand.NewSource(73))
	for _, size := range [][2]int{{24, 24}, {24, 1}, {1, 24}, {24, 12}, {12, 24}, {24, 23}, {23, 24}} {
		m := smallMatrix(r, size[0], size[1], 2)
		checkElimination(t, m)
		if impl.RankOf(m) != min(size[0], size[1]) {
			t.Errorf("RankOf of %s = %d", sizeOf(m), impl.RankOf(m))
		}
		checkElimination(t, filled(size[0], size[1], quotientOf(-2, 3)))
		checkNoSystem(t, sizeOf(m), m)
	}
	reduced, pivots, ok := impl.Reduce(evenMatrix(r, matrixMost))
	if !ok || !sameMatrix(reduced, unitMatrix(matrixMost)) || len(pivots) != matrixMost {
		t.Errorf("Reduce of 24 rows = %v, %v, %v", reduced, pivots, ok)
	}
	if d, ok := impl.Determinant(evenMatrix(r, matrixMost)); !ok || !sameRat(d, whole(1)) {
		t.Errorf("Determinant of 24 rows = %v, %v", d, ok)
	}
	last := filled(matrixMost, matrixMost, whole(0))
	last.Cells[575] = whole(3)
	if _, pivots, ok := impl.Reduce(last); !ok || !slices.Equal(pivots, []int{23}) {
		t.Errorf("Reduce with an element at the end: pivots %v, %v", pivots, ok)
	}
	if vectors, ok := impl.NullVectors(last); !ok || len(vectors) != 23 || !sameVector(vectors[22], rowModel(unitMatrix(24), 22)) {
		t.Errorf("NullVectors with an element at the end: %v, %v", vectors, ok)
	}
	for _, size := range [][2]int{{25, 25}, {25, 24}, {24, 25}, {1, 25}, {25, 1}, {0, 25}, {25, 0}} {
		checkNoElimination(t, "one too many", filled(size[0], size[1], whole(1)))
	}
}

func TestSystemsOfAllSizes(t *testing.T) {
	r := rand.New(rand.NewSource(74))
	for n := range matrixMost + 1 {
		for _, m := range []impl.Matrix{unitMatrix(n), evenMatrix(r, n), diagonal(slices.Repeat([]impl.Rat{quotientOf(-3, 5)}, n)...)} {
			if n > systemMost {
				checkNoSystem(t, sizeOf(m), m)
				if impl.RankOf(m) != n {
					t.Errorf("RankOf of %s = %d", sizeOf(m), impl.RankOf(m))
				}
				continue
			}
			checkElimination(t, m)
			x := randomVector(r, n, 1)
			v, _ := applyModel(m, x)
			got, ok := impl.SolveSystem(m, v)
			if !ok || !sameVector(got, x) {
				t.Errorf("SolveSystem(%v, %v) = %v, %v, want %v", m, v, got, ok, x)
			}
			checkSystem(t, m, v)
			inverse, ok := impl.Inverse(m)
			again, fine := impl.Inverse(inverse)
			if !ok || !fine || !sameMatrix(again, m) || inverse.Rows != n || inverse.Cols != n {
				t.Errorf("the inverse of the inverse of %v = %v, %v, %v", m, again, ok, fine)
			}
		}
	}
	for n := range systemMost + 1 {
		m := impl.Matrix{Rows: n, Cols: n}
		for i := range n * n {
			m.Cells = append(m.Cells, quotientOf(1, 1+i/n+i%n))
		}
		checkElimination(t, m)
		checkSystem(t, m, slices.Repeat([]impl.Rat{whole(1)}, n))
		if inverse, ok := impl.Inverse(m); !ok || n > 0 && !sameRat(inverse.Cells[0], whole(n*n)) {
			t.Errorf("Inverse of the fractions 1 / (i + k + 1) for %d rows = %v, %v", n, inverse, ok)
		}
	}
}

func TestDeterminantLaws(t *testing.T) {
	r := rand.New(rand.NewSource(75))
	for range 300 {
		n := r.Intn(6)
		a, b := smallMatrix(r, n, n, 3), impl.Matrix{Rows: n, Cols: n}
		for range n * n {
			b.Cells = append(b.Cells, quotientOf(r.Intn(19)-9, 1+r.Intn(6)))
		}
		product, _ := multiplyModel(a, b)
		x, one := impl.Determinant(a)
		y, two := impl.Determinant(b)
		z, three := impl.Determinant(product)
		turned, four := impl.Determinant(transposeModel(b))
		if !one || !two || !three || !four || !sameRat(z, impl.RatMul(x, y)) || !sameRat(turned, y) {
			t.Errorf("Determinant of %v and %v and their product: %v, %v, %v, turned %v", a, b, x, y, z, turned)
		}
		_, ok := impl.Inverse(a)
		if ok != (impl.RatSign(x) != 0) || ok != (impl.RankOf(a) == n) {
			t.Errorf("%v: Inverse %v, Determinant %v, RankOf %d", a, ok, x, impl.RankOf(a))
		}
		if impl.RankOf(product) > min(impl.RankOf(a), impl.RankOf(b)) || impl.RankOf(transposeModel(a)) != impl.RankOf(a) {
			t.Errorf("RankOf of %v and %v and their product: %d, %d, %d", a, b, impl.RankOf(a), impl.RankOf(b), impl.RankOf(product))
		}
	}
}

func TestDeterminantsThatAreTooLarge(t *testing.T) {
	g, l, two, half, zero, one := greatestRat(), leastOver(), whole(2), quotientOf(1, 2), whole(0), whole(1)
	cases := []struct {
		name string
		list []impl.Rat
		want impl.Rat
	}{
		{"the greatest one", []impl.Rat{g}, g}, {"the least one", []impl.Rat{l}, l}, {"small enough at each place", []impl.Rat{g, half, two}, g}, {"small enough in another order", []impl.Rat{half, two, g, one}, g},
		{"back to 1", []impl.Rat{g, l, g, l}, one}, {"at the end", []impl.Rat{g, two}, impl.Rat{}}, {"at the end, from the left", []impl.Rat{two, g}, impl.Rat{}}, {"a denominator at the end", []impl.Rat{half, l}, impl.Rat{}},
		{"on the way", []impl.Rat{g, two, half}, impl.Rat{}}, {"on the way, then back to 1", []impl.Rat{g, g, l, l}, impl.Rat{}}, {"a denominator on the way", []impl.Rat{l, half, two}, impl.Rat{}}, {"on the way, at the second place of four", []impl.Rat{one, two, g, half}, impl.Rat{}},
		{"negative on the way", []impl.Rat{impl.RatNeg(g), two, half}, impl.Rat{}}, {"negative and small enough", []impl.Rat{impl.RatNeg(g), half, two}, impl.RatNeg(g)},
		{"at the end, with fewer pivots", []impl.Rat{g, two, zero}, zero}, {"at the end, with a zero at first", []impl.Rat{zero, g, two}, zero}, {"at the end, with a zero in the middle", []impl.Rat{g, zero, two}, zero},
		{"on the way, with fewer pivots", []impl.Rat{g, two, half, zero}, zero}, {"on the way, with a zero at first", []impl.Rat{zero, l, half, two}, zero}, {"on the way, with a zero in between", []impl.Rat{g, g, zero, l, l}, zero},
	}
	for _, c := range cases {
		m := diagonal(c.list...)
		r, ok := impl.Determinant(m)
		if ok != impl.RatOk(c.want) || !sameRat(r, c.want) {
			t.Errorf("%s: Determinant = %v, %v, want %v", c.name, r, ok, c.want)
		}
		if impl.RankOf(m) < 0 {
			t.Errorf("%s: RankOf = -1", c.name)
		}
		checkElimination(t, m)
		// The same rows from the last to the first: the product is the same, but for its sign.
		turned := impl.Matrix{Rows: m.Rows, Cols: m.Cols}
		for i := range m.Rows {
			turned.Cells = append(turned.Cells, rowModel(m, m.Rows-1-i)...)
		}
		r, ok = impl.Determinant(turned)
		if ok != impl.RatOk(c.want) || ok && !sameRat(impl.RatMul(r, r), impl.RatMul(c.want, c.want)) {
			t.Errorf("%s, from the last row to the first: Determinant = %v, %v", c.name, r, ok)
		}
		checkElimination(t, turned)
	}
}

func TestSystemsWithoutASolution(t *testing.T) {
	cases := map[string]impl.Matrix{
		"zero": matrixOf(1, 1, "0"), "two equal rows": matrixOf(2, 2, "1 2 1 2"), "a multiple": matrixOf(2, 2, "1 2 2 4"), "a zero column": matrixOf(2, 2, "0 1 0 2"), "a zero row": matrixOf(2, 2, "0 0 1 2"), "the rank 2 of 3": matrixOf(3, 3, "1 2 3 4 5 6 7 8 9"),
		"the rank 1 of 3": matrixOf(3, 3, "1 2 3 2 4 6 3 6 9"), "a cycle": matrixOf(3, 3, "1 -1 0 0 1 -1 -1 0 1"), "a first column of zeros": matrixOf(3, 3, "0 1 2 0 3 4 0 5 7"), "a last column of zeros": matrixOf(3, 3, "1 2 0 3 4 0 5 7 0"),
		"the rank 11 of 12": withCell(unitMatrix(12), 11, 11, whole(0)), "the rank 11 of 12 from the first": withCell(unitMatrix(12), 0, 0, whole(0)), "twelve equal rows": filled(12, 12, whole(1)),
	}
	for name, m := range cases {
		checkNoSystem(t, name, m)
		if r, ok := impl.Determinant(m); !ok || !sameRat(r, whole(0)) || impl.RankOf(m) >= m.Rows {
			t.Errorf("%s: Determinant %v, %v, RankOf %d", name, r, ok, impl.RankOf(m))
		}
		// A vector for which there are solutions, and one for which there is none.
		possible, _ := applyModel(m, slices.Repeat([]impl.Rat{whole(1)}, m.Cols))
		for _, v := range [][]impl.Rat{possible, rowModel(unitMatrix(m.Rows), 0), rowModel(unitMatrix(m.Rows), m.Rows-1)} {
			if x, ok := impl.SolveSystem(m, v); ok || x != nil {
				t.Errorf("%s: SolveSystem with %v = %v, %v", name, v, x, ok)
			}
			checkSystem(t, m, v)
		}
		checkElimination(t, m)
	}
	for rows := range 14 {
		for cols := range 14 {
			if rows == cols {
				continue
			}
			m := filled(rows, cols, whole(0))
			for i := range min(rows, cols) {
				m.Cells[i*cols+i] = whole(1)
			}
			checkNoSystem(t, "rows and columns differ", m)
			if r, ok := impl.Determinant(m); ok || !isZeroRat(r) || impl.RankOf(m) != min(rows, cols) {
				t.Errorf("Determinant of %s = %v, %v", sizeOf(m), r, ok)
			}
		}
	}
}

func TestSystemsWithVectorsThatDoNotFit(t *testing.T) {
	for _, n := range []int{0, 1, 2, 3, 11, 12} {
		m := unitMatrix(n)
		for length := range 27 {
			x, ok := impl.SolveSystem(m, slices.Repeat([]impl.Rat{quotientOf(1, 3)}, length))
			if ok != (length == n) || ok && !sameVector(x, slices.Repeat([]impl.Rat{quotientOf(1, 3)}, n)) || !ok && x != nil {
				t.Errorf("SolveSystem of %d rows with %d elements = %v, %v", n, length, x, ok)
			}
		}
		if x, ok := impl.SolveSystem(m, nil); ok != (n == 0) || len(x) != 0 {
			t.Errorf("SolveSystem of %d rows with nil = %v, %v", n, x, ok)
		}
	}
	for name, bad := range invalidRats() {
		for _, n := range []int{1, 2, 3, 12} {
			for _, place := range []int{0, n / 2, n - 1} {
				v := withElement(slices.Repeat([]impl.Rat{whole(1)}, n), place, bad)
				if x, ok := impl.SolveSystem(unitMatrix(n), v); ok || x != nil {
					t.Errorf("SolveSystem of %d rows with %s at %d = %v, %v", n, name, place, x, ok)
				}
			}
		}
	}
}

func TestEliminationOfInvalidMatrices(t *testing.T) {
	for name, bad := range invalidRats() {
		for _, size := range [][2]int{{1, 1}, {1, 3}, {3, 1}, {3, 3}, {2, 2}} {
			for _, good := range []impl.Matrix{filled(size[0], size[1], whole(0)), filled(size[0], size[1], quotientOf(1, 2)), impl.MatrixOf(3, 3, []int{1, 2, 3, 0, 1, 4, 0, 0, 1})} {
				for _, place := range []int{0, len(good.Cells) / 2, len(good.Cells) - 1} {
					m := impl.Matrix{Rows: good.Rows, Cols: good.Cols, Cells: withElement(good.Cells, place, bad)}
					checkNoElimination(t, fmt.Sprintf("%s at %d of %s", name, place, sizeOf(m)), m)
				}
			}
		}
	}
	for _, m := range matricesOfWrongSizes() {
		checkNoElimination(t, sizeOf(m), m)
	}
}

// TestNumbersThatAreTooLarge has one number that is too large while rows are divided or subtracted.
func TestNumbersThatAreTooLarge(t *testing.T) {
	g, l, zero, one, two, half := greatestRat(), leastOver(), whole(0), whole(1), whole(2), quotientOf(1, 2)
	minus, opposite := whole(-1), impl.RatNeg(greatestRat())
	row := func(list ...impl.Rat) []impl.Rat { return list }
	cases := map[string][][]impl.Rat{
		"a quotient":                                      {row(half, g), row(zero, one)},
		"a quotient in a row of its own":                  {row(half, g)},
		"a negative quotient":                             {row(half, opposite), row(zero, zero)},
		"a denominator":                                   {row(two, l), row(zero, one)},
		"a quotient in the last column":                   {row(half, zero, g), row(zero, one, zero), row(zero, zero, one)},
		"a quotient in a column behind all pivots":        {row(one, zero, zero), row(zero, half, g)},
		"a quotient in a later step":                      {row(one, zero, zero), row(zero, half, g), row(zero, zero, one)},
		"a quotient behind a column without a pivot":      {row(zero, half, g), row(zero, zero, one), row(zero, zero, zero)},
		"a quotient after an exchange":                    {row(zero, one), row(half, g)},
		"a quotient by the first row, not the greatest":   {row(half, g), row(one, zero)},
		"a multiple":                                      {row(one, g), row(two, zero)},
		"a negative multiple":                             {row(one, g), row(whole(-2), one)},
		"a multiple, though the difference is not":        {row(one, g), row(two, g)},
		"a multiple whose denominator is":                 {row(one, l), row(half, zero)},
		"a multiple in the last row":                      {row(one, g), row(zero, one), row(two, zero)},
		"a multiple in a later step":                      {row(one, zero, zero), row(zero, one, g), row(zero, two, zero)},
		"a multiple subtracted from a row above":          {row(one, two, zero), row(zero, one, g), row(zero, zero, one)},
		"a multiple above, in a column behind all pivots": {row(one, two, zero), row(zero, one, g)},
		"a multiple above, in the last step":              {row(one, zero, two, zero), row(zero, one, zero, zero), row(zero, zero, one, g)},
		"a multiple above, behind a column without one":   {row(one, zero, two, zero), row(zero, zero, one, g), row(zero, zero, zero, one), row(zero, zero, zero, zero)},
		"a difference":                                    {row(one, g), row(minus, g)},
		"a difference by 1":                               {row(one, g), row(minus, one)},
		"a negative difference":                           {row(one, g), row(one, minus)},
		"a difference of quotients":                       {row(one, l), row(one, half)},
		"a difference in the last row":                    {row(one, g), row(zero, one), row(minus, one)},
		"a difference in a later step":                    {row(one, zero, zero), row(zero, one, g), row(zero, minus, one)},
		"a difference in a row above":                     {row(one, one, minus), row(zero, one, g), row(zero, zero, one)},
		"a difference above, in a column behind":          {row(one, one, minus), row(zero, one, g)},
		"the first other row after an exchange":           {row(zero, one, zero), row(zero, half, g), row(one, zero, zero)},
	}
	for name, rows := range cases {
		m := impl.Matrix{Rows: len(rows), Cols: len(rows[0]), Cells: slices.Concat(rows...)}
		checkNoElimination(t, name, m)
		checkElimination(t, m)
		// With further rows and columns of zeros on all sides, so that the step comes later and other columns follow.
		wide := impl.Matrix{Rows: m.Rows + 2, Cols: m.Cols + 2}
		for i := range wide.Rows {
			for k := range wide.Cols {
				r := zero
				if i == 0 && k == 0 {
					r = two
				}
				if i > 0 && i <= m.Rows && k > 0 && k <= m.Cols {
					r = rows[i-1][k-1]
				}
				wide.Cells = append(wide.Cells, r)
			}
		}
		checkNoElimination(t, name+", with zeros around", wide)
		checkElimination(t, wide)
	}
}

// TestNumbersThatAreJustSmallEnough is like the test above with numbers that do not become too large.
func TestNumbersThatAreJustSmallEnough(t *testing.T) {
	g, l, zero, one, two, half := greatestRat(), leastOver(), whole(0), whole(1), whole(2), quotientOf(1, 2)
	minus, opposite := whole(-1), impl.RatNeg(greatestRat())
	row := func(list ...impl.Rat) []impl.Rat { return list }
	cases := map[string][][]impl.Rat{
		"a quotient":                  {row(two, g), row(zero, one)},
		"a quotient by the first row": {row(one, zero), row(half, g)},
		"a multiple":                  {row(one, g), row(half, zero)},
		"the opposite of the greatest as a multiple": {row(one, g), row(minus, zero)},
		"a difference that is 0":                     {row(one, g), row(one, g)},
		"a difference of 1":                          {row(one, g), row(one, impl.RatSub(g, one))},
		"a difference that is the greatest":          {row(one, opposite), row(one, zero)},
		"a difference from below":                    {row(one, impl.RatSub(g, one)), row(minus, one)},
		"no multiple where there is a zero":          {row(one, g), row(zero, g)},
		"no multiple of a zero":                      {row(one, zero), row(g, g)},
		"the least denominators":                     {row(one, l), row(minus, l)},
		"the first other row after an exchange":      {row(zero, half, g), row(zero, one, zero), row(one, zero, zero)},
		"greatest pivots":                            {row(g, g), row(opposite, zero)},
		"least pivots":                               {row(l, zero), row(zero, l)},
		"the greatest behind all pivots":             {row(one, zero, g), row(zero, one, opposite)},
		"the greatest above":                         {row(one, one, zero), row(zero, one, g), row(zero, zero, one)},
	}
	for name, rows := range cases {
		m := impl.Matrix{Rows: len(rows), Cols: len(rows[0]), Cells: slices.Concat(rows...)}
		if impl.RankOf(m) < 1 {
			t.Errorf("%s: RankOf = %d", name, impl.RankOf(m))
		}
		checkElimination(t, m)
		if m.Rows == m.Cols {
			checkSystem(t, m, slices.Repeat([]impl.Rat{one}, m.Rows))
		}
	}
}

// TestNumbersOnTheRightThatAreTooLarge has matrices that can be reduced, but not with the columns of a system on their right.
func TestNumbersOnTheRightThatAreTooLarge(t *testing.T) {
	g, zero, one, two := greatestRat(), whole(0), whole(1), whole(2)
	m := impl.Matrix{Rows: 3, Cols: 3, Cells: []impl.Rat{one, zero, zero, g, one, zero, zero, two, one}}
	r, ok := impl.Determinant(m)
	if !ok || !sameRat(r, one) || impl.RankOf(m) != 3 {
		t.Errorf("Determinant %v, %v, RankOf %d", r, ok, impl.RankOf(m))
	}
	if inverse, ok := impl.Inverse(m); ok || !isZeroMatrix(inverse) {
		t.Errorf("Inverse = %v, %v", inverse, ok)
	}
	checkElimination(t, m)
	cases := []struct {
		v  []impl.Rat
		ok bool
	}{
		{[]impl.Rat{one, zero, zero}, false}, {[]impl.Rat{zero, one, zero}, true}, {[]impl.Rat{zero, zero, g}, true}, {[]impl.Rat{one, g, zero}, true}, {[]impl.Rat{zero, g, zero}, false}, {[]impl.Rat{zero, zero, zero}, true},
		{[]impl.Rat{two, zero, zero}, false}, {[]impl.Rat{one, one, zero}, false}, {[]impl.Rat{quotientOf(1, 2), zero, zero}, true}, {[]impl.Rat{quotientOf(1, 2), zero, one}, false}, {[]impl.Rat{zero, quotientOf(-1, 2), impl.RatSub(g, one)}, true}, {[]impl.Rat{zero, quotientOf(-1, 2), g}, false},
	}
	for _, c := range cases {
		if x, ok := impl.SolveSystem(m, c.v); ok != c.ok || !ok && x != nil {
			t.Errorf("SolveSystem with %v = %v, %v", c.v, x, ok)
		}
		checkSystem(t, m, c.v)
	}
	half := impl.Matrix{Rows: 1, Cols: 1, Cells: []impl.Rat{quotientOf(1, 2)}}
	checkElimination(t, half)
	for _, v := range [][]impl.Rat{{g}, {impl.RatNeg(g)}} {
		if x, ok := impl.SolveSystem(half, v); ok || x != nil {
			t.Errorf("SolveSystem of 1/2 with %v = %v, %v", v, x, ok)
		}
	}
}

// TestEliminationOfRandomMatrices takes matrices in which numbers often, but not always, become too large.
func TestEliminationOfRandomMatrices(t *testing.T) {
	r := rand.New(rand.NewSource(76))
	special := vectorOf("0 0 0 1 1 -1 2 -2 1/2 -1/3")
	special = append(special, greatestRat(), impl.RatNeg(greatestRat()), leastOver(), rat(false, power(23), []int{1}), rat(true, power(12), oddPower(12)), rat(false, []int{1}, power(23)))
	counts := map[bool]int{}
	for range 3000 {
		rows, cols := 1+r.Intn(4), 1+r.Intn(4)
		if r.Intn(3) > 0 {
			cols = rows
		}
		m := impl.Matrix{Rows: rows, Cols: cols}
		for range rows * cols {
			m.Cells = append(m.Cells, special[r.Intn(len(special))])
		}
		checkElimination(t, m)
		v := []impl.Rat{}
		for range rows {
			v = append(v, special[r.Intn(len(special))])
		}
		checkSystem(t, m, v)
		counts[impl.RankOf(m) < 0]++
	}
	for range 500 {
		n := 1 + r.Intn(4)
		m := randomMatrix(r, n, n, []int{1, 2, 4, 6, 12, 24}[r.Intn(6)])
		checkElimination(t, m)
		checkSystem(t, m, randomVector(r, n, 4))
		counts[impl.RankOf(m) < 0]++
	}
	if counts[true] < 300 || counts[false] < 300 {
		t.Errorf("%d matrices can be reduced, %d cannot", counts[false], counts[true])
	}
}

// eliminationResults returns functions with all lists of fractions that a function of a matrix, and of a vector from another one, returns.
func eliminationResults() map[string]func(a impl.Matrix, b impl.Matrix) [][]impl.Rat {
	return map[string]func(a impl.Matrix, b impl.Matrix) [][]impl.Rat{
		"Reduce": func(a impl.Matrix, b impl.Matrix) [][]impl.Rat {
			m, pivots, _ := impl.Reduce(a)
			overwrite([][]int{pivots})
			return [][]impl.Rat{m.Cells}
		},
		"RankOf": func(a impl.Matrix, b impl.Matrix) [][]impl.Rat {
			impl.RankOf(a)
			return nil
		},
		"Determinant": func(a impl.Matrix, b impl.Matrix) [][]impl.Rat {
			r, _ := impl.Determinant(a)
			s, _ := impl.Determinant(a)
			return [][]impl.Rat{{r}, {s}}
		},
		"Inverse": func(a impl.Matrix, b impl.Matrix) [][]impl.Rat {
			m, _ := impl.Inverse(a)
			return [][]impl.Rat{m.Cells}
		},
		"SolveSystem": func(a impl.Matrix, b impl.Matrix) [][]impl.Rat {
			v, _ := impl.SolveSystem(a, b.Cells[:min(len(b.Cells), max(a.Rows, 0))])
			return [][]impl.Rat{v}
		},
		"NullVectors": func(a impl.Matrix, b impl.Matrix) [][]impl.Rat {
			list, _ := impl.NullVectors(a)
			return list
		},
	}
}

func TestEliminationArgumentsStayUnchanged(t *testing.T) {
	r := rand.New(rand.NewSource(77))
	list := []impl.Matrix{
		{}, {Rows: 2}, {Cols: 2}, matrixOf(1, 1, "1"), matrixOf(1, 1, "0"), unitMatrix(2), unitMatrix(3), filled(2, 2, whole(0)), filled(3, 3, whole(1)), filled(2, 3, whole(-1)), filled(3, 2, quotientOf(1, 2)), matrixOf(2, 2, "0 1 1 0"),
		matrixOf(3, 3, "0 0 1 0 2 0 3 0 0"), matrixOf(3, 3, "1 2 3 4 5 6 7 8 9"), matrixOf(2, 4, "0 1 2 3 0 1 2 4"), filled(2, 2, impl.Rat{}), filled(2, 2, rat(false, []int{2}, []int{4})), matrixOf(2, 2, "1 2 3"), matrixOf(2, 2, "1 2 3 4 5"),
		{Rows: -1, Cols: -1, Cells: vectorOf("1")}, filled(1, 25, whole(1)), withCell(filled(2, 2, whole(1)), 1, 1, greatestRat()), withCell(matrixOf(2, 2, "1/2 0 0 1"), 0, 1, greatestRat()), filled(2, 2, leastOver()),
	}
	for _, size := range [][2]int{{1, 3}, {3, 1}, {2, 2}, {2, 3}, {3, 2}, {3, 3}} {
		list = append(list, randomMatrix(r, size[0], size[1], 2), smallMatrix(r, size[0], size[1], 1), randomMatrix(r, size[0], size[1], 24))
	}
	for _, a := range list {
		for _, b := range list {
			for name, operation := range eliminationResults() {
				if name == "SolveSystem" || sameMatrix(a, b) {
					checkMatricesApart(t, name, a, b, operation)
				}
			}
		}
	}
	for _, n := range []int{12, 13, 24} {
		for name, operation := range eliminationResults() {
			checkMatricesApart(t, name, smallMatrix(r, n, n, 2), unitMatrix(n), operation)
			checkMatricesApart(t, name, smallMatrix(r, n/2, n, 2), unitMatrix(n), operation)
		}
	}
}

// TestEliminationResultsAreApart changes each list of a result and expects the others as before.
func TestEliminationResultsAreApart(t *testing.T) {
	for _, m := range []impl.Matrix{filled(3, 4, whole(0)), filled(3, 4, whole(1)), matrixOf(2, 4, "1 2 3 4 2 4 7 9"), {Rows: 0, Cols: 5}, filled(24, 24, whole(1))} {
		vectors, ok := impl.NullVectors(m)
		want, _ := nullModel(m)
		if !ok || len(vectors) < 2 || !sameVectors(vectors, want) {
			t.Errorf("NullVectors(%v) = %v, %v", m, vectors, ok)
			continue
		}
		for i := range vectors {
			all := vectors[i][:cap(vectors[i])]
			for k := range all {
				all[k] = whole(-99)
			}
			if !sameVectors(vectors[i+1:], want[i+1:]) || i > 0 && !sameVector(vectors[0], slices.Repeat([]impl.Rat{whole(-99)}, m.Cols)) {
				t.Errorf("the vector %d of NullVectors(%v) shares memory with another one", i, m)
			}
		}
		if again, _ := impl.NullVectors(m); !sameVectors(again, want) {
			t.Errorf("NullVectors(%v) after a change of an earlier result = %v", m, again)
		}
		reduced, pivots, _ := impl.Reduce(m)
		overwrite([][]int{pivots})
		overwriteVector(reduced.Cells)
		checkElimination(t, m)
	}
}

// TestEliminationOfOneElementInOneMemory gives matrices whose elements all have the same limbs.
func TestEliminationOfOneElementInOneMemory(t *testing.T) {
	for _, x := range []impl.Rat{whole(1), whole(-1), whole(0), quotientOf(1, 2), quotientOf(-3, 5), rat(false, power(5), oddPower(5))} {
		r, rooms := ratWithRoom(x)
		for _, other := range []impl.Matrix{filled(3, 3, whole(0)), unitMatrix(3), matrixOf(3, 3, "1 2 3 0 1 4 5 6 0")} {
			for mask := 0; mask < 1<<9; mask += 7 {
				m := other
				for place := range 9 {
					if mask>>place&1 == 1 {
						m = impl.Matrix{Rows: 3, Cols: 3, Cells: withElement(m.Cells, place, r)}
					}
				}
				for name, operation := range eliminationResults() {
					all := slices.Concat(operation(m, filled(3, 1, r))...)
					want := slices.Concat(operation(matrixWithRoom(m).m, matrixWithRoom(filled(3, 1, x)).m)...)
					if !sameVector(all, want) || !overwriteVector(all) || !isAsBefore(rooms, x) {
						t.Errorf("%s with %v in one memory at %b of %v", name, x, mask, other)
					}
				}
			}
		}
	}
}
