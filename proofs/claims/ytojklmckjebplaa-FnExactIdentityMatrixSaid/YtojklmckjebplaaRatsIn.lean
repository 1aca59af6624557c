/- A vector of fractions that came in. -/
import Derived.Test.YtojklmckjebplaaRats
namespace Go.Proofs.Ytojklmckjebplaa
open Go.RowKit Go.WideShapes Go.ChangeShapes Go.Deep

theorem list_of {α : Type} {P : Nat → α → Prop} : ∀ (n : Nat), (∀ i, i < n → ∃ x, P i x) → ∃ L : List α, L.length = n ∧ ∀ i (h : i < L.length), P i (L[i]'h)
  | 0, _ => ⟨[], rfl, fun i h => by simp at h⟩
  | n + 1, H => by
    obtain ⟨L, hl, hp⟩ := list_of n (fun i hi => H i (by omega))
    obtain ⟨x, hx⟩ := H n (by omega)
    refine ⟨L ++ [x], by simp [hl], fun i hi => ?_⟩
    by_cases h : i < L.length
    · rw [List.getElem_append_left h]; exact hp i h
    · have e : i = L.length := by simp at hi; omega
      subst e
      rw [List.getElem_append_right (by omega)]
      simp only [Nat.sub_self, List.getElem_cons_zero]
      rw [hl]; exact hx
set_option maxRecDepth 100000 in
/-- the three cells of a fraction that came in -/
theorem rat_cells {H : Type} {enc : TypeId × Value → H} {W : World} {n : Nat} {v0 v1 v2 : Value} {y : DataW H × List MemPlace}
    (hf : DataW.trod enc Try.prog W 0 (fun _ => true) true n 98 [v0, v1, v2] = some y) : ∃ f : Fr, v0 = .bool f.neg ∧ RowR W v1 f.mag v2 f.den := by
  obtain ⟨y0, y1, n, _, _, h0, h1⟩ := trod_struct2 (cs := [v0, v1, v2]) Try.underlying98 hf
  rw [show Try.prog.cellsOf 96 = 2 by kernel_rfl] at h0
  rw [show Try.prog.cellsOf 38 = 1 by kernel_rfl] at h1
  have h0' : DataW.trod enc Try.prog W 0 (fun _ => true) true n 96 [v0, v1] = some y0 := h0
  have h1' : DataW.trod enc Try.prog W 0 (fun _ => true) true n 38 [v2] = some y1 := h1
  obtain ⟨z0, z1, m, _, _, h2, h3⟩ := trod_struct2 (cs := [v0, v1]) Try.underlying96 h0'
  rw [show Try.prog.cellsOf 4 = 1 by kernel_rfl] at h2
  rw [show Try.prog.cellsOf 38 = 1 by kernel_rfl] at h3
  have h2' : DataW.trod enc Try.prog W 0 (fun _ => true) true m 4 [v0] = some z0 := h2
  have h3' : DataW.trod enc Try.prog W 0 (fun _ => true) true m 38 [v1] = some z1 := h3
  obtain ⟨b, hb, _⟩ := DataW.trod_bool Try.underlying4 h2'
  obtain rfl : v0 = .bool b := by simpa using hb
  have hs : ∀ (k : Nat) (u : Value) (y : DataW H × List MemPlace), DataW.trod enc Try.prog W 0 (fun _ => true) true k 38 [u] = some y → ∃ zs, RowOf iV W u zs := by
    intro k u y hy
    have hs : ∃ a l c, u = .slice a l c := by
      rcases open_ints Try.underlying38 Try.underlying3 (by kernel_rfl) hy with ⟨hcs, _⟩ | ⟨x, l', c', zs, hcs, _⟩
      · exact ⟨none, 0, 0, by simpa using hcs⟩
      · exact ⟨some x, l', c', by simpa using hcs⟩
    obtain ⟨a, l, c, rfl⟩ := hs
    obtain ⟨zs, hz, _⟩ := ints_in (enc := enc) (W := W) (a := a) (l := l) (c := c) (d := y.1) (p := y.2) ⟨k, hy⟩
    exact ⟨zs, hz⟩
  obtain ⟨zs, hz⟩ := hs m v1 z1 h3'
  obtain ⟨ds, hd⟩ := hs n v2 y1 h1'
  exact ⟨⟨b, zs, ds⟩, rfl, hz, hd⟩
set_option maxRecDepth 100000 in
/-- a []Rat that came in -/
theorem rats_in {H : Type} {enc : TypeId × Value → H} {W : World} {a : Option Addr} {l c : Nat} {d : DataW H} {p : List MemPlace}
    (h : DataW.Trod enc Try.prog W 0 (fun _ => true) true 45 (.slice a l c) d p) : ∃ L : List Fr, RatsAt W (.slice a l c) L ∧ True := by
  obtain ⟨fuel, hf⟩ := h
  rcases open_slice Try.underlying45 hf with ⟨hcs, _⟩ | ⟨x, len, cap, m, n, D, Pl, hcs, _, hl, hm, hmm, _, hx⟩
  · simp [Value.cells] at hcs
    obtain ⟨rfl, rfl, rfl⟩ := hcs
    exact ⟨[], ⟨none, 0, rfl, by simp, by unfold maxLen; omega, fun i hi => by simp at hi⟩, trivial⟩
  · simp [Value.cells] at hcs
    obtain ⟨rfl, rfl, rfl⟩ := hcs
    rw [show Try.prog.cellsOf 98 = 3 by kernel_rfl] at hx
    have hcm : m = c := by simpa using hmm
    obtain ⟨L, hL, hp⟩ := list_of (P := fun i (f : Fr) => ∃ b o x' y', x = ⟨b, o, none⟩ ∧ W.cell? ⟨b, o + i * 3, none⟩ = some (.bool f.neg) ∧ W.cell? ⟨b, o + i * 3 + 1, none⟩ = some x' ∧ W.cell? ⟨b, o + i * 3 + 2, none⟩ = some y' ∧ RowR W x' f.mag y' f.den) l (fun i hi => by
      obtain ⟨cs', h1, h2⟩ := hx i (by omega)
      obtain ⟨_, h3, h4⟩ := World.cells?_some h1
      match cs', h3 with
      | [v0, v1, v2], _ =>
        obtain ⟨f, rfl, hr⟩ := rat_cells h2
        have k0 := h4 0 (by omega)
        have k1 := h4 1 (by omega)
        have k2 := h4 2 (by omega)
        obtain ⟨b, o, spot⟩ := x
        have hspot : spot = none := by
          obtain ⟨cs0, g1, g2⟩ := hx 0 (by omega)
          obtain ⟨_, g3, g4⟩ := World.cells?_some g1
          have g5 := g4 0 (by omega)
          match cs0, g3 with
          | [u0, u1, u2], _ => simpa [Addr.add] using World.cell?_spot g5
        subst hspot
        rw [Go.Deep.add_add] at k0 k1 k2
        rw [add_plain] at k0 k1 k2
        exact ⟨f, b, o, v1, v2, rfl, k0, k1, k2, hr⟩)
    refine ⟨L, ⟨some x, c, by rw [hL], by omega, hm, fun i hi => ?_⟩, trivial⟩
    obtain ⟨b, o, x', y', rfl, h0, h1, h2, h3⟩ := hp i hi
    exact ⟨b, o, x', y', rfl, h0, h1, h2, h3⟩

end Go.Proofs.Ytojklmckjebplaa
