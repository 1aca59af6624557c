/- what lies in memory while divideByMany goes through its places. -/
import Derived.Test.YtofmpfcbdemcnaaDoorManyLem
namespace Go.Proofs.YtofmpfcbdemcnaaDoor
open Go.RowKit Go.Shelf

/-- the boxes, the divisor, the rest, the quotient -/
structure DvB (h d c k e n N kq b2 o2 cb v : Nat) (w : World) (R : Nat) (q : Nat → Int) (W : World) : Prop where
  bb : Boxed W h 53 (.slice (some ⟨b2, o2, none⟩) (n + 2) cb)
  bd : Boxed W k 53 (.slice (some ⟨d, 0, none⟩) (n + 2) c)
  od : OwnI W (h + 1) (.slice (some ⟨d, 0, none⟩) (n + 2) c) (limI v)
  or : OwnI W (k + 1) (.slice (some ⟨k + 1, 0, none⟩) N N) (listF N (digF R))
  br : Boxed W (k + 1 + 1) 53 (.slice (some ⟨k + 1, 0, none⟩) N N)
  oq : OwnI W e (.slice (some ⟨e, 0, none⟩) kq kq) (listF kq q)
  bq : Boxed W (e + 1) 53 (.slice (some ⟨e, 0, none⟩) kq kq)
  bl : Below h w W
  sz : e + 1 + 1 < W.heap.size

section
variable {h d c k e n N kq b2 o2 cb v : Nat} {w : World} {R : Nat} {q : Nat → Int} {W W' : World}
theorem DvB.row (st : DvB h d c k e n N kq b2 o2 cb v w R q W) (h1 : h + 1 < d) (h2 : d < k) (h3 : k + 1 + 1 + 1 < e) {R' : Nat} (o : OwnI W' (k + 1) (.slice (some ⟨k + 1, 0, none⟩) N N) (listF N (digF R'))) (g : W.grownBy W' (some (k + 1))) : DvB h d c k e n N kq b2 o2 cb v w R' q W' :=
  ⟨boxed_apart st.bb g (by omega), boxed_apart st.bd g (by omega), st.od.apart g (by omega), o, boxed_apart st.br g (by omega), st.oq.apart g (by omega), boxed_apart st.bq g (by omega), below_grown1 st.bl g (by omega) (by have := st.bd.lt; omega), by have := st.sz; have := g.size; omega⟩
theorem DvB.dig (st : DvB h d c k e n N kq b2 o2 cb v w R q W) (h1 : h + 1 < d) (h2 : d < k) (h3 : k + 1 + 1 + 1 < e) (i : Nat) (z : Int) : DvB h d c k e n N kq b2 o2 cb v w R (fun j => if j = i then z else q j) (W.setCell ⟨e, i, none⟩ (.int .i64 z)) :=
  have g := setCell_grown W e i (.int .i64 z)
  ⟨boxed_apart st.bb g (by omega), boxed_apart st.bd g (by omega), st.od.apart g (by omega), st.or.apart g (by omega), boxed_apart st.br g (by omega), by rw [← listF_set]; exact st.oq.set i z, boxed_apart st.bq g (by omega), below_grown1 st.bl g (by omega) (by have := st.bd.lt; omega), by have := st.sz; have := g.size; omega⟩
theorem DvB.drewN (st : DvB h d c k e n N kq b2 o2 cb v w R q W) (j : Nat) : DvB h d c k e n N kq b2 o2 cb v w R q (W.drewN j) := ⟨st.bb, st.bd, st.od, st.or, st.br, st.oq, st.bq, below_drewN st.bl j, st.sz⟩
theorem DvB.drew (st : DvB h d c k e n N kq b2 o2 cb v w R q W) : DvB h d c k e n N kq b2 o2 cb v w R q W.drew := ⟨st.bb, st.bd, st.od, st.or, st.br, st.oq, st.bq, st.bl.drew, st.sz⟩
end

/-- what a round keeps -/
structure DvR (h e : Nat) (W W' : World) : Prop where
  bl : Below h W W'
  bx : W'.heap[e + 1 + 1]? = W.heap[e + 1 + 1]?
  kf : KeepsFrom (e + 1 + 1 + 1) W W'
section
variable {h e : Nat} {W W' W2 : World}
theorem DvR.refl (W : World) : DvR h e W W := ⟨Below.refl _ _, rfl, KeepsFrom.refl _ _⟩
theorem DvR.grown {g : Nat} (s : DvR h e W W') (hg : W'.grownBy W2 (some g)) (h1 : h ≤ g) (h2 : g < e + 1 + 1) (hs : h ≤ W'.heap.size) (hs2 : e + 1 + 1 < W'.heap.size) : DvR h e W W2 :=
  ⟨below_grown1 s.bl hg h1 hs, (hg.block _ hs2 (fun e => by injection e with e; omega)).trans s.bx, s.kf.trans (KeepsFrom.of_grownBy hg (fun j e => by injection e with e; omega))⟩
theorem DvR.drewN (s : DvR h e W W') (j : Nat) : DvR h e W (W'.drewN j) := ⟨below_drewN s.bl j, s.bx, s.kf.trans ⟨Nat.le_refl _, fun _ _ _ h _ => h⟩⟩
theorem DvR.drew (s : DvR h e W W') : DvR h e W W'.drew := ⟨s.bl.drew, s.bx, s.kf.trans ⟨Nat.le_refl _, fun _ _ _ h _ => h⟩⟩
end

theorem DvB.own {β : Type} {h d c k e n N kq b2 o2 cb v : Nat} {w : World} (h1 : h + 1 < d) (h2 : d < k) (h3 : k + 1 + 1 + 1 < e) (R : β → Nat) (q : β → Nat → Int) : OwnFrom (e + 1 + 1 + 1) (fun (s : β) W => DvB h d c k e n N kq b2 o2 cb v w (R s) (q s) W) := fun s A B row st hg hr =>
  have hb : ∀ g, g < e + 1 + 1 + 1 → some g ≠ row := fun g hl e' => by have := (hr g e'.symm).1; omega
  have ho : ∀ {B0 g n c : Nat} {l : List Int}, g < e + 1 + 1 + 1 → OwnI A B0 (.slice (some ⟨g, 0, none⟩) n c) l → OwnI B B0 (.slice (some ⟨g, 0, none⟩) n c) l := fun {_ g _ _ _} hl ho => ho.other hg (fun a b e1 e2 => by
    have e1 : g = a := by simpa [Value.ownBlock] using e1
    have := (hr b e2).1
    omega)
  ⟨st.bb.kept hg (hb _ (by omega)), st.bd.kept hg (hb _ (by omega)), ho (by omega) st.od, ho (by omega) st.or, st.br.kept hg (hb _ (by omega)), ho (by omega) st.oq, st.bq.kept hg (hb _ (by omega)), st.bl.grown hg (by have := st.bd.lt; omega) (fun k' e' => by have := (hr k' e').1; omega), by have := st.sz; have := hg.size; omega⟩
theorem DvB.kp {h d c k e n N kq b2 o2 cb v : Nat} {w : World} {R : Nat} {q : Nat → Int} {W W' : World} (st : DvB h d c k e n N kq b2 o2 cb v w R q W') (s : DvR h e W W') : KpB (fun _ _ => True) (some ⟨e, 0, none⟩) kq (e + 1 + 1) h W W' := ⟨s.bl, s.bx, fun _ => rd_own st.oq⟩

theorem kn_hi {v n R i P g : Nat} (hP : R / pw i % pw (n + 3) = P) (hg : P / pw n / (v / pw n) = g) (h : P < g * v) : knQ v n R i = g - 1 ∧ knR v n R i = putN R i (n + 3) (highP (lowP P g v (n + 3)) v (n + 3)) := by
  subst hP hg
  unfold knR knP knQ
  dsimp only
  rw [if_pos h, if_pos h]
  exact ⟨rfl, rfl⟩
theorem kn_lo {v n R i P g : Nat} (hP : R / pw i % pw (n + 3) = P) (hg : P / pw n / (v / pw n) = g) (h : ¬ P < g * v) : knQ v n R i = g ∧ knR v n R i = putN R i (n + 3) (lowP P g v (n + 3)) := by
  have hPl : P < pw (n + 3) := by rw [← hP]; exact Nat.mod_lt _ (pw_pos _)
  rw [lowP_sub hPl (by omega)]
  subst hP hg
  unfold knR knP knQ
  dsimp only
  rw [if_neg h, if_neg h]
  exact ⟨rfl, rfl⟩
theorem kn_raised {v n R i P g : Nat} : putN (putN R i (n + 3) (lowP P g v (n + 3))) i (n + 3) (highP (putN R i (n + 3) (lowP P g v (n + 3)) / pw i % pw (n + 3)) v (n + 3)) = putN R i (n + 3) (highP (lowP P g v (n + 3)) v (n + 3)) := by
  rw [dig_part_putN _ _ _ _ (lowP_lt _ _ _ _), putN_putN _ _ _ _ _ (lowP_lt _ _ _ _)]
theorem kn_twice {q : Nat → Int} {i : Nat} {a b : Int} : (fun j => if j = i then a else (fun j => if j = i then b else q j) j) = fun j => if j = i then a else q j := by
  funext j
  by_cases e : j = i
  · simp [e]
  · simp [e]

end Go.Proofs.YtofmpfcbdemcnaaDoor
