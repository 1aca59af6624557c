/- The model's vector of zeros, RatFromInt's contract open. -/
import Derived.Test.YtojklmckjebplaaVecx
namespace Go.Proofs.Ytojklmckjebplaa
open Go.RowKit Go.WideShapes Go.ChangeShapes
set_option linter.unusedVariables false
def zF : Fr := ⟨false, [], [1]⟩
set_option maxRecDepth 100000 in
set_option maxHeartbeats 2000000 in
theorem spec_zeros (HZ : ∀ w, Calls Try.prog 146 #[] w fun r w' => ∃ x y, r = .returned (.agg #[.bool zF.neg, x, y]) ∧ OwnR w' w.heap.size x zF.mag y zF.den ∧ Below w.heap.size w w')
    (n : Nat) (hn : n ≤ 600) (w : World) :
    Calls Try.prog 128 #[.int .i64 (n : Int)] w fun e w' => ∃ v xs, e = .returned v ∧ OwnV w' w.heap.size v (List.replicate n zF) xs ∧ Below w.heap.size w w' := by
  go_enter Try.func128, Try.ntmps128
  go_wp2_with fail
  obtain ⟨W1, hW1⟩ : ∃ x, x = w.alloc (.cells #[] 42) := ⟨_, rfl⟩
  have HO := Lib.hid (show OwnV W1 w.heap.size (.slice (some ⟨w.heap.size, 0, none⟩) 0 0) [] [] by rw [hW1]; exact OwnV.lit0 w)
  have HB := Lib.hid (show Below w.heap.size w W1 by rw [hW1]; exact (Below.refl _ _).alloc (Nat.le_refl _) _)
  rw [← hW1]
  clear hW1
  go_loopw [3] (fun ov wr => ∃ (k : Nat) (a : Option Addr) (c : Nat), k ≤ n ∧ Value.slice a k c = ov ∧ ∃ xs, Hid (OwnV wr w.heap.size (.slice a k c) (List.replicate k zF) xs) ∧ Hid (Below w.heap.size w wr)) (fun ov _ => n - (match ov with | .slice _ k _ => k | _ => 0))
  case atStart => exact ⟨0, _, _, Nat.zero_le _, rfl, _, HO, HB⟩
  case round =>
    obtain ⟨k, a, c, hk, rfl, xs, HK, HBk⟩ := hrel
    by_cases hlt : k < n
    · have L9 := Lib.hid HK.out.lt
      have BW := Lib.hid HBk.out.size
      go_wp2_with fail
      refine (HZ wr).mono ?_
      rintro e w_r ⟨x_r, y_r, rfl, o_r, bb_r⟩
      obtain ⟨a_r, c_r, e_r, f_r, rfl, rfl⟩ := o_r.slices
      have hbb := bb_r.size
      have lr := o_r.lt
      go_wp2_with (at_builtin; refine append_rat rfl _ _ rfl w.heap.size _ _ xs rfl ((HK.out.below bb_r).alloc _) (by simp; omega) (by have := BW.out; simp; omega) _ _ rfl zF _ _ (World.alloc_heap_new _ _) (OwnR.base (o_r.alloc _) BW.out) (fun i hi r r' h1 h2 => by have h3 := (L9.out r (.inr ⟨_, List.getElem_mem hi, h1⟩)).2; have h4 := (lr r' h2).1; omega) (fun r h2 h1 => by have h3 := (L9.out r (.inl h1)).2; have h4 := (lr r h2).1; omega) ?_; intro v_n w_n o_n g_n l_n)
      obtain ⟨a_n, c_n, hv⟩ := o_n.slice
      rw [← List.replicate_succ', List.length_replicate] at hv
      rw [← List.replicate_succ'] at o_n
      subst hv
      exact ⟨⟨k + 1, a_n, c_n, by omega, rfl, _, Lib.hid o_n, Lib.hid (((HBk.out.trans (bb_r.mono HBk.out.size)).alloc (Nat.le_trans BW.out bb_r.size) _).grown g_n (by have := BW.out; simp; omega) (fun q hq => (L9.out q (.inl hq)).1))⟩, by show n - (k + 1) < n - k; omega⟩
    · obtain rfl : k = n := by omega
      go_wp2
      go_ret
      exact ⟨_, xs, rfl, HK.out, HBk.out⟩

end Go.Proofs.Ytojklmckjebplaa
