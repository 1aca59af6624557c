/- What the exact laws do with vectors: writing the marks into one, and reading them again. -/
import Derived.Test.YtojklmckjebplaaRats3
namespace Go.Proofs.Ytojklmckjebplaa
open Go.RowKit Go.WideShapes Go.ChangeShapes

def cntL (L : List Fr) : Nat := L.length + szL L
theorem cntL_append (L M : List Fr) : cntL (L ++ M) = cntL L + cntL M := by simp [cntL, szL_append]; omega
theorem cntL_take {L : List Fr} {k : Nat} (hk : k < L.length) : cntL (L.take (k + 1)) = cntL (L.take k) + (1 + (L[k]'hk).mag.length + (L[k]'hk).den.length) := by
  rw [List.take_succ_eq_append_getElem hk, cntL_append]; simp [cntL, szL]; omega
theorem cntL_take_le (L : List Fr) (k : Nat) : cntL (L.take k) ≤ cntL L := by
  have h := cntL_append (L.take k) (L.drop k)
  rw [List.take_append_drop] at h; omega
def markF (m : Nat) (f : Fr) : Fr := ⟨((m : Int) % 3 == 0), marksI (m + 1) f.mag.length, marksI (m + 1 + f.mag.length) f.den.length⟩
def markV : Nat → List Fr → List Fr
  | _, [] => []
  | m, f :: L => markF m f :: markV (m + (1 + f.mag.length + f.den.length)) L
theorem markV_length : ∀ (m : Nat) (L : List Fr), (markV m L).length = L.length
  | _, [] => rfl
  | m, f :: L => by simp [markV, markV_length _ L]
theorem markV_append : ∀ (m : Nat) (L M : List Fr), markV m (L ++ M) = markV m L ++ markV (m + cntL L) M
  | m, [], M => by simp [markV, cntL, szL]
  | m, f :: L, M => by
    simp only [List.cons_append, markV, markV_append _ L M]
    congr 3
    simp [cntL, szL]; omega
theorem markV_at {m : Nat} {L : List Fr} {k : Nat} (hk : k < L.length) : (markV m L)[k]'(by rw [markV_length]; exact hk) = markF (m + cntL (L.take k)) (L[k]'hk) := by
  have h1 : markV m L = markV m (L.take k) ++ markV (m + cntL (L.take k)) (L.drop k) := by rw [← markV_append, List.take_append_drop]
  have h2 : L.drop k = (L[k]'hk) :: L.drop (k + 1) := List.drop_eq_getElem_cons hk
  have h3 : (markV m L)[k]? = some (markF (m + cntL (L.take k)) (L[k]'hk)) := by
    rw [h1, List.getElem?_append_right (by rw [markV_length]; simp; omega), markV_length, List.length_take, Nat.min_eq_left (by omega), Nat.sub_self, h2]
    rfl
  exact (List.getElem_eq_iff _).2 h3
/-- a vector of which the first k elements are marked -/
def markedV (m k : Nat) (L : List Fr) : List Fr := markV m (L.take k) ++ L.drop k
theorem markedV_length (m k : Nat) (L : List Fr) : (markedV m k L).length = L.length := by simp [markedV, markV_length]; omega
theorem markedV_zero (m : Nat) (L : List Fr) : markedV m 0 L = L := by simp [markedV, markV]
theorem markedV_full (m : Nat) (L : List Fr) : markedV m L.length L = markV m L := by simp [markedV]
theorem markedV_at {m k : Nat} {L : List Fr} (hk : k < L.length) : (markedV m k L)[k]'(by rw [markedV_length]; exact hk) = L[k]'hk := by
  have h : (markedV m k L)[k]? = some (L[k]'hk) := by
    rw [markedV, List.getElem?_append_right (by rw [markV_length]; simp; omega), markV_length, List.length_take, Nat.min_eq_left (by omega), Nat.sub_self, List.drop_eq_getElem_cons hk]
    rfl
  exact (List.getElem_eq_iff _).2 h
theorem markedV_set {m k : Nat} {L : List Fr} (hk : k < L.length) : (markedV m k L).set k (markF (m + cntL (L.take k)) (L[k]'hk)) = markedV m (k + 1) L := by
  rw [markedV, markedV, List.set_append_right _ _ (by rw [markV_length]; simp; omega), markV_length, List.length_take, Nat.min_eq_left (by omega), Nat.sub_self, List.drop_eq_getElem_cons hk, List.set_cons_zero,
    List.take_succ_eq_append_getElem hk, markV_append, List.append_assoc]
  rfl
/-- one element marked -/
theorem OwnV.mark {w w2 w3 : World} {B g n c : Nat} {L : List Fr} {xs : List (Value × Value)} (h : OwnV w B (.slice (some ⟨g, 0, none⟩) n c) L xs) (i : Nat) (hi : i < L.length) (hi' : i < xs.length) (b : Bool) {z d : List Int}
    (h2 : OwnI w2 B (xs[i]'hi').1 z) (g2 : (w.setCell ⟨g, i * 3, none⟩ (.bool b)).grownBy w2 (xs[i]'hi').1.ownBlock) (h3 : OwnI w3 B (xs[i]'hi').2 d) (g3 : w2.grownBy w3 (xs[i]'hi').2.ownBlock) :
    OwnV w3 B (.slice (some ⟨g, 0, none⟩) n c) (L.set i ⟨b, z, d⟩) xs ∧ Kept (OnV (.slice (some ⟨g, 0, none⟩) n c) xs) w w3 := by
  have hap := (h.each i hi hi').2.2
  have o1 := h.set0 i b hi
  have k2 : Kept (fun k => (xs[i]'hi').1.ownBlock = some k ∨ (xs[i]'hi').2.ownBlock = some k) (w.setCell ⟨g, i * 3, none⟩ (.bool b)) w2 := (Kept.of_grown g2).mono (fun k e => .inl e)
  have k3 : Kept (fun k => (xs[i]'hi').1.ownBlock = some k ∨ (xs[i]'hi').2.ownBlock = some k) w2 w3 := (Kept.of_grown g3).mono (fun k e => .inr e)
  have hr : OwnR w3 B (xs[i]'hi').1 z (xs[i]'hi').2 d := ⟨h2.kept (Kept.of_grown g3) (fun a e e' => hap a a e e' rfl), h3, hap⟩
  have o3 := o1.rerow i (by simpa using hi) hi' (k2.trans k3) hr
  refine ⟨?_, ?_⟩
  · simpa using o3
  · refine ((kept_set w g (i * 3) (.bool b)).mono (fun k e => .inl (by rw [e]; rfl))).trans ((k2.trans k3).mono (fun k e => .inr ⟨_, List.getElem_mem hi', e⟩))
set_option maxHeartbeats 1000000 in
theorem mark_ratv (v : Value) (m : Nat) (mi : Int) (L : List Fr) (xs : List (Value × Value)) (B : Nat) (w : World) (hmi : mi = m) (h : OwnV w B v L xs) (hm : m + cntL L ≤ 9223372036854775807) (hn : L.length ≤ 1099511627776) :
    Calls Try.prog 42 #[v, .int .i64 mi] w fun e w' => e = .returned (.int .i64 ((m : Int) + cntL L)) ∧ OwnV w' B v (markV m L) xs ∧ Kept (OnV v xs) w w' := by
  subst hmi
  obtain ⟨n, hnn⟩ : ∃ n, L.length = n := ⟨_, rfl⟩
  have HN := Lib.hid hnn
  rcases h.row.2 with ⟨rfl, hz⟩ | ⟨g, cap, cur, rfl, hB, hg, h1, h2, h3, h4⟩
  · have hL : L = [] := List.length_eq_zero_iff.1 hz
    subst hL
    go_enter Try.func42, Try.ntmps42
    go_wp2
    go_loop [1, 5] (fun kv iv => kv = .int .i64 m ∧ iv = .int .i64 0) (fun _ _ => 0)
    case atStart => exact ⟨rfl, rfl⟩
    case round =>
      obtain ⟨rfl, rfl⟩ := hrel
      go_wp2
      go_ret
      exact ⟨by simp [cntL, szL], by simpa [markV] using h, Kept.refl _ _⟩
  · have HO := Lib.hid h
    have hg0 := h.lt g (.inl rfl)
    unfold maxLen at h2
    have hcap : n ≤ cap := by omega
    clear h hg h1 h3 h4
    rw [hnn] at HO hn ⊢
    clear hnn
    go_enter Try.func42, Try.ntmps42
    go_wp2
    go_loopw [1, 5] (fun kv iv wr => ∃ k : Nat, k ≤ n ∧ kv = .int .i64 ((m : Int) + cntL (L.take k)) ∧ iv = .int .i64 k ∧ Hid (OwnV wr B (.slice (some ⟨g, 0, none⟩) n cap) (markedV m k L) xs) ∧ Hid (Kept (OnV (.slice (some ⟨g, 0, none⟩) n cap) xs) w wr)) (fun _ iv _ => n - (intOf iv).toNat)
    case atStart => exact ⟨0, Nat.zero_le _, by simp [cntL, szL], rfl, by rw [markedV_zero]; exact HO, Lib.hid (Kept.refl _ _)⟩
    case round =>
      obtain ⟨k, hk, rfl, rfl, HK, HG⟩ := hrel
      by_cases hlt : k < n
      · have hltL : k < L.length := by rw [HN.out]; exact hlt
        have hi1 : k < (markedV m k L).length := by rw [markedV_length]; exact hltL
        have hi2 : k < xs.length := by rw [HK.out.len]; exact hi1
        have q0 := (HK.out.cells k hi1 hi2).1
        have q1 := (HK.out.cells k hi1 hi2).2.1
        have q2 := (HK.out.cells k hi1 hi2).2.2
        have z0 := HK.out.frozen (k * 3)
        have CT := Lib.hid (cntL_take hltL)
        have CL := cntL_take_le L (k + 1)
        have hwb : (m : Int) + cntL (L.take k) + 1 + (L[k]'hltL).mag.length + (L[k]'hltL).den.length ≤ 9223372036854775807 := by have := CT.out; omega
        clear CL
        have hat := markedV_at (m := m) (k := k) hltL
        have hr := HK.out.each k hi1 hi2
        rw [hat] at hr
        clear hat
        have W1 := Lib.hid ((HK.out.set0 k ((m + cntL (L.take k) : Int) % 3 == 0) hi1).cells k (by simpa using hi1) hi2).2.1
        have hk1 := kept_set wr g (k * 3) (.bool ((m + cntL (L.take k) : Int) % 3 == 0))
        have r1 := Lib.hid (hr.kept hk1 (fun g' e hg => HK.out.ne_row k hi2 g' e (by rw [hg]; rfl)))
        have W2 := Lib.hid ((HK.out.set0 k ((m + cntL (L.take k) : Int) % 3 == 0) hi1).cells k (by simpa using hi1) hi2).2.2
        have NR := Lib.hid (HK.out.ne_row k hi2)
        have w1 := W1.out
        go_wp2_with fail
        refine (mark_ints _ (m + cntL (L.take k) + 1) _ _ B _ (by omega) r1.out.1 (by omega)).mono ?_
        rintro e w2 ⟨rfl, o2, g2⟩
        have q3 : w2.cell? ⟨g, k * 3 + 2, none⟩ = some (xs[k]'hi2).2 := g2.cell W2.out (fun e => NR.out g (.inl e.symm) rfl)
        have O2 := Lib.hid o2
        have G2 := Lib.hid g2
        have R2 := Lib.hid (r1.out.2.1.other g2 (fun a a' e e' => (r1.out.2.2 a' a e' e).symm))
        clear o2 g2 w1 q0 q1 q2 z0
        go_wp2_with fail
        refine (mark_ints _ (m + cntL (L.take k) + 1 + (L[k]'hltL).mag.length) _ _ B _ (by simp) R2.out (by omega)).mono ?_
        rintro e w3 ⟨rfl, o3, g3⟩
        have G3 := Lib.hid g3
        have O3 := Lib.hid o3
        clear g3 o3
        go_wp2_with fail
        obtain ⟨e1, e2⟩ := HK.out.mark k hi1 hi2 ((m + cntL (L.take k) : Int) % 3 == 0) O2.out G2.out O3.out G3.out
        have e3 := markedV_set (m := m) hltL
        unfold markF at e3
        rw [Int.natCast_add] at e3
        rw [e3] at e1
        have hc := CT.out
        exact ⟨⟨k + 1, by omega, by rw [hc]; simp; omega, by go_num, Lib.hid e1, Lib.hid (HG.out.trans e2)⟩, by simp [intOf]; omega⟩
      · obtain rfl : k = n := by omega
        go_wp2
        go_ret
        have h := HK.out
        rw [← HN.out, markedV_full] at h
        rw [← HN.out, List.take_length]
        exact ⟨rfl, h, HG.out⟩

set_option maxHeartbeats 1000000 in
theorem held_ratv (v : Value) (m : Nat) (mi : Int) (L : List Fr) (w : World) (hmi : mi = m) (h : RatsAt w v (markV m L)) (hm : m + cntL L ≤ 9223372036854775807) :
    Calls Try.prog 43 #[v, .int .i64 mi] w fun e w' => e = .returned (.int .i64 ((m : Int) + cntL L)) ∧ Below w.heap.size w w' := by
  subst hmi
  obtain ⟨a, cap, rfl, hc, hmx, hr⟩ := h
  unfold maxLen at hmx
  rw [markV_length] at hc ⊢
  have R := Lib.hid hr
  clear hr
  obtain ⟨n, hnn⟩ : ∃ n, L.length = n := ⟨_, rfl⟩
  rw [hnn] at hc ⊢
  have HN := Lib.hid hnn
  clear hnn
  go_enter Try.func43, Try.ntmps43
  go_wp2
  have HB := Lib.hid (Below.refl w.heap.size w)
  go_loopw [1, 5] (fun kv iv wr => ∃ k : Nat, k ≤ n ∧ kv = .int .i64 ((m : Int) + cntL (L.take k)) ∧ iv = .int .i64 k ∧ Hid (Below w.heap.size w wr)) (fun _ iv _ => n - (intOf iv).toNat)
  case atStart => exact ⟨0, Nat.zero_le _, by simp [cntL, szL], rfl, HB⟩
  case round =>
    obtain ⟨k, hk, rfl, rfl, HBk⟩ := hrel
    by_cases hlt : k < n
    · have hltL : k < L.length := by rw [HN.out]; exact hlt
      obtain ⟨b, o, x, y, rfl, c0, c1, c2, hrr⟩ := R.out k (by rw [markV_length]; exact hltL)
      rw [markV_at hltL] at c0 hrr
      unfold markF at c0 hrr
      rw [Int.natCast_add] at c0
      have CT := Lib.hid (cntL_take hltL)
      have CL := cntL_take_le L (k + 1)
      have hwb : (m : Int) + cntL (L.take k) + 1 + (L[k]'hltL).mag.length + (L[k]'hltL).den.length ≤ 9223372036854775807 := by have := CT.out; omega
      clear CL
      have d0 := (HBk.out.cell (World.block_lt_of_cell? w _ c0)).trans c0
      have d1 := (HBk.out.cell (World.block_lt_of_cell? w _ c1)).trans c1
      have d2 := (HBk.out.cell (World.block_lt_of_cell? w _ c2)).trans c2
      have C2 := Lib.hid d2
      have R1 := Lib.hid (hrr.below HBk.out).1
      have R2 := Lib.hid (hrr.below HBk.out).2
      clear c0 c1 c2 R hrr d2
      go_wp2_with fail
      refine (held_intsB _ (L[k]'hltL).mag.length (m + cntL (L.take k) + 1) _ _ (by simp) R1.out (by omega)).mono ?_
      rintro e w1 ⟨rfl, b1⟩
      have B1 := Lib.hid (HBk.out.trans (b1.mono HBk.out.size))
      have d3 := (b1.cell (World.block_lt_of_cell? _ _ C2.out)).trans C2.out
      have R3 := Lib.hid (rowOf_below R2.out b1)
      clear b1 d0 d1
      go_wp2_with fail
      refine (held_intsB _ (L[k]'hltL).den.length (m + cntL (L.take k) + 1 + (L[k]'hltL).mag.length) _ _ (by simp) R3.out (by omega)).mono ?_
      rintro e w2 ⟨rfl, b2⟩
      have B2 := Lib.hid (B1.out.trans (b2.mono B1.out.size))
      clear b2
      go_wp2_with fail
      have hc := CT.out
      exact ⟨⟨k + 1, by omega, by rw [hc]; simp; omega, by go_num, B2⟩, by simp [intOf]; omega⟩
    · obtain rfl : k = n := by omega
      go_wp2
      go_ret
      rw [← HN.out, List.take_length]
      exact ⟨rfl, HBk.out⟩

end Go.Proofs.Ytojklmckjebplaa
