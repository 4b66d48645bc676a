/-
  Stars read from texts: the contracts of l05ReadSigned, l05Read, ReadStar (package spec) and of ReadStar (package impl).
-/
import Derived.Test.YtjghopepgfgebaaDoorList
import Derived.Test.YtjghopepgfgebaaDoorStar1
import Derived.Deep.RegionHeld3
import Derived.Deep.LoopGhost
import Derived.Deep.OwnRows
import Derived.Deep.Cut
namespace Go.Proofs.YtjghopepgfgebaaDoor
open Go.RowKit
set_option linter.unusedVariables false

theorem fold_ge : ∀ (l : List UInt8) (n : Nat), n ≤ l.foldl (fun n c => 10 * n + (c.toNat - 48)) n
  | [], n => Nat.le_refl _
  | c :: r, n => by
    rw [List.foldl_cons]
    exact Nat.le_trans (by omega) (fold_ge r _)
theorem valN_pos (l : List UInt8) (h0 : l.length ≠ 0) (h1 : l.all digB = true) (h2 : l.head? ≠ some 48) : 0 < valN l := by
  cases l with
  | nil => exact absurd rfl h0
  | cons c r =>
    have hd : digB c = true := by rw [List.all_cons, Bool.and_eq_true] at h1; exact h1.1
    unfold digB at hd
    simp only [Bool.and_eq_true, decide_eq_true_eq] at hd
    have hc : c.toNat ≠ 48 := fun e => h2 (by rw [List.head?_cons]; exact congrArg some (UInt8.toNat_inj.1 e))
    have hf := fold_ge r (10 * 0 + (c.toNat - 48))
    unfold valN
    rw [List.foldl_cons]
    omega
theorem sg_num (t : List UInt8) : (numOk t && decide (0 < numV t)) = numOk (45 :: t) ∧ (numOk (45 :: t) = true → -(numV t) = numV (45 :: t)) := by
  have hb : bodyN (45 :: t) = t := rfl
  have e45 : numI (45 :: t) = if t.length = 0 ∨ 18 < t.length ∨ (t.head? = some 48 ∧ 1 < t.length + 1) then none else if t.all digB = true then some (-(valN t : Int)) else none := by
    unfold numI
    rw [hb, if_pos (show (45 :: t).head? = some 45 from rfl)]
    rfl
  by_cases hm : t.head? = some 45
  · have ha : t.all digB = false := by
      cases t with
      | nil => cases hm
      | cons c r =>
        obtain rfl : c = 45 := Option.some.inj hm
        rfl
    have hr : numI (45 :: t) = none := by
      rw [e45, ha]
      split <;> rfl
    have hv : numV t ≤ 0 := by
      unfold numV numI
      split
      · exact Int.le_refl _
      · split
        · show -(valN (bodyN t) : Int) ≤ 0
          omega
        · exact Int.le_refl _
    refine ⟨?_, fun h => ?_⟩
    · rw [decide_eq_false (by omega), Bool.and_false]
      unfold numOk
      rw [hr]
      rfl
    · unfold numOk at h
      rw [hr] at h
      cases h
  · have hbt : bodyN t = t := by unfold bodyN; rw [if_neg hm]
    have et : numI t = if t.length = 0 ∨ 18 < t.length ∨ (t.head? = some 48 ∧ 1 < t.length) then none else if t.all digB = true then some (valN t : Int) else none := by
      unfold numI
      rw [hbt, if_neg hm]
    unfold numOk numV
    rw [et, e45]
    by_cases h0 : t.length = 0
    · rw [if_pos (Or.inl h0), if_pos (Or.inl h0)]
      exact ⟨rfl, fun h => by cases h⟩
    · by_cases h1 : 18 < t.length
      · rw [if_pos (Or.inr (Or.inl h1)), if_pos (Or.inr (Or.inl h1))]
        exact ⟨rfl, fun h => by cases h⟩
      · by_cases h2 : t.head? = some 48
        · rw [if_pos (show _ ∨ _ ∨ (t.head? = some 48 ∧ 1 < t.length + 1) from Or.inr (Or.inr ⟨h2, by omega⟩))]
          refine ⟨?_, fun h => by cases h⟩
          by_cases h3 : 1 < t.length
          · rw [if_pos (Or.inr (Or.inr ⟨h2, h3⟩))]
            rfl
          · rw [if_neg (fun h => h.elim h0 (fun h => h.elim h1 (fun h => h3 h.2)))]
            cases t with
            | nil => cases h2
            | cons c r =>
              obtain rfl : c = 48 := Option.some.inj h2
              have : r = [] := by
                rw [List.length_cons] at h3
                exact List.length_eq_zero_iff.1 (by omega)
              subst this
              rfl
        · have n1 : ¬ (t.length = 0 ∨ 18 < t.length ∨ (t.head? = some 48 ∧ 1 < t.length)) := fun h => h.elim h0 (fun h => h.elim h1 (fun h => h2 h.1))
          have n2 : ¬ (t.length = 0 ∨ 18 < t.length ∨ (t.head? = some 48 ∧ 1 < t.length + 1)) := fun h => h.elim h0 (fun h => h.elim h1 (fun h => h2 h.1))
          rw [if_neg n1, if_neg n2]
          by_cases h4 : t.all digB = true
          · rw [if_pos h4, if_pos h4]
            have hp := valN_pos t h0 h4 h2
            refine ⟨?_, fun _ => rfl⟩
            show (true && decide (0 < (valN t : Int))) = true
            rw [decide_eq_true (by omega)]
            rfl
          · rw [if_neg h4, if_neg h4]
            exact ⟨rfl, fun h => by cases h⟩
theorem numV_bd (l : List UInt8) : -1000000000000000000 < numV l ∧ numV l < 1000000000000000000 := by
  unfold numV
  cases h : numI l with
  | none => exact ⟨by decide, by decide⟩
  | some v =>
    show -1000000000000000000 < v ∧ v < 1000000000000000000
    unfold numI at h
    split at h
    · cases h
    · rename_i hn
      split at h
      · rename_i ha
        have hl := valN_lt 18 (bodyN l) (by omega) ha
        have hv := Option.some.inj h
        split at hv <;> omega
      · cases h
theorem minus_list (s : ByteArray) (h1 : 1 < s.size) (hsg : ((s[0].toNat : Int) == 45) = true) : s.data.toList = 45 :: (s.extract 1 s.size).data.toList := by
  have hq : decide (s[0] = 45) = true := (byte_eq s[0] 45 (by omega)).symm.trans hsg
  have h0 : s[0] = 45 := of_decide_eq_true hq
  have hl : s.data.toList.length = s.size := Array.length_toList
  have hh : s.data.toList.head? = some 45 := by rw [head_of s (by omega), h0]
  clear hq h0 hsg
  rw [ext_data]
  show s.data.toList = 45 :: ((s.data.toList.drop 1).take (s.size - 1)).toArray.toList
  rw [List.toList_toArray]
  generalize s.data.toList = l at *
  cases l with
  | nil => cases hh
  | cons c r =>
    obtain rfl : c = 45 := Option.some.inj hh
    rw [List.length_cons] at hl
    rw [List.drop_succ_cons, List.drop_zero, List.take_of_length_le (by omega)]
def stV (n : List UInt8) (a b c d : Int) : Value := if starB ⟨n.toArray⟩ a b c d = true then .tuple #[.agg #[.string ⟨n.toArray⟩, .int .i64 a, .int .i64 b, .int .i64 c, .int .i64 d], .bool true] else .tuple #[.agg #[.string ⟨#[]⟩, .int .i64 0, .int .i64 0, .int .i64 0, .int .i64 0], .bool false]
def rsV (l : List UInt8) : Value :=
  match spl 32 l with
  | [n, t1, t2, t3, t4] => if (numOk t1 && (numOk t2 && (numOk t3 && numOk t4))) = true then stV n (numV t1) (numV t2) (numV t3) (numV t4) else .tuple #[.agg #[.string ⟨#[]⟩, .int .i64 0, .int .i64 0, .int .i64 0, .int .i64 0], .bool false]
  | _ => .tuple #[.agg #[.string ⟨#[]⟩, .int .i64 0, .int .i64 0, .int .i64 0, .int .i64 0], .bool false]
theorem stV_form (n : List UInt8) (x y z u : Int) : ∃ (s : ByteArray) (a b c d : Int) (ok : Bool), stV n x y z u = .tuple #[.agg #[.string s, .int .i64 a, .int .i64 b, .int .i64 c, .int .i64 d], .bool ok] := by
  unfold stV
  split <;> exact ⟨_, _, _, _, _, _, rfl⟩
theorem rsV_form (l : List UInt8) : ∃ (s : ByteArray) (a b c d : Int) (ok : Bool), rsV l = .tuple #[.agg #[.string s, .int .i64 a, .int .i64 b, .int .i64 c, .int .i64 d], .bool ok] := by
  unfold rsV
  split
  · split
    · exact stV_form _ _ _ _ _
    · exact ⟨_, _, _, _, _, _, rfl⟩
  · exact ⟨_, _, _, _, _, _, rfl⟩
theorem rsV_len (l : List UInt8) (h : (spl 32 l).length ≠ 5) : rsV l = .tuple #[.agg #[.string ⟨#[]⟩, .int .i64 0, .int .i64 0, .int .i64 0, .int .i64 0], .bool false] := by
  unfold rsV
  split
  · rename_i e; rw [e] at h; simp at h
  · rfl
/-- The words by their index. -/
def wdT (n t1 t2 t3 t4 : List UInt8) (j : Nat) : List UInt8 := [n, t1, t2, t3, t4].getD j []
/-- The numbers of the first words behind the name. -/
def zsT (t1 t2 t3 t4 : List UInt8) (j : Nat) : List Int := [numV t1, numV t2, numV t3, numV t4].take (j - 1)
theorem zsT_next (n t1 t2 t3 t4 : List UInt8) (j : Nat) (h0 : 1 ≤ j) (h : j < 5) : zsT t1 t2 t3 t4 (j + 1) = zsT t1 t2 t3 t4 j ++ [numV (wdT n t1 t2 t3 t4 j)] := by
  rcases (by omega : j = 1 ∨ j = 2 ∨ j = 3 ∨ j = 4) with rfl | rfl | rfl | rfl <;> rfl
theorem zsT_len (t1 t2 t3 t4 : List UInt8) (j : Nat) (h0 : 1 ≤ j) (h : j ≤ 5) : (zsT t1 t2 t3 t4 j).length = j - 1 := by
  rcases (by omega : j = 1 ∨ j = 2 ∨ j = 3 ∨ j = 4 ∨ j = 5) with rfl | rfl | rfl | rfl | rfl <;> rfl
theorem rsV_bad (l n t1 t2 t3 t4 : List UInt8) (h : spl 32 l = [n, t1, t2, t3, t4]) (j : Nat) (hj0 : 1 ≤ j) (hj : j < 5) (k : numOk (wdT n t1 t2 t3 t4 j) = false) : rsV l = .tuple #[.agg #[.string ⟨#[]⟩, .int .i64 0, .int .i64 0, .int .i64 0, .int .i64 0], .bool false] := by
  unfold rsV
  rw [h]
  show (if (numOk t1 && (numOk t2 && (numOk t3 && numOk t4))) = true then _ else _) = _
  rw [if_neg]
  rcases (by omega : j = 1 ∨ j = 2 ∨ j = 3 ∨ j = 4) with rfl | rfl | rfl | rfl
  · rw [show numOk t1 = false from k]; simp
  · rw [show numOk t2 = false from k]; simp
  · rw [show numOk t3 = false from k]; simp
  · rw [show numOk t4 = false from k]; simp
theorem rsV_at (l n t1 t2 t3 t4 : List UInt8) (h : spl 32 l = [n, t1, t2, t3, t4]) (k : ∀ j, 1 ≤ j → j < 5 → numOk (wdT n t1 t2 t3 t4 j) = true) : rsV l = stV n (numV t1) (numV t2) (numV t3) (numV t4) := by
  unfold rsV
  rw [h]
  show (if (numOk t1 && (numOk t2 && (numOk t3 && numOk t4))) = true then _ else _) = _
  rw [show numOk t1 = true from k 1 (by omega) (by omega), show numOk t2 = true from k 2 (by omega) (by omega), show numOk t3 = true from k 3 (by omega) (by omega), show numOk t4 = true from k 4 (by omega) (by omega)]
  rfl

theorem wd_get (xs : List (List UInt8)) (n t1 t2 t3 t4 : List UInt8) (e : xs = [n, t1, t2, t3, t4]) (j : Nat) (h : j < xs.length) : xs[j] = wdT n t1 t2 t3 t4 j := by
  subst e
  rcases (by simpa using h : j < 5) with _
  have : j < 5 := by simpa using h
  rcases (by omega : j = 0 ∨ j = 1 ∨ j = 2 ∨ j = 3 ∨ j = 4) with rfl | rfl | rfl | rfl | rfl <;> rfl
set_option maxHeartbeats 1000000 in
theorem l05RS_any (s : ByteArray) (hs : s.size ≤ 1048576) (w : World) :
    Calls Tryd.prog 79 #[.string s] w fun e w' => (∃ x : Int, e = .returned (.tuple #[.int .i64 x, .bool (numOk s.data.toList)]) ∧ (numOk s.data.toList = true → x = numV s.data.toList)) ∧ w = w' := by
  by_cases h1 : 1 < s.size
  · have h1' : decide ((1 : Int) < (s.size : Int)) = true := by simp; omega
    cases hsg : ((s[0].toNat : Int) == 45) with
    | true =>
      have hm := minus_list s h1 hsg
      have hn := sg_num (s.extract 1 s.size).data.toList
      rw [← hm] at hn
      have hbd := numV_bd (s.extract 1 s.size).data.toList
      have hsz : (s.extract 1 s.size).size ≤ 9223372036854775806 := by rw [ByteArray.size_extract]; omega
      have NM := Lib.hid (fun w => l01Number_any (s.extract 1 s.size) w hsz)
      generalize numV (s.extract 1 s.size).data.toList = v at *
      generalize numOk (s.extract 1 s.size).data.toList = b at *
      generalize numV s.data.toList = v' at *
      generalize numOk s.data.toList = b' at *
      clear hm hsz
      obtain ⟨hn1, hn2⟩ := hn
      have N2 := Lib.hid hn2
      clear hn2
      cases b with
      | false =>
        obtain rfl : b' = false := by rw [← hn1]; rfl
        clear hn1
        go_enter Tryd.func79, Tryd.ntmps79
        go_wp2_with fail
        refine (NM.out _).mono ?_
        rintro e w' ⟨rfl, rfl⟩
        go_wp2_with fail
        go_ret2
        exact ⟨⟨_, rfl, fun h => by cases h⟩, rfl⟩
      | true =>
        by_cases hv : 0 < v
        · obtain rfl : b' = true := by rw [← hn1, decide_eq_true hv]; rfl
          clear hn1
          go_enter Tryd.func79, Tryd.ntmps79
          go_wp2_with fail
          refine (NM.out _).mono ?_
          rintro e w' ⟨rfl, rfl⟩
          go_wp2_with fail
          go_ret2
          exact ⟨⟨_, rfl, fun h => N2.out (by trivial)⟩, rfl⟩
        · obtain rfl : b' = false := by rw [← hn1, decide_eq_false hv]; rfl
          clear hn1
          go_enter Tryd.func79, Tryd.ntmps79
          go_wp2_with fail
          refine (NM.out _).mono ?_
          rintro e w' ⟨rfl, rfl⟩
          go_wp2_with fail
          go_ret2
          exact ⟨⟨_, ret_pair rfl (decide_eq_false (by omega)), fun h => by cases h⟩, rfl⟩
    | false =>
      have NM := Lib.hid (fun w => l01Number_any s w (by omega))
      go_enter Tryd.func79, Tryd.ntmps79
      go_wp2_with fail
      refine (NM.out _).mono ?_
      rintro e w' ⟨rfl, rfl⟩
      go_wp2_with fail
      go_ret2
      exact ⟨⟨_, rfl, fun _ => rfl⟩, rfl⟩
  · have h1' : decide ((1 : Int) < (s.size : Int)) = false := by simp; omega
    have NM := Lib.hid (fun w => l01Number_any s w (by omega))
    go_enter Tryd.func79, Tryd.ntmps79
    go_wp2_with fail
    refine (NM.out _).mono ?_
    rintro e w' ⟨rfl, rfl⟩
    go_wp2_with fail
    go_ret2
    exact ⟨⟨_, rfl, fun _ => rfl⟩, rfl⟩
/-- A star in a block of its own, that may be written. -/
structure SZ5 (w : World) (g : Nat) (s : ByteArray) (a b c d : Int) : Prop where
  c0 : w.cell? ⟨g, 0, none⟩ = some (.string s)
  c1 : w.cell? ⟨g, 1, none⟩ = some (.int .i64 a)
  c2 : w.cell? ⟨g, 2, none⟩ = some (.int .i64 b)
  c3 : w.cell? ⟨g, 3, none⟩ = some (.int .i64 c)
  c4 : w.cell? ⟨g, 4, none⟩ = some (.int .i64 d)
  f0 : w.frozen? ⟨g, 0, none⟩ = false
  f1 : w.frozen? ⟨g, 1, none⟩ = false
  f2 : w.frozen? ⟨g, 2, none⟩ = false
  f3 : w.frozen? ⟨g, 3, none⟩ = false
  f4 : w.frozen? ⟨g, 4, none⟩ = false
theorem SZ5.inn {w : World} {g : Nat} {s : ByteArray} {a b c d : Int} (h : SZ5 w g s a b c d) : g < w.heap.size := World.block_lt_of_cell? w ⟨g, 0, none⟩ h.c0
theorem SZ5.go {w w' : World} {g : Nat} {s : ByteArray} {a b c d : Int} (h : SZ5 w g s a b c d) (hb : Below w.heap.size w w') : SZ5 w' g s a b c d := by
  obtain ⟨k1, k2⟩ := bcell hb
  have hg := h.inn
  exact ⟨(k1 g 0 hg).trans h.c0, (k1 g 1 hg).trans h.c1, (k1 g 2 hg).trans h.c2, (k1 g 3 hg).trans h.c3, (k1 g 4 hg).trans h.c4, (k2 g 0 hg).trans h.f0, (k2 g 1 hg).trans h.f1, (k2 g 2 hg).trans h.f2, (k2 g 3 hg).trans h.f3, (k2 g 4 hg).trans h.f4⟩
theorem SZ5.new (w : World) (T : TypeId) (s : ByteArray) (a b c d : Int) : SZ5 (w.alloc (.cells #[.string s, .int .i64 a, .int .i64 b, .int .i64 c, .int .i64 d] T)) w.heap.size s a b c d := ⟨by simp, by simp, by simp, by simp, by simp, by simp, by simp, by simp, by simp, by simp⟩
theorem SZ5.drew {w : World} {g : Nat} {s : ByteArray} {a b c d : Int} (h : SZ5 w g s a b c d) : SZ5 w.drew g s a b c d := ⟨h.c0, h.c1, h.c2, h.c3, h.c4, h.f0, h.f1, h.f2, h.f3, h.f4⟩
theorem below_of_drewN {w w' : World} {q : Nat} (h : w' = w.drewN q) : Below w.heap.size w w' := by rw [h]; exact bel_drewNS (Below.refl _ _) q
theorem data_ofS (t : List UInt8) : (⟨t.toArray⟩ : ByteArray).data.toList = t := by simp
theorem keepW5 {w W W' : World} {g h : Nat} {v u0 u1 u2 u3 : Value} (k : W.cell? ⟨g, 0, none⟩ = some v ∧ W.cell? ⟨h, 0, none⟩ = some u0 ∧ W.cell? ⟨h, 1, none⟩ = some u1 ∧ W.cell? ⟨h, 2, none⟩ = some u2 ∧ W.cell? ⟨h, 3, none⟩ = some u3 ∧ Below w.heap.size w W) (hb : Below W.heap.size W W') :
    W'.cell? ⟨g, 0, none⟩ = some v ∧ W'.cell? ⟨h, 0, none⟩ = some u0 ∧ W'.cell? ⟨h, 1, none⟩ = some u1 ∧ W'.cell? ⟨h, 2, none⟩ = some u2 ∧ W'.cell? ⟨h, 3, none⟩ = some u3 ∧ Below w.heap.size w W' := by
  obtain ⟨h0, h1, h2, h3, h4, hB⟩ := k
  have l0 := World.block_lt_of_cell? W ⟨g, 0, none⟩ h0
  have l1 := World.block_lt_of_cell? W ⟨h, 0, none⟩ h1
  obtain ⟨c, _⟩ := bcell hb
  exact ⟨(c _ _ l0).trans h0, (c _ _ l1).trans h1, (c _ _ l1).trans h2, (c _ _ l1).trans h3, (c _ _ l1).trans h4, hB.trans (hb.mono hB.size)⟩

set_option maxRecDepth 100000 in
set_option maxHeartbeats 4000000 in
theorem l05Read_any (s : ByteArray) (hs : s.size ≤ 1048576) (w : World) :
    Calls Tryd.prog 44 #[.string s] w fun e w' => e = .returned (rsV s.data.toList) ∧ Below w.heap.size w w' := by
  have HP : Hid (0 < (bs (spl 32 s.data.toList)).length) := Lib.hid (by rw [bs_len]; exact List.length_pos_iff.2 (spl_ne 32 _))
  have PS := part_size s 32
  by_cases hl : (spl 32 s.data.toList).length = 5
  · obtain ⟨n, t1, t2, t3, t4, hx⟩ : ∃ n t1 t2 t3 t4, spl 32 s.data.toList = [n, t1, t2, t3, t4] := by
      generalize spl 32 s.data.toList = xs at hl
      match xs, hl with
      | [n, t1, t2, t3, t4], _ => exact ⟨n, t1, t2, t3, t4, rfl⟩
    have WS : Hid (∀ m, m < 5 → (⟨(wdT n t1 t2 t3 t4 m).toArray⟩ : ByteArray).size ≤ 1048576) := Lib.hid (by
      intro m hm
      have h := PS m (by omega)
      rw [wd_get _ n t1 t2 t3 t4 hx m (by omega)] at h
      omega)
    have WG : Hid (∀ m, (h : m < (spl 32 s.data.toList).length) → (spl 32 s.data.toList)[m] = wdT n t1 t2 t3 t4 m) := Lib.hid (wd_get _ n t1 t2 t3 t4 hx)
    have hns : (⟨n.toArray⟩ : ByteArray).size ≤ 1048576 := WS.out 0 (by omega)
    have RB := Lib.hid (rsV_bad s.data.toList n t1 t2 t3 t4 hx)
    have RA := Lib.hid (rsV_at s.data.toList n t1 t2 t3 t4 hx)
    have ZN := Lib.hid (zsT_next n t1 t2 t3 t4)
    have ZL := Lib.hid (zsT_len t1 t2 t3 t4)
    have Z5 : Hid (zsT t1 t2 t3 t4 5 = [numV t1, numV t2, numV t3, numV t4]) := Lib.hid rfl
    have W0 : Hid (wdT n t1 t2 t3 t4 0 = n ∧ wdT n t1 t2 t3 t4 1 = t1 ∧ wdT n t1 t2 t3 t4 2 = t2 ∧ wdT n t1 t2 t3 t4 3 = t3 ∧ wdT n t1 t2 t3 t4 4 = t4) := Lib.hid ⟨rfl, rfl, rfl, rfl, rfl⟩
    have RD : Hid (∀ m, m < 5 → ∀ w, Calls Tryd.prog 79 #[.string ⟨(wdT n t1 t2 t3 t4 m).toArray⟩] w fun e w' => (∃ x : Int, e = .returned (.tuple #[.int .i64 x, .bool (numOk (wdT n t1 t2 t3 t4 m))]) ∧ (numOk (wdT n t1 t2 t3 t4 m) = true → x = numV (wdT n t1 t2 t3 t4 m))) ∧ w = w') := Lib.hid (by
      intro m hm w
      have h := l05RS_any ⟨(wdT n t1 t2 t3 t4 m).toArray⟩ (WS.out m hm) w
      rw [data_ofS] at h
      exact h)
    have V := Lib.hid (fun (w : World) g a b c d h => l05One_at g 0 ⟨⟨n.toArray⟩, a, b, c, d⟩ w h)
    have SV : Hid (∀ a b c d, stV n a b c d = if starB ⟨n.toArray⟩ a b c d = true then .tuple #[.agg #[.string ⟨n.toArray⟩, .int .i64 a, .int .i64 b, .int .i64 c, .int .i64 d], .bool true] else .tuple #[.agg #[.string ⟨#[]⟩, .int .i64 0, .int .i64 0, .int .i64 0, .int .i64 0], .bool false]) := Lib.hid (fun _ _ _ _ => rfl)
    generalize rsV s.data.toList = R at *
    generalize wdT n t1 t2 t3 t4 = W at *
    generalize zsT t1 t2 t3 t4 = Z at *
    generalize stV n = S at *
    have GD : Hid (∀ a b c d, StarV.good ⟨⟨n.toArray⟩, a, b, c, d⟩ = starB ⟨n.toArray⟩ a b c d) := Lib.hid (fun _ _ _ _ => rfl)
    generalize starB ⟨n.toArray⟩ = G at *
    generalize hN0 : (⟨n.toArray⟩ : ByteArray) = ns at *
    have HN0 := Lib.hid hN0
    clear hN0 hns PS
    generalize numV t1 = x1 at *
    generalize numV t2 = x2 at *
    generalize numV t3 = x3 at *
    generalize numV t4 = x4 at *
    obtain ⟨i0, hi, hz0, hz1, hz2⟩ := info_parts info_i64
    have HI0 := Lib.hid hi
    have HZ0 := Lib.hid hz0
    have HZ1 := Lib.hid hz1
    have HZ2 := Lib.hid hz2
    clear hi hz0 hz1 hz2
    clear hx
    have Z0 : Hid (SZ5 (w.alloc (.cells #[.string ⟨#[]⟩, .int .i64 0, .int .i64 0, .int .i64 0, .int .i64 0] 32)) w.heap.size ⟨#[]⟩ 0 0 0 0) := Lib.hid (SZ5.new _ _ _ _ _ _ _)
    have hb0 : Hid (Below w.heap.size w (w.alloc (.cells #[.string ⟨#[]⟩, .int .i64 0, .int .i64 0, .int .i64 0, .int .i64 0] 32))) := Lib.hid ((Below.refl _ _).alloc (Nat.le_refl _) _)
    go_enter Tryd.func44, Tryd.ntmps44
    go_wp2_with fail
    refine (l01Split_any s 32 32 rfl _ hs).mono ?_
    rintro e w1 ⟨v, rfl, hown1, hb1⟩
    obtain ⟨g, cap, rfl⟩ := Go.Joins.ownsRow_form hown1 HP.out
    have hgl := (hown1.lt g rfl).2
    have Z1 := Lib.hid (Z0.out.go hb1)
    have HB1 := Lib.hid (hb0.out.trans (hb1.mono hb0.out.size))
    rw [bs_len] at hown1 ⊢
    clear hb1 hb0 Z0
    rw [hl] at hown1 ⊢
    have CE : Hid (∀ m, m < 5 → w1.cell? ⟨g, m, none⟩ = some (.string ⟨(W m).toArray⟩)) := Lib.hid (by
      intro m hm
      rw [hown1.cellAt m (by omega), List.getElem?_map, bs_get _ m (by omega), WG.out m (by omega)]
      rfl)
    have hcap : 5 ≤ cap := by
      rcases hown1.2 with ⟨hv, _⟩ | ⟨g1, cap1, cur, hv, _, _, hc, _⟩
      · cases hv
      · injection hv with _ _ e3; omega
    clear hown1 WG hl
    have ST := Lib.hid (World.ownsRow_lit (base := w1.heap.size) (e := 2) (size := 1) w1 #[] 0 (Nat.le_refl _) (by decide) rfl)
    have hz1 : (Z 1).length = 0 := ZL.out 1 (by omega) (by omega)
    have hz1' : Z 1 = [] := List.length_eq_zero_iff.1 hz1
    have SO : Hid ((w1.alloc (.cells #[] 2)).ownsRow w1.heap.size 2 1 (.slice (some ⟨w1.heap.size, 0, none⟩) 0 0) (Z 1).length ((Z 1).map (Value.int .i64))) := Lib.hid (by rw [hz1']; exact ST.out)
    clear hz1 hz1' ST
    go_wp2_with fail
    go_loopg [5, 6] 5 (fun kx s5 s6 wr => ∃ m : Nat, s6 = .int .i64 (m : Int) ∧ 1 ≤ m ∧ m ≤ 5 ∧ kx = 6 - m ∧ Hid (∀ k, 1 ≤ k → k < m → numOk (W k) = true) ∧ Hid (wr.ownsRow w1.heap.size 2 1 s5 (Z m).length ((Z m).map (Value.int .i64))) ∧ Hid (Below w1.heap.size w1 wr))
    case atStart => exact ⟨1, rfl, Nat.le_refl _, by omega, rfl, Lib.hid (fun k a b => absurd a (by omega)), SO, Lib.hid ((Below.refl _ _).alloc (Nat.le_refl _) _)⟩
    case round =>
      obtain ⟨m, rfl, hm0, hm, rfl, HK, HO, HB⟩ := hrel
      have Z2 := Lib.hid (Z1.out.go HB.out)
      have HB2 := Lib.hid (HB1.out.trans (HB.out.mono HB1.out.size))
      by_cases hlt : m < 5
      · have j1 : (m : Int) < 5 := by omega
        have cm : wr.cell? ⟨g, m, none⟩ = some (.string ⟨(W m).toArray⟩) := (HB.out.cell (p := ⟨g, m, none⟩) hgl).trans (CE.out m hlt)
        have cm2 : wr.cell? ⟨g, 0 + m, none⟩ = some (.string ⟨(W m).toArray⟩) := by rw [Nat.zero_add]; exact cm
        have RM := Lib.hid (RD.out m hlt)
        have ZM := Lib.hid (ZN.out m hm0 hlt)
        have zl := ZL.out m hm0 hm
        have RBm := Lib.hid (RB.out m hm0 hlt)
        have KM : Hid (numOk (W m) = true → ∀ k, 1 ≤ k → k < m + 1 → numOk (W k) = true) := Lib.hid (by
          intro h k a b
          by_cases e : k = m
          · rw [e]; exact h
          · exact HK.out k a (by omega))
        generalize W m = tx at *
        cases hok : numOk tx with
        | false =>
          have RR := Lib.hid (RBm.out hok)
          rw [hok] at RM
          clear hok KM
          obtain ⟨q0, q1, q2, q3, q4, f0, f1, f2, f3, f4⟩ := Z2.out
          go_wp2_with fail
          refine (RM.out _).mono ?_
          rintro e w' ⟨⟨x, rfl, hxv⟩, rfl⟩
          clear hxv
          go_wp2_with fail
          rw [RR.out]
          refine bodyPost_ret (v := .tuple #[.agg #[.string ⟨#[]⟩, .int .i64 0, .int .i64 0, .int .i64 0, .int .i64 0], .bool false]) (by first | (simp [results, Tryd.results44, go_sem]; done) | (simp [results, Tryd.results44, go_sem, *]; done)) rfl ⟨rfl, ?_⟩
          repeat (first | exact Below.refl _ _ | exact HB2.out | refine Below.setCell ?_ (by first | (simp; done) | omega | (simp; omega)) _ | refine Below.alloc ?_ (by first | (simp; done) | omega | (simp; omega)) _ | refine bel_drew ?_)
        | true =>
          have K2 := Lib.hid (KM.out hok)
          rw [hok] at RM
          clear hok KM RBm
          go_wp2_with fail
          refine (RM.out _).mono ?_
          rintro e w' ⟨⟨x, rfl, hxv⟩, rfl⟩
          have hxv2 := hxv (by trivial)
          have XV := Lib.hid hxv2
          clear hxv hxv2 cm cm2
          have hown := HO.out
          have hi := HI0.out
          have hz0 := HZ0.out
          have hz1 := HZ1.out
          have hz2 := HZ2.out
          generalize Z m = L at *
          go_wp2_with (at_builtin; refine wpList_append_own _ rfl _ _ 55 rfl w1.heap.size 2 i0 (.int .i64 0) 1 8 Tryd.underlying55 hi hz0 hz1 hz2 rfl (by decide) _ _ _ rfl (hown.alloc _) ⟨wr.heap.size, 0, none⟩ 1 1 [.int .i64 x] rfl rfl ?c1 ?c2 ?c3 ?c4 ?c5 ?_)
          case c1 => exact one_cell _ _ _ _
          case c2 => exact one_plain _ _
          case c3 => unfold maxLen; omega
          case c4 => omega
          case c5 => have hs4 := HB.out.size; simp; omega
          intro v' w5 hown' hgrow _
          obtain ⟨hb2, hs2⟩ := own_below hown HB.out HB.out.size hgrow
          have ho : w5.ownsRow w1.heap.size 2 1 v' (Z (m + 1)).length ((Z (m + 1)).map (Value.int .i64)) := by
            have hl9 : L.length + [x].length = m := by rw [List.length_singleton]; omega
            rw [ZM.out, ← XV.out, List.map_append, List.length_append, hl9]
            exact hown'
          have HO2 := Lib.hid ho
          have HB5 := Lib.hid hb2
          clear hown hown' hgrow ho hb2 hs2 hi hz0 hz1 hz2
          go_wp2_with fail
          go_roundg (6 - (m + 1))
          case measure => omega
          case rel => exact ⟨m + 1, by go_num, by omega, by omega, by omega, K2, HO2, HB5⟩
      · obtain rfl : m = 5 := by omega
        have RF := Lib.hid (RA.out HK.out)
        have hown := HO.out
        rw [Z5.out] at hown
        simp only [List.length_cons, List.length_nil, Nat.zero_add, Nat.reduceAdd] at hown
        obtain ⟨gg, cap2, rfl⟩ := Go.Joins.ownsRow_form hown (by omega)
        have m0 : wr.cell? ⟨gg, 0, none⟩ = some (.int .i64 x1) := by rw [hown.cellAt 0 (by omega)]; rfl
        have m1 : wr.cell? ⟨gg, 1, none⟩ = some (.int .i64 x2) := by rw [hown.cellAt 1 (by omega)]; rfl
        have m2 : wr.cell? ⟨gg, 2, none⟩ = some (.int .i64 x3) := by rw [hown.cellAt 2 (by omega)]; rfl
        have m3 : wr.cell? ⟨gg, 3, none⟩ = some (.int .i64 x4) := by rw [hown.cellAt 3 (by omega)]; rfl
        have e0 : wr.cell? ⟨g, 0, none⟩ = some (.string ns) := by
          rw [← HN0.out, ← W0.out.1]
          exact (HB.out.cell (p := ⟨g, 0, none⟩) hgl).trans (CE.out 0 (by omega))
        clear hown
        have KK : Hid (wr.cell? ⟨g, 0, none⟩ = some (.string ns) ∧ wr.cell? ⟨gg, 0, none⟩ = some (.int .i64 x1) ∧ wr.cell? ⟨gg, 1, none⟩ = some (.int .i64 x2) ∧ wr.cell? ⟨gg, 2, none⟩ = some (.int .i64 x3) ∧ wr.cell? ⟨gg, 3, none⟩ = some (.int .i64 x4) ∧ Below wr.heap.size wr wr) := Lib.hid ⟨e0, m0, m1, m2, m3, Below.refl _ _⟩
        go_upto_region 12 with fail
        go_cut [9] from 13 (fun s9 wx => ∃ r : Nat, s9 = .pointer (some ⟨r, 0, none⟩) ∧ Hid (SZ5 wx r ns x1 x2 x3 x4) ∧ Hid (Below wr.heap.size wr wx))
        case first =>
          go_region_held3 (fun w' => w'.cell? ⟨g, 0, none⟩ = some (.string ns) ∧ w'.cell? ⟨gg, 0, none⟩ = some (.int .i64 x1) ∧ w'.cell? ⟨gg, 1, none⟩ = some (.int .i64 x2) ∧ w'.cell? ⟨gg, 2, none⟩ = some (.int .i64 x3) ∧ w'.cell? ⟨gg, 3, none⟩ = some (.int .i64 x4) ∧ Below wr.heap.size wr w') (first | (exact keepW5 KK.out (bel_drew (Below.refl _ _))) | (exact keepW5 KK.out ((bel_drew (Below.refl _ _)).alloc (Nat.le_refl _) _)) | (exact keepW5 KK.out (bel_drew ((Below.refl _ _).alloc (Nat.le_refl _) _))) | go_keep) (fail)
          all_goals
            rename_i held
            have S1 := Lib.hid held.2.2.2.2.2
            clear held
            go_wp2_with fail
            go_meet
            case rel => first | exact ⟨_, rfl, Lib.hid (SZ5.new _ _ _ _ _ _ _), S1⟩ | exact ⟨_, rfl, Lib.hid (SZ5.drew (SZ5.new _ _ _ _ _ _ _)), S1⟩
        case rest =>
          obtain ⟨r, rfl, CQ, S2⟩ := hcut
          have Z3 := Lib.hid (Z2.out.go S2.out)
          have HB3 := Lib.hid (HB2.out.trans (S2.out.mono HB2.out.size))
          obtain ⟨v0, v1, v2, v3, v4, _, _, _, _, _⟩ := CQ.out
          clear m0 m1 m2 m3 e0 KK
          go_wp2_with fail
          refine (V.out _ _ _ _ _ _ ⟨v0, v1, v2, v3, v4⟩).mono ?_
          rintro e w4 ⟨rfl, q, hq⟩
          have hb4 := below_of_drewN hq
          clear hq
          have Z4 := Lib.hid (Z3.out.go hb4)
          have C4 := Lib.hid (CQ.out.go hb4)
          have HB4 := Lib.hid (HB3.out.trans (hb4.mono HB3.out.size))
          clear hb4 v0 v1 v2 v3 v4
          obtain ⟨v0, v1, v2, v3, v4, _, _, _, _, _⟩ := C4.out
          obtain ⟨q0, q1, q2, q3, q4, f0, f1, f2, f3, f4⟩ := Z4.out
          rw [show (StarV.good ⟨ns, x1, x2, x3, x4⟩) = G x1 x2 x3 x4 from GD.out x1 x2 x3 x4]
          have RG := Lib.hid (RF.out.trans (SV.out x1 x2 x3 x4))
          cases hG : G x1 x2 x3 x4 with
          | true =>
            have RE : Hid (R = .tuple #[.agg #[.string ns, .int .i64 x1, .int .i64 x2, .int .i64 x3, .int .i64 x4], .bool true]) := Lib.hid (by rw [RG.out, hG, if_pos rfl])
            clear hG RG
            go_wp2_with fail
            rw [RE.out]
            refine bodyPost_ret (v := .tuple #[.agg #[.string ns, .int .i64 x1, .int .i64 x2, .int .i64 x3, .int .i64 x4], .bool true]) (by first | (simp [results, Tryd.results44, go_sem]; done) | (simp [results, Tryd.results44, go_sem, *]; done)) rfl ⟨rfl, ?_⟩
            repeat (first | exact Below.refl _ _ | exact HB4.out | refine Below.setCell ?_ (by first | (simp; done) | omega | (simp; omega)) _ | refine Below.alloc ?_ (by first | (simp; done) | omega | (simp; omega)) _ | refine bel_drew ?_)
          | false =>
            have RE : Hid (R = .tuple #[.agg #[.string ⟨#[]⟩, .int .i64 0, .int .i64 0, .int .i64 0, .int .i64 0], .bool false]) := Lib.hid (by rw [RG.out, hG, if_neg (by simp)])
            clear hG RG
            go_wp2_with fail
            rw [RE.out]
            refine bodyPost_ret (v := .tuple #[.agg #[.string ⟨#[]⟩, .int .i64 0, .int .i64 0, .int .i64 0, .int .i64 0], .bool false]) (by first | (simp [results, Tryd.results44, go_sem]; done) | (simp [results, Tryd.results44, go_sem, *]; done)) rfl ⟨rfl, ?_⟩
            repeat (first | exact Below.refl _ _ | exact HB4.out | refine Below.setCell ?_ (by first | (simp; done) | omega | (simp; omega)) _ | refine Below.alloc ?_ (by first | (simp; done) | omega | (simp; omega)) _ | refine bel_drew ?_)
  · rw [rsV_len _ hl]
    have hl' : (((spl 32 s.data.toList).length : Int) == 5) = false := by simp; omega
    have hl2 : ¬ ((spl 32 s.data.toList).length : Int) = 5 := by omega
    clear PS
    have Z0 : Hid (SZ5 (w.alloc (.cells #[.string ⟨#[]⟩, .int .i64 0, .int .i64 0, .int .i64 0, .int .i64 0] 32)) w.heap.size ⟨#[]⟩ 0 0 0 0) := Lib.hid (SZ5.new _ _ _ _ _ _ _)
    have hb0 : Hid (Below w.heap.size w (w.alloc (.cells #[.string ⟨#[]⟩, .int .i64 0, .int .i64 0, .int .i64 0, .int .i64 0] 32))) := Lib.hid ((Below.refl _ _).alloc (Nat.le_refl _) _)
    go_enter Tryd.func44, Tryd.ntmps44
    go_wp2_with fail
    refine (l01Split_any s 32 32 rfl _ hs).mono ?_
    rintro e w1 ⟨v, rfl, hown1, hb1⟩
    obtain ⟨g, cap, rfl⟩ := Go.Joins.ownsRow_form hown1 HP.out
    have hgl := (hown1.lt g rfl).2
    have Z1 := Lib.hid (Z0.out.go hb1)
    have HB1 := Lib.hid (hb0.out.trans (hb1.mono hb0.out.size))
    rw [bs_len] at hown1 ⊢
    clear hb1 hb0 Z0
    generalize (spl 32 s.data.toList).length = len at *
    have HO := Lib.hid hown1
    clear hown1
    obtain ⟨q0, q1, q2, q3, q4, f0, f1, f2, f3, f4⟩ := Z1.out
    go_wp2_with fail
    refine bodyPost_ret (v := .tuple #[.agg #[.string ⟨#[]⟩, .int .i64 0, .int .i64 0, .int .i64 0, .int .i64 0], .bool false]) (by first | (simp [results, Tryd.results44, go_sem]; done) | (simp [results, Tryd.results44, go_sem, *]; done)) rfl ⟨rfl, ?_⟩
    repeat (first | exact Below.refl _ _ | exact HB1.out | refine Below.setCell ?_ (by first | (simp; done) | omega | (simp; omega)) _ | refine Below.alloc ?_ (by first | (simp; done) | omega | (simp; omega)) _ | refine bel_drew ?_)

set_option maxHeartbeats 400000 in
theorem specRS_any (s : ByteArray) (hs : s.size ≤ 1048576) (w : World) :
    Calls Tryd.prog 13 #[.string s] w fun e w' => e = .returned (rsV s.data.toList) ∧ Below w.heap.size w w' := by
  have F := Lib.hid (fun w => l05Read_any s hs w)
  obtain ⟨x, y, z, u, v, ok, hz⟩ := rsV_form s.data.toList
  rw [hz] at F ⊢
  clear hz
  have Z0 : Hid (SZ5 (w.alloc (.cells #[.string ⟨#[]⟩, .int .i64 0, .int .i64 0, .int .i64 0, .int .i64 0] 32)) w.heap.size ⟨#[]⟩ 0 0 0 0) := Lib.hid (SZ5.new _ _ _ _ _ _ _)
  have hb0 : Hid (Below w.heap.size w (w.alloc (.cells #[.string ⟨#[]⟩, .int .i64 0, .int .i64 0, .int .i64 0, .int .i64 0] 32))) := Lib.hid ((Below.refl _ _).alloc (Nat.le_refl _) _)
  go_enter Tryd.func13, Tryd.ntmps13
  go_wp2_with fail
  refine (F.out _).mono ?_
  rintro e w1 ⟨rfl, hb⟩
  have Z1 := Lib.hid (Z0.out.go hb)
  have HB := Lib.hid (hb0.out.trans (hb.mono hb0.out.size))
  clear hb Z0 hb0
  obtain ⟨q0, q1, q2, q3, q4, f0, f1, f2, f3, f4⟩ := Z1.out
  go_wp2_with fail
  refine bodyPost_ret (v := .tuple #[.agg #[.string x, .int .i64 y, .int .i64 z, .int .i64 u, .int .i64 v], .bool ok]) (by first | (simp [results, Tryd.results13, go_sem]; done) | (simp [results, Tryd.results13, go_sem, *]; done)) rfl ⟨rfl, ?_⟩
  repeat (first | exact Below.refl _ _ | exact HB.out | refine Below.setCell ?_ (by first | (simp; done) | omega | (simp; omega)) _ | refine Below.alloc ?_ (by first | (simp; done) | omega | (simp; omega)) _ | refine bel_drew ?_)
end Go.Proofs.YtjghopepgfgebaaDoor
