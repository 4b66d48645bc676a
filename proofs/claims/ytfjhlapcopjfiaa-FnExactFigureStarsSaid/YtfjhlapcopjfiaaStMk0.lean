/-
  The law's own helpers on stars and numbers: eqInt64S at equal lists, markInt64S, heldInt64S, markText, markStarS.
-/
import Derived.Test.YtfjhlapcopjfiaaStarL
import Derived.Test.YtfjhlapcopjfiaaEndsI
import Derived.Lib.ItoaNum
import Derived.Deep.QuietTactic
import Derived.BigQuiet
namespace Go.Proofs.Ytfjhlapcopjfiaa
open Go.RowKit
set_option linter.unusedVariables false

theorem ddM_small (u : Nat) (h : u < 10) : Lib.decDigits u = [UInt8.ofNat (48 + u)] := by rw [Lib.decDigits, dif_pos h]
theorem ddM_big (u : Nat) (h : ¬ u < 10) : Lib.decDigits u = Lib.decDigits (u / 10) ++ [UInt8.ofNat (48 + u % 10)] := by rw [Lib.decDigits, dif_neg h]
/-- The numbers k, k + 1, .. -/
def marks (k : Int) : Nat → List Int
  | 0 => []
  | n + 1 => k :: marks (k + 1) n
theorem marks_len : ∀ (n : Nat) (k : Int), (marks k n).length = n
  | 0, _ => rfl
  | n + 1, k => by rw [marks, List.length_cons, marks_len n (k + 1)]
theorem marks_get : ∀ (n : Nat) (k : Int) (j : Nat) (_h : j < n), (marks k n)[j]? = some (k + j)
  | n + 1, k, 0, _ => by rw [marks]; simp
  | n + 1, k, j + 1, _ => by
    rw [marks, List.getElem?_cons_succ, marks_get n (k + 1) j (by omega)]
    congr 1; omega

set_option maxHeartbeats 400000 in
theorem eqI_empty (a b : Option Addr) (ca cb : Nat) (w : World) :
    Calls Try.prog 42 #[.slice a 0 ca, .slice b 0 cb] w fun e w' => e = .returned (.bool true) ∧ ∃ q, w' = w.drewN q := by
  go_enter Try.func42, Try.ntmps42
  go_wp2_with fail
  go_loop [5] (fun i => i = .int .i64 0) (fun _ => 0)
  case atStart => rfl
  case round =>
    subst hrel
    go_wp2_with fail
    go_ret
    exact ⟨rfl, 0, rfl⟩

set_option maxHeartbeats 1000000 in
theorem eqI_full (g h ca cb : Nat) (zs : List Int) (w : World) (hb : zs.length ≤ 1048576)
    (hg : ∀ j, (hj : j < zs.length) → w.cell? ⟨g, j, none⟩ = some (.int .i64 zs[j])) (hh : ∀ j, (hj : j < zs.length) → w.cell? ⟨h, j, none⟩ = some (.int .i64 zs[j])) :
    Calls Try.prog 42 #[.slice (some ⟨g, 0, none⟩) zs.length ca, .slice (some ⟨h, 0, none⟩) zs.length cb] w fun e w' => e = .returned (.bool true) ∧ ∃ q, w' = w.drewN q := by
  have HG := Lib.hid hg
  have HH := Lib.hid hh
  clear hg hh
  go_enter Try.func42, Try.ntmps42
  go_wp2_with fail
  go_loopw [5] (fun i wr => ∃ (j q : Nat), i = .int .i64 (j : Int) ∧ j ≤ zs.length ∧ wr = w.drewN q) (fun i _ => zs.length - (intOf i).toNat)
  case atStart => exact ⟨0, 0, rfl, Nat.zero_le _, rfl⟩
  case round =>
    obtain ⟨j, q, rfl, hj, rfl⟩ := hrel
    by_cases hlt : j < zs.length
    · have c1 := HG.out j hlt
      have c2 := HH.out j hlt
      generalize zs[j] = z at *
      go_wp2_with fail
      go_quiet (fail)
      go_wp2_with fail
      go_roundw
      case rel => exact ⟨j + 1, _, by go_num, by omega, rfl⟩
      case measure => (simp [intOf] <;> omega)
    · go_wp2_with fail
      go_ret
      exact ⟨rfl, q, rfl⟩

theorem cells_own {w : World} {B g cap : Nat} {e : TypeId} {zs : List Int} (h : w.ownsRow B e 1 (.slice (some ⟨g, 0, none⟩) zs.length cap) zs.length (zs.map (Value.int .i64))) :
    ∀ j, (hj : j < zs.length) → w.cell? ⟨g, j, none⟩ = some (.int .i64 zs[j]) := by
  intro j hj
  rw [h.cellAt j (by omega), List.getElem?_map, List.getElem?_eq_getElem hj]
  rfl
theorem eqI_same {B C : Nat} {v u : Value} {zs : List Int} {w : World} (hb : zs.length ≤ 1048576) (h1 : w.ownsRow B 2 1 v zs.length (zs.map (Value.int .i64))) (h2 : w.ownsRow C 2 1 u zs.length (zs.map (Value.int .i64))) :
    Calls Try.prog 42 #[v, u] w fun e w' => e = .returned (.bool true) ∧ ∃ q, w' = w.drewN q := by
  by_cases hz : zs.length = 0
  · rw [hz] at h1 h2
    rcases Go.Joins.ownsRow_forms h1 with ⟨rfl, _⟩ | ⟨g, c, rfl⟩ <;> rcases Go.Joins.ownsRow_forms h2 with ⟨rfl, _⟩ | ⟨g', c', rfl⟩ <;> exact eqI_empty _ _ _ _ _
  · obtain ⟨g, c, rfl⟩ := Go.Joins.ownsRow_form h1 (by omega)
    obtain ⟨g', c', rfl⟩ := Go.Joins.ownsRow_form h2 (by omega)
    exact eqI_full g g' c c' zs w hb (cells_own h1) (cells_own h2)

/-- The marks so far, the old numbers behind them. -/
def marked (k : Int) (zs : List Int) (j : Nat) : List Int := marks k j ++ zs.drop j
theorem marked_len (k : Int) (zs : List Int) (j : Nat) (h : j ≤ zs.length) : (marked k zs j).length = zs.length := by
  unfold marked
  rw [List.length_append, marks_len, List.length_drop]
  omega
theorem marks_snoc : ∀ (j : Nat) (k : Int), marks k (j + 1) = marks k j ++ [k + j]
  | 0, k => by simp [marks]
  | j + 1, k => by
    rw [marks, marks_snoc j (k + 1), marks, List.cons_append]
    congr 3
    omega
theorem marked_set (k : Int) (zs : List Int) (j : Nat) (h : j < zs.length) : (marked k zs j).set j (k + j) = marked k zs (j + 1) := by
  unfold marked
  rw [marks_snoc, List.drop_eq_getElem_cons h, List.set_append_right _ _ (by rw [marks_len]; omega), marks_len, Nat.sub_self, List.set_cons_zero, List.append_assoc]
  rfl
theorem marked_done (k : Int) (zs : List Int) : marked k zs zs.length = marks k zs.length := by
  unfold marked
  rw [List.drop_length, List.append_nil]

set_option maxHeartbeats 400000 in
theorem markI_empty (a : Option Addr) (ca : Nat) (k : Int) (w : World) :
    Calls Try.prog 44 #[.slice a 0 ca, .int .i64 k] w fun e w' => e = .returned (.int .i64 k) ∧ w = w' := by
  go_enter Try.func44, Try.ntmps44
  go_wp2_with fail
  go_loop [1, 5] (fun t i => i = .int .i64 0 ∧ t = .int .i64 k) (fun _ _ => 0)
  case atStart => exact ⟨rfl, rfl⟩
  case round =>
    obtain ⟨rfl, rfl⟩ := hrel
    go_wp2_with fail
    go_ret
    exact ⟨rfl, rfl⟩

set_option maxHeartbeats 1000000 in
theorem markI_full (B g ca : Nat) (zs : List Int) (k : Int) (w : World) (hb : zs.length ≤ 1048576) (hk0 : 0 ≤ k) (hk1 : k ≤ 1048576)
    (hown : w.ownsRow B 2 1 (.slice (some ⟨g, 0, none⟩) zs.length ca) zs.length (zs.map (Value.int .i64))) :
    Calls Try.prog 44 #[.slice (some ⟨g, 0, none⟩) zs.length ca, .int .i64 k] w fun e w' => e = .returned (.int .i64 (k + zs.length)) ∧ w'.ownsRow B 2 1 (.slice (some ⟨g, 0, none⟩) zs.length ca) zs.length ((marks k zs.length).map (Value.int .i64)) ∧ Below B w w' := by
  have hBg := (hown.lt g rfl).1
  have OWN := Lib.hid hown
  clear hown
  go_enter Try.func44, Try.ntmps44
  go_wp2_with fail
  go_loopw [1, 5] (fun t i wr => ∃ j : Nat, i = .int .i64 (j : Int) ∧ t = .int .i64 (k + j) ∧ j ≤ zs.length ∧ wr.ownsRow B 2 1 (.slice (some ⟨g, 0, none⟩) zs.length ca) zs.length ((marked k zs j).map (Value.int .i64)) ∧ Below B w wr) (fun _ i _ => zs.length - (intOf i).toNat)
  case atStart => exact ⟨0, rfl, by go_num, Nat.zero_le _, OWN.out, Below.refl _ _⟩
  case round =>
    obtain ⟨j, rfl, rfl, hj, hown, hbel⟩ := hrel
    by_cases hlt : j < zs.length
    · have hml := marked_len k zs j hj
      have c1 : ∃ z, wr.cell? ⟨g, j, none⟩ = some (.int .i64 z) := by
        rw [hown.cellAt j (by omega), List.getElem?_map, List.getElem?_eq_getElem (by omega)]
        exact ⟨_, rfl⟩
      obtain ⟨z, c1⟩ := c1
      have f1 : wr.frozen? ⟨g, j, none⟩ = false := hown.frozenAt j
      have hst := (hown.stored j (.int .i64 (k + j))).1
      rw [← List.map_set, marked_set k zs j hlt] at hst
      have ST := Lib.hid hst
      have BL := Lib.hid (hbel.setCell (p := ⟨g, j, none⟩) hBg (.int .i64 (k + j)))
      clear hown hst hml hbel
      go_wp2_with fail
      go_roundw
      case rel => exact ⟨j + 1, by go_num, by go_num, by omega, ST.out, BL.out⟩
      case measure => (simp [intOf] <;> omega)
    · obtain rfl : j = zs.length := by omega
      rw [marked_done] at hown
      go_wp2_with fail
      go_ret
      exact ⟨rfl, hown, hbel⟩
theorem markI_any {B : Nat} {v : Value} {zs : List Int} {w : World} (k : Int) (hb : zs.length ≤ 1048576) (hk0 : 0 ≤ k) (hk1 : k ≤ 1048576) (h : w.ownsRow B 2 1 v zs.length (zs.map (Value.int .i64))) :
    Calls Try.prog 44 #[v, .int .i64 k] w fun e w' => e = .returned (.int .i64 (k + zs.length)) ∧ w'.ownsRow B 2 1 v zs.length ((marks k zs.length).map (Value.int .i64)) ∧ Below B w w' := by
  by_cases hz : zs.length = 0
  · obtain rfl : zs = [] := List.length_eq_zero_iff.1 hz
    have fin : ∀ (a : Option Addr) (c : Nat), v = .slice a 0 c → Calls Try.prog 44 #[v, .int .i64 k] w fun e w' => e = .returned (.int .i64 (k + (([] : List Int).length : Int))) ∧ w'.ownsRow B 2 1 v ([] : List Int).length ((marks k ([] : List Int).length).map (Value.int .i64)) ∧ Below B w w' := by
      intro a c hv
      subst hv
      refine (markI_empty a c k w).mono fun e w' ⟨he, hw⟩ => ?_
      subst hw
      exact ⟨by rw [he]; exact ret_int (by simp), h, Below.refl _ _⟩
    rcases Go.Joins.ownsRow_forms h with ⟨hv, _⟩ | ⟨g, c, hv⟩
    · exact fin _ _ hv
    · exact fin _ _ hv
  · obtain ⟨g, c, rfl⟩ := Go.Joins.ownsRow_form h (by omega)
    exact markI_full B g c zs k w hb hk0 hk1 h

set_option maxHeartbeats 400000 in
theorem heldI_empty (a : Option Addr) (ca : Nat) (k : Int) (w : World) :
    Calls Try.prog 45 #[.slice a 0 ca, .int .i64 k] w fun e w' => e = .returned (.int .i64 k) ∧ w = w' := by
  go_enter Try.func45, Try.ntmps45
  go_wp2_with fail
  go_loop [1, 5] (fun t i => i = .int .i64 0 ∧ t = .int .i64 k) (fun _ _ => 0)
  case atStart => exact ⟨rfl, rfl⟩
  case round =>
    obtain ⟨rfl, rfl⟩ := hrel
    go_wp2_with fail
    go_ret
    exact ⟨rfl, rfl⟩
set_option maxHeartbeats 1000000 in
theorem heldI_full (g ca n : Nat) (k : Int) (w : World) (hb : n ≤ 1048576) (hk0 : 0 ≤ k) (hk1 : k ≤ 1048576)
    (hc : ∀ j, j < n → w.cell? ⟨g, j, none⟩ = some (.int .i64 (k + j))) :
    Calls Try.prog 45 #[.slice (some ⟨g, 0, none⟩) n ca, .int .i64 k] w fun e w' => e = .returned (.int .i64 (k + n)) ∧ w = w' := by
  have HC := Lib.hid hc
  clear hc
  go_enter Try.func45, Try.ntmps45
  go_wp2_with fail
  go_loop [1, 5] (fun t i => ∃ j : Nat, i = .int .i64 (j : Int) ∧ t = .int .i64 (k + j) ∧ j ≤ n) (fun _ i => n - (intOf i).toNat)
  case atStart => exact ⟨0, rfl, by go_num, Nat.zero_le _⟩
  case round =>
    obtain ⟨j, rfl, rfl, hj⟩ := hrel
    by_cases hlt : j < n
    · have c1 := HC.out j hlt
      go_wp2_with fail
      go_round
      case rel => exact ⟨j + 1, by go_num, by go_num, by omega⟩
      case measure => (simp [intOf] <;> omega)
    · obtain rfl : j = n := by omega
      go_wp2_with fail
      go_ret
      exact ⟨rfl, rfl⟩
theorem heldI_any {B n : Nat} {v : Value} {w : World} (k : Int) (hb : n ≤ 1048576) (hk0 : 0 ≤ k) (hk1 : k ≤ 1048576) (h : w.ownsRow B 2 1 v n ((marks k n).map (Value.int .i64))) :
    Calls Try.prog 45 #[v, .int .i64 k] w fun e w' => e = .returned (.int .i64 (k + n)) ∧ w = w' := by
  by_cases hz : n = 0
  · subst hz
    rcases Go.Joins.ownsRow_forms h with ⟨rfl, _⟩ | ⟨g, c, rfl⟩
    · exact (heldI_empty _ _ k w).mono fun e w' ⟨he, hw⟩ => ⟨by rw [he]; exact ret_int (by simp), hw⟩
    · exact (heldI_empty _ _ k w).mono fun e w' ⟨he, hw⟩ => ⟨by rw [he]; exact ret_int (by simp), hw⟩
  · obtain ⟨g, c, rfl⟩ := Go.Joins.ownsRow_form h (by omega)
    refine heldI_full g c n k w hb hk0 hk1 fun j hj => ?_
    rw [h.cellAt j (by omega), List.getElem?_map, marks_get n k j hj]
    rfl
theorem owns_drewN {w : World} {B : Nat} {e : TypeId} {v : Value} {n : Nat} {xs : List Value} (h : w.ownsRow B e 1 v n xs) (q : Nat) : (w.drewN q).ownsRow B e 1 v n xs := h
/-- The digits of a number, none for 0. -/
def dd0 (m : Nat) : List UInt8 := if m = 0 then [] else Lib.decDigits m
theorem dd0_step (m : Nat) (h : m ≠ 0) : dd0 m = dd0 (m / 10) ++ [UInt8.ofNat (48 + m % 10)] := by
  unfold dd0
  rw [if_neg h]
  by_cases c : m < 10
  · rw [ddM_small m c, if_pos (by omega), Nat.mod_eq_of_lt c]; rfl
  · rw [ddM_big m c, if_neg (by omega)]
/-- The text of a number. -/
def mkT (k : Nat) : ByteArray := ⟨(109 :: dd0 k).toArray⟩

theorem bytes_inj' {a b : ByteArray} (h : a.data.toList = b.data.toList) : a = b := WideShapes.bytes_inj h

set_option maxRecDepth 100000 in
set_option maxHeartbeats 1000000 in
theorem markText_any (k : Nat) (w : World) (h0 : 1 ≤ k) (h1 : k ≤ 4503599627370496) :
    Calls Try.prog 66 #[.int .i64 (k : Int)] w fun e w' => e = .returned (.string (mkT k)) ∧ Below w.heap.size w w' := by
  have h0' : decide ((k : Int) ≤ 0) = false := by simp; omega
  have h0'' : (k == 0) = false := beq_eq_false_iff_ne.2 (by omega)
  have h0d : decide (k = 0) = false := by simp; omega
  go_enter Try.func66, Try.ntmps66
  go_wp2_with fail
  go_loopw [0, 3] (fun t o wr => ∃ (m : Nat) (l : List UInt8), t = .int .i64 (m : Int) ∧ o = .string ⟨l.toArray⟩ ∧ l.length + m ≤ k ∧ dd0 m ++ l = dd0 k ∧ Below w.heap.size w wr ∧ w.heap.size ≤ wr.heap.size) (fun t _ _ => (intOf t).toNat)
  case atStart => exact ⟨k, [], rfl, rfl, by simp, List.append_nil _, Below.refl _ _, Nat.le_refl _⟩
  case round =>
    obtain ⟨m, l, rfl, rfl, hm, hl, hbel, hsz⟩ := hrel
    have HL := Lib.hid hl
    clear hl
    by_cases hz : 1 ≤ m
    · have hz' : decide (0 < m) = true := by simp; omega
      have hst := dd0_step m (by omega)
      have HS := Lib.hid hst
      clear hst
      have hconv := run_convert_bytes_arg (P := Try.prog) (wr.alloc (.cells #[.int .u8 (48 + (m : Int) % 10)] 5)) 126 5 Try.underlying126 Try.underlying5 wr.heap.size 0 1 1 [48 + (m : Int) % 10] rfl (fun i hi => by
        obtain rfl : i = 0 := by omega
        simp) 9 Try.underlying9
      have hsl : ¬ 9223372036854775807 < (strOfNums [48 + (m : Int) % 10]).size + l.length := by
        rw [strOfNums_size]; simp; omega
      have hstr : strOfNums [48 + (m : Int) % 10] ++ (⟨l.toArray⟩ : ByteArray) = ⟨(UInt8.ofNat (48 + m % 10) :: l).toArray⟩ := by
        apply bytes_inj'
        rw [ByteArray.data_append, Array.toList_append, strOfNums_data]
        have : (48 + (m : Int) % 10).toNat = 48 + m % 10 := by omega
        simp [this]
      have HT := Lib.hid hstr
      clear hstr
      have hb2 := hbel.alloc hsz (.cells #[.int .u8 (48 + (m : Int) % 10)] 5)
      clear hbel
      go_wp2_with fail
      go_roundw
      case rel => exact ⟨m / 10, UInt8.ofNat (48 + m % 10) :: l, by go_num, by rw [HT.out], by rw [List.length_cons]; omega, by rw [← HL.out, HS.out, List.append_assoc]; rfl, hb2, by simp; omega⟩
      case measure => (simp [intOf] <;> omega)
    · obtain rfl : m = 0 := by omega
      have hl : l = dd0 k := by have := HL.out; simpa [dd0] using this
      have LL := Lib.hid hl
      have hsl : ¬ 9223372036854775807 < 1 + l.length := by omega
      have hsl2 : ¬ 9223372036854775807 < l.length + 1 := by omega
      clear hl
      go_wp2_with fail
      go_ret
      exact ⟨ret_str (by rw [LL.out]; rfl), hbel⟩
theorem markText_int (n : Int) (k : Nat) (hk : n = (k : Int)) (w : World) (h0 : 1 ≤ k) (h1 : k ≤ 4503599627370496) :
    Calls Try.prog 66 #[.int .i64 n] w fun e w' => e = .returned (.string (mkT k)) ∧ Below w.heap.size w w' := by
  subst hk
  exact markText_any k w h0 h1


theorem gb_refl (w : World) (row : Option Nat) : w.grownBy w row := ⟨rfl, rfl, rfl, Nat.le_refl _, fun _ _ _ => rfl⟩
theorem gb_trans {a b c : World} {row : Option Nat} (h : a.grownBy b row) (k : b.grownBy c row) : a.grownBy c row :=
  ⟨k.os.trans h.os, k.tape.trans h.tape, k.output.trans h.output, Nat.le_trans h.size k.size, fun i hi hne => (k.block i (Nat.lt_of_lt_of_le hi h.size) hne).trans (h.block i hi hne)⟩
theorem gb_of_below {a b : World} (row : Option Nat) (h : Below a.heap.size a b) : a.grownBy b row := ⟨h.os, h.tape, h.output, h.size, fun i hi _ => h.block i hi⟩
theorem gb_below {a b : World} {g B : Nat} (h : a.grownBy b (some g)) (hB : B ≤ g) (hw : B ≤ a.heap.size) : Below B a b :=
  ⟨h.os, h.tape, h.output, h.size, fun i hi => h.block i (by omega) (by simp; omega)⟩
theorem gb_put (w : World) (g o : Nat) (x : StarV) : w.grownBy (putAt w g o x) (some g) := by
  have hb : Below 0 w (putAt w g o x) := putAt_below (Below.refl _ _) (Nat.zero_le _)
  refine ⟨hb.os, hb.tape, hb.output, hb.size, fun k hk hne => ?_⟩
  have hne' : k ≠ g := fun e => hne (by rw [e])
  unfold putAt
  rw [heap_setCell_other _ _ _ _ hne', heap_setCell_other _ _ _ _ hne', heap_setCell_other _ _ _ _ hne', heap_setCell_other _ _ _ _ hne', heap_setCell_other _ _ _ _ hne']

theorem ownsRow_belowN {B : Nat} {w w' : World} {e : TypeId} {v : Value} {n : Nat} {xs : List Value} (h : w.ownsRow B e 1 v n xs) (hb : Below w.heap.size w w') : w'.ownsRow B e 1 v n xs :=
  h.kept (⟨hb.os, hb.tape, hb.output, hb.size, fun k hk _ => hb.block k hk⟩ : w.grownBy w' none) (by cases hv : v.ownBlock <;> simp)
theorem owns_far {w : World} {B g : Nat} {e : TypeId} {v : Value} {n : Nat} {xs : List Value} (h : w.ownsRow B e 1 v n xs) (hg : g < B) : v.ownBlock = none ∨ v.ownBlock ≠ some g := by
  cases hb : v.ownBlock with
  | none => exact Or.inl rfl
  | some b =>
    refine Or.inr (fun e => ?_)
    have h1 := (h.lt b hb).1
    have h2 : b = g := by simpa using e
    omega

set_option maxRecDepth 100000 in
set_option maxHeartbeats 1000000 in
theorem markSt_from (k0 : Nat) (hk0 : 1 ≤ k0) (hk1 : k0 ≤ 2251799813685248) (g cap : Nat) (zs : List StarV) (w : World) (hb : zs.length ≤ 1048577) (h1 : Row w g zs) :
    Calls Try.prog 25 #[.slice (some ⟨g, 0, none⟩) zs.length cap, .int .i64 (k0 : Int)] w fun e w' => e = .returned (.int .i64 ((k0 : Int) + 5 * (zs.length : Int))) ∧ w.grownBy w' (some g) := by
  have H1 := Lib.hid h1
  clear h1
  go_enter Try.func25, Try.ntmps25
  go_wp2_with fail
  go_loopg [1, 5] (zs.length + 1) (fun kx s1 s5 wr => ∃ (j : Nat) (ys : List StarV), s1 = .int .i64 ((k0 : Int) + 5 * (j : Int)) ∧ s5 = .int .i64 (j : Int) ∧ j ≤ zs.length ∧ kx = zs.length + 1 - j ∧ ys.length = zs.length ∧ Hid (Row wr g ys) ∧ Hid (w.grownBy wr (some g)))
  case atStart => exact ⟨0, zs, by go_num, rfl, Nat.zero_le _, rfl, rfl, H1, Lib.hid (gb_refl _ _)⟩
  case round =>
    obtain ⟨j, ys, rfl, rfl, hj, rfl, hy, HR, HG⟩ := hrel
    by_cases hlt : j < zs.length
    · have j0 : (0 : Int) ≤ (j : Int) := by omega
      have j1 : (j : Int) < (zs.length : Int) := by omega
      go_wp2_with fail
      refine (markText_int _ (k0 + 5 * j) (by omega) _ (by omega) (by omega)).mono ?_
      rintro e w2 ⟨rfl, hb2⟩
      have hR2 := HR.out.below hb2
      have HG2 := Lib.hid (gb_trans HG.out (gb_of_below _ hb2))
      obtain ⟨d0, d1, d2, d3, d4⟩ := hR2.at j (by omega)
      have f0 := hR2.free (j * 5)
      have f1 := hR2.free (j * 5 + 1)
      have f2 := hR2.free (j * 5 + 2)
      have f3 := hR2.free (j * 5 + 3)
      have f4 := hR2.free (j * 5 + 4)
      generalize ys[j]'(by omega) = y at d0 d1 d2 d3 d4
      have PU := Lib.hid (fun x => hR2.put j (by omega) x)
      clear hb2 hR2
      generalize mkT (k0 + 5 * j) = tx at *
      go_wp2_with fail
      go_roundg (zs.length + 1 - (j + 1))
      case measure => omega
      case rel => exact ⟨j + 1, _, by go_num, by go_num, by omega, by omega, by rw [List.length_set]; exact hy, Lib.hid (PU.out ⟨_, _, _, _, _⟩), Lib.hid (gb_trans HG2.out (gb_put _ _ _ ⟨_, _, _, _, _⟩))⟩
    · obtain rfl : j = zs.length := by omega
      go_wp2_with fail
      go_ret
      exact ⟨ret_int (by omega), HG.out⟩
theorem markSt_full (g cap : Nat) (zs : List StarV) (w : World) (hb : zs.length ≤ 1048577) (h1 : Row w g zs) :
    Calls Try.prog 25 #[.slice (some ⟨g, 0, none⟩) zs.length cap, .int .i64 1] w fun e w' => e = .returned (.int .i64 (1 + 5 * (zs.length : Int))) ∧ w.grownBy w' (some g) :=
  markSt_from 1 (by omega) (by omega) g cap zs w hb h1
end Go.Proofs.Ytfjhlapcopjfiaa
