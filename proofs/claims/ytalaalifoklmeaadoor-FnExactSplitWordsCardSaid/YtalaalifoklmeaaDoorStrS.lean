/-
  The law's own helpers on lists of texts: eqStringS at equal lists, markStringS, heldStringS.
-/
import Derived.Test.YtalaalifoklmeaaDoorWords
import Derived.Deep.RegionHeld3
namespace Go.Proofs.YtalaalifoklmeaaDoor
open Go.RowKit

theorem markText_int (n : Int) (k : Nat) (hk : n = (k : Int)) (w : World) (h0 : 1 ≤ k) (h1 : k ≤ 4000000) :
    Calls Tryd.prog 61 #[.int .i64 n] w fun e w' => e = .returned (.string (mkT k)) ∧ Below w.heap.size w w' := by
  subst hk
  exact markText_any k w h0 h1

set_option maxHeartbeats 400000 in
theorem eqS_empty (a b : Option Addr) (ca cb : Nat) (w : World) :
    Calls Tryd.prog 25 #[.slice a 0 ca, .slice b 0 cb] w fun e w' => e = .returned (.bool true) ∧ ∃ q, w' = w.drewN q := by
  go_enter Tryd.func25, Tryd.ntmps25
  go_wp2_with fail
  go_loop [5] (fun i => i = .int .i64 0) (fun _ => 0)
  case atStart => rfl
  case round =>
    subst hrel
    go_wp2_with fail
    go_ret
    exact ⟨rfl, 0, rfl⟩

set_option maxHeartbeats 1000000 in
theorem eqS_full (g h ca cb : Nat) (zs : List ByteArray) (w : World) (hb : zs.length ≤ 1048577)
    (hg : ∀ j, (hj : j < zs.length) → w.cell? ⟨g, j, none⟩ = some (.string zs[j])) (hh : ∀ j, (hj : j < zs.length) → w.cell? ⟨h, j, none⟩ = some (.string zs[j])) :
    Calls Tryd.prog 25 #[.slice (some ⟨g, 0, none⟩) zs.length ca, .slice (some ⟨h, 0, none⟩) zs.length cb] w fun e w' => e = .returned (.bool true) ∧ ∃ q, w' = w.drewN q := by
  have HG := Lib.hid hg
  have HH := Lib.hid hh
  clear hg hh
  go_enter Tryd.func25, Tryd.ntmps25
  go_wp2_with fail
  go_loopw [5] (fun i wr => ∃ (j q : Nat), i = .int .i64 (j : Int) ∧ j ≤ zs.length ∧ wr = w.drewN q) (fun i _ => zs.length - (intOf i).toNat)
  case atStart => exact ⟨0, 0, rfl, Nat.zero_le _, rfl⟩
  case round =>
    obtain ⟨j, q, rfl, hj, rfl⟩ := hrel
    by_cases hlt : j < zs.length
    · have c1 := HG.out j hlt
      have c2 := HH.out j hlt
      generalize zs[j] = z at *
      go_wp2_with fail
      go_quiet (fail)
      go_wp2_with fail
      go_roundw
      case rel => exact ⟨j + 1, _, by go_num, by omega, rfl⟩
      case measure => (simp [intOf] <;> omega)
    · go_wp2_with fail
      go_ret
      exact ⟨rfl, q, rfl⟩

theorem cells_ownS {w : World} {B g cap : Nat} {e : TypeId} {zs : List ByteArray} (h : w.ownsRow B e 1 (.slice (some ⟨g, 0, none⟩) zs.length cap) zs.length (zs.map Value.string)) :
    ∀ j, (hj : j < zs.length) → w.cell? ⟨g, j, none⟩ = some (.string zs[j]) := by
  intro j hj
  rw [h.cellAt j (by omega), List.getElem?_map, List.getElem?_eq_getElem hj]
  rfl
theorem eqS_same {B C : Nat} {v u : Value} {zs : List ByteArray} {w : World} (hb : zs.length ≤ 1048577) (h1 : w.ownsRow B 9 1 v zs.length (zs.map Value.string)) (h2 : w.ownsRow C 9 1 u zs.length (zs.map Value.string)) :
    Calls Tryd.prog 25 #[v, u] w fun e w' => e = .returned (.bool true) ∧ ∃ q, w' = w.drewN q := by
  by_cases hz : zs.length = 0
  · rw [hz] at h1 h2
    rcases Go.Joins.ownsRow_forms h1 with ⟨rfl, _⟩ | ⟨g, c, rfl⟩ <;> rcases Go.Joins.ownsRow_forms h2 with ⟨rfl, _⟩ | ⟨g', c', rfl⟩ <;> exact eqS_empty _ _ _ _ _
  · obtain ⟨g, c, rfl⟩ := Go.Joins.ownsRow_form h1 (by omega)
    obtain ⟨g', c', rfl⟩ := Go.Joins.ownsRow_form h2 (by omega)
    exact eqS_full g g' c c' zs w hb (cells_ownS h1) (cells_ownS h2)

/-- The texts of the numbers k, k + 1, .. -/
def marksS (k : Nat) : Nat → List ByteArray
  | 0 => []
  | n + 1 => mkT k :: marksS (k + 1) n
theorem marksS_len : ∀ (n k : Nat), (marksS k n).length = n
  | 0, _ => rfl
  | n + 1, k => by rw [marksS, List.length_cons, marksS_len n (k + 1)]
theorem marksS_get : ∀ (n k j : Nat) (_h : j < n), (marksS k n)[j]? = some (mkT (k + j))
  | n + 1, k, 0, _ => by rw [marksS]; simp
  | n + 1, k, j + 1, _ => by
    rw [marksS, List.getElem?_cons_succ, marksS_get n (k + 1) j (by omega)]
    congr 2; omega
def markedS (k : Nat) (zs : List ByteArray) (j : Nat) : List ByteArray := marksS k j ++ zs.drop j
theorem markedS_len (k : Nat) (zs : List ByteArray) (j : Nat) (h : j ≤ zs.length) : (markedS k zs j).length = zs.length := by
  unfold markedS
  rw [List.length_append, marksS_len, List.length_drop]
  omega
theorem marksS_snoc : ∀ (j k : Nat), marksS k (j + 1) = marksS k j ++ [mkT (k + j)]
  | 0, k => by simp [marksS]
  | j + 1, k => by
    rw [marksS, marksS_snoc j (k + 1), marksS, List.cons_append]
    congr 4
    omega
theorem markedS_set (k : Nat) (zs : List ByteArray) (j : Nat) (h : j < zs.length) : (markedS k zs j).set j (mkT (k + j)) = markedS k zs (j + 1) := by
  unfold markedS
  rw [marksS_snoc, List.drop_eq_getElem_cons h, List.set_append_right _ _ (by rw [marksS_len]; omega), marksS_len, Nat.sub_self, List.set_cons_zero, List.append_assoc]
  rfl
theorem markedS_done (k : Nat) (zs : List ByteArray) : markedS k zs zs.length = marksS k zs.length := by
  unfold markedS
  rw [List.drop_length, List.append_nil]

set_option maxHeartbeats 400000 in
theorem markS_empty (a : Option Addr) (ca : Nat) (k : Int) (w : World) :
    Calls Tryd.prog 26 #[.slice a 0 ca, .int .i64 k] w fun e w' => e = .returned (.int .i64 k) ∧ w = w' := by
  go_enter Tryd.func26, Tryd.ntmps26
  go_wp2_with fail
  go_loop [1, 5] (fun t i => i = .int .i64 0 ∧ t = .int .i64 k) (fun _ _ => 0)
  case atStart => exact ⟨rfl, rfl⟩
  case round =>
    obtain ⟨rfl, rfl⟩ := hrel
    go_wp2_with fail
    go_ret
    exact ⟨rfl, rfl⟩

set_option maxRecDepth 100000 in
set_option maxHeartbeats 1000000 in
theorem markS_full (B g ca : Nat) (zs : List ByteArray) (k : Nat) (w : World) (hb : zs.length ≤ 1048577) (hk0 : 1 ≤ k) (hk1 : k ≤ 1048576)
    (hown : w.ownsRow B 9 1 (.slice (some ⟨g, 0, none⟩) zs.length ca) zs.length (zs.map Value.string)) (hBw : B ≤ w.heap.size) :
    Calls Tryd.prog 26 #[.slice (some ⟨g, 0, none⟩) zs.length ca, .int .i64 (k : Int)] w fun e w' => e = .returned (.int .i64 ((k : Int) + zs.length)) ∧ w'.ownsRow B 9 1 (.slice (some ⟨g, 0, none⟩) zs.length ca) zs.length ((marksS k zs.length).map Value.string) ∧ Below B w w' := by
  have hBg := (hown.lt g rfl).1
  have OWN := Lib.hid hown
  clear hown
  go_enter Tryd.func26, Tryd.ntmps26
  go_wp2_with fail
  go_loopw [1, 5] (fun t i wr => ∃ j : Nat, i = .int .i64 (j : Int) ∧ t = .int .i64 ((k + j : Nat) : Int) ∧ j ≤ zs.length ∧ wr.ownsRow B 9 1 (.slice (some ⟨g, 0, none⟩) zs.length ca) zs.length ((markedS k zs j).map Value.string) ∧ Below B w wr ∧ B ≤ wr.heap.size) (fun _ i _ => zs.length - (intOf i).toNat)
  case atStart => exact ⟨0, rfl, by go_num, Nat.zero_le _, OWN.out, Below.refl _ _, hBw⟩
  case round =>
    obtain ⟨j, rfl, rfl, hj, hown, hbel, hsz⟩ := hrel
    by_cases hlt : j < zs.length
    · have hml := markedS_len k zs j hj
      go_wp2_with fail
      refine (markText_int _ (k + j) (by omega) _ (by omega) (by omega)).mono ?_
      rintro e w2 ⟨rfl, hb2⟩
      have hown2 := ownsRow_below hown hb2
      have hbel2 := hbel.trans (hb2.mono hsz)
      have hsz2 : B ≤ w2.heap.size := by have := hb2.size; omega
      have c1 : ∃ z, w2.cell? ⟨g, j, none⟩ = some (.string z) := by
        rw [hown2.cellAt j (by omega), List.getElem?_map, List.getElem?_eq_getElem (by omega)]
        exact ⟨_, rfl⟩
      obtain ⟨z, c1⟩ := c1
      have f1 : w2.frozen? ⟨g, j, none⟩ = false := hown2.frozenAt j
      have hst := (hown2.stored j (.string (mkT (k + j)))).1
      rw [← List.map_set, markedS_set k zs j hlt] at hst
      have ST := Lib.hid hst
      have BL := Lib.hid (hbel2.setCell (p := ⟨g, j, none⟩) hBg (.string (mkT (k + j))))
      have SZ := Lib.hid (show B ≤ (w2.setCell ⟨g, j, none⟩ (.string (mkT (k + j)))).heap.size by simpa [World.setCell] using hsz2)
      clear hown hown2 hst hml hbel hbel2 hb2
      generalize mkT (k + j) = tx at *
      go_wp2_with fail
      go_roundw
      case rel => exact ⟨j + 1, by go_num, by go_num, by omega, ST.out, BL.out, SZ.out⟩
      case measure => (simp [intOf] <;> omega)
    · obtain rfl : j = zs.length := by omega
      rw [markedS_done] at hown
      go_wp2_with fail
      go_ret
      exact ⟨ret_int (by omega), hown, hbel⟩
theorem markS_any {B : Nat} {v : Value} {zs : List ByteArray} {w : World} (k : Nat) (n : Int) (hn : n = (k : Int)) (hb : zs.length ≤ 1048577) (hk0 : 1 ≤ k) (hk1 : k ≤ 1048576) (h : w.ownsRow B 9 1 v zs.length (zs.map Value.string)) (hBw : B ≤ w.heap.size) :
    Calls Tryd.prog 26 #[v, .int .i64 n] w fun e w' => e = .returned (.int .i64 (n + zs.length)) ∧ w'.ownsRow B 9 1 v zs.length ((marksS k zs.length).map Value.string) ∧ Below B w w' := by
  subst hn
  by_cases hz : zs.length = 0
  · obtain rfl : zs = [] := List.length_eq_zero_iff.1 hz
    have fin : ∀ (a : Option Addr) (c : Nat), v = .slice a 0 c → Calls Tryd.prog 26 #[v, .int .i64 (k : Int)] w fun e w' => e = .returned (.int .i64 ((k : Int) + (([] : List ByteArray).length : Int))) ∧ w'.ownsRow B 9 1 v ([] : List ByteArray).length ((marksS k ([] : List ByteArray).length).map Value.string) ∧ Below B w w' := by
      intro a c hv
      subst hv
      refine (markS_empty a c k w).mono fun e w' ⟨he, hw⟩ => ?_
      subst hw
      exact ⟨by rw [he]; exact ret_int (by simp), h, Below.refl _ _⟩
    rcases Go.Joins.ownsRow_forms h with ⟨hv, _⟩ | ⟨g, c, hv⟩
    · exact fin _ _ hv
    · exact fin _ _ hv
  · obtain ⟨g, c, rfl⟩ := Go.Joins.ownsRow_form h (by omega)
    exact markS_full B g c zs k w hb hk0 hk1 h hBw

set_option maxHeartbeats 400000 in
theorem heldS_empty (a : Option Addr) (ca : Nat) (k : Int) (w : World) :
    Calls Tryd.prog 27 #[.slice a 0 ca, .int .i64 k] w fun e w' => e = .returned (.int .i64 k) ∧ w = w' := by
  go_enter Tryd.func27, Tryd.ntmps27
  go_wp2_with fail
  go_loop [1, 5] (fun t i => i = .int .i64 0 ∧ t = .int .i64 k) (fun _ _ => 0)
  case atStart => exact ⟨rfl, rfl⟩
  case round =>
    obtain ⟨rfl, rfl⟩ := hrel
    go_wp2_with fail
    go_ret
    exact ⟨rfl, rfl⟩
set_option maxRecDepth 100000 in
set_option maxHeartbeats 1000000 in
theorem heldS_full (g ca n k : Nat) (w : World) (hb : n ≤ 1048577) (hk0 : 1 ≤ k) (hk1 : k ≤ 1048576) (hgw : g < w.heap.size)
    (hc : ∀ j, j < n → w.cell? ⟨g, j, none⟩ = some (.string (mkT (k + j)))) :
    Calls Tryd.prog 27 #[.slice (some ⟨g, 0, none⟩) n ca, .int .i64 (k : Int)] w fun e w' => e = .returned (.int .i64 ((k : Int) + n)) ∧ Below w.heap.size w w' := by
  have HC := Lib.hid hc
  clear hc
  go_enter Tryd.func27, Tryd.ntmps27
  go_wp2_with fail
  go_loopw [1, 5] (fun t i wr => ∃ j : Nat, i = .int .i64 (j : Int) ∧ t = .int .i64 ((k : Int) + j) ∧ j ≤ n ∧ Below w.heap.size w wr ∧ w.heap.size ≤ wr.heap.size) (fun _ i _ => n - (intOf i).toNat)
  case atStart => exact ⟨0, rfl, by go_num, Nat.zero_le _, Below.refl _ _, Nat.le_refl _⟩
  case round =>
    obtain ⟨j, rfl, rfl, hj, hbel, hsz⟩ := hrel
    by_cases hlt : j < n
    · have c1 : wr.cell? ⟨g, j, none⟩ = some (.string (mkT (k + j))) := (hbel.cell (p := ⟨g, j, none⟩) hgw).trans (HC.out j hlt)
      have hi0 : (0 : Int) ≤ (j : Int) := Int.natCast_nonneg _
      have hi1 : (j : Int) < (n : Int) := by omega
      go_wp2_with fail
      go_region_held3 (fun w' => w'.cell? ⟨g, j, none⟩ = some (.string (mkT (k + j)))) (first | go_keep | (exact (hb2.cell (p := ⟨g, j, none⟩) (by simp; omega)).trans (by assumption))) ((go_at_call 61; refine (markText_int _ (k + j) (by omega) _ (by omega) (by omega)).mono ?_; rintro e w2 ⟨rfl, hb2⟩))
      have hb3 : Below wr.heap.size wr w2 := ⟨hb2.os, hb2.tape, hb2.output, hb2.size, hb2.block⟩
      have hb4 := hbel.trans (hb3.mono hsz)
      have hsz2 : w.heap.size ≤ w2.heap.size := hb4.size
      clear hb2 hb3 hbel
      go_wp2_with fail
      go_roundw
      case rel => exact ⟨j + 1, by go_num, by go_num, by omega, hb4, hsz2⟩
      case measure => (simp [intOf] <;> omega)
    · obtain rfl : j = n := by omega
      go_wp2_with fail
      go_ret
      exact ⟨rfl, hbel⟩
theorem heldS_any {B n : Nat} {v : Value} {w : World} (k : Nat) (m : Int) (hm : m = (k : Int)) (hb : n ≤ 1048577) (hk0 : 1 ≤ k) (hk1 : k ≤ 1048576) (h : w.ownsRow B 9 1 v n ((marksS k n).map Value.string)) :
    Calls Tryd.prog 27 #[v, .int .i64 m] w fun e w' => e = .returned (.int .i64 (m + n)) ∧ Below w.heap.size w w' := by
  subst hm
  by_cases hz : n = 0
  · subst hz
    rcases Go.Joins.ownsRow_forms h with ⟨rfl, _⟩ | ⟨g, c, rfl⟩
    · exact (heldS_empty _ _ k w).mono fun e w' ⟨he, hw⟩ => ⟨by rw [he]; exact ret_int (by simp), by rw [hw]; exact Below.refl _ _⟩
    · exact (heldS_empty _ _ k w).mono fun e w' ⟨he, hw⟩ => ⟨by rw [he]; exact ret_int (by simp), by rw [hw]; exact Below.refl _ _⟩
  · obtain ⟨g, c, rfl⟩ := Go.Joins.ownsRow_form h (by omega)
    refine heldS_full g c n k w hb hk0 hk1 (h.lt g rfl).2 fun j hj => ?_
    rw [h.cellAt j (by omega), List.getElem?_map, marksS_get n k j hj]
    rfl
theorem words_len (s : ByteArray) (hs : s.size ≤ 1048576) : (bs (wordsI s.data.toList)).length ≤ 1048577 := by
  have h1 := spl_len 32 s.data.toList
  rw [size_len'] at h1
  have h2 := List.length_filter_le (fun x : List UInt8 => !x.isEmpty) (spl 32 s.data.toList)
  rw [bs_len]
  unfold wordsI
  omega
end Go.Proofs.YtalaalifoklmeaaDoor
