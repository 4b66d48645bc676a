/-
  DropStar (package spec): l05Find, DropStar.
-/
import Derived.Test.YtnobiepjjdcofaaSLaw
namespace Go.Proofs.Ytnobiepjjdcofaa
open Go.RowKit
set_option linter.unusedVariables false

theorem okL_lenD {zs : List StarV} (h : okL zs = true) : zs.length ≤ 24 := by
  unfold okL at h
  simp only [Bool.and_eq_true, decide_eq_true_eq] at h
  exact h.2
theorem ne_text {x y : ByteArray} (h : x ≠ y) : (x.toList == y.toList) = false := by
  rw [ByteArray.toList_eq, ByteArray.toList_eq]
  exact beq_eq_false_iff_ne.2 (fun e => h (ByteArray.ext (Array.toList_inj.mp e)))
/-- The place of a name in a list; its length if there is none. -/
def fndS (zs : List StarV) (s : ByteArray) : Nat := zs.findIdx (fun x => decide (x.s = s))
theorem fndS_at {zs : List StarV} {s : ByteArray} (j : Nat) (hj : j < zs.length) (h : zs[j].s = s) (hb : ∀ i, (hi : i < zs.length) → i < j → zs[i].s ≠ s) : fndS zs s = j :=
  (List.findIdx_eq hj).2 ⟨decide_eq_true h, fun i hi => decide_eq_false (hb i (by omega) hi)⟩
theorem fndS_no {zs : List StarV} {s : ByteArray} (hb : ∀ i, (hi : i < zs.length) → zs[i].s ≠ s) : fndS zs s = zs.length :=
  List.findIdx_eq_length.2 fun x hx => by
    obtain ⟨i, hi, rfl⟩ := List.mem_iff_getElem.1 hx
    exact decide_eq_false (hb i hi)
theorem fndS_le (zs : List StarV) (s : ByteArray) : fndS zs s ≤ zs.length := List.findIdx_le_length
theorem fndS_is {zs : List StarV} {s : ByteArray} (h : fndS zs s < zs.length) : zs[fndS zs s].s = s := of_decide_eq_true (List.findIdx_getElem (w := h))
theorem fndS_not {zs : List StarV} {s : ByteArray} (h : ¬ fndS zs s < zs.length) (i : Nat) (hi : i < zs.length) : zs[i].s ≠ s := by
  intro e
  exact h (List.findIdx_lt_length_of_exists ⟨zs[i], List.getElem_mem hi, decide_eq_true e⟩)

def fndI (zs : List StarV) (s : ByteArray) : Int := if fndS zs s < zs.length then (fndS zs s : Int) else -1
theorem fndI_at {zs : List StarV} {s : ByteArray} (j : Nat) (hj : j < zs.length) (h : zs[j].s = s) (hb : ∀ i, (hi : i < zs.length) → i < j → zs[i].s ≠ s) : fndI zs s = (j : Int) := by
  unfold fndI
  rw [fndS_at j hj h hb, if_pos hj]
theorem fndI_no {zs : List StarV} {s : ByteArray} (hb : ∀ i, (hi : i < zs.length) → zs[i].s ≠ s) : fndI zs s = -1 := by
  unfold fndI
  rw [fndS_no hb, if_neg (Nat.lt_irrefl _)]

theorem Row.src {w : World} {g : Nat} {zs : List StarV} (h : Row w g zs) (o : Nat) : ∀ j u, ((flatS zs).drop o)[j]? = some u → w.cell? ((⟨g, o, none⟩ : Addr).add j) = some u := by
  intro j u hj
  have ea : ((⟨g, o, none⟩ : Addr).add j) = ⟨g, o + j, none⟩ := by unfold Addr.add; split <;> simp_all
  rw [List.getElem?_drop] at hj
  have hl : o + j < zs.length * 5 := by
    rw [← flatS_len]
    exact (List.getElem?_eq_some_iff.1 hj).1
  have e : o + j = (o + j) / 5 * 5 + (o + j) % 5 := by omega
  have g0 := flatS_get zs ((o + j) / 5) (by omega) ((o + j) % 5) (by omega)
  rw [← e, hj] at g0
  rw [ea, World.rowIs.cell h hl]
  unfold rowF
  rw [List.getD, List.getElem?_eq_getElem (by omega)]
  exact g0.symm

set_option maxRecDepth 100000 in
set_option maxHeartbeats 2000000 in
theorem l05Find_any (g cap : Nat) (zs : List StarV) (s : ByteArray) (w : World) (hb : zs.length ≤ 1048577) (h1 : Row w g zs) :
    Calls Try.prog 27 #[.slice (some ⟨g, 0, none⟩) zs.length cap, .string s] w fun e w' => e = .returned (.int .i64 (fndI zs s)) ∧ w = w' := by
  have H1 := Lib.hid h1
  have FA := Lib.hid (fun j hj h hb => fndI_at (zs := zs) (s := s) j hj h hb)
  have FN := Lib.hid (fun hb => fndI_no (zs := zs) (s := s) hb)
  clear h1
  generalize fndI zs s = f at *
  go_enter Try.func27, Try.ntmps27
  go_wp2_with fail
  go_loopg [5] (zs.length + 1) (fun kx s5 wr => ∃ (j : Nat), s5 = .int .i64 (j : Int) ∧ j ≤ zs.length ∧ kx = zs.length + 1 - j ∧ w = wr ∧ Hid (∀ i, (hi : i < zs.length) → i < j → zs[i].s ≠ s))
  case atStart => exact ⟨0, rfl, Nat.zero_le _, rfl, rfl, Lib.hid (fun i _ h => absurd h (Nat.not_lt_zero _))⟩
  case round =>
    obtain ⟨j, rfl, hj, rfl, rfl, HP⟩ := hrel
    by_cases hlt : j < zs.length
    · have j0 : (0 : Int) ≤ (j : Int) := by omega
      have j1 : (j : Int) < (zs.length : Int) := by omega
      have c0 := (H1.out.at j hlt).c0
      by_cases hs : zs[j].s = s
      · have e := FA.out j hlt hs HP.out
        subst e
        rw [hs] at c0
        clear FA FN HP hs
        go_wp2_with fail
        go_ret
        exact ⟨rfl, rfl⟩
      · have NX : Hid (∀ i, (hi : i < zs.length) → i < j + 1 → zs[i].s ≠ s) := Lib.hid (fun i hi h => by
          by_cases c : i < j
          · exact HP.out i hi c
          · obtain rfl : i = j := by omega
            exact hs)
        have hne : (zs[j].s.toList == s.toList) = false := ne_text hs
        clear FA FN HP
        generalize zs[j].s = t at *
        go_wp2_with fail
        go_roundg (zs.length + 1 - (j + 1))
        case measure => omega
        case rel => exact ⟨j + 1, by go_num, by omega, by omega, rfl, NX⟩
    · obtain rfl : j = zs.length := by omega
      have e := FN.out (fun i hi => HP.out i hi hi)
      subst e
      go_wp2_with fail
      go_ret
      exact ⟨rfl, rfl⟩

/-- What DropStar answers. -/
def dropV (zs : List StarV) (s : ByteArray) : List StarV × Int := if okL zs = true then (if fndS zs s < zs.length then (zs.take (fndS zs s) ++ zs.drop (fndS zs s + 1), 0) else ([], 3)) else ([], 1)
theorem dropV_len (zs : List StarV) (s : ByteArray) : (dropV zs s).1.length ≤ zs.length := by
  unfold dropV
  split
  · split
    · show (zs.take _ ++ zs.drop _).length ≤ _
      rw [List.length_append, List.length_take, List.length_drop]
      omega
    · exact Nat.zero_le _
  · exact Nat.zero_le _
def SPost (r : List StarV × Int) (w : World) (e : Ending) (w' : World) : Prop :=
  ∃ v, e = .returned (.tuple #[v, .int .i64 r.2]) ∧ SOwn w' w.heap.size v r.1 ∧ Below w.heap.size w w'
theorem SPost.of {w w' : World} {v : Value} {zs : List StarV} {c : Int} (ho : SOwn w' w.heap.size v zs) (hb : Below w.heap.size w w') : SPost (zs, c) w (.returned (.tuple #[v, .int .i64 c])) w' := ⟨v, rfl, ho, hb⟩

end Go.Proofs.Ytnobiepjjdcofaa
