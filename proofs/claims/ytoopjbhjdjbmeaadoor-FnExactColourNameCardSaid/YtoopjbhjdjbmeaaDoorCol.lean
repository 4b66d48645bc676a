/-
  Names of colours: the contracts of ColourName (both packages) and of isColour (package impl).
-/
import Derived.Test.YtoopjbhjdjbmeaaDoorCore
import Derived.Test.YtoopjbhjdjbmeaaDoorVec0
import Derived.Deep.LoopGhost
import Derived.Deep.Draws
namespace Go.Proofs.YtoopjbhjdjbmeaaDoor
open Go.RowKit
set_option linter.unusedVariables false

def colE : List Int := [0, 30, 60, 90, 140, 251]
def colT : List (List UInt8) := [[98, 108, 117, 101], [119, 104, 105, 116, 101], [99, 114, 101, 97, 109], [121, 101, 108, 108, 111, 119], [111, 114, 97, 110, 103, 101], [114, 101, 100]]
def cE (j : Nat) : Int := colE.getD j 0
def cT (j : Nat) : ByteArray := ⟨(colT.getD j []).toArray⟩
def colIx (c : Int) : Nat := if c < 0 then 0 else if c < 30 then 1 else if c < 60 then 2 else if c < 90 then 3 else if c < 140 then 4 else 5
def colNm (c : Int) : ByteArray := if inR (-50) 250 [c] = true then cT (colIx c) else ⟨#[]⟩
theorem colIx_lt (c : Int) : colIx c < 6 := by
  unfold colIx
  repeat (first | omega | split)
theorem six (j : Nat) (h : j < 6) : j = 0 ∨ j = 1 ∨ j = 2 ∨ j = 3 ∨ j = 4 ∨ j = 5 := by omega
theorem col_go (c : Int) (j : Nat) (h : j < colIx c) : cE j ≤ c := by
  have h6 : j < 6 := by have := colIx_lt c; omega
  unfold colIx at h
  rcases six j h6 with rfl | rfl | rfl | rfl | rfl | rfl <;> simp only [cE, colE, List.getD_cons_zero, List.getD_cons_succ] <;> by_cases a0 : c < 0 <;> by_cases a1 : c < 30 <;> by_cases a2 : c < 60 <;> by_cases a3 : c < 90 <;> by_cases a4 : c < 140 <;> simp only [a0, a1, a2, a3, a4, if_true, if_false] at h <;> omega
theorem col_stop (c : Int) (h : c ≤ 250) : c < cE (colIx c) := by
  unfold colIx
  split
  · simp only [cE, colE, List.getD_cons_zero]; omega
  split
  · simp only [cE, colE, List.getD_cons_zero, List.getD_cons_succ]; omega
  split
  · simp only [cE, colE, List.getD_cons_zero, List.getD_cons_succ]; omega
  split
  · simp only [cE, colE, List.getD_cons_zero, List.getD_cons_succ]; omega
  split
  · simp only [cE, colE, List.getD_cons_zero, List.getD_cons_succ]; omega
  · simp only [cE, colE, List.getD_cons_zero, List.getD_cons_succ]; omega

/-- The package variable holds the ranges. -/
def ColOK (w : World) : Prop := 0 < w.heap.size ∧ ∀ j, j < 6 →
  w.cell? ⟨0, j * 2, none⟩ = some (.int .i64 (cE j)) ∧ w.cell? ⟨0, j * 2 + 1, none⟩ = some (.string (cT j))
theorem ColOK.below {w w' : World} (h : ColOK w) (hb : Below w.heap.size w w') : ColOK w' :=
  ⟨by have := hb.size; have := h.1; omega, fun j hj => ⟨(hb.cell (p := ⟨0, j * 2, none⟩) h.1).trans (h.2 j hj).1, (hb.cell (p := ⟨0, j * 2 + 1, none⟩) h.1).trans (h.2 j hj).2⟩⟩

set_option maxHeartbeats 400000 in
theorem isCol1_any (a : Int) (w : World) :
    Calls Tryd.prog 40 #[.int .i64 a] w fun e w' => e = .returned (.bool (inR (-50) 250 [a])) ∧ Below w.heap.size w w' := by
  go_enter Tryd.func40, Tryd.ntmps40
  go_wp2_with fail
  refine (within1 _ _ a _ _ _ (by simp)).mono ?_
  rintro e w' ⟨rfl, rfl⟩
  go_wp2_with fail
  go_ret
  refine ⟨rfl, ?_⟩
  repeat (first | exact Below.refl _ _ | refine Below.setCell ?_ (by first | (simp; done) | omega | (simp; omega)) _ | refine Below.alloc ?_ (by first | (simp; done) | omega | (simp; omega)) _ | refine bel_drew ?_)

set_option maxHeartbeats 1000000 in
theorem specCol_any (c : Int) (w : World) :
    Calls Tryd.prog 14 #[.int .i64 c] w fun e w' => e = .returned (.string (colNm c)) ∧ w = w' := by
  unfold colNm
  cases hi : inR (-50) 250 [c] with
  | false =>
    rw [if_neg (by simp)]
    have HI := Lib.hid hi
    clear hi
    go_enter Tryd.func14, Tryd.ntmps14
    go_wp2_with fail
    refine (l00In_any _ _ _ _).mono ?_
    rintro e w' ⟨rfl, rfl⟩
    rw [HI.out]
    go_wp2_with fail
    go_ret
    exact ⟨rfl, rfl⟩
  | true =>
    rw [if_pos rfl]
    have HI := Lib.hid hi
    clear hi
    unfold colIx
    by_cases h0 : c < 0
    · rw [if_pos h0]
      go_enter Tryd.func14, Tryd.ntmps14
      go_wp2_with fail
      refine (l00In_any _ _ _ _).mono ?_
      rintro e w' ⟨rfl, rfl⟩
      rw [HI.out]
      go_wp2_with fail
      go_ret
      exact ⟨rfl, rfl⟩
    · rw [if_neg h0]
      by_cases h1 : c < 30
      · rw [if_pos h1]
        go_enter Tryd.func14, Tryd.ntmps14
        go_wp2_with fail
        refine (l00In_any _ _ _ _).mono ?_
        rintro e w' ⟨rfl, rfl⟩
        rw [HI.out]
        go_wp2_with fail
        go_ret
        exact ⟨rfl, rfl⟩
      · rw [if_neg h1]
        by_cases h2 : c < 60
        · rw [if_pos h2]
          go_enter Tryd.func14, Tryd.ntmps14
          go_wp2_with fail
          refine (l00In_any _ _ _ _).mono ?_
          rintro e w' ⟨rfl, rfl⟩
          rw [HI.out]
          go_wp2_with fail
          go_ret
          exact ⟨rfl, rfl⟩
        · rw [if_neg h2]
          by_cases h3 : c < 90
          · rw [if_pos h3]
            go_enter Tryd.func14, Tryd.ntmps14
            go_wp2_with fail
            refine (l00In_any _ _ _ _).mono ?_
            rintro e w' ⟨rfl, rfl⟩
            rw [HI.out]
            go_wp2_with fail
            go_ret
            exact ⟨rfl, rfl⟩
          · rw [if_neg h3]
            by_cases h4 : c < 140
            · rw [if_pos h4]
              go_enter Tryd.func14, Tryd.ntmps14
              go_wp2_with fail
              refine (l00In_any _ _ _ _).mono ?_
              rintro e w' ⟨rfl, rfl⟩
              rw [HI.out]
              go_wp2_with fail
              go_ret
              exact ⟨rfl, rfl⟩
            · rw [if_neg h4]
              go_enter Tryd.func14, Tryd.ntmps14
              go_wp2_with fail
              refine (l00In_any _ _ _ _).mono ?_
              rintro e w' ⟨rfl, rfl⟩
              rw [HI.out]
              go_wp2_with fail
              go_ret
              exact ⟨rfl, rfl⟩

set_option maxHeartbeats 1000000 in
theorem implCol_any (c : Int) (w : World) (hc : ColOK w) :
    Calls Tryd.prog 15 #[.int .i64 c] w fun e w' => e = .returned (.string (colNm c)) ∧ Below w.heap.size w w' := by
  unfold colNm
  have M := Lib.hid (fun w => isCol1_any c w)
  cases hi : inR (-50) 250 [c] with
  | false =>
    rw [if_neg (by simp)]
    rw [hi] at M
    clear hi hc
    go_enter Tryd.func15, Tryd.ntmps15
    go_wp2_with fail
    refine (M.out _).mono ?_
    rintro e w1 ⟨rfl, hb⟩
    have hsw1 := hb.size
    try simp at hsw1
    obtain ⟨hcw1, hfw1⟩ := bcell hb
    have HBw1 : Hid (Below w.heap.size w w1) := by
      apply Lib.hid
      refine Below.trans ?_ (hb.mono ?_)
      · repeat (first | exact Below.refl _ _ | refine Below.setCell ?_ (by first | (simp; done) | omega | (simp; omega)) _ | refine Below.alloc ?_ (by first | (simp; done) | omega | (simp; omega)) _)
      · first | (simp; done) | omega | (simp; omega)
    clear hb
    go_wp2_with fail
    go_ret
    exact ⟨rfl, HBw1.out⟩
  | true =>
    rw [if_pos rfl]
    obtain ⟨l0, l1⟩ := (inR_1 _ _ _).1 hi
    rw [hi] at M
    clear hi
    have HG := Lib.hid (col_go c)
    have HS := Lib.hid (col_stop c l1)
    have hlt := colIx_lt c
    have E := Lib.hid hc
    clear hc
    generalize colIx c = n at *
    go_enter Tryd.func15, Tryd.ntmps15
    go_wp2_with fail
    refine (M.out _).mono ?_
    rintro e w1 ⟨rfl, hb⟩
    have HB := Lib.hid hb
    have E1 := Lib.hid (E.out.below hb)
    clear hb
    go_wp2_with fail
    go_loop [3] (fun s3 => ∃ k : Nat, k ≤ n ∧ s3 = .int .i64 (k : Int)) (fun s3 => n - (intOf s3).toNat)
    case atStart => exact ⟨0, Nat.zero_le _, rfl⟩
    case round =>
      obtain ⟨k, hk, rfl⟩ := hrel
      obtain ⟨k0, k1⟩ := E1.out.2 k (by omega)
      have a0 : (0 : Int) ≤ (k : Int) := by omega
      have a1 : (k : Int) < 6 := by omega
      by_cases hlt2 : k < n
      · have hle := HG.out k hlt2
        generalize cE k = x at *
        clear k1
        go_wp2_with fail
        go_round
        case rel => exact ⟨k + 1, by omega, by go_num⟩
        case measure => simp [intOf]; omega
      · obtain rfl : k = n := by omega
        have hle : ¬ cE k ≤ c := by have := HS.out; omega
        generalize cE k = x at *
        go_wp2_with fail
        go_ret
        exact ⟨rfl, HB.out⟩
end Go.Proofs.YtoopjbhjdjbmeaaDoor
