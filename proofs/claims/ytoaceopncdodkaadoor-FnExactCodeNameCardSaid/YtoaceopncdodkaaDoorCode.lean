/-
  Names of error codes: the contracts of CodeName (package impl, which reads the package variable) and of CodeName (package spec).
-/
import Derived.Test.YtoaceopncdodkaaDoorCore
import Derived.Test.YtoaceopncdodkaaDoorPost
namespace Go.Proofs.YtoaceopncdodkaaDoor
open Go.RowKit

def nmL : List (List UInt8) := [[111, 107], [105, 110, 118, 97, 108, 105, 100], [114, 97, 110, 103, 101], [110, 111, 116, 45, 102, 111, 117, 110, 100], [101, 120, 105, 115, 116, 115], [102, 117, 108, 108], [115, 116, 97, 116, 101], [111, 114, 100, 101, 114], [115, 121, 110, 116, 97, 120], [102, 111, 114, 109, 97, 116], [99, 104, 101, 99, 107, 115, 117, 109], [116, 114, 117, 110, 99, 97, 116, 101, 100]]
def codeNm (c : Int) : ByteArray := if inR 0 11 [c] = true then ⟨(nmL.getD c.toNat []).toArray⟩ else ⟨#[]⟩

/-- The package variable holds the names. -/
def NamesOK (w : World) : Prop := 0 < w.heap.size ∧ ∀ j, j < 12 → w.cell? ⟨0, j, none⟩ = some (.string ⟨(nmL.getD j []).toArray⟩)
theorem NamesOK.below {w w' : World} (h : NamesOK w) (hb : Below w.heap.size w w') : NamesOK w' :=
  ⟨by have := hb.size; have := h.1; omega, fun j hj => (hb.cell (p := ⟨0, j, none⟩) h.1).trans (h.2 j hj)⟩
theorem twelve (c : Int) (h0 : 0 ≤ c) (h1 : c ≤ 11) : c = 0 ∨ c = 1 ∨ c = 2 ∨ c = 3 ∨ c = 4 ∨ c = 5 ∨ c = 6 ∨ c = 7 ∨ c = 8 ∨ c = 9 ∨ c = 10 ∨ c = 11 := by omega

set_option maxHeartbeats 1000000 in
theorem specCode_any (c : Int) (w : World) :
    Calls Tryd.prog 22 #[.int .i64 c] w fun e w' => e = .returned (.string (codeNm c)) ∧ Below w.heap.size w w' := by
  unfold codeNm
  cases hin : inR 0 11 [c] with
  | false =>
    simp only [Bool.false_eq_true, if_false]
    have HI := Lib.hid hin
    clear hin
    go_enter Tryd.func22, Tryd.ntmps22
    go_wp2_with fail
    refine (l00In_any _ _ _ _).mono ?_
    rintro e w' ⟨rfl, rfl⟩
    rw [HI.out]
    go_wp2_with fail
    go_ret
    exact ⟨rfl, (Below.refl _ _).alloc (Nat.le_refl _) _⟩
  | true =>
    obtain ⟨b0, b1⟩ := (inR_1 _ _ _).1 hin
    rw [if_pos rfl]
    clear hin
    rcases twelve c b0 b1 with rfl | rfl | rfl | rfl | rfl | rfl | rfl | rfl | rfl | rfl | rfl | rfl
    all_goals
      clear b0 b1
      go_enter Tryd.func22, Tryd.ntmps22
      go_wp2_with fail
      refine (l00In_any _ _ _ _).mono ?_
      rintro e w' ⟨rfl, rfl⟩
      rw [show inR 0 11 [_] = true from rfl]
      go_wp2_with fail
      go_ret
      exact ⟨rfl, (Below.refl _ _).alloc (Nat.le_refl _) _⟩

set_option maxHeartbeats 1000000 in
theorem implCode_any (c : Int) (w : World) (hnm : NamesOK w) :
    Calls Tryd.prog 23 #[.int .i64 c] w fun e w' => e = .returned (.string (codeNm c)) ∧ Below w.heap.size w w' := by
  unfold codeNm
  cases hin : inR 0 11 [c] with
  | false =>
    simp only [Bool.false_eq_true, if_false]
    have HI := Lib.hid hin
    clear hin hnm
    go_enter Tryd.func23, Tryd.ntmps23
    go_wp2_with fail
    refine (within64 _ _ _ _ _ _ [c] _ rfl (by simp) (cells_1 _ _ _ _)).mono ?_
    rintro e w' ⟨rfl, rfl⟩
    rw [HI.out]
    go_wp2_with fail
    go_ret
    exact ⟨rfl, (Below.refl _ _).alloc (Nat.le_refl _) _⟩
  | true =>
    obtain ⟨b0, b1⟩ := (inR_1 _ _ _).1 hin
    rw [if_pos rfl]
    have HI := Lib.hid hin
    clear hin
    obtain ⟨j, rfl⟩ := Int.eq_ofNat_of_zero_le b0
    have hj : j < 12 := by omega
    have hc : (w.alloc (.cells #[.int .i64 (j : Int)] 2)).cell? ⟨0, j, none⟩ = some (.string ⟨(nmL.getD j []).toArray⟩) :=
      ((hnm.below ((Below.refl _ w).alloc (Nat.le_refl _) _)).2 j hj)
    rw [Int.toNat_natCast]
    generalize (nmL.getD j []).toArray = s at *
    clear hnm b0 b1
    go_enter Tryd.func23, Tryd.ntmps23
    go_wp2_with fail
    refine (within64 _ _ _ _ _ _ [(j : Int)] _ rfl (by simp) (cells_1 _ _ _ _)).mono ?_
    rintro e w' ⟨rfl, rfl⟩
    rw [HI.out]
    go_wp2_with fail
    go_ret
    exact ⟨rfl, (Below.refl _ _).alloc (Nat.le_refl _) _⟩
end Go.Proofs.YtoaceopncdodkaaDoor
