/-
  Time codes: the code with a number (package spec).
-/
import Derived.Test.YtecnhbgkkfcipaaTcY
import Derived.Deep.Cut
namespace Go.Proofs.Ytecnhbgkkfcipaa.Cd
open Go.RowKit
theorem BAt.at0 {w : World} {b : Nat} {x0 x1 x2 x3 x4 : Int} (h : BAt w b x0 x1 x2 x3 x4) : At w b 0 ⟨x0, x1, x2, x3, x4⟩ :=
  ⟨h.c0, by simpa using h.c1, by simpa using h.c2, by simpa using h.c3, by simpa using h.c4⟩
theorem BAt.drew {w : World} {b : Nat} {x0 x1 x2 x3 x4 : Int} (h : BAt w b x0 x1 x2 x3 x4) : BAt w.drew b x0 x1 x2 x3 x4 := ⟨h.c0, h.c1, h.c2, h.c3, h.c4⟩
end Go.Proofs.Ytecnhbgkkfcipaa.Cd
namespace Go.Proofs.Ytecnhbgkkfcipaa.Tc
open Go.RowKit
open Cd (At BAt)
set_option linter.unusedVariables false

/-- Five stores into another block. -/
theorem mod5 (w : World) (b : Nat) (v0 v1 v2 v3 v4 : Value) : Mod b (b + 1) w (((((w.setCell ⟨b, 0, none⟩ v0).setCell ⟨b, 1, none⟩ v1).setCell ⟨b, 2, none⟩ v2).setCell ⟨b, 3, none⟩ v3).setCell ⟨b, 4, none⟩ v4) :=
  Mod.setCell (Mod.setCell (Mod.setCell (Mod.setCell (Mod.setCell (Mod.refl _ _ w) (Nat.le_refl _) (Nat.lt_succ_self _) _) (Nat.le_refl _) (Nat.lt_succ_self _) _) (Nat.le_refl _) (Nat.lt_succ_self _) _) (Nat.le_refl _) (Nat.lt_succ_self _) _) (Nat.le_refl _) (Nat.lt_succ_self _) _
theorem fits_r {r : Int} (hr : isR r = true) : fits r := by
  have : 24 ≤ r ∧ r ≤ 30 := by rcases isR_cases hr with rfl | rfl | rfl <;> omega
  unfold fits
  omega
/-- What the specification's search for a code answers. -/
def codeW (n r : Int) : Value := if 0 ≤ n then .tuple #[.agg #[.int .i64 (hN n r), .int .i64 (mN n r), .int .i64 (sN n r), .int .i64 (fN n r), .int .i64 r], .bool (decide (n < codesN r 1440))] else .tuple #[.agg #[.int .i64 0, .int .i64 0, .int .i64 0, .int .i64 0, .int .i64 0], .bool false]
set_option maxRecDepth 100000 in
set_option maxHeartbeats 4000000 in
theorem l16Code_any (n r : Int) (hr : isR r = true) (n0 : -100000000 ≤ n) (n1 : n ≤ 100000000) (w : World) :
    Calls Try.prog 53 #[.int .i64 n, .int .i64 r] w fun e w' => e = .returned (codeW n r) ∧ Below w.heap.size w w' := by
  by_cases hn : n < 0
  · unfold codeW
    rw [if_neg (by omega)]
    clear hr
    go_enter Try.func53, Try.ntmps53
    go_wp2_with fail
    refine bodyPost_ret (v := .tuple #[.agg #[.int .i64 0, .int .i64 0, .int .i64 0, .int .i64 0, .int .i64 0], .bool false]) (by first | (simp [results, Try.results53, go_sem]; done) | (simp [results, Try.results53, go_sem, *]; done)) rfl ⟨rfl, ?_⟩
    repeat (first | exact Below.refl _ _ | refine Below.setCell ?_ (by first | (simp; done) | omega | (simp; omega)) _ | refine Below.alloc ?_ (by first | (simp; done) | omega | (simp; omega)) _ | refine bel_drew ?_)
  · have K := code_ok hr (n := n) (by omega)
    have hv : codeW n r = .tuple #[.agg #[.int .i64 (hN n r), .int .i64 (mN n r), .int .i64 (sN n r), .int .i64 (fN n r), .int .i64 r], .bool (okT (hN n r) (mN n r) (sN n r) (fN n r) r)] := by unfold codeW; rw [if_pos (by omega), K]
    clear K
    have O := Lib.hid (fun g w h => ok_at g (hN n r) (mN n r) (sN n r) (fN n r) r (fits_r hr) w h)
    generalize okT (hN n r) (mN n r) (sN n r) (fN n r) r = k at *
    have HV := Lib.hid hv
    clear hv
    generalize codeW n r = R at *
    unfold hN mN sN fN secN at HV O
    obtain ⟨rb0, rb1⟩ : 24 ≤ r ∧ r ≤ 30 := by rcases isR_cases hr with rfl | rfl | rfl <;> omega
    obtain ⟨X0, X1⟩ : 0 ≤ wide n r ∧ wide n r ≤ 200000000 := by unfold wide; split <;> (try split) <;> omega
    have HR := Lib.hid hr
    clear hr
    go_enter Try.func53, Try.ntmps53
    go_upto_if 16 with (fail)
    go_cut [6] from 7 (fun s6 wx => s6 = .int .i64 (wide n r) ∧ (w.alloc (Obj.cells #[Value.int .i64 0, .int .i64 0, .int .i64 0, .int .i64 0, .int .i64 0] 25)) = wx)
    case first =>
      have hr := HR.out
      clear HR HV O X0 X1
      rcases isR_cases hr with rfl | rfl | rfl
      · clear hr
        go_wp2_with fail
        go_meet
        case rel => exact ⟨by rw [show wide n 24 = n by unfold wide; rw [if_neg (by decide)]], rfl⟩
      · clear hr
        go_wp2_with fail
        go_meet
        case rel => exact ⟨by rw [show wide n 25 = n by unfold wide; rw [if_neg (by decide)]], rfl⟩
      · clear hr
        by_cases h8 : 1800 ≤ n % 17982
        · have wd := Lib.hid (show wide n 30 = n + 18 * (n / 17982) + 2 * ((n % 17982 - 1800) / 1798 + 1) by unfold wide; rw [if_pos rfl, if_pos h8])
          go_wp2_with fail
          go_meet
          case rel => exact ⟨by rw [wd.out], rfl⟩
        · have wd := Lib.hid (show wide n 30 = n + 18 * (n / 17982) by unfold wide; rw [if_pos rfl, if_neg h8, Int.add_zero])
          go_wp2_with fail
          go_meet
          case rel => exact ⟨by rw [wd.out], rfl⟩
    case rest =>
      obtain ⟨rfl, rfl⟩ := hcut
      clear HR
      generalize wide n r = X at *
      have rz : ¬ r = 0 := by omega
      have q0 : 0 ≤ X / r := Int.ediv_nonneg X0 (by omega)
      have q2 : X / r ≤ X := Int.ediv_le_self _ X0
      have q3 : 0 ≤ X % r := Int.emod_nonneg _ rz
      have q4 : X % r < r := Int.emod_lt_of_pos _ (by omega)
      go_wp2_with fail
      obtain ⟨W2, hW2⟩ : ∃ W, W = (w.alloc (Obj.cells #[Value.int .i64 0, .int .i64 0, .int .i64 0, .int .i64 0, .int .i64 0] 25)).alloc (Obj.cells #[Value.int .i64 ((X) / r / 3600), .int .i64 ((X) / r / 60 % 60), .int .i64 ((X) / r % 60), .int .i64 ((X) % r), .int .i64 (r)] 25) := ⟨_, rfl⟩
      have hB2 : Below w.heap.size w W2 := by rw [hW2]; exact ((Below.refl _ _).alloc (Nat.le_refl _) _).alloc (by simp) _
      have b4 : Bx W2 w.heap.size 0 0 0 0 0 := by rw [hW2]; exact (Bx.new w 0 0 0 0 0 25).below ((Below.refl _ _).alloc (Nat.le_refl _) _)
      have bc := Bx.new (w.alloc (Obj.cells #[Value.int .i64 0, .int .i64 0, .int .i64 0, .int .i64 0, .int .i64 0] 25)) ((X) / r / 3600) ((X) / r / 60 % 60) ((X) / r % 60) ((X) % r) (r) 25
      rw [← hW2] at bc
      simp only [World.size_alloc] at bc
      have AT := Lib.hid bc.at_
      have B4 := Lib.hid b4
      have HW := Lib.hid hW2
      have HB2 := Lib.hid hB2
      have HS : Hid (W2.heap.size = w.heap.size + 1 + 1) := Lib.hid (by rw [hW2]; simp)
      obtain ⟨c0, c1, c2, c3, c4⟩ := bc.at_
      obtain ⟨⟨d0, d1, d2, d3, d4⟩, fz⟩ := b4
      have dl := B4.out.at_.lt
      clear bc hW2 hB2
      rw [← HW.out]
      clear HW
      go_region_with ((go_at_call 45; (first | (refine (O.out _ _ AT.out.drew.at0).mono ?_) | (refine (O.out _ _ (AT.out.drew.mod (mod5 _ _ _ _ _ _ _) (Or.inr (Nat.le_refl _))).at0).mono ?_)); rintro e w' ⟨rfl, m, rfl⟩))
      all_goals
        go_wp2_with fail
        refine bodyPost_ret (v := .tuple #[.agg #[.int .i64 ((X) / r / 3600), .int .i64 ((X) / r / 60 % 60), .int .i64 ((X) / r % 60), .int .i64 ((X) % r), .int .i64 (r)], .bool k]) (by simp [results, Try.results53, go_sem, *]; done) rfl ⟨by rw [HV.out], ?_⟩
        repeat (first | exact Below.refl _ _ | exact HB2.out | refine Below.setCell ?_ (by first | (simp; done) | omega | (simp; omega)) _ | refine Below.alloc ?_ (by first | (simp; done) | omega | (simp; omega)) _ | refine bel_drew ?_)
        all_goals first | exact bel_dT HB2.out _ | skip
end Go.Proofs.Ytecnhbgkkfcipaa.Tc
