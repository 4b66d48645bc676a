/-
  Valid tracks (both packages): l14Time, l14Value, l14One, ValidTrack.
-/
import Derived.Test.YtdbocpcijkngpaaKyV
import Derived.Test.YtdbocpcijkngpaaTkL
namespace Go.Proofs.Ytdbocpcijkngpaa.Tk
open Go.RowKit
open Ky (V In Own Row At gk)
set_option linter.unusedVariables false

/-- A track is valid. -/
def trackB (s : ByteArray) (zs : List V) : Bool := nameB s.data.toList && (decide (0 < zs.length) && Ky.incB zs)
theorem trackB_at {s : ByteArray} {zs : List V} (h : trackB s zs = true) : 0 < zs.length ∧ Ky.incB zs = true := by
  unfold trackB at h
  rw [Bool.and_eq_true, Bool.and_eq_true, decide_eq_true_eq] at h
  exact h.2
theorem quiet_leftT {P : Program} {f : FuncId} {args : Array Value} {w : World} {n : Nat} {v : Value}
    (h : Calls P f args (w.drewN n) fun e w' => e = .returned v ∧ w.drewN n = w') : Calls P f args (w.drewN n) fun e w'' => e = .returned v ∧ ∃ m, w'' = w.drewN m :=
  h.mono fun _ _ ⟨he, hm⟩ => ⟨he, n, hm.symm⟩
theorem quiet_ddT {P : Program} {f : FuncId} {args : Array Value} {w : World} {n : Nat} {v : Value}
    (h : Calls P f args (w.drewN n) fun e w' => e = .returned v ∧ ∃ m, w' = (w.drewN n).drewN m) : Calls P f args (w.drewN n) fun e w'' => e = .returned v ∧ ∃ m, w'' = w.drewN m :=
  h.mono fun _ _ ⟨he, m, hm⟩ => ⟨he, n + m, by rw [hm, World.drewN_drewN]⟩
theorem bel_dT {B : Nat} {a w : World} (h : Below B a w) (n : Nat) : Below B a (w.drewN n) := ⟨h.os, h.tape, h.output, h.size, h.block⟩
theorem RowDrewN {w : World} {g : Nat} {zs : List V} (h : Row w g zs) (n : Nat) : Row (w.drewN n) g zs := h.below ⟨rfl, rfl, rfl, Nat.le_refl _, fun _ _ => rfl⟩
set_option maxHeartbeats 400000 in
theorem l14Time_any (a : Int) (w : World) :
    Calls Try.prog 67 #[.int .i64 a] w fun e w' => e = .returned (.bool (inR 0 7200000 [a])) ∧ w = w' := by
  go_enter Try.func67, Try.ntmps67
  go_wp2_with fail
  refine (l00In_any _ _ _ _).mono ?_
  rintro e w' ⟨rfl, rfl⟩
  go_wp2_with fail
  go_ret
  exact ⟨rfl, rfl⟩
set_option maxHeartbeats 400000 in
theorem l14Value_any (a : Int) (w : World) :
    Calls Try.prog 71 #[.int .i64 a] w fun e w' => e = .returned (.bool (inR (-1000000) 1000000 [a])) ∧ w = w' := by
  go_enter Try.func71, Try.ntmps71
  go_wp2_with fail
  refine (l00In_any _ _ _ _).mono ?_
  rintro e w' ⟨rfl, rfl⟩
  go_wp2_with fail
  go_ret
  exact ⟨rfl, rfl⟩

theorem KE2 (zs : List V) (h : ¬ 24 < zs.length) : Ky.incB zs = Ky.okZ zs zs.length := by
  unfold Ky.incB
  rw [show decide (zs.length ≤ 24) = true by simpa using Nat.not_lt.1 h, Bool.and_true]
set_option maxRecDepth 100000 in
set_option maxHeartbeats 4000000 in
theorem l14One_any (b o g cap : Nat) (s : ByteArray) (zs : List V) (w : World) (hb : zs.length ≤ 1048577) (h0 : w.cell? ⟨b, o, none⟩ = some (.string s)) (h1 : w.cell? ⟨b, o + 1, none⟩ = some (.slice (some ⟨g, 0, none⟩) zs.length cap)) (hR : Row w g zs) :
    Calls Try.prog 55 #[.pointer (some ⟨b, o, none⟩)] w fun e w' => e = .returned (.bool (trackB s zs)) ∧ ∃ m, w' = w.drewN m := by
  have H1 := Lib.hid hR
  have N := Lib.hid (fun w => l01Name_any s w)
  have KN := Lib.hid (Ky.okZ_next zs)
  have KS := Lib.hid (fun j hj h => Ky.okZ_stop zs j hj h)
  have KE : Hid (Ky.incB zs = (Ky.okZ zs zs.length && decide (zs.length ≤ 24))) := Lib.hid rfl
  unfold trackB
  generalize nameB s.data.toList = p at *
  generalize Ky.incB zs = r at *
  clear hR
  cases p with
  | false =>
    rw [Bool.false_and]
    clear KN KS KE H1
    go_enter Try.func55, Try.ntmps55
    go_wp2_with fail
    refine (N.out _).mono ?_
    rintro e w' ⟨rfl, rfl⟩
    go_wp2_with fail
    go_ret
    exact ⟨rfl, 0, rfl⟩
  | true =>
    rw [Bool.true_and]
    by_cases hl : 0 < zs.length
    · rw [show decide (0 < zs.length) = true by simpa using hl, Bool.true_and]
      by_cases hm : 24 < zs.length
      · have hr : r = false := by rw [KE.out, show decide (zs.length ≤ 24) = false by simpa using hm, Bool.and_false]
        subst hr
        clear KN KS KE H1
        have l1 : ¬ (zs.length : Int) < 1 := by omega
        have l2 : (24 : Int) < (zs.length : Int) := by omega
        go_enter Try.func55, Try.ntmps55
        go_wp2_with fail
        refine (N.out _).mono ?_
        rintro e w' ⟨rfl, rfl⟩
        go_wp2_with fail
        go_ret
        exact ⟨rfl, 0, rfl⟩
      · have hE : r = Ky.okZ zs zs.length := by rw [KE.out, show decide (zs.length ≤ 24) = true by simpa using Nat.not_lt.1 hm, Bool.and_true]
        have HE := Lib.hid hE
        clear hE KE
        have l1 : ¬ (zs.length : Int) < 1 := by omega
        have l2 : ¬ (24 : Int) < (zs.length : Int) := by omega
        have C0 := Lib.hid h0
        have C1 := Lib.hid h1
        go_enter Try.func55, Try.ntmps55
        go_wp2_with fail
        refine (N.out _).mono ?_
        rintro e w' ⟨rfl, rfl⟩
        go_wp2_with fail
        clear h0 h1 l1 l2
        go_loopg [3] (zs.length + 1) (fun kx s3 wr => ∃ j : Nat, s3 = .int .i64 (j : Int) ∧ j ≤ zs.length ∧ kx = zs.length + 1 - j ∧ Hid (Ky.okZ zs j = true) ∧ Hid (∃ m, wr = w.drewN m))
        case atStart => exact ⟨0, rfl, Nat.zero_le _, rfl, Lib.hid rfl, Lib.hid ⟨0, rfl⟩⟩
        case round =>
          obtain ⟨j, rfl, hj, rfl, HO, HB⟩ := hrel
          have h1 : wr.cell? ⟨b, o + 1, none⟩ = some (.slice (some ⟨g, 0, none⟩) zs.length cap) := by
            obtain ⟨m, hm⟩ := HB.out
            rw [hm]
            exact C1.out
          have HR : Hid (Row wr g zs) := Lib.hid (by
            obtain ⟨m, hm⟩ := HB.out
            rw [hm]
            exact RowDrewN H1.out m)
          have DNX : Hid (∀ q, ∃ m, wr.drewN q = w.drewN m) := Lib.hid (fun q => by
            obtain ⟨m, hm⟩ := HB.out
            exact ⟨m + q, by rw [hm, World.drewN_drewN]⟩)
          by_cases hlt : j < zs.length
          · obtain ⟨c0, c1⟩ := HR.out.at j hlt
            have HS := Lib.hid (KS.out j hlt)
            have HN := Lib.hid (KN.out j)
            have GD := Ky.getD_at zs j hlt
            have PT := Lib.hid (fun w => l14Time_any zs[j].f0 w)
            have PV := Lib.hid (fun w => l14Value_any zs[j].f1 w)
            have j0 : (0 : Int) ≤ (j : Int) := by omega
            have j1 : (j : Int) < (zs.length : Int) := by omega
            have hgd : zs[j].good = (inR 0 7200000 [zs[j].f0] && inR (-1000000) 1000000 [zs[j].f1]) := rfl
            cases ht : inR 0 7200000 [zs[j].f0] with
            | false =>
              rw [ht] at PT
              have hst : Ky.stepB zs j = false := by unfold Ky.stepB; rw [GD, hgd, ht]; rfl
              have hr : r = false := HS.out hst
              subst hr
              clear hst hgd ht GD HS HN
              generalize zs[j].f0 = x0 at *
              generalize zs[j].f1 = x1 at *
              go_wp2_with fail
              go_quiet ((first | (go_at_call 67; with_reducible exact quiet_leftT (PT.out _)) | (go_at_call 71; with_reducible exact quiet_leftT (PV.out _))))
              rename Nat => q9
              go_wp2_with fail
              go_ret
              exact ⟨rfl, DNX.out q9⟩
            | true =>
              rw [ht] at PT
              cases hv : inR (-1000000) 1000000 [zs[j].f1] with
              | false =>
                rw [hv] at PV
                have hst : Ky.stepB zs j = false := by unfold Ky.stepB; rw [GD, hgd, ht, hv]; rfl
                have hr : r = false := HS.out hst
                subst hr
                clear hst hgd ht hv GD HS HN
                generalize zs[j].f0 = x0 at *
                generalize zs[j].f1 = x1 at *
                go_wp2_with fail
                go_quiet ((first | (go_at_call 67; with_reducible exact quiet_leftT (PT.out _)) | (go_at_call 71; with_reducible exact quiet_leftT (PV.out _))))
                rename Nat => q9
                go_wp2_with fail
                go_ret
                exact ⟨rfl, DNX.out q9⟩
              | true =>
                rw [hv] at PV
                rw [ht, hv, Bool.and_self] at hgd
                by_cases hz : j = 0
                · subst hz
                  have HT : Hid (Ky.okZ zs (0 + 1) = true) := Lib.hid (by rw [HN.out, Ky.stepB_zero, GD, hgd]; rfl)
                  clear hgd ht hv GD HS HN
                  have z1 : ¬ (0 : Int) < ((0 : Nat) : Int) := by omega
                  have z2 : decide ((0 : Int) < ((0 : Nat) : Int)) = false := by simp
                  generalize zs[0].f0 = x0 at *
                  generalize zs[0].f1 = x1 at *
                  go_wp2_with fail
                  go_quiet ((first | (go_at_call 67; with_reducible exact quiet_leftT (PT.out _)) | (go_at_call 71; with_reducible exact quiet_leftT (PV.out _))))
                  rename Nat => q9
                  go_wp2_with fail
                  go_roundg (zs.length + 1 - (0 + 1))
                  case measure => omega
                  case rel => exact ⟨0 + 1, by go_num, by omega, by omega, HT, Lib.hid (DNX.out q9)⟩
                · obtain ⟨k, rfl⟩ : ∃ k, j = k + 1 := ⟨j - 1, by omega⟩
                  have hkl : k < zs.length := by omega
                  obtain ⟨d0, d1⟩ := HR.out.at k hkl
                  have hst : Ky.stepB zs (k + 1) = Ky.befC (zs[k]'hkl) zs[k + 1] := by rw [Ky.stepB_succ, GD, Ky.getD_at zs k hkl, hgd, Bool.true_and]
                  have ek : ((k + 1 : Nat) : Int) - 1 = (k : Int) := by omega
                  have k0 : (0 : Int) ≤ (k : Int) := by omega
                  have k1 : (k : Int) < (zs.length : Int) := by omega
                  have kg : (0 : Int) < ((k + 1 : Nat) : Int) := by omega
                  have kd : decide ((0 : Int) < ((k + 1 : Nat) : Int)) = true := decide_eq_true kg
                  have kn : 0 < k + 1 := by omega
                  have kdn : decide (0 < k + 1) = true := decide_eq_true kn
                  have wk : IntKind.i64.wrap (k : Int) = (k : Int) := IntWalk.i64_in _ (by omega)
                  rw [hst] at HS HN
                  have hbf : Ky.befC (zs[k]'hkl) zs[k + 1] = decide ((zs[k]'hkl).f0 < zs[k + 1].f0) := rfl
                  rw [hbf] at HS HN
                  clear hst hgd ht hv GD hbf hz
                  generalize (zs[k]'hkl).f0 = y0 at *
                  generalize (zs[k]'hkl).f1 = y1 at *
                  generalize zs[k + 1].f0 = x0 at *
                  generalize zs[k + 1].f1 = x1 at *
                  by_cases hlt2 : y0 < x0
                  · have HT : Hid (Ky.okZ zs (k + 1 + 1) = true) := Lib.hid (by rw [HN.out, HO.out, decide_eq_true hlt2]; rfl)
                    have q1 : ¬ x0 ≤ y0 := by omega
                    have q2 : decide (x0 ≤ y0) = false := decide_eq_false q1
                    clear HS HN
                    go_wp2_with fail
                    go_quiet ((first | (go_at_call 67; with_reducible exact quiet_leftT (PT.out _)) | (go_at_call 71; with_reducible exact quiet_leftT (PV.out _))))
                    rename Nat => q9
                    go_wp2_with fail
                    go_roundg (zs.length + 1 - (k + 1 + 1))
                    case measure => omega
                    case rel => exact ⟨k + 1 + 1, by go_num, by omega, by omega, HT, Lib.hid (DNX.out q9)⟩
                  · have hr : r = false := HS.out (decide_eq_false hlt2)
                    subst hr
                    have q1 : x0 ≤ y0 := by omega
                    have q2 : decide (x0 ≤ y0) = true := decide_eq_true q1
                    clear HS HN
                    go_wp2_with fail
                    go_quiet ((first | (go_at_call 67; with_reducible exact quiet_leftT (PT.out _)) | (go_at_call 71; with_reducible exact quiet_leftT (PV.out _))))
                    rename Nat => q9
                    go_wp2_with fail
                    go_ret
                    exact ⟨rfl, DNX.out q9⟩
          · obtain rfl : j = zs.length := by omega
            go_wp2_with fail
            go_ret
            exact ⟨ret_bool (by rw [HE.out, HO.out]), HB.out⟩
    · rw [show decide (0 < zs.length) = false by simpa using hl, Bool.false_and]
      clear KN KS KE H1
      have l1 : (zs.length : Int) < 1 := by omega
      go_enter Try.func55, Try.ntmps55
      go_wp2_with fail
      refine (N.out _).mono ?_
      rintro e w' ⟨rfl, rfl⟩
      go_wp2_with fail
      go_ret
      exact ⟨rfl, 0, rfl⟩
set_option maxHeartbeats 1000000 in
theorem specValid_any (s : ByteArray) (g cap : Nat) (zs : List V) (w : World) (hb : zs.length ≤ 1048577) (h1 : Row w g zs) :
    Calls Try.prog 17 #[.agg #[.string s, .slice (some ⟨g, 0, none⟩) zs.length cap]] w fun e w' => e = .returned (.bool (trackB s zs)) ∧ Below w.heap.size w w' := by
  have O := Lib.hid (fun (W : World) (hB : Below w.heap.size w W) b h0 h1' => l14One_any b 0 g cap s zs W hb h0 h1' (h1.below hB))
  clear h1
  go_enter Try.func17, Try.ntmps17
  go_wp2_with fail
  refine (O.out _ (by repeat (first | exact Below.refl _ _ | refine Below.setCell ?_ (by first | (simp; done) | omega | (simp; omega)) _ | refine Below.alloc ?_ (by first | (simp; done) | omega | (simp; omega)) _ | refine bel_drew ?_)
    ) _ (by simp) (by simp)).mono ?_
  rintro e w1 ⟨rfl, m, rfl⟩
  go_wp2_with fail
  go_ret
  exact ⟨rfl, bel_dT ((Below.refl _ _).alloc (Nat.le_refl _) _) _⟩
set_option maxHeartbeats 1000000 in
theorem implValid_any (s : ByteArray) (hs : s.size ≤ maxLen) (g cap : Nat) (zs : List V) (w : World) (hb : zs.length ≤ 1048577) (h1 : Row w g zs) :
    Calls Try.prog 19 #[.agg #[.string s, .slice (some ⟨g, 0, none⟩) zs.length cap]] w fun e w' => e = .returned (.bool (trackB s zs)) ∧ Below w.heap.size w w' := by
  have N := Lib.hid (fun w => implName_any s w (by unfold maxLen at hs; omega))
  have C := Lib.hid (fun (W : World) (hB : Below w.heap.size w W) => Ky.incr_any g cap zs W hb (h1.below hB))
  clear h1 hs
  unfold trackB
  generalize nameB s.data.toList = p at *
  generalize Ky.incB zs = r at *
  cases p with
  | false =>
    rw [Bool.false_and]
    clear C
    go_enter Try.func19, Try.ntmps19
    go_wp2_with fail
    refine (N.out _).mono ?_
    rintro e w1 ⟨rfl, hb⟩
    have hsw1 := hb.size
    try simp at hsw1
    obtain ⟨hcw1, hfw1⟩ := bcell hb
    have HBw1 : Hid (Below w.heap.size w w1) := by
      apply Lib.hid
      refine Below.trans ?_ (hb.mono ?_)
      · repeat (first | exact Below.refl _ _ | refine Below.setCell ?_ (by first | (simp; done) | omega | (simp; omega)) _ | refine Below.alloc ?_ (by first | (simp; done) | omega | (simp; omega)) _)
      · first | (simp; done) | omega | (simp; omega)
    have hzw1 : w.heap.size < w1.heap.size := by have := hb.size; (try simp at this); omega
    clear hb
    go_wp2_with fail
    go_ret
    refine ⟨rfl, ?_⟩
    repeat (first | exact Below.refl _ _ | exact HBw1.out | refine Below.setCell ?_ (by first | (simp; done) | omega | (simp; omega)) _ | refine Below.alloc ?_ (by first | (simp; done) | omega | (simp; omega)) _ | refine bel_drew ?_)
  | true =>
    rw [Bool.true_and]
    by_cases hl : 0 < zs.length
    · rw [show decide (0 < zs.length) = true by simpa using hl, Bool.true_and]
      have l1 : (0 : Int) < (zs.length : Int) := by omega
      go_enter Try.func19, Try.ntmps19
      go_wp2_with fail
      refine (N.out _).mono ?_
      rintro e w1 ⟨rfl, hb⟩
      have hsw1 := hb.size
      try simp at hsw1
      obtain ⟨hcw1, hfw1⟩ := bcell hb
      have HBw1 : Hid (Below w.heap.size w w1) := by
        apply Lib.hid
        refine Below.trans ?_ (hb.mono ?_)
        · repeat (first | exact Below.refl _ _ | refine Below.setCell ?_ (by first | (simp; done) | omega | (simp; omega)) _ | refine Below.alloc ?_ (by first | (simp; done) | omega | (simp; omega)) _)
        · first | (simp; done) | omega | (simp; omega)
      have hzw1 : w.heap.size < w1.heap.size := by have := hb.size; (try simp at this); omega
      clear hb
      go_wp2_with fail
      refine (C.out _ HBw1.out).mono ?_
      rintro e w2 ⟨rfl, hb2⟩
      have HB2 := Lib.hid (HBw1.out.trans (hb2.mono HBw1.out.size))
      clear hb2
      go_wp2_with fail
      go_ret
      exact ⟨rfl, HB2.out⟩
    · rw [show decide (0 < zs.length) = false by simpa using hl, Bool.false_and]
      have l1 : ¬ (0 : Int) < (zs.length : Int) := by omega
      clear C
      go_enter Try.func19, Try.ntmps19
      go_wp2_with fail
      refine (N.out _).mono ?_
      rintro e w1 ⟨rfl, hb⟩
      have hsw1 := hb.size
      try simp at hsw1
      obtain ⟨hcw1, hfw1⟩ := bcell hb
      have HBw1 : Hid (Below w.heap.size w w1) := by
        apply Lib.hid
        refine Below.trans ?_ (hb.mono ?_)
        · repeat (first | exact Below.refl _ _ | refine Below.setCell ?_ (by first | (simp; done) | omega | (simp; omega)) _ | refine Below.alloc ?_ (by first | (simp; done) | omega | (simp; omega)) _)
        · first | (simp; done) | omega | (simp; omega)
      have hzw1 : w.heap.size < w1.heap.size := by have := hb.size; (try simp at this); omega
      clear hb
      go_wp2_with fail
      go_ret
      refine ⟨rfl, ?_⟩
      repeat (first | exact Below.refl _ _ | exact HBw1.out | refine Below.setCell ?_ (by first | (simp; done) | omega | (simp; omega)) _ | refine Below.alloc ?_ (by first | (simp; done) | omega | (simp; omega)) _ | refine bel_drew ?_)
end Go.Proofs.Ytdbocpcijkngpaa.Tk
