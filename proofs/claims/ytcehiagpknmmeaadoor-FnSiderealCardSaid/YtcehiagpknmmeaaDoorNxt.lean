/-
  The next moment at which the sky has an angle: the contracts of NextSidereal (both packages) and of the search's closure (package impl).
-/
import Derived.Test.YtcehiagpknmmeaaDoorMomB
import Derived.Test.YtcehiagpknmmeaaDoorSky
import Derived.Test.YtcehiagpknmmeaaDoorSrch
import Derived.Deep.RegionHeld3
import Derived.Deep.QuietTactic
import Derived.BigQuiet
namespace Go.Proofs.YtcehiagpknmmeaaDoor
open Go.RowKit
set_option linter.unusedVariables false

def goalN (d m lon ang : Int) : Int := trn (d * 86400000 + m) + nrm (ang - sidI d m lon)
def waitN (A goal : Int) : Nat := cnt 86400000 fun i => decide (goal ≤ trn (A + (i : Int)))
theorem wait_mono (A goal : Int) (a b : Nat) (h : a ≤ b) (hb : b < 86400000) (ha : decide (goal ≤ trn (A + (a : Int))) = true) : decide (goal ≤ trn (A + (b : Int))) = true := by
  rw [decide_eq_true_eq] at *
  have := trn_mono (show A + (a : Int) ≤ A + (b : Int) by omega)
  omega
theorem wait_iff (A goal : Int) (i : Nat) (hi : i < 86400000) : goal ≤ trn (A + (i : Int)) ↔ waitN A goal ≤ i := by
  have h := cnt_iff 86400000 (fun i => decide (goal ≤ trn (A + (i : Int)))) (wait_mono A goal) i hi
  rw [decide_eq_true_eq] at h
  exact h
theorem wait_le (A goal : Int) : waitN A goal ≤ 86400000 := cnt_le _ _
def nxtV (d m lon ang : Int) : Value :=
  if okM d m = true then (if inR 0 359999 [lon] = true then (if inR 0 359999 [ang] = true then momV (d * 86400000 + m + (waitN (d * 86400000 + m) (goalN d m lon ang) : Nat)) else .tuple #[.agg #[.int .i64 0, .int .i64 0], .int .i64 2]) else .tuple #[.agg #[.int .i64 0, .int .i64 0], .int .i64 2]) else .tuple #[.agg #[.int .i64 0, .int .i64 0], .int .i64 1]
theorem nxtV_form (d m lon ang : Int) : ∃ p q r : Int, nxtV d m lon ang = .tuple #[.agg #[.int .i64 p, .int .i64 q], .int .i64 r] := by
  unfold nxtV
  split
  · split
    · split
      · exact momV_form _
      · exact ⟨_, _, _, rfl⟩
    · exact ⟨_, _, _, rfl⟩
  · exact ⟨_, _, _, rfl⟩
theorem sidI_bd (d m lon : Int) : 0 ≤ sidI d m lon ∧ sidI d m lon < 360000 := by unfold sidI; exact nrm_bd _

theorem quiet_leftN {P : Program} {f : FuncId} {args : Array Value} {w : World} {n : Nat} {v : Value}
    (h : Calls P f args (w.drewN n) fun e w' => e = .returned v ∧ w.drewN n = w') : Calls P f args (w.drewN n) fun e w'' => e = .returned v ∧ ∃ m, w'' = w.drewN m :=
  h.mono fun _ _ ⟨he, hm⟩ => ⟨he, n, hm.symm⟩
theorem bel_drewNN {B : Nat} {a w : World} (h : Below B a w) (n : Nat) : Below B a (w.drewN n) := ⟨h.os, h.tape, h.output, h.size, h.block⟩

set_option maxHeartbeats 1000000 in
theorem nxt_in (b0 b1 i : Nat) (A goal : Int) (hi : i < 86400000) (A0 : 0 ≤ A) (A1 : A < 8640000000000) (w : World)
    (h0 : w.cell? ⟨b0, 0, none⟩ = some (.int .i64 A)) (h1 : w.cell? ⟨b1, 0, none⟩ = some (.int .i64 goal)) :
    Calls Tryd.prog 22 (#[.int .i64 (i : Int)] ++ #[.pointer (some ⟨b0, 0, none⟩), .pointer (some ⟨b1, 0, none⟩)]) w fun e w' => e = .returned (.bool (decide (goal ≤ trn (A + (i : Int))))) ∧ Below w.heap.size w w' := by
  have T := Lib.hid (fun w => turned_any (A + (i : Int)) (by omega) (by omega) w)
  have m1 : IntKind.i64.wrap (A + (i : Int)) = A + (i : Int) := IntWalk.i64_in _ (by omega)
  generalize trn (A + (i : Int)) = z at *
  go_enter Tryd.func22, Tryd.ntmps22
  go_wp2_with fail
  go_quiet ((go_at_call 19; exact quiet_leftN (T.out _)))
  rename Nat => q1
  clear h0 h1
  go_wp2_with fail
  go_ret
  exact ⟨rfl, bel_drewNN (Below.refl _ _) _⟩

set_option maxHeartbeats 2000000 in
theorem implNxt_any (d m lon ang : Int) (w : World) :
    Calls Tryd.prog 8 #[.agg #[.int .i64 d, .int .i64 m], .int .i64 lon, .int .i64 ang] w fun e w' => e = .returned (nxtV d m lon ang) ∧ Below w.heap.size w w' := by
  unfold nxtV
  have S := Lib.hid (fun w => implSid_any d m lon w)
  cases ho : okM d m with
  | false =>
    rw [if_neg (by simp)]
    have hs : sidV d m lon = .tuple #[.int .i64 0, .int .i64 1] := by unfold sidV; rw [ho]; rfl
    rw [hs] at S
    clear ho hs
    go_enter Tryd.func8, Tryd.ntmps8
    go_wp2_with fail
    refine (S.out _).mono ?_
    rintro e w1 ⟨rfl, hb⟩
    have hsw1 := hb.size
    try simp at hsw1
    obtain ⟨hcw1, hfw1⟩ := bcell hb
    have HBw1 : Hid (Below w.heap.size w w1) := by
      apply Lib.hid
      refine Below.trans ?_ (hb.mono ?_)
      · repeat (first | exact Below.refl _ _ | refine Below.setCell ?_ (by first | (simp; done) | omega | (simp; omega)) _ | refine Below.alloc ?_ (by first | (simp; done) | omega | (simp; omega)) _)
      · first | (simp; done) | omega | (simp; omega)
    have hzw1 : w.heap.size + 1 < w1.heap.size := by have := hb.size; (try simp at this); omega
    have hyw1 : w.heap.size < w1.heap.size := by have := hb.size; (try simp at this); omega
    clear hb
    go_wp2_with fail
    refine bodyPost_ret (v := .tuple #[.agg #[.int .i64 0, .int .i64 0], .int .i64 1]) (by first | (simp [results, Tryd.results8, go_sem]; done) | (simp [results, Tryd.results8, go_sem, hcw1, hfw1, hzw1, hyw1]; done)) rfl ⟨rfl, ?_⟩
    repeat (first | exact Below.refl _ _ | exact HBw1.out | refine Below.setCell ?_ (by first | (simp; done) | omega | (simp; omega)) _ | refine Below.alloc ?_ (by first | (simp; done) | omega | (simp; omega)) _ | refine bel_drew ?_)
  | true =>
    rw [if_pos rfl]
    obtain ⟨⟨d0, d1⟩, m0, m1⟩ := okM_bd d m ho
    cases hl : inR 0 359999 [lon] with
    | false =>
      rw [if_neg (by simp)]
      have hs : sidV d m lon = .tuple #[.int .i64 0, .int .i64 2] := by unfold sidV; rw [ho, hl]; rfl
      rw [hs] at S
      clear ho hs hl
      go_enter Tryd.func8, Tryd.ntmps8
      go_wp2_with fail
      refine (S.out _).mono ?_
      rintro e w1 ⟨rfl, hb⟩
      have hsw1 := hb.size
      try simp at hsw1
      obtain ⟨hcw1, hfw1⟩ := bcell hb
      have HBw1 : Hid (Below w.heap.size w w1) := by
        apply Lib.hid
        refine Below.trans ?_ (hb.mono ?_)
        · repeat (first | exact Below.refl _ _ | refine Below.setCell ?_ (by first | (simp; done) | omega | (simp; omega)) _ | refine Below.alloc ?_ (by first | (simp; done) | omega | (simp; omega)) _)
        · first | (simp; done) | omega | (simp; omega)
      have hzw1 : w.heap.size + 1 < w1.heap.size := by have := hb.size; (try simp at this); omega
      have hyw1 : w.heap.size < w1.heap.size := by have := hb.size; (try simp at this); omega
      clear hb
      go_wp2_with fail
      refine bodyPost_ret (v := .tuple #[.agg #[.int .i64 0, .int .i64 0], .int .i64 2]) (by first | (simp [results, Tryd.results8, go_sem]; done) | (simp [results, Tryd.results8, go_sem, hcw1, hfw1, hzw1, hyw1]; done)) rfl ⟨rfl, ?_⟩
      repeat (first | exact Below.refl _ _ | exact HBw1.out | refine Below.setCell ?_ (by first | (simp; done) | omega | (simp; omega)) _ | refine Below.alloc ?_ (by first | (simp; done) | omega | (simp; omega)) _ | refine bel_drew ?_)
    | true =>
      rw [if_pos rfl]
      have hs : sidV d m lon = .tuple #[.int .i64 (sidI d m lon), .int .i64 0] := by unfold sidV; rw [ho, hl]; rfl
      rw [hs] at S
      clear ho hs hl
      cases ha : inR 0 359999 [ang] with
      | false =>
        rw [if_neg (by simp)]
        have HA := Lib.hid ha
        clear ha
        generalize sidI d m lon = now at *
        go_enter Tryd.func8, Tryd.ntmps8
        go_wp2_with fail
        refine (S.out _).mono ?_
        rintro e w1 ⟨rfl, hb⟩
        have hsw1 := hb.size
        try simp at hsw1
        obtain ⟨hcw1, hfw1⟩ := bcell hb
        have HBw1 : Hid (Below w.heap.size w w1) := by
          apply Lib.hid
          refine Below.trans ?_ (hb.mono ?_)
          · repeat (first | exact Below.refl _ _ | refine Below.setCell ?_ (by first | (simp; done) | omega | (simp; omega)) _ | refine Below.alloc ?_ (by first | (simp; done) | omega | (simp; omega)) _)
          · first | (simp; done) | omega | (simp; omega)
        have hzw1 : w.heap.size + 1 < w1.heap.size := by have := hb.size; (try simp at this); omega
        have hyw1 : w.heap.size < w1.heap.size := by have := hb.size; (try simp at this); omega
        clear hb
        go_wp2_with fail
        refine (within1 _ _ ang _ _ _ (by simp)).mono ?_
        rintro e w' ⟨rfl, rfl⟩
        rw [HA.out]
        go_wp2_with fail
        refine bodyPost_ret (v := .tuple #[.agg #[.int .i64 0, .int .i64 0], .int .i64 2]) (by first | (simp [results, Tryd.results8, go_sem]; done) | (simp [results, Tryd.results8, go_sem, hcw1, hfw1, hzw1, hyw1]; done)) rfl ⟨rfl, ?_⟩
        repeat (first | exact Below.refl _ _ | exact HBw1.out | refine Below.setCell ?_ (by first | (simp; done) | omega | (simp; omega)) _ | refine Below.alloc ?_ (by first | (simp; done) | omega | (simp; omega)) _ | refine bel_drew ?_)
      | true =>
        rw [if_pos rfl]
        obtain ⟨a0, a1⟩ := (inR_1 _ _ _).1 ha
        have HA := Lib.hid ha
        clear ha
        have hsb := sidI_bd d m lon
        have hgd : goalN d m lon ang = trn (d * 86400000 + m) + nrm (ang - sidI d m lon) := rfl
        generalize sidI d m lon = now at *
        obtain ⟨A, hA⟩ : ∃ A, A = d * 86400000 + m := ⟨_, rfl⟩
        have A0 : 0 ≤ A := by omega
        have A1 : A < 8640000000000 := by omega
        have ML := Lib.hid (fun w => millis_any d m d0 d1 m0 m1 w)
        rw [← hA] at ML hgd ⊢
        have T := Lib.hid (fun w => turned_any A (by omega) (by omega) w)
        have NR := Lib.hid (fun w => implNrm_any (ang - now) w (by omega) (by omega))
        have tb := trn_bd A (by omega) (by omega)
        have nb := nrm_bd (ang - now)
        have mw : IntKind.i64.wrap (trn A + nrm (ang - now)) = trn A + nrm (ang - now) := IntWalk.i64_in _ (by omega)
        generalize goalN d m lon ang = goal at *
        have hle := wait_le A goal
        have SE := Lib.hid (fun (W0 : World) (b0 b1 : Nat) (c0 : W0.cell? ⟨b0, 0, none⟩ = some (.int .i64 A)) (c1 : W0.cell? ⟨b1, 0, none⟩ = some (.int .i64 goal)) =>
          search_any 22 #[.pointer (some ⟨b0, 0, none⟩), .pointer (some ⟨b1, 0, none⟩)] 86400000 (fun i => decide (goal ≤ trn (A + (i : Int)))) W0
            (enters_of Tryd.func22 (by kernel_rfl) rfl) (by omega)
            (fun W i hb hi => nxt_in b0 b1 i A goal hi A0 A1 W ((hb.cell (p := ⟨b0, 0, none⟩) (World.block_lt_of_cell? W0 ⟨b0, 0, none⟩ c0)).trans c0) ((hb.cell (p := ⟨b1, 0, none⟩) (World.block_lt_of_cell? W0 ⟨b1, 0, none⟩ c1)).trans c1))
            (wait_mono A goal))
        change Hid (∀ (W0 : World) (b0 b1 : Nat), _ → _ → Calls Tryd.prog _ _ W0 (fun e w' => e = .returned (.int .i64 ((waitN A goal : Nat) : Int)) ∧ _)) at SE
        obtain ⟨p, q, r, hv⟩ := momV_form (A + (waitN A goal : Nat))
        have MO := Lib.hid (fun w => momentOf_any (A + (waitN A goal : Nat)) w)
        rw [hv] at MO ⊢
        clear hv hA
        generalize waitN A goal = wt at *
        have mo : IntKind.i64.wrap (A + (wt : Int)) = A + (wt : Int) := IntWalk.i64_in _ (by omega)
        generalize trn A = tA at *
        generalize nrm (ang - now) = nA at *
        have HG := Lib.hid hgd
        clear hgd
        go_enter Tryd.func8, Tryd.ntmps8
        go_wp2_with fail
        refine (S.out _).mono ?_
        rintro e w1 ⟨rfl, hb⟩
        have hsw1 := hb.size
        try simp at hsw1
        obtain ⟨hcw1, hfw1⟩ := bcell hb
        have HBw1 : Hid (Below w.heap.size w w1) := by
          apply Lib.hid
          refine Below.trans ?_ (hb.mono ?_)
          · repeat (first | exact Below.refl _ _ | refine Below.setCell ?_ (by first | (simp; done) | omega | (simp; omega)) _ | refine Below.alloc ?_ (by first | (simp; done) | omega | (simp; omega)) _)
          · first | (simp; done) | omega | (simp; omega)
        have hzw1 : w.heap.size + 1 < w1.heap.size := by have := hb.size; (try simp at this); omega
        have hyw1 : w.heap.size < w1.heap.size := by have := hb.size; (try simp at this); omega
        clear hb
        go_wp2_with fail
        refine (within1 _ _ ang _ _ _ (by simp)).mono ?_
        rintro e w' ⟨rfl, rfl⟩
        rw [HA.out]
        go_wp2_with fail
        refine (ML.out _).mono ?_
        rintro e w2 ⟨rfl, hb⟩
        have hsw2 := hb.size
        try simp at hsw2
        obtain ⟨hcw2, hfw2⟩ := bcell hb
        have HBw2 : Hid (Below w.heap.size w w2) := by
          apply Lib.hid
          refine Below.trans ?_ (hb.mono ?_)
          · repeat (first | exact Below.refl _ _ | exact HBw1.out | refine Below.setCell ?_ (by first | (simp; done) | omega | (simp; omega)) _ | refine Below.alloc ?_ (by first | (simp; done) | omega | (simp; omega)) _)
          · first | (simp; done) | omega | (simp; omega)
        have hzw2 : w.heap.size + 1 < w2.heap.size := by have := hb.size; (try simp at this); omega
        have hyw2 : w.heap.size < w2.heap.size := by have := hb.size; (try simp at this); omega
        clear hb
        first | (have gsw2w1 : w1.heap.size < w2.heap.size := by omega) | skip
        go_wp2_with fail
        refine (T.out _).mono ?_
        rintro e w' ⟨rfl, rfl⟩
        go_wp2_with fail
        refine (NR.out _).mono ?_
        rintro e w' ⟨rfl, rfl⟩
        go_wp2_with fail
        rw [← HG.out]
        refine (SE.out _ _ _ (by simp) (by simp)).mono ?_
        rintro e w3 ⟨rfl, hb⟩
        have hs3 := hb.size
        simp at hs3
        obtain ⟨hcw3, hfw3⟩ := bcell (W := w2) ((((Below.refl _ w2).alloc (Nat.le_refl _) _).alloc (by simp) _).trans (hb.mono (by first | (simp; done) | (simp; omega))))
        have c3A : w3.cell? ⟨w2.heap.size, 0, none⟩ = some (.int .i64 A) := (hb.cell (p := ⟨w2.heap.size, 0, none⟩) (by first | (simp; done) | (simp; omega))).trans (by simp)
        have HBw3 : Hid (Below w.heap.size w w3) := by
          apply Lib.hid
          refine Below.trans ?_ (hb.mono ?_)
          rotate_left
          · first | (simp; done) | omega | (simp; omega)
          repeat (first | exact Below.refl _ _ | exact HBw2.out | refine Below.setCell ?_ (by first | (simp; done) | omega | (simp; omega)) _ | refine Below.alloc ?_ (by first | (simp; done) | omega | (simp; omega)) _ | refine bel_drew ?_)
        have hzw3 : w.heap.size + 1 < w3.heap.size := by omega
        have hyw3 : w.heap.size < w3.heap.size := by omega
        have hxw3 : w2.heap.size < w3.heap.size := by omega
        clear hb
        go_wp2_with fail
        refine (MO.out _).mono ?_
        rintro e w4 ⟨rfl, hb⟩
        have hsw4 := hb.size
        try simp at hsw4
        obtain ⟨hcw4, hfw4⟩ := bcell hb
        have HBw4 : Hid (Below w.heap.size w w4) := by
          apply Lib.hid
          refine Below.trans ?_ (hb.mono ?_)
          · repeat (first | exact Below.refl _ _ | exact HBw3.out | refine Below.setCell ?_ (by first | (simp; done) | omega | (simp; omega)) _ | refine Below.alloc ?_ (by first | (simp; done) | omega | (simp; omega)) _)
          · first | (simp; done) | omega | (simp; omega)
        have hzw4 : w.heap.size + 1 < w4.heap.size := by have := hb.size; (try simp at this); omega
        have hyw4 : w.heap.size < w4.heap.size := by have := hb.size; (try simp at this); omega
        clear hb
        first | (have gsw4w3 : w3.heap.size < w4.heap.size := by omega) | skip
        go_wp2_with fail
        refine bodyPost_ret (v := .tuple #[.agg #[.int .i64 p, .int .i64 q], .int .i64 r]) (by first | (simp [results, Tryd.results8, go_sem]; done) | (simp [results, Tryd.results8, go_sem, hcw1, hfw1, hzw1, hyw1, hcw2, hfw2, hzw2, hyw2, hcw3, hfw3, hzw3, hyw3, hcw4, hfw4, hzw4, hyw4]; done)) rfl ⟨rfl, ?_⟩
        repeat (first | exact Below.refl _ _ | exact HBw4.out | refine Below.setCell ?_ (by first | (simp; done) | omega | (simp; omega)) _ | refine Below.alloc ?_ (by first | (simp; done) | omega | (simp; omega)) _ | refine bel_drew ?_)

theorem keepX {w W W' : World} {d m : Int} (h : W.cell? ⟨w.heap.size, 0, none⟩ = some (.int .i64 d) ∧ W.cell? ⟨w.heap.size, 1, none⟩ = some (.int .i64 m) ∧ W.cell? ⟨w.heap.size + 1, 0, none⟩ = some (.int .i64 0) ∧ W.cell? ⟨w.heap.size + 1, 1, none⟩ = some (.int .i64 0) ∧ W.frozen? ⟨w.heap.size + 1, 0, none⟩ = false ∧ W.frozen? ⟨w.heap.size + 1, 1, none⟩ = false ∧ w.heap.size + 1 < W.heap.size ∧ Below w.heap.size w W) (hb : Below W.heap.size W W') :
    W'.cell? ⟨w.heap.size, 0, none⟩ = some (.int .i64 d) ∧ W'.cell? ⟨w.heap.size, 1, none⟩ = some (.int .i64 m) ∧ W'.cell? ⟨w.heap.size + 1, 0, none⟩ = some (.int .i64 0) ∧ W'.cell? ⟨w.heap.size + 1, 1, none⟩ = some (.int .i64 0) ∧ W'.frozen? ⟨w.heap.size + 1, 0, none⟩ = false ∧ W'.frozen? ⟨w.heap.size + 1, 1, none⟩ = false ∧ w.heap.size + 1 < W'.heap.size ∧ Below w.heap.size w W' := by
  obtain ⟨h0, h1, h2, h3, h4, h5, h6, h7⟩ := h
  obtain ⟨k1, k2⟩ := bcell hb
  have hs := hb.size
  exact ⟨(k1 _ _ (by omega)).trans h0, (k1 _ _ (by omega)).trans h1, (k1 _ _ (by omega)).trans h2, (k1 _ _ (by omega)).trans h3, (k2 _ _ (by omega)).trans h4, (k2 _ _ (by omega)).trans h5, by omega, h7.trans (hb.mono h7.size)⟩
def NxtS (w W : World) (d m : Int) : Prop := W.cell? ⟨w.heap.size, 0, none⟩ = some (.int .i64 d) ∧ W.cell? ⟨w.heap.size, 1, none⟩ = some (.int .i64 m) ∧ W.cell? ⟨w.heap.size + 1, 0, none⟩ = some (.int .i64 0) ∧ W.cell? ⟨w.heap.size + 1, 1, none⟩ = some (.int .i64 0) ∧ W.frozen? ⟨w.heap.size + 1, 0, none⟩ = false ∧ W.frozen? ⟨w.heap.size + 1, 1, none⟩ = false ∧ w.heap.size + 1 < W.heap.size ∧ Below w.heap.size w W
theorem undrewX {W u : World} (h : Below W.drew.heap.size W.drew u) : Below W.heap.size W u := ⟨h.os, h.tape, h.output, h.size, h.block⟩
theorem drewX (W : World) : Below W.heap.size W W.drew := ⟨rfl, rfl, rfl, Nat.le_refl _, fun _ _ => rfl⟩

end Go.Proofs.YtcehiagpknmmeaaDoor
