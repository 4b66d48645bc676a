/-
  The next moment at which the sky has an angle: the contracts of NextSidereal (both packages) and of the search's closure (package impl).
-/
import Derived.Test.YtnadgldgdmppkaaMomB
import Derived.Test.YtnadgldgdmppkaaSky
import Derived.Test.YtnadgldgdmppkaaSrch
import Derived.Deep.RegionHeld3
import Derived.Deep.QuietTactic
import Derived.BigQuiet
namespace Go.Proofs.Ytnadgldgdmppkaa
open Go.RowKit
set_option linter.unusedVariables false

def goalN (d m lon ang : Int) : Int := trn (d * 86400000 + m) + nrm (ang - sidI d m lon)
def waitN (A goal : Int) : Nat := cnt 86400000 fun i => decide (goal ≤ trn (A + (i : Int)))
theorem wait_mono (A goal : Int) (a b : Nat) (h : a ≤ b) (hb : b < 86400000) (ha : decide (goal ≤ trn (A + (a : Int))) = true) : decide (goal ≤ trn (A + (b : Int))) = true := by
  rw [decide_eq_true_eq] at *
  have := trn_mono (show A + (a : Int) ≤ A + (b : Int) by omega)
  omega
theorem wait_iff (A goal : Int) (i : Nat) (hi : i < 86400000) : goal ≤ trn (A + (i : Int)) ↔ waitN A goal ≤ i := by
  have h := cnt_iff 86400000 (fun i => decide (goal ≤ trn (A + (i : Int)))) (wait_mono A goal) i hi
  rw [decide_eq_true_eq] at h
  exact h
theorem wait_le (A goal : Int) : waitN A goal ≤ 86400000 := cnt_le _ _
def nxtV (d m lon ang : Int) : Value :=
  if okM d m = true then (if inR 0 359999 [lon] = true then (if inR 0 359999 [ang] = true then momV (d * 86400000 + m + (waitN (d * 86400000 + m) (goalN d m lon ang) : Nat)) else .tuple #[.agg #[.int .i64 0, .int .i64 0], .int .i64 2]) else .tuple #[.agg #[.int .i64 0, .int .i64 0], .int .i64 2]) else .tuple #[.agg #[.int .i64 0, .int .i64 0], .int .i64 1]
theorem nxtV_form (d m lon ang : Int) : ∃ p q r : Int, nxtV d m lon ang = .tuple #[.agg #[.int .i64 p, .int .i64 q], .int .i64 r] := by
  unfold nxtV
  split
  · split
    · split
      · exact momV_form _
      · exact ⟨_, _, _, rfl⟩
    · exact ⟨_, _, _, rfl⟩
  · exact ⟨_, _, _, rfl⟩
theorem sidI_bd (d m lon : Int) : 0 ≤ sidI d m lon ∧ sidI d m lon < 360000 := by unfold sidI; exact nrm_bd _

theorem quiet_leftN {P : Program} {f : FuncId} {args : Array Value} {w : World} {n : Nat} {v : Value}
    (h : Calls P f args (w.drewN n) fun e w' => e = .returned v ∧ w.drewN n = w') : Calls P f args (w.drewN n) fun e w'' => e = .returned v ∧ ∃ m, w'' = w.drewN m :=
  h.mono fun _ _ ⟨he, hm⟩ => ⟨he, n, hm.symm⟩
theorem bel_drewNN {B : Nat} {a w : World} (h : Below B a w) (n : Nat) : Below B a (w.drewN n) := ⟨h.os, h.tape, h.output, h.size, h.block⟩

set_option maxHeartbeats 1000000 in
theorem nxt_in (b0 b1 i : Nat) (A goal : Int) (hi : i < 86400000) (A0 : 0 ≤ A) (A1 : A < 8640000000000) (w : World)
    (h0 : w.cell? ⟨b0, 0, none⟩ = some (.int .i64 A)) (h1 : w.cell? ⟨b1, 0, none⟩ = some (.int .i64 goal)) :
    Calls Try.prog 31 (#[.int .i64 (i : Int)] ++ #[.pointer (some ⟨b0, 0, none⟩), .pointer (some ⟨b1, 0, none⟩)]) w fun e w' => e = .returned (.bool (decide (goal ≤ trn (A + (i : Int))))) ∧ Below w.heap.size w w' := by
  have T := Lib.hid (fun w => turned_any (A + (i : Int)) (by omega) (by omega) w)
  have m1 : IntKind.i64.wrap (A + (i : Int)) = A + (i : Int) := IntWalk.i64_in _ (by omega)
  generalize trn (A + (i : Int)) = z at *
  go_enter Try.func31, Try.ntmps31
  go_wp2_with fail
  go_quiet ((go_at_call 28; exact quiet_leftN (T.out _)))
  rename Nat => q1
  clear h0 h1
  go_wp2_with fail
  go_ret
  exact ⟨rfl, bel_drewNN (Below.refl _ _) _⟩

set_option maxHeartbeats 2000000 in
theorem implNxt_any (d m lon ang : Int) (w : World) :
    Calls Try.prog 7 #[.agg #[.int .i64 d, .int .i64 m], .int .i64 lon, .int .i64 ang] w fun e w' => e = .returned (nxtV d m lon ang) ∧ Below w.heap.size w w' := by
  unfold nxtV
  have S := Lib.hid (fun w => implSid_any d m lon w)
  cases ho : okM d m with
  | false =>
    rw [if_neg (by simp)]
    have hs : sidV d m lon = .tuple #[.int .i64 0, .int .i64 1] := by unfold sidV; rw [ho]; rfl
    rw [hs] at S
    clear ho hs
    go_enter Try.func7, Try.ntmps7
    go_wp2_with fail
    refine (S.out _).mono ?_
    rintro e w1 ⟨rfl, hb⟩
    have hsw1 := hb.size
    try simp at hsw1
    obtain ⟨hcw1, hfw1⟩ := bcell hb
    have HBw1 : Hid (Below w.heap.size w w1) := by
      apply Lib.hid
      refine Below.trans ?_ (hb.mono ?_)
      · repeat (first | exact Below.refl _ _ | refine Below.setCell ?_ (by first | (simp; done) | omega | (simp; omega)) _ | refine Below.alloc ?_ (by first | (simp; done) | omega | (simp; omega)) _)
      · first | (simp; done) | omega | (simp; omega)
    have hzw1 : w.heap.size + 1 < w1.heap.size := by have := hb.size; (try simp at this); omega
    have hyw1 : w.heap.size < w1.heap.size := by have := hb.size; (try simp at this); omega
    clear hb
    go_wp2_with fail
    refine bodyPost_ret (v := .tuple #[.agg #[.int .i64 0, .int .i64 0], .int .i64 1]) (by first | (simp [results, Try.results7, go_sem]; done) | (simp [results, Try.results7, go_sem, hcw1, hfw1, hzw1, hyw1]; done)) rfl ⟨rfl, ?_⟩
    repeat (first | exact Below.refl _ _ | exact HBw1.out | refine Below.setCell ?_ (by first | (simp; done) | omega | (simp; omega)) _ | refine Below.alloc ?_ (by first | (simp; done) | omega | (simp; omega)) _ | refine bel_drew ?_)
  | true =>
    rw [if_pos rfl]
    obtain ⟨⟨d0, d1⟩, m0, m1⟩ := okM_bd d m ho
    cases hl : inR 0 359999 [lon] with
    | false =>
      rw [if_neg (by simp)]
      have hs : sidV d m lon = .tuple #[.int .i64 0, .int .i64 2] := by unfold sidV; rw [ho, hl]; rfl
      rw [hs] at S
      clear ho hs hl
      go_enter Try.func7, Try.ntmps7
      go_wp2_with fail
      refine (S.out _).mono ?_
      rintro e w1 ⟨rfl, hb⟩
      have hsw1 := hb.size
      try simp at hsw1
      obtain ⟨hcw1, hfw1⟩ := bcell hb
      have HBw1 : Hid (Below w.heap.size w w1) := by
        apply Lib.hid
        refine Below.trans ?_ (hb.mono ?_)
        · repeat (first | exact Below.refl _ _ | refine Below.setCell ?_ (by first | (simp; done) | omega | (simp; omega)) _ | refine Below.alloc ?_ (by first | (simp; done) | omega | (simp; omega)) _)
        · first | (simp; done) | omega | (simp; omega)
      have hzw1 : w.heap.size + 1 < w1.heap.size := by have := hb.size; (try simp at this); omega
      have hyw1 : w.heap.size < w1.heap.size := by have := hb.size; (try simp at this); omega
      clear hb
      go_wp2_with fail
      refine bodyPost_ret (v := .tuple #[.agg #[.int .i64 0, .int .i64 0], .int .i64 2]) (by first | (simp [results, Try.results7, go_sem]; done) | (simp [results, Try.results7, go_sem, hcw1, hfw1, hzw1, hyw1]; done)) rfl ⟨rfl, ?_⟩
      repeat (first | exact Below.refl _ _ | exact HBw1.out | refine Below.setCell ?_ (by first | (simp; done) | omega | (simp; omega)) _ | refine Below.alloc ?_ (by first | (simp; done) | omega | (simp; omega)) _ | refine bel_drew ?_)
    | true =>
      rw [if_pos rfl]
      have hs : sidV d m lon = .tuple #[.int .i64 (sidI d m lon), .int .i64 0] := by unfold sidV; rw [ho, hl]; rfl
      rw [hs] at S
      clear ho hs hl
      cases ha : inR 0 359999 [ang] with
      | false =>
        rw [if_neg (by simp)]
        have HA := Lib.hid ha
        clear ha
        generalize sidI d m lon = now at *
        go_enter Try.func7, Try.ntmps7
        go_wp2_with fail
        refine (S.out _).mono ?_
        rintro e w1 ⟨rfl, hb⟩
        have hsw1 := hb.size
        try simp at hsw1
        obtain ⟨hcw1, hfw1⟩ := bcell hb
        have HBw1 : Hid (Below w.heap.size w w1) := by
          apply Lib.hid
          refine Below.trans ?_ (hb.mono ?_)
          · repeat (first | exact Below.refl _ _ | refine Below.setCell ?_ (by first | (simp; done) | omega | (simp; omega)) _ | refine Below.alloc ?_ (by first | (simp; done) | omega | (simp; omega)) _)
          · first | (simp; done) | omega | (simp; omega)
        have hzw1 : w.heap.size + 1 < w1.heap.size := by have := hb.size; (try simp at this); omega
        have hyw1 : w.heap.size < w1.heap.size := by have := hb.size; (try simp at this); omega
        clear hb
        go_wp2_with fail
        refine (within1 _ _ ang _ _ _ (by simp)).mono ?_
        rintro e w' ⟨rfl, rfl⟩
        rw [HA.out]
        go_wp2_with fail
        refine bodyPost_ret (v := .tuple #[.agg #[.int .i64 0, .int .i64 0], .int .i64 2]) (by first | (simp [results, Try.results7, go_sem]; done) | (simp [results, Try.results7, go_sem, hcw1, hfw1, hzw1, hyw1]; done)) rfl ⟨rfl, ?_⟩
        repeat (first | exact Below.refl _ _ | exact HBw1.out | refine Below.setCell ?_ (by first | (simp; done) | omega | (simp; omega)) _ | refine Below.alloc ?_ (by first | (simp; done) | omega | (simp; omega)) _ | refine bel_drew ?_)
      | true =>
        rw [if_pos rfl]
        obtain ⟨a0, a1⟩ := (inR_1 _ _ _).1 ha
        have HA := Lib.hid ha
        clear ha
        have hsb := sidI_bd d m lon
        have hgd : goalN d m lon ang = trn (d * 86400000 + m) + nrm (ang - sidI d m lon) := rfl
        generalize sidI d m lon = now at *
        obtain ⟨A, hA⟩ : ∃ A, A = d * 86400000 + m := ⟨_, rfl⟩
        have A0 : 0 ≤ A := by omega
        have A1 : A < 8640000000000 := by omega
        have ML := Lib.hid (fun w => millis_any d m d0 d1 m0 m1 w)
        rw [← hA] at ML hgd ⊢
        have T := Lib.hid (fun w => turned_any A (by omega) (by omega) w)
        have NR := Lib.hid (fun w => implNrm_any (ang - now) w (by omega) (by omega))
        have tb := trn_bd A (by omega) (by omega)
        have nb := nrm_bd (ang - now)
        have mw : IntKind.i64.wrap (trn A + nrm (ang - now)) = trn A + nrm (ang - now) := IntWalk.i64_in _ (by omega)
        generalize goalN d m lon ang = goal at *
        have hle := wait_le A goal
        have SE := Lib.hid (fun (W0 : World) (b0 b1 : Nat) (c0 : W0.cell? ⟨b0, 0, none⟩ = some (.int .i64 A)) (c1 : W0.cell? ⟨b1, 0, none⟩ = some (.int .i64 goal)) =>
          search_any 31 #[.pointer (some ⟨b0, 0, none⟩), .pointer (some ⟨b1, 0, none⟩)] 86400000 (fun i => decide (goal ≤ trn (A + (i : Int)))) W0
            (enters_of Try.func31 (by kernel_rfl) rfl) (by omega)
            (fun W i hb hi => nxt_in b0 b1 i A goal hi A0 A1 W ((hb.cell (p := ⟨b0, 0, none⟩) (World.block_lt_of_cell? W0 ⟨b0, 0, none⟩ c0)).trans c0) ((hb.cell (p := ⟨b1, 0, none⟩) (World.block_lt_of_cell? W0 ⟨b1, 0, none⟩ c1)).trans c1))
            (wait_mono A goal))
        change Hid (∀ (W0 : World) (b0 b1 : Nat), _ → _ → Calls Try.prog _ _ W0 (fun e w' => e = .returned (.int .i64 ((waitN A goal : Nat) : Int)) ∧ _)) at SE
        obtain ⟨p, q, r, hv⟩ := momV_form (A + (waitN A goal : Nat))
        have MO := Lib.hid (fun w => momentOf_any (A + (waitN A goal : Nat)) w)
        rw [hv] at MO ⊢
        clear hv hA
        generalize waitN A goal = wt at *
        have mo : IntKind.i64.wrap (A + (wt : Int)) = A + (wt : Int) := IntWalk.i64_in _ (by omega)
        generalize trn A = tA at *
        generalize nrm (ang - now) = nA at *
        have HG := Lib.hid hgd
        clear hgd
        go_enter Try.func7, Try.ntmps7
        go_wp2_with fail
        refine (S.out _).mono ?_
        rintro e w1 ⟨rfl, hb⟩
        have hsw1 := hb.size
        try simp at hsw1
        obtain ⟨hcw1, hfw1⟩ := bcell hb
        have HBw1 : Hid (Below w.heap.size w w1) := by
          apply Lib.hid
          refine Below.trans ?_ (hb.mono ?_)
          · repeat (first | exact Below.refl _ _ | refine Below.setCell ?_ (by first | (simp; done) | omega | (simp; omega)) _ | refine Below.alloc ?_ (by first | (simp; done) | omega | (simp; omega)) _)
          · first | (simp; done) | omega | (simp; omega)
        have hzw1 : w.heap.size + 1 < w1.heap.size := by have := hb.size; (try simp at this); omega
        have hyw1 : w.heap.size < w1.heap.size := by have := hb.size; (try simp at this); omega
        clear hb
        go_wp2_with fail
        refine (within1 _ _ ang _ _ _ (by simp)).mono ?_
        rintro e w' ⟨rfl, rfl⟩
        rw [HA.out]
        go_wp2_with fail
        refine (ML.out _).mono ?_
        rintro e w2 ⟨rfl, hb⟩
        have hsw2 := hb.size
        try simp at hsw2
        obtain ⟨hcw2, hfw2⟩ := bcell hb
        have HBw2 : Hid (Below w.heap.size w w2) := by
          apply Lib.hid
          refine Below.trans ?_ (hb.mono ?_)
          · repeat (first | exact Below.refl _ _ | exact HBw1.out | refine Below.setCell ?_ (by first | (simp; done) | omega | (simp; omega)) _ | refine Below.alloc ?_ (by first | (simp; done) | omega | (simp; omega)) _)
          · first | (simp; done) | omega | (simp; omega)
        have hzw2 : w.heap.size + 1 < w2.heap.size := by have := hb.size; (try simp at this); omega
        have hyw2 : w.heap.size < w2.heap.size := by have := hb.size; (try simp at this); omega
        clear hb
        first | (have gsw2w1 : w1.heap.size < w2.heap.size := by omega) | skip
        go_wp2_with fail
        refine (T.out _).mono ?_
        rintro e w' ⟨rfl, rfl⟩
        go_wp2_with fail
        refine (NR.out _).mono ?_
        rintro e w' ⟨rfl, rfl⟩
        go_wp2_with fail
        rw [← HG.out]
        refine (SE.out _ _ _ (by simp) (by simp)).mono ?_
        rintro e w3 ⟨rfl, hb⟩
        have hs3 := hb.size
        simp at hs3
        obtain ⟨hcw3, hfw3⟩ := bcell (W := w2) ((((Below.refl _ w2).alloc (Nat.le_refl _) _).alloc (by simp) _).trans (hb.mono (by first | (simp; done) | (simp; omega))))
        have c3A : w3.cell? ⟨w2.heap.size, 0, none⟩ = some (.int .i64 A) := (hb.cell (p := ⟨w2.heap.size, 0, none⟩) (by first | (simp; done) | (simp; omega))).trans (by simp)
        have HBw3 : Hid (Below w.heap.size w w3) := by
          apply Lib.hid
          refine Below.trans ?_ (hb.mono ?_)
          rotate_left
          · first | (simp; done) | omega | (simp; omega)
          repeat (first | exact Below.refl _ _ | exact HBw2.out | refine Below.setCell ?_ (by first | (simp; done) | omega | (simp; omega)) _ | refine Below.alloc ?_ (by first | (simp; done) | omega | (simp; omega)) _ | refine bel_drew ?_)
        have hzw3 : w.heap.size + 1 < w3.heap.size := by omega
        have hyw3 : w.heap.size < w3.heap.size := by omega
        have hxw3 : w2.heap.size < w3.heap.size := by omega
        clear hb
        go_wp2_with fail
        refine (MO.out _).mono ?_
        rintro e w4 ⟨rfl, hb⟩
        have hsw4 := hb.size
        try simp at hsw4
        obtain ⟨hcw4, hfw4⟩ := bcell hb
        have HBw4 : Hid (Below w.heap.size w w4) := by
          apply Lib.hid
          refine Below.trans ?_ (hb.mono ?_)
          · repeat (first | exact Below.refl _ _ | exact HBw3.out | refine Below.setCell ?_ (by first | (simp; done) | omega | (simp; omega)) _ | refine Below.alloc ?_ (by first | (simp; done) | omega | (simp; omega)) _)
          · first | (simp; done) | omega | (simp; omega)
        have hzw4 : w.heap.size + 1 < w4.heap.size := by have := hb.size; (try simp at this); omega
        have hyw4 : w.heap.size < w4.heap.size := by have := hb.size; (try simp at this); omega
        clear hb
        first | (have gsw4w3 : w3.heap.size < w4.heap.size := by omega) | skip
        go_wp2_with fail
        refine bodyPost_ret (v := .tuple #[.agg #[.int .i64 p, .int .i64 q], .int .i64 r]) (by first | (simp [results, Try.results7, go_sem]; done) | (simp [results, Try.results7, go_sem, hcw1, hfw1, hzw1, hyw1, hcw2, hfw2, hzw2, hyw2, hcw3, hfw3, hzw3, hyw3, hcw4, hfw4, hzw4, hyw4]; done)) rfl ⟨rfl, ?_⟩
        repeat (first | exact Below.refl _ _ | exact HBw4.out | refine Below.setCell ?_ (by first | (simp; done) | omega | (simp; omega)) _ | refine Below.alloc ?_ (by first | (simp; done) | omega | (simp; omega)) _ | refine bel_drew ?_)

theorem keepX {w W W' : World} {d m : Int} (h : W.cell? ⟨w.heap.size, 0, none⟩ = some (.int .i64 d) ∧ W.cell? ⟨w.heap.size, 1, none⟩ = some (.int .i64 m) ∧ W.cell? ⟨w.heap.size + 1, 0, none⟩ = some (.int .i64 0) ∧ W.cell? ⟨w.heap.size + 1, 1, none⟩ = some (.int .i64 0) ∧ W.frozen? ⟨w.heap.size + 1, 0, none⟩ = false ∧ W.frozen? ⟨w.heap.size + 1, 1, none⟩ = false ∧ w.heap.size + 1 < W.heap.size ∧ Below w.heap.size w W) (hb : Below W.heap.size W W') :
    W'.cell? ⟨w.heap.size, 0, none⟩ = some (.int .i64 d) ∧ W'.cell? ⟨w.heap.size, 1, none⟩ = some (.int .i64 m) ∧ W'.cell? ⟨w.heap.size + 1, 0, none⟩ = some (.int .i64 0) ∧ W'.cell? ⟨w.heap.size + 1, 1, none⟩ = some (.int .i64 0) ∧ W'.frozen? ⟨w.heap.size + 1, 0, none⟩ = false ∧ W'.frozen? ⟨w.heap.size + 1, 1, none⟩ = false ∧ w.heap.size + 1 < W'.heap.size ∧ Below w.heap.size w W' := by
  obtain ⟨h0, h1, h2, h3, h4, h5, h6, h7⟩ := h
  obtain ⟨k1, k2⟩ := bcell hb
  have hs := hb.size
  exact ⟨(k1 _ _ (by omega)).trans h0, (k1 _ _ (by omega)).trans h1, (k1 _ _ (by omega)).trans h2, (k1 _ _ (by omega)).trans h3, (k2 _ _ (by omega)).trans h4, (k2 _ _ (by omega)).trans h5, by omega, h7.trans (hb.mono h7.size)⟩
def NxtS (w W : World) (d m : Int) : Prop := W.cell? ⟨w.heap.size, 0, none⟩ = some (.int .i64 d) ∧ W.cell? ⟨w.heap.size, 1, none⟩ = some (.int .i64 m) ∧ W.cell? ⟨w.heap.size + 1, 0, none⟩ = some (.int .i64 0) ∧ W.cell? ⟨w.heap.size + 1, 1, none⟩ = some (.int .i64 0) ∧ W.frozen? ⟨w.heap.size + 1, 0, none⟩ = false ∧ W.frozen? ⟨w.heap.size + 1, 1, none⟩ = false ∧ w.heap.size + 1 < W.heap.size ∧ Below w.heap.size w W
theorem undrewX {W u : World} (h : Below W.drew.heap.size W.drew u) : Below W.heap.size W u := ⟨h.os, h.tape, h.output, h.size, h.block⟩
theorem drewX (W : World) : Below W.heap.size W W.drew := ⟨rfl, rfl, rfl, Nat.le_refl _, fun _ _ => rfl⟩

set_option maxRecDepth 100000 in
set_option maxHeartbeats 2000000 in
theorem specNxt_any (d m lon ang : Int) (w : World) :
    Calls Try.prog 5 #[.agg #[.int .i64 d, .int .i64 m], .int .i64 lon, .int .i64 ang] w fun e w' => e = .returned (nxtV d m lon ang) ∧ Below w.heap.size w w' := by
  unfold nxtV
  have V := Lib.hid (fun w => l03Ok_any d m w)
  cases ho : okM d m with
  | false =>
    rw [if_neg (by simp)]
    rw [ho] at V
    clear ho
    go_enter Try.func5, Try.ntmps5
    go_wp2_with fail
    refine (V.out _).mono ?_
    rintro e w1 ⟨rfl, hb⟩
    have hsw1 := hb.size
    try simp at hsw1
    obtain ⟨hcw1, hfw1⟩ := bcell hb
    have HBw1 : Hid (Below w.heap.size w w1) := by
      apply Lib.hid
      refine Below.trans ?_ (hb.mono ?_)
      · repeat (first | exact Below.refl _ _ | refine Below.setCell ?_ (by first | (simp; done) | omega | (simp; omega)) _ | refine Below.alloc ?_ (by first | (simp; done) | omega | (simp; omega)) _)
      · first | (simp; done) | omega | (simp; omega)
    have hzw1 : w.heap.size + 1 < w1.heap.size := by have := hb.size; (try simp at this); omega
    have hyw1 : w.heap.size < w1.heap.size := by have := hb.size; (try simp at this); omega
    clear hb
    go_wp2_with fail
    refine bodyPost_ret (v := .tuple #[.agg #[.int .i64 0, .int .i64 0], .int .i64 1]) (by first | (simp [results, Try.results5, go_sem]; done) | (simp [results, Try.results5, go_sem, hcw1, hfw1, hzw1, hyw1]; done)) rfl ⟨rfl, ?_⟩
    repeat (first | exact Below.refl _ _ | exact HBw1.out | refine Below.setCell ?_ (by first | (simp; done) | omega | (simp; omega)) _ | refine Below.alloc ?_ (by first | (simp; done) | omega | (simp; omega)) _ | refine bel_drew ?_)
  | true =>
    rw [if_pos rfl]
    obtain ⟨⟨d0, d1⟩, m0, m1⟩ := okM_bd d m ho
    rw [ho] at V
    clear ho
    have L := Lib.hid (fun w => l03Angle_any lon w)
    have G := Lib.hid (fun w => l03Angle_any ang w)
    cases hl : inR 0 359999 [lon] with
    | false =>
      rw [if_neg (by simp)]
      rw [hl] at L
      clear hl
      go_enter Try.func5, Try.ntmps5
      go_wp2_with fail
      refine (V.out _).mono ?_
      rintro e w1 ⟨rfl, hb⟩
      have hsw1 := hb.size
      try simp at hsw1
      obtain ⟨hcw1, hfw1⟩ := bcell hb
      have HBw1 : Hid (Below w.heap.size w w1) := by
        apply Lib.hid
        refine Below.trans ?_ (hb.mono ?_)
        · repeat (first | exact Below.refl _ _ | refine Below.setCell ?_ (by first | (simp; done) | omega | (simp; omega)) _ | refine Below.alloc ?_ (by first | (simp; done) | omega | (simp; omega)) _)
        · first | (simp; done) | omega | (simp; omega)
      have hzw1 : w.heap.size + 1 < w1.heap.size := by have := hb.size; (try simp at this); omega
      have hyw1 : w.heap.size < w1.heap.size := by have := hb.size; (try simp at this); omega
      clear hb
      go_wp2_with fail
      refine (L.out _).mono ?_
      rintro e w' ⟨rfl, rfl⟩
      go_wp2_with fail
      refine bodyPost_ret (v := .tuple #[.agg #[.int .i64 0, .int .i64 0], .int .i64 2]) (by first | (simp [results, Try.results5, go_sem]; done) | (simp [results, Try.results5, go_sem, hcw1, hfw1, hzw1, hyw1]; done)) rfl ⟨rfl, ?_⟩
      repeat (first | exact Below.refl _ _ | exact HBw1.out | refine Below.setCell ?_ (by first | (simp; done) | omega | (simp; omega)) _ | refine Below.alloc ?_ (by first | (simp; done) | omega | (simp; omega)) _ | refine bel_drew ?_)
    | true =>
      rw [if_pos rfl]
      obtain ⟨l0, l1⟩ := (inR_1 _ _ _).1 hl
      rw [hl] at L
      clear hl
      cases ha : inR 0 359999 [ang] with
      | false =>
        rw [if_neg (by simp)]
        rw [ha] at G
        clear ha
        go_enter Try.func5, Try.ntmps5
        go_wp2_with fail
        refine (V.out _).mono ?_
        rintro e w1 ⟨rfl, hb⟩
        have hsw1 := hb.size
        try simp at hsw1
        obtain ⟨hcw1, hfw1⟩ := bcell hb
        have HBw1 : Hid (Below w.heap.size w w1) := by
          apply Lib.hid
          refine Below.trans ?_ (hb.mono ?_)
          · repeat (first | exact Below.refl _ _ | refine Below.setCell ?_ (by first | (simp; done) | omega | (simp; omega)) _ | refine Below.alloc ?_ (by first | (simp; done) | omega | (simp; omega)) _)
          · first | (simp; done) | omega | (simp; omega)
        have hzw1 : w.heap.size + 1 < w1.heap.size := by have := hb.size; (try simp at this); omega
        have hyw1 : w.heap.size < w1.heap.size := by have := hb.size; (try simp at this); omega
        clear hb
        go_wp2_with fail
        refine (L.out _).mono ?_
        rintro e w' ⟨rfl, rfl⟩
        go_wp2_with fail
        refine (G.out _).mono ?_
        rintro e w' ⟨rfl, rfl⟩
        go_wp2_with fail
        refine bodyPost_ret (v := .tuple #[.agg #[.int .i64 0, .int .i64 0], .int .i64 2]) (by first | (simp [results, Try.results5, go_sem]; done) | (simp [results, Try.results5, go_sem, hcw1, hfw1, hzw1, hyw1]; done)) rfl ⟨rfl, ?_⟩
        repeat (first | exact Below.refl _ _ | exact HBw1.out | refine Below.setCell ?_ (by first | (simp; done) | omega | (simp; omega)) _ | refine Below.alloc ?_ (by first | (simp; done) | omega | (simp; omega)) _ | refine bel_drew ?_)
      | true =>
        rw [if_pos rfl]
        obtain ⟨a0, a1⟩ := (inR_1 _ _ _).1 ha
        rw [ha] at G
        clear ha
        have hsb := sidI_bd d m lon
        have hgd : goalN d m lon ang = trn (d * 86400000 + m) + (ang - sidI d m lon + 360000) % 360000 := by unfold goalN nrm; omega
        have SI := Lib.hid (fun w => l03Sidereal_any d m lon d0 d1 m0 m1 l0 l1 w)
        generalize sidI d m lon = now at *
        obtain ⟨A, hA⟩ : ∃ A, A = d * 86400000 + m := ⟨_, rfl⟩
        have A0 : 0 ≤ A := by omega
        have A1 : A < 8640000000000 := by omega
        have AL := Lib.hid (fun w => l03All_any d m d0 d1 m0 m1 w)
        rw [← hA] at AL hgd ⊢
        have T := Lib.hid (fun w => l03Turned_any A (by omega) (by omega) w)
        have tb := trn_bd A (by omega) (by omega)
        generalize goalN d m lon ang = goal at *
        have hle := wait_le A goal
        have WI := Lib.hid (wait_iff A goal)
        have hmv : momV (A + (waitN A goal : Nat)) = if A + (waitN A goal : Nat) < 8640000000000 then .tuple #[.agg #[.int .i64 ((A + (waitN A goal : Nat)) / 86400000), .int .i64 ((A + (waitN A goal : Nat)) % 86400000)], .int .i64 0] else .tuple #[.agg #[.int .i64 0, .int .i64 0], .int .i64 6] := by
          unfold momV
          by_cases c : A + (waitN A goal : Nat) < 8640000000000
          · rw [if_pos c, if_pos ((inR_1 _ _ _).2 (by omega))]
          · rw [if_neg c, if_neg (fun h => by have := (inR_1 _ _ _).1 h; omega)]
        rw [hmv]
        clear hmv hA
        generalize waitN A goal = c at *
        generalize trn A = tA at *
        have hn0 : 0 ≤ ang - now + 360000 := by omega
        have hn1 : ang - now + 360000 < 720000 := by omega
        have ht : Int.tmod (ang - now + 360000) 360000 = (ang - now + 360000) % 360000 := Int.tmod_eq_emod_of_nonneg hn0
        generalize hM : (ang - now + 360000) % 360000 = M at *
        have hm0 : 0 ≤ M := by omega
        have hm1 : M < 360000 := by omega
        have w1' : IntKind.i64.wrap (ang - now) = ang - now := IntWalk.i64_in _ (by omega)
        have w2' : IntKind.i64.wrap (ang - now + 360000) = ang - now + 360000 := IntWalk.i64_in _ (by omega)
        have w3' : IntKind.i64.wrap (tA + M) = tA + M := IntWalk.i64_in _ (by omega)
        have TL := Lib.hid (fun (x : Int) h0 h1 w => l03Turned_any x h0 h1 w)
        obtain ⟨RV, hRV⟩ : ∃ RV : Value, RV = if A + (c : Int) < 8640000000000 then .tuple #[.agg #[.int .i64 ((A + (c : Int)) / 86400000), .int .i64 ((A + (c : Int)) % 86400000)], .int .i64 0] else .tuple #[.agg #[.int .i64 0, .int .i64 0], .int .i64 6] := ⟨_, rfl⟩
        rw [← hRV]
        have HR := Lib.hid hRV
        have HG := Lib.hid hgd
        clear hRV hgd
        go_enter Try.func5, Try.ntmps5
        go_wp2_with fail
        refine (V.out _).mono ?_
        rintro e w1 ⟨rfl, hb⟩
        have hsw1 := hb.size
        try simp at hsw1
        obtain ⟨hcw1, hfw1⟩ := bcell hb
        have HBw1 : Hid (Below w.heap.size w w1) := by
          apply Lib.hid
          refine Below.trans ?_ (hb.mono ?_)
          · repeat (first | exact Below.refl _ _ | refine Below.setCell ?_ (by first | (simp; done) | omega | (simp; omega)) _ | refine Below.alloc ?_ (by first | (simp; done) | omega | (simp; omega)) _)
          · first | (simp; done) | omega | (simp; omega)
        have hzw1 : w.heap.size + 1 < w1.heap.size := by have := hb.size; (try simp at this); omega
        have hyw1 : w.heap.size < w1.heap.size := by have := hb.size; (try simp at this); omega
        clear hb
        go_wp2_with fail
        refine (L.out _).mono ?_
        rintro e w' ⟨rfl, rfl⟩
        go_wp2_with fail
        refine (G.out _).mono ?_
        rintro e w' ⟨rfl, rfl⟩
        go_wp2_with fail
        refine (AL.out _).mono ?_
        rintro e w2 ⟨rfl, hb⟩
        have hsw2 := hb.size
        try simp at hsw2
        obtain ⟨hcw2, hfw2⟩ := bcell hb
        have HBw2 : Hid (Below w.heap.size w w2) := by
          apply Lib.hid
          refine Below.trans ?_ (hb.mono ?_)
          · repeat (first | exact Below.refl _ _ | exact HBw1.out | refine Below.setCell ?_ (by first | (simp; done) | omega | (simp; omega)) _ | refine Below.alloc ?_ (by first | (simp; done) | omega | (simp; omega)) _)
          · first | (simp; done) | omega | (simp; omega)
        have hzw2 : w.heap.size + 1 < w2.heap.size := by have := hb.size; (try simp at this); omega
        have hyw2 : w.heap.size < w2.heap.size := by have := hb.size; (try simp at this); omega
        clear hb
        first | (have gsw2w1 : w1.heap.size < w2.heap.size := by omega) | skip
        go_wp2_with fail
        have k : Hid (w2.cell? ⟨w.heap.size, 0, none⟩ = some (.int .i64 d) ∧ w2.cell? ⟨w.heap.size, 1, none⟩ = some (.int .i64 m) ∧ w2.cell? ⟨w.heap.size + 1, 0, none⟩ = some (.int .i64 0) ∧ w2.cell? ⟨w.heap.size + 1, 1, none⟩ = some (.int .i64 0) ∧ w2.frozen? ⟨w.heap.size + 1, 0, none⟩ = false ∧ w2.frozen? ⟨w.heap.size + 1, 1, none⟩ = false ∧ w.heap.size + 1 < w2.heap.size ∧ Below w.heap.size w w2) := Lib.hid ⟨(hcw2 _ _ hyw1).trans ((hcw1 _ _ (by first | (simp; done) | (simp; omega))).trans (by simp)), (hcw2 _ _ hyw1).trans ((hcw1 _ _ (by first | (simp; done) | (simp; omega))).trans (by simp)), (hcw2 _ _ hzw1).trans ((hcw1 _ _ (by first | (simp; done) | (simp; omega))).trans (by simp)), (hcw2 _ _ hzw1).trans ((hcw1 _ _ (by first | (simp; done) | (simp; omega))).trans (by simp)), (hfw2 _ _ hzw1).trans ((hfw1 _ _ (by first | (simp; done) | (simp; omega))).trans (by simp)), (hfw2 _ _ hzw1).trans ((hfw1 _ _ (by first | (simp; done) | (simp; omega))).trans (by simp)), hzw2, HBw2.out⟩
        clear hcw1 hfw1 hzw1 hyw1 hcw2 hfw2 hzw2 hyw2
        go_region_held3 (fun w' => w'.cell? ⟨w.heap.size, 0, none⟩ = some (.int .i64 d) ∧ w'.cell? ⟨w.heap.size, 1, none⟩ = some (.int .i64 m) ∧ w'.cell? ⟨w.heap.size + 1, 0, none⟩ = some (.int .i64 0) ∧ w'.cell? ⟨w.heap.size + 1, 1, none⟩ = some (.int .i64 0) ∧ w'.frozen? ⟨w.heap.size + 1, 0, none⟩ = false ∧ w'.frozen? ⟨w.heap.size + 1, 1, none⟩ = false ∧ w.heap.size + 1 < w'.heap.size ∧ Below w.heap.size w w') (first | (exact keepX k.out (drewX w2)) | (exact keepX k.out y1) | go_keep) ((first
          | (go_at_call 21; refine (T.out _).mono ?_; rintro e x1 ⟨rfl, rfl⟩)
          | (go_at_call 22; refine (SI.out _).mono ?_; rintro e x1 ⟨rfl, hx1⟩; have y1 := undrewX hx1)))
        rename_i held
        have HH : Hid (NxtS w _ d m) := Lib.hid held
        clear held hM w1' w2' w3' ht
        rw [← HG.out]
        go_wp2_with fail
        go_loopg [10, 11] 86400001 (fun kx s10 s11 wr => ∃ (lo hi : Nat), s10 = .int .i64 (A + (lo : Int)) ∧ s11 = .int .i64 (A + (hi : Int)) ∧ lo ≤ c ∧ c ≤ hi ∧ hi ≤ 86400000 ∧ hi - lo ≤ kx ∧ Hid (NxtS w wr d m))
        case atStart => exact ⟨0, 86400000, by simp, by simp, Nat.zero_le _, hle, Nat.le_refl _, by omega, HH⟩
        case round =>
          obtain ⟨lo, hi, rfl, rfl, hlc, hch, hin, hg, HS⟩ := hrel
          by_cases hlt : lo < hi
          · obtain ⟨mm, hmm⟩ : ∃ mm : Nat, mm = (lo + hi) / 2 := ⟨_, rfl⟩
            have em : (A + (lo : Int) + (A + (hi : Int))) / 2 = A + (mm : Int) := by omega
            have hml : mm < 86400000 := by omega
            have EM := Lib.hid em
            clear em
            have TM := Lib.hid (fun w => TL.out (A + (mm : Int)) (by omega) (by omega) w)
            have hlt' : A + (lo : Int) < A + (hi : Int) := by omega
            have W1 := (WI.out mm hml)
            generalize trn (A + (mm : Int)) = z at *
            by_cases hp : goal ≤ z
            · have hcm : c ≤ mm := W1.1 hp
              clear W1
              go_wp2_with fail
              rw [EM.out]
              refine (TM.out _).mono ?_
              rintro e w' ⟨rfl, rfl⟩
              go_wp2_with fail
              go_roundg (mm - lo)
              case measure => omega
              case rel => exact ⟨lo, mm, rfl, congrArg (Value.int .i64) (by omega), hlc, hcm, by omega, Nat.le_refl _, HS⟩
            · have hcm : mm < c := by have := mt W1.2 hp; omega
              clear W1
              go_wp2_with fail
              rw [EM.out]
              refine (TM.out _).mono ?_
              rintro e w' ⟨rfl, rfl⟩
              go_wp2_with fail
              go_roundg (hi - (mm + 1))
              case measure => omega
              case rel => exact ⟨mm + 1, hi, congrArg (Value.int .i64) (by omega), rfl, by omega, hch, hin, Nat.le_refl _, HS⟩
          · obtain rfl : c = lo := by omega
            obtain rfl : c = hi := by omega
            have hlt' : ¬ A + (c : Int) < A + (c : Int) := by omega
            clear hlt
            obtain ⟨k0, k1, k2, k3, k4, k5, k6, k7⟩ := HS.out
            have HB0 := Lib.hid k7
            have k8 : w.heap.size < wr.heap.size := by omega
            clear k0 k1 k7
            have hRV := HR.out
            by_cases hmost : A + (c : Int) < 8640000000000
            · rw [if_pos hmost] at hRV
              clear HR
              subst hRV
              have hge : ¬ 8640000000000 ≤ A + (c : Int) := by omega
              go_wp2_with fail
              refine (l03Most_any _).mono ?_
              rintro e w' ⟨rfl, rfl⟩
              go_wp2_with fail
              refine (l03At_any (A + (c : Int)) (by omega) (by omega) _).mono ?_
              rintro e w5 ⟨rfl, hb⟩
              obtain ⟨hcw5, hfw5⟩ := bcell hb
              have hz5 : w.heap.size + 1 < w5.heap.size := by have := hb.size; omega
              have hy5 : w.heap.size < w5.heap.size := by omega
              have HB5 := Lib.hid (HB0.out.trans (hb.mono HB0.out.size))
              clear hb
              go_wp2_with fail
              refine bodyPost_ret (v := .tuple #[.agg #[.int .i64 ((A + (c : Int)) / 86400000), .int .i64 ((A + (c : Int)) % 86400000)], .int .i64 0]) (by first | (simp [results, Try.results5, go_sem]; done) | (simp [results, Try.results5, go_sem, hcw5, hfw5, hz5, hy5, k2, k3, k4, k5, k6, k8]; done)) rfl ⟨rfl, ?_⟩
              repeat (first | exact Below.refl _ _ | exact HB5.out | refine Below.setCell ?_ (by first | (simp; done) | omega | (simp; omega)) _ | refine Below.alloc ?_ (by first | (simp; done) | omega | (simp; omega)) _ | refine bel_drew ?_)
            · rw [if_neg hmost] at hRV
              clear HR
              subst hRV
              have hge : 8640000000000 ≤ A + (c : Int) := by omega
              go_wp2_with fail
              refine (l03Most_any _).mono ?_
              rintro e w' ⟨rfl, rfl⟩
              go_wp2_with fail
              refine bodyPost_ret (v := .tuple #[.agg #[.int .i64 0, .int .i64 0], .int .i64 6]) (by first | (simp [results, Try.results5, go_sem]; done) | (simp [results, Try.results5, go_sem, k2, k3, k4, k5, k6, k8]; done)) rfl ⟨rfl, ?_⟩
              repeat (first | exact Below.refl _ _ | exact HB0.out | refine Below.setCell ?_ (by first | (simp; done) | omega | (simp; omega)) _ | refine Below.alloc ?_ (by first | (simp; done) | omega | (simp; omega)) _ | refine bel_drew ?_)
end Go.Proofs.Ytnadgldgdmppkaa
