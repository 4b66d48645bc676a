/-
  Directions between two vectors in package spec: the contracts of l04Share, BlendVectors.
-/
import Derived.Test.YtoellkbmhpekdaaBlend2
namespace Go.Proofs.Ytoellkbmhpekdaa
open Go.RowKit
set_option linter.unusedVariables false

theorem SB.res {w W : World} {x y z x' y' z' : Int} (k : SB w x y z x' y' z' W) : C3 W (w.heap.size + 1 + 1) 0 0 0 := k.2.2.1
theorem SB.bel {w W : World} {x y z x' y' z' : Int} (k : SB w x y z x' y' z' W) : Below w.heap.size w W := k.2.2.2
set_option maxRecDepth 100000 in
set_option maxHeartbeats 400000 in
theorem l04Share_any (a b s : Int) (a0 : -2000000 ≤ a ∧ a ≤ 2000000) (b0 : -2000000 ≤ b ∧ b ≤ 2000000) (s0 : 0 ≤ s) (s1 : s ≤ 1000) (w : World) :
    Calls Try.prog 43 #[.int .i64 a, .int .i64 b, .int .i64 s] w fun e w' => e = .returned (.int .i64 (shr a b s)) ∧ w = w' := by
  have p := pr_bd (b - a) s 4000000 1000 (by omega) (by omega) (by omega) s1
  have sb := shr_bd a b s 2000000 a0.1 a0.2 b0.1 b0.2 s0 s1
  have D := Lib.hid (fun w => l01Div_any ((b - a) * s) 1000 w (by omega) (by omega) (by omega) (by omega) (by omega))
  have es : shr a b s = a + nearQ ((b - a) * s) 1000 := rfl
  rw [es] at sb ⊢
  clear es
  have m0 : wrap64 (b - a) = b - a := IntWalk.wrap64_in _ (by omega)
  have m1 : wrap64 ((b - a) * s) = (b - a) * s := IntWalk.wrap64_in _ (by omega)
  generalize nearQ ((b - a) * s) 1000 = q at *
  go_enter Try.func43, Try.ntmps43
  go_wp2_with fail
  refine (D.out _).mono ?_
  rintro e w' ⟨rfl, rfl⟩
  go_wp2_with fail
  go_ret
  exact ⟨rfl, rfl⟩

set_option maxRecDepth 100000 in
set_option maxHeartbeats 4000000 in
theorem specBlendV_in (x y z x' y' z' s : Int) (ho : okV x y z = true) (ho' : okV x' y' z' = true) (hin : inR 0 1000 [s] = true) (w : World) :
    Calls Try.prog 21 #[.agg #[.int .i64 x, .int .i64 y, .int .i64 z], .agg #[.int .i64 x', .int .i64 y', .int .i64 z'], .int .i64 s] w fun e w' => e = .returned (normV (shr x x' s) (shr y y' s) (shr z z' s)) ∧ Below w.heap.size w w' := by
  have I := Lib.hid (fun w => l04Ok_any x y z w)
  have J := Lib.hid (fun w => l04Ok_any x' y' z' w)
  have HI := Lib.hid (fun w => l00In_any s 0 1000 w)
  rw [ho] at I
  rw [ho'] at J
  rw [hin] at HI
  have hv := inV_ok _ _ _ ho
  have hv' := inV_ok _ _ _ ho'
  obtain ⟨s0, s1⟩ := (inR_1 _ _ _).1 hin
  have hok := shr_ok x y z x' y' z' s hv hv' s0 s1
  have L0 := Lib.hid (fun w => l04Share_any x x' s hv.1 hv'.1 s0 s1 w)
  have L1 := Lib.hid (fun w => l04Share_any y y' s hv.2.1 hv'.2.1 s0 s1 w)
  have L2 := Lib.hid (fun w => l04Share_any z z' s hv.2.2 hv'.2.2 s0 s1 w)
  have N := Lib.hid (fun w => l04Normal_any (shr x x' s) (shr y y' s) (shr z z' s) (inV_up (inV_ok _ _ _ hok) (by omega)) w)
  -- what the call of l04Normal gives, and what follows from it
  obtain ⟨n0, n1, n2, nb, hN, hR⟩ : ∃ (n0 n1 n2 : Int) (nb : Bool), (if len3 (shr x x' s) (shr y y' s) (shr z z' s) = 0 then Value.tuple #[.agg #[.int .i64 0, .int .i64 0, .int .i64 0], .bool false] else .tuple #[.agg #[.int .i64 (nvI (shr x x' s) (len3 (shr x x' s) (shr y y' s) (shr z z' s))), .int .i64 (nvI (shr y y' s) (len3 (shr x x' s) (shr y y' s) (shr z z' s))), .int .i64 (nvI (shr z z' s) (len3 (shr x x' s) (shr y y' s) (shr z z' s)))], .bool true]) = .tuple #[.agg #[.int .i64 n0, .int .i64 n1, .int .i64 n2], .bool nb] ∧ ((nb = false ∧ normV (shr x x' s) (shr y y' s) (shr z z' s) = .tuple #[.agg #[.int .i64 0, .int .i64 0, .int .i64 0], .int .i64 6]) ∨ (nb = true ∧ okV n0 n1 n2 = true ∧ normV (shr x x' s) (shr y y' s) (shr z z' s) = .tuple #[.agg #[.int .i64 n0, .int .i64 n1, .int .i64 n2], .int .i64 0])) := by
    unfold normV
    rw [if_pos hok]
    by_cases hz : shr x x' s = 0 ∧ shr y y' s = 0 ∧ shr z z' s = 0
    · rw [if_pos ((len3_0 _ _ _).2 hz)]
      exact ⟨0, 0, 0, false, rfl, .inl ⟨rfl, by rw [if_pos hz]⟩⟩
    · rw [if_neg (mt (len3_0 _ _ _).1 hz)]
      exact ⟨_, _, _, true, rfl, .inr ⟨rfl, nv_ok _ _ _ hz, by rw [if_neg hz]⟩⟩
  rw [hN] at N
  have D := Lib.hid (fun w => l04Done_any n0 n1 n2 w)
  obtain ⟨na, nbb, nc, nd, hn⟩ := normV_form (shr x x' s) (shr y y' s) (shr z z' s)
  rw [hn] at hR ⊢
  have HR := Lib.hid hR
  clear hn ho ho' hin hv hv' hok s0 s1 hN hR
  generalize shr x x' s = p at *
  generalize shr y y' s = q at *
  generalize shr z z' s = t at *
  obtain ⟨W0, hW0⟩ : ∃ W0, W0 = ((w.alloc (.cells #[.int .i64 x, .int .i64 y, .int .i64 z] 47)).alloc (.cells #[.int .i64 x', .int .i64 y', .int .i64 z'] 47)).alloc (.cells #[.int .i64 0, .int .i64 0, .int .i64 0] 47) := ⟨_, rfl⟩
  have S0 : Hid (SB w x y z x' y' z' W0) := Lib.hid (by
    refine ⟨?_, ?_, ?_, ?_⟩
    · rw [hW0]; exact ((C3.new _ _ _ _ _).alloc (by simp) _).alloc (by simp; omega) _
    · rw [hW0]; exact ((by simpa using C3.new (w.alloc (.cells #[.int .i64 x, .int .i64 y, .int .i64 z] 47)) 47 x' y' z')  : C3 _ (w.heap.size + 1) x' y' z').alloc (by simp) _
    · rw [hW0]; exact ((by simpa using C3.new ((w.alloc (.cells #[.int .i64 x, .int .i64 y, .int .i64 z] 47)).alloc (.cells #[.int .i64 x', .int .i64 y', .int .i64 z'] 47)) 47 0 0 0) : C3 _ (w.heap.size + 1 + 1) 0 0 0)
    · rw [hW0]; repeat (first | exact Below.refl _ _ | refine Below.alloc ?_ (by first | (simp; done) | omega | (simp; omega)) _))
  have HW := Lib.hid hW0
  clear hW0
  obtain ⟨k0, k1, k2, k3, k4, k5, k6⟩ := S0.out.flat
  clear k6
  go_enter Try.func21, Try.ntmps21
  go_wp2_with fail
  rw [← HW.out]
  clear HW
  refine (I.out _).mono ?_
  rintro e w1 ⟨rfl, hb⟩
  have S1 := Lib.hid (S0.out.on hb)
  clear hb S0 k0 k1 k2 k3 k4 k5
  obtain ⟨k0, k1, k2, k3, k4, k5, k6⟩ := S1.out.flat
  clear k6
  go_wp2_with fail
  refine (J.out _).mono ?_
  rintro e W3 ⟨rfl, hb⟩
  have S3 := Lib.hid (S1.out.on hb)
  clear hb S1 k0 k1 k2 k3 k4 k5
  go_wp2_with fail
  refine (HI.out _).mono ?_
  rintro e w' ⟨rfl, rfl⟩
  clear HI I J
  obtain ⟨k0, k1, k2, k3, k4, k5, k6⟩ := S3.out.flat
  clear k6
  go_upto_region 5 with fail
  go_cut [8, 9] from 10 (fun s8 s9 wx => ∃ g : Nat, s8 = .pointer (some ⟨g, 0, none⟩) ∧ s9 = .bool nb ∧ Hid (C3 wx g n0 n1 n2) ∧ Hid (C3 wx (w.heap.size + 1 + 1) 0 0 0) ∧ Hid (Below w.heap.size w wx))
  case first =>
    have hW3 : w.heap.size + 1 + 1 < W3.heap.size := World.block_lt_of_cell? W3 ⟨_, 0, none⟩ S3.out.2.2.1.c0
    go_region_held3 (fun w' => w'.cell? ⟨w.heap.size, 0, none⟩ = some (.int .i64 x) ∧ w'.cell? ⟨w.heap.size, 1, none⟩ = some (.int .i64 y) ∧ w'.cell? ⟨w.heap.size, 2, none⟩ = some (.int .i64 z) ∧ w'.cell? ⟨w.heap.size + 1, 0, none⟩ = some (.int .i64 x') ∧ w'.cell? ⟨w.heap.size + 1, 1, none⟩ = some (.int .i64 y') ∧ w'.cell? ⟨w.heap.size + 1, 2, none⟩ = some (.int .i64 z') ∧ Below w.heap.size w w') (first | (refine (S3.out.on ?_).flat; repeat (first | with_reducible exact b1 | with_reducible exact Below.refl _ _ | with_reducible refine Below.setCell ?_ (by first | (simp; done) | omega | (simp; omega)) _ | with_reducible refine Below.alloc ?_ (by first | (simp; done) | omega | (simp; omega)) _ | with_reducible refine bel_drew ?_)) | go_keep) ((first
      | (go_at_call 43; (first
        | ((with_reducible refine (L0.out _).mono ?_); rintro e v0 ⟨rfl, rfl⟩)
        | ((with_reducible refine (L1.out _).mono ?_); rintro e v0 ⟨rfl, rfl⟩)
        | ((with_reducible refine (L2.out _).mono ?_); rintro e v0 ⟨rfl, rfl⟩)))
      | (go_at_call 42; (with_reducible refine (N.out _).mono ?_); rintro e u1 ⟨rfl, hu1⟩; (first | have b1 := undrewD1 hu1 | have b1 := undrewV hu1); have b1s := b1.size; (first
          | (have ra := Z.d1 hu1; have RA := Lib.hid ra; have la := ra.inn; have na := Nat.ne_of_lt la; have na' := Nat.ne_of_gt la; obtain ⟨qa0, qa1, qa2, qa3, qa4, qa5⟩ := ra)
          | skip))))
    all_goals
      rename_i held
      clear held k0 k1 k2 k3 k4 k5
      go_wp2_with fail
      go_meet
      case rel =>
        have hk := Lib.hid (S3.out.on b1)
        refine ⟨_, rfl, rfl, ?_⟩
        first
        | with_reducible exact ⟨Lib.hid (C3.new _ _ _ _ _), Lib.hid (SB.res (hk.out.al _)), Lib.hid (SB.bel (hk.out.al _))⟩
        | with_reducible exact ⟨Lib.hid (set3 RA.out _ _ _), Lib.hid (SB.res (((hk.out.set (by omega) _ _).set (by omega) _ _).set (by omega) _ _)), Lib.hid (SB.bel (((hk.out.set (by omega) _ _).set (by omega) _ _).set (by omega) _ _))⟩
  case rest =>
    obtain ⟨g, rfl, rfl, G, Z, B⟩ := hcut
    clear S3 k0 k1 k2 k3 k4 k5 L0 L1 L2 N
    rcases HR.out with ⟨rfl, hv⟩ | ⟨rfl, hok, hv⟩
    · have HV := Lib.hid hv
      clear hv HR D G
      obtain ⟨z0, z1, z2, z3, z4, z5⟩ := Z.out
      go_wp2_with fail
      rw [HV.out]
      refine bodyPost_ret (v := .tuple #[.agg #[.int .i64 0, .int .i64 0, .int .i64 0], .int .i64 6]) (by first | (simp [results, Try.results21, go_sem]; done) | (simp [results, Try.results21, go_sem, *]; done)) rfl ⟨rfl, ?_⟩
      repeat (first | exact Below.refl _ _ | exact B.out | refine Below.setCell ?_ (by first | (simp; done) | omega | (simp; omega)) _ | refine Below.alloc ?_ (by first | (simp; done) | omega | (simp; omega)) _ | refine bel_drew ?_)
    · have HV := Lib.hid hv
      have ed : doneV n0 n1 n2 = .tuple #[.agg #[.int .i64 n0, .int .i64 n1, .int .i64 n2], .int .i64 0] := by unfold doneV; rw [if_pos hok]
      rw [ed] at D
      clear hv HR hok ed
      obtain ⟨q0, q1, q2, _, _, _⟩ := G.out
      go_wp2_with fail
      refine (D.out _).mono ?_
      rintro e w4 ⟨rfl, hb⟩
      have Z4 := Lib.hid (Z.out.go hb)
      have B4 := Lib.hid (B.out.trans (hb.mono B.out.size))
      clear hb q0 q1 q2 G Z
      obtain ⟨z0, z1, z2, z3, z4, z5⟩ := Z4.out
      go_wp2_with fail
      rw [HV.out]
      refine bodyPost_ret (v := .tuple #[.agg #[.int .i64 n0, .int .i64 n1, .int .i64 n2], .int .i64 0]) (by first | (simp [results, Try.results21, go_sem]; done) | (simp [results, Try.results21, go_sem, *]; done)) rfl ⟨rfl, ?_⟩
      repeat (first | exact Below.refl _ _ | exact B4.out | refine Below.setCell ?_ (by first | (simp; done) | omega | (simp; omega)) _ | refine Below.alloc ?_ (by first | (simp; done) | omega | (simp; omega)) _ | refine bel_drew ?_)

set_option maxRecDepth 100000 in
set_option maxHeartbeats 4000000 in
theorem specBlendV_any (x y z x' y' z' s : Int) (w : World) :
    Calls Try.prog 21 #[.agg #[.int .i64 x, .int .i64 y, .int .i64 z], .agg #[.int .i64 x', .int .i64 y', .int .i64 z'], .int .i64 s] w fun e w' => e = .returned (blendV x y z x' y' z' s) ∧ Below w.heap.size w w' := by
  have I := Lib.hid (fun w => l04Ok_any x y z w)
  have J := Lib.hid (fun w => l04Ok_any x' y' z' w)
  unfold blendV
  cases ho : okV x y z with
  | false =>
    rw [if_neg (by simp)]
    rw [ho] at I
    clear ho
    go_enter Try.func21, Try.ntmps21
    go_wp2_with fail
    refine (I.out _).mono ?_
    rintro e w1 ⟨rfl, hb⟩
    have hsw1 := hb.size
    try simp at hsw1
    obtain ⟨hcw1, hfw1⟩ := bcell hb
    have HBw1 : Hid (Below w.heap.size w w1) := by
      apply Lib.hid
      refine Below.trans ?_ (hb.mono ?_)
      · repeat (first | exact Below.refl _ _ | refine Below.setCell ?_ (by first | (simp; done) | omega | (simp; omega)) _ | refine Below.alloc ?_ (by first | (simp; done) | omega | (simp; omega)) _)
      · first | (simp; done) | omega | (simp; omega)
    have hzw1 : w.heap.size + 2 < w1.heap.size := by have := hb.size; (try simp at this); omega
    have hyw1 : w.heap.size + 1 < w1.heap.size := by have := hb.size; (try simp at this); omega
    have hxw1 : w.heap.size < w1.heap.size := by have := hb.size; (try simp at this); omega
    clear hb
    go_wp2_with fail
    refine bodyPost_ret (v := .tuple #[.agg #[.int .i64 0, .int .i64 0, .int .i64 0], .int .i64 1]) (by first | (simp [results, Try.results21, go_sem]; done) | (simp [results, Try.results21, go_sem, *]; done)) rfl ⟨rfl, ?_⟩
    repeat (first | exact Below.refl _ _ | exact HBw1.out | refine Below.setCell ?_ (by first | (simp; done) | omega | (simp; omega)) _ | refine Below.alloc ?_ (by first | (simp; done) | omega | (simp; omega)) _ | refine bel_drew ?_)
  | true =>
    rw [if_pos rfl]
    rw [ho] at I
    cases ho' : okV x' y' z' with
    | false =>
      rw [if_neg (by simp)]
      rw [ho'] at J
      clear ho ho'
      go_enter Try.func21, Try.ntmps21
      go_wp2_with fail
      refine (I.out _).mono ?_
      rintro e w1 ⟨rfl, hb⟩
      have hsw1 := hb.size
      try simp at hsw1
      obtain ⟨hcw1, hfw1⟩ := bcell hb
      have HBw1 : Hid (Below w.heap.size w w1) := by
        apply Lib.hid
        refine Below.trans ?_ (hb.mono ?_)
        · repeat (first | exact Below.refl _ _ | refine Below.setCell ?_ (by first | (simp; done) | omega | (simp; omega)) _ | refine Below.alloc ?_ (by first | (simp; done) | omega | (simp; omega)) _)
        · first | (simp; done) | omega | (simp; omega)
      have hzw1 : w.heap.size + 2 < w1.heap.size := by have := hb.size; (try simp at this); omega
      have hyw1 : w.heap.size + 1 < w1.heap.size := by have := hb.size; (try simp at this); omega
      have hxw1 : w.heap.size < w1.heap.size := by have := hb.size; (try simp at this); omega
      clear hb
      go_wp2_with fail
      refine (J.out _).mono ?_
      rintro e w2 ⟨rfl, hb⟩
      have hsw2 := hb.size
      try simp at hsw2
      obtain ⟨hcw2, hfw2⟩ := bcell hb
      have HBw2 : Hid (Below w.heap.size w w2) := by
        apply Lib.hid
        refine Below.trans ?_ (hb.mono ?_)
        · repeat (first | exact Below.refl _ _ | exact HBw1.out | refine Below.setCell ?_ (by first | (simp; done) | omega | (simp; omega)) _ | refine Below.alloc ?_ (by first | (simp; done) | omega | (simp; omega)) _)
        · first | (simp; done) | omega | (simp; omega)
      have hzw2 : w.heap.size + 2 < w2.heap.size := by have := hb.size; (try simp at this); omega
      have hyw2 : w.heap.size + 1 < w2.heap.size := by have := hb.size; (try simp at this); omega
      have hxw2 : w.heap.size < w2.heap.size := by have := hb.size; (try simp at this); omega
      clear hb
      first | (have gsw2w1 : w1.heap.size < w2.heap.size := by omega) | skip
      go_wp2_with fail
      refine bodyPost_ret (v := .tuple #[.agg #[.int .i64 0, .int .i64 0, .int .i64 0], .int .i64 1]) (by first | (simp [results, Try.results21, go_sem]; done) | (simp [results, Try.results21, go_sem, *]; done)) rfl ⟨rfl, ?_⟩
      repeat (first | exact Below.refl _ _ | exact HBw2.out | refine Below.setCell ?_ (by first | (simp; done) | omega | (simp; omega)) _ | refine Below.alloc ?_ (by first | (simp; done) | omega | (simp; omega)) _ | refine bel_drew ?_)
    | true =>
      rw [if_pos rfl]
      rw [ho'] at J
      cases hin : inR 0 1000 [s] with
      | false =>
        rw [if_neg (by simp)]
        have HI := Lib.hid (fun w => l00In_any s 0 1000 w)
        rw [hin] at HI
        clear ho ho' hin
        go_enter Try.func21, Try.ntmps21
        go_wp2_with fail
        refine (I.out _).mono ?_
        rintro e w1 ⟨rfl, hb⟩
        have hsw1 := hb.size
        try simp at hsw1
        obtain ⟨hcw1, hfw1⟩ := bcell hb
        have HBw1 : Hid (Below w.heap.size w w1) := by
          apply Lib.hid
          refine Below.trans ?_ (hb.mono ?_)
          · repeat (first | exact Below.refl _ _ | refine Below.setCell ?_ (by first | (simp; done) | omega | (simp; omega)) _ | refine Below.alloc ?_ (by first | (simp; done) | omega | (simp; omega)) _)
          · first | (simp; done) | omega | (simp; omega)
        have hzw1 : w.heap.size + 2 < w1.heap.size := by have := hb.size; (try simp at this); omega
        have hyw1 : w.heap.size + 1 < w1.heap.size := by have := hb.size; (try simp at this); omega
        have hxw1 : w.heap.size < w1.heap.size := by have := hb.size; (try simp at this); omega
        clear hb
        go_wp2_with fail
        refine (J.out _).mono ?_
        rintro e w2 ⟨rfl, hb⟩
        have hsw2 := hb.size
        try simp at hsw2
        obtain ⟨hcw2, hfw2⟩ := bcell hb
        have HBw2 : Hid (Below w.heap.size w w2) := by
          apply Lib.hid
          refine Below.trans ?_ (hb.mono ?_)
          · repeat (first | exact Below.refl _ _ | exact HBw1.out | refine Below.setCell ?_ (by first | (simp; done) | omega | (simp; omega)) _ | refine Below.alloc ?_ (by first | (simp; done) | omega | (simp; omega)) _)
          · first | (simp; done) | omega | (simp; omega)
        have hzw2 : w.heap.size + 2 < w2.heap.size := by have := hb.size; (try simp at this); omega
        have hyw2 : w.heap.size + 1 < w2.heap.size := by have := hb.size; (try simp at this); omega
        have hxw2 : w.heap.size < w2.heap.size := by have := hb.size; (try simp at this); omega
        clear hb
        first | (have gsw2w1 : w1.heap.size < w2.heap.size := by omega) | skip
        go_wp2_with fail
        refine (HI.out _).mono ?_
        rintro e w' ⟨rfl, rfl⟩
        go_wp2_with fail
        refine bodyPost_ret (v := .tuple #[.agg #[.int .i64 0, .int .i64 0, .int .i64 0], .int .i64 2]) (by first | (simp [results, Try.results21, go_sem]; done) | (simp [results, Try.results21, go_sem, *]; done)) rfl ⟨rfl, ?_⟩
        repeat (first | exact Below.refl _ _ | exact HBw2.out | refine Below.setCell ?_ (by first | (simp; done) | omega | (simp; omega)) _ | refine Below.alloc ?_ (by first | (simp; done) | omega | (simp; omega)) _ | refine bel_drew ?_)
      | true =>
        rw [if_pos rfl]
        exact specBlendV_in x y z x' y' z' s ho ho' hin w
end Go.Proofs.Ytoellkbmhpekdaa
