/-
  SlowTrack (package spec).
-/
import Derived.Test.YtdbocpcijkngpaaTkG
import Derived.Test.YtdbocpcijkngpaaAbs
import Derived.Test.YtdbocpcijkngpaaMnMx
import Derived.StillTailTactics
namespace Go.Proofs.Ytdbocpcijkngpaa.Tk
open Go.RowKit
open Ky (V In Own Row At gk)
set_option linter.unusedVariables false

theorem quiet_wT {P : Program} {f : FuncId} {args : Array Value} {w : World} {v : Value}
    (h : Calls P f args w fun e w' => e = .returned v ∧ w = w') : Calls P f args w fun e w' => e = .returned v ∧ w' = w :=
  h.mono fun _ _ ⟨he, hm⟩ => ⟨he, hm.symm⟩
theorem rtT_one (zs : List V) (T : Nat → Int) (h : 0 < zs.length) (hT : T 0 = (gk zs 0).f0) : rtT zs T 1 = zs := by
  have e := rtT_set zs T 0 h
  rw [← e, hT, rtT_zero, Ky.gk_at zs 0 h]
  exact List.set_getElem_self h
theorem rtT_prev (zs : List V) (T : Nat → Int) (j : Nat) (h : j + 1 ≤ zs.length) (h2 : j < (rtT zs T (j + 1)).length) : (rtT zs T (j + 1))[j] = ⟨T j, (gk zs j).f1⟩ := by
  have hl := retL_len zs T j
  have e : (rtT zs T (j + 1))[j]? = some ⟨T j, (gk zs j).f1⟩ := by
    unfold rtT
    rw [retL_next, List.append_assoc, List.getElem?_append_right (by omega), hl, Nat.sub_self]
    rfl
  rw [List.getElem?_eq_getElem h2] at e
  exact Option.some.inj e
theorem rtT_put (zs : List V) (T : Nat → Int) (j : Nat) (h : j < zs.length) : (rtT zs T j).set j ⟨T j, (gk zs j).f1⟩ = rtT zs T (j + 1) := by
  rw [Ky.gk_at zs j h]
  exact rtT_set zs T j h
theorem rtT_cur (zs : List V) (T : Nat → Int) (j : Nat) (h : j < zs.length) (h2 : j < (rtT zs T j).length) : (rtT zs T j)[j] = gk zs j := by
  rw [rtT_get zs T j h h2, Ky.gk_at zs j h]
theorem rtT_own (zs : List V) (T : Nat → Int) (j : Nat) (h : j < zs.length) : (rtT zs T j).set j ⟨(gk zs j).f0, (gk zs j).f1⟩ = rtT zs T j := by
  have e := rtT_at zs T j h
  rw [← Ky.gk_at zs j h] at e
  exact e
set_option maxRecDepth 100000 in
set_option maxHeartbeats 8000000 in
theorem specSlow_any (s : ByteArray) (hs : s.size ≤ maxLen) (g cap : Nat) (zs : List V) (v : Int) (w : World) (hb : zs.length ≤ 1048577) (h1 : Row w g zs) :
    Calls Try.prog 47 #[.agg #[.string s, .slice (some ⟨g, 0, none⟩) zs.length cap], .int .i64 v] w (TPost (slowV s zs v) w) := by
  obtain ⟨W0, hW0⟩ : ∃ W, W = (w.alloc (Obj.cells #[Value.string s, Value.slice (some ⟨g, 0, none⟩) zs.length cap] 29)).alloc (Obj.cells #[Value.string { data := #[] }, Value.slice none 0 0] 29) := ⟨_, rfl⟩
  have F0 : Fr 1 w.heap.size w.heap.size w W0 s (.slice (some ⟨g, 0, none⟩) zs.length cap) := by rw [hW0]; exact fr_new _ _ _ _ _ (Nat.le_refl _)
  have V := Lib.hid (l14One_any w.heap.size 0 g cap s zs W0 hb F0.t.c0 F0.t.c1 (h1.below F0.bel))
  have OW := Lib.hid (fun (W : World) (hB : Below w.heap.size w W) hn hT => l14Own_any w.heap.size g cap s zs W hn hb hT (h1.below hB))
  have DN := Lib.hid (fun h hcp zs' (W : World) hb hR => l14Done_any s h hcp zs' W hb hR)
  have L := Lib.hid (fun w => l00In_any v 1 1000000 w)
  have RP := Lib.hid (fun (W : World) (hB : Below w.heap.size w W) k hk => Ky.Row.gk (h1.below hB) k hk)
  have UP := Lib.hid (fun a b w h1 h2 h3 h4 => l14Up_any a b w h1 h2 h3 h4)
  have AB := Lib.hid (fun x h1 h2 w => l02Abs_any x h1 h2 w)
  have MX := Lib.hid (fun a b w => l00Max_any a b w)
  have HF0 := Lib.hid F0
  obtain ⟨m0, m1⟩ := F0.t
  have HW := Lib.hid hW0
  clear h1 hs F0 hW0
  unfold slowV
  cases ho : trackB s zs with
  | false =>
    rw [if_neg (by simp)]
    rw [ho] at V
    clear ho
    go_enter Try.func47, Try.ntmps47
    go_wp2_with fail
    rw [← HW.out]
    clear HW
    go_wp2_with fail
    refine V.out.mono ?_
    rintro e w1 ⟨rfl, m, hm⟩
    have hb1 : Below W0.heap.size W0 w1 := by rw [hm]; exact bel_dT (Below.refl _ _) m
    clear m0 m1 hm
    have hfr := HF0.out.below hb1
    have HFR := Lib.hid hfr
    have HB1 := Lib.hid hfr.bel
    obtain ⟨m0, m1⟩ := hfr.t
    have r0 := hfr.r0
    have r1 := hfr.r1
    have f0 := hfr.f0
    have f1 := hfr.f1
    clear hfr
    go_wp2_with fail
    refine bodyPost_ret (v := .tuple #[.agg #[.string { data := #[] }, .slice none 0 0], .int .i64 1]) (by simp [results, Try.results47, go_sem, r0, r1]) rfl ⟨_, rfl, Ky.Own.nil _ _ _, ?_⟩
    repeat (first | exact Below.refl _ _ | exact HB1.out | refine Below.setCell ?_ (by first | (simp; done) | omega | (simp; omega)) _ | refine Below.alloc ?_ (by first | (simp; done) | omega | (simp; omega)) _ | refine bel_drew ?_)
  | true =>
    rw [if_pos rfl]
    rw [ho] at V
    have hT := trk_of ho
    clear ho
    cases hx0 : inR 1 1000000 [v] with
    | false =>
      rw [hx0] at L
      rw [if_neg (by simp)]
      clear hx0
      go_enter Try.func47, Try.ntmps47
      go_wp2_with fail
      rw [← HW.out]
      clear HW
      go_wp2_with fail
      refine V.out.mono ?_
      rintro e w1 ⟨rfl, m, hm⟩
      have hb1 : Below W0.heap.size W0 w1 := by rw [hm]; exact bel_dT (Below.refl _ _) m
      clear m0 m1 hm
      have hfr := HF0.out.below hb1
      have HFR := Lib.hid hfr
      have HB1 := Lib.hid hfr.bel
      obtain ⟨m0, m1⟩ := hfr.t
      have r0 := hfr.r0
      have r1 := hfr.r1
      have f0 := hfr.f0
      have f1 := hfr.f1
      clear hfr
      clear hb1
      go_wp2_with fail
      refine (L.out _).mono ?_
      rintro e w' ⟨rfl, rfl⟩
      go_wp2_with fail
      refine bodyPost_ret (v := .tuple #[.agg #[.string { data := #[] }, .slice none 0 0], .int .i64 2]) (by simp [results, Try.results47, go_sem, r0, r1]) rfl ⟨_, rfl, Ky.Own.nil _ _ _, ?_⟩
      repeat (first | exact Below.refl _ _ | exact HB1.out | refine Below.setCell ?_ (by first | (simp; done) | omega | (simp; omega)) _ | refine Below.alloc ?_ (by first | (simp; done) | omega | (simp; omega)) _ | refine bel_drew ?_)
    | true =>
      rw [hx0] at L
      rw [if_pos rfl]
      have hv := (inR_1 _ _ _).1 hx0
      clear hx0
      have SB := Lib.hid (fun j hj => stepI_bd hT hv.1 j hj)
      have TB := Lib.hid (fun j hj => slT_bd hT hv.1 j hj)
      have TN := Lib.hid (slT_next zs v)
      have IL := Lib.hid (rtT_len zs (slT zs v))
      have IS := Lib.hid (rtT_set zs (slT zs v))
      have IG := Lib.hid (rtT_get zs (slT zs v))
      have IAt := Lib.hid (rtT_at zs (slT zs v))
      have IA := Lib.hid (rtT_all zs (slT zs v))
      have I0 := rtT_one zs (slT zs v) hT.n1 rfl
      have IP := Lib.hid (rtT_prev zs (slT zs v))
      have IU := Lib.hid (rtT_put zs (slT zs v))
      have IB := Lib.hid (rtT_own zs (slT zs v))
      have IC := Lib.hid (rtT_cur zs (slT zs v))
      have RL := retL_len zs (slT zs v) zs.length
      have n1 := hT.n1
      have n24 := hT.n24
      have KI := Lib.hid hT.i
      clear hT
      obtain ⟨RR, hRR⟩ : ∃ L, L = retL zs (slT zs v) zs.length := ⟨_, rfl⟩
      rw [← hRR] at IA RL ⊢
      clear hRR
      obtain ⟨M, hM⟩ : ∃ M, M = rtT zs (slT zs v) := ⟨_, rfl⟩
      rw [← hM] at IL IS IG IAt IA I0 IP IU IB IC
      obtain ⟨F, hF⟩ : ∃ F, F = slT zs v := ⟨_, rfl⟩
      rw [← hF] at TB TN IP IU
      clear hM hF IS IAt IG
      go_enter Try.func47, Try.ntmps47
      go_wp2_with fail
      rw [← HW.out]
      clear HW
      go_wp2_with fail
      refine V.out.mono ?_
      rintro e w1 ⟨rfl, m, hm⟩
      have hb1 : Below W0.heap.size W0 w1 := by rw [hm]; exact bel_dT (Below.refl _ _) m
      clear m0 m1 hm
      have hfr := HF0.out.below hb1
      have HFR := Lib.hid hfr
      have HB1 := Lib.hid hfr.bel
      obtain ⟨m0, m1⟩ := hfr.t
      have r0 := hfr.r0
      have r1 := hfr.r1
      have f0 := hfr.f0
      have f1 := hfr.f1
      clear hfr
      clear hb1
      go_wp2_with fail
      refine (L.out _).mono ?_
      rintro e w' ⟨rfl, rfl⟩
      go_wp2_with fail
      have hsw := HFR.out.hs
      refine (OW.out _ HB1.out n1 ⟨m0, m1⟩).mono ?_
      rintro e w2 ⟨v2, rfl, ho2, hn2, hb2⟩
      obtain ⟨h, hcp, rfl, hh1, hh2⟩ : ∃ h hcp, v2 = .slice (some ⟨h, 0, none⟩) zs.length hcp ∧ w1.heap.size ≤ h ∧ h < w2.heap.size := by
        rcases ho2.forms with ⟨e, _⟩ | ⟨h, c, e, e1, e2, _⟩
        · exact absurd e hn2
        · exact ⟨h, c, e, e1, e2⟩
      have hs2 := hb2.size
      obtain ⟨W3, hW3⟩ : ∃ W, W = w2.alloc (Obj.cells #[Value.string s, .slice (some ⟨h, 0, none⟩) zs.length hcp] 29) := ⟨_, rfl⟩
      have hb3 : Below w2.heap.size w2 W3 := by rw [hW3]; exact (Below.refl _ _).alloc (Nat.le_refl _) _
      have hs3 := hb3.size
      have T3 : Hid (TAt W3 w2.heap.size s (.slice (some ⟨h, 0, none⟩) zs.length hcp)) := Lib.hid (by rw [hW3]; exact TAt.new _ _ _ _)
      have F3 := Lib.hid ((HFR.out.below hb2).below hb3)
      obtain ⟨CC, hCC⟩ : ∃ C, C = w2.heap.size := ⟨_, rfl⟩
      have O3 := (ho2.below hb3).le (B := w.heap.size + 2) (by omega) (Nat.le_refl _)
      rw [← hCC] at hh2 O3 T3
      have M0 : Hid (Own W3 (w.heap.size + 2) CC (.slice (some ⟨h, 0, none⟩) zs.length hcp) (M 1)) := Lib.hid (by rw [I0]; exact O3)
      have hh3 : w.heap.size + 2 ≤ h := by omega
      have hz3 : CC < W3.heap.size := by have := T3.out.lt; omega
      have HW3 := Lib.hid hW3
      clear hn2 ho2 O3 I0 hb2 hb3 hW3 m0 m1 r0 r1 f0 f1 hs2 hs3 hh1
      go_wp2_with fail
      rw [← HW3.out]
      clear HW3
      have H_CC := Lib.hid hCC
      rw [← hCC]
      clear hCC
      go_loopg [7] (zs.length + 1) (fun kx sx wr => ∃ k : Nat, sx = .int .i64 ((k : Int) + 1) ∧ k + 1 ≤ zs.length ∧ kx = zs.length + 1 - k ∧ Hid (Own wr (w.heap.size + 2) CC (.slice (some ⟨h, 0, none⟩) zs.length hcp) (M (k + 1))) ∧ Hid (Fr 1 w.heap.size w.heap.size w wr s (.slice (some ⟨g, 0, none⟩) zs.length cap)) ∧ Hid (TAt wr CC s (.slice (some ⟨h, 0, none⟩) zs.length hcp)) ∧ CC < wr.heap.size)
      case atStart => exact ⟨0, rfl, n1, rfl, M0, F3, T3, hz3⟩
      case round =>
        obtain ⟨k, rfl, hk, rfl, HO, HFW, HT, hcw⟩ := hrel
        obtain ⟨t0, t1⟩ := HT.out
        obtain ⟨m0, m1⟩ := HFW.out.t
        by_cases hlt : k + 1 < zs.length
        · have j0 : (0 : Int) ≤ (k : Int) := by omega
          have j1 : (k : Int) < (zs.length : Int) := by omega
          have j2 : (k : Int) + 1 < (zs.length : Int) := by omega
          have j3 : (0 : Int) ≤ (k : Int) + 1 := by omega
          have tk : ((k : Int) + 1).toNat = k + 1 := by omega
          have wj : IntKind.i64.wrap ((k : Int) + 1) = (k : Int) + 1 := IntWalk.i64_in _ (by omega)
          have wi : IntKind.i64.wrap (k : Int) = (k : Int) := IntWalk.i64_in _ (by omega)
          have hml := IL.out (k + 1) hk
          have hO := HO.out
          have hat := hO.at k (by omega)
          rw [IP.out k hk (by omega)] at hat
          have p0 := hat.1
          have g0 := hO.free ((k + 1) * 2)
          have hat2 := hO.at (k + 1) (by omega)
          rw [IC.out (k + 1) hlt (by omega)] at hat2
          have q0 := hat2.1
          obtain ⟨c0, c1⟩ := RP.out wr HFW.out.bel k (by omega)
          obtain ⟨d0, d1⟩ := RP.out wr HFW.out.bel (k + 1) hlt
          have k1 := KI.out k (by omega)
          have k2 := KI.out (k + 1) hlt
          obtain ⟨sb1, sb2⟩ := SB.out k hlt
          have tb := TB.out k (by omega)
          have tn := TN.out k
          have hms := IU.out (k + 1) hlt
          have hma := IB.out (k + 1) hlt
          have hwr := HFW.out.hs
          generalize (gk zs k).f0 = x0 at *
          generalize (gk zs k).f1 = x1 at *
          generalize (gk zs (k + 1)).f0 = y0 at *
          generalize (gk zs (k + 1)).f1 = y1 at *
          change wr.cell? ⟨h, k * 2, none⟩ = some (.int .i64 (F k)) at p0
          change wr.cell? ⟨h, (k + 1) * 2, none⟩ = some (.int .i64 y0) at q0
          have s0 := sz_nonneg (y1 - x1)
          have s1 := sz_le (y1 - x1) 2000000 (by omega) (by omega)
          have A := Lib.hid (fun w => AB.out (y1 - x1) (by omega) (by omega) w)
          rw [ab_sz] at A
          have w1 : IntKind.i64.wrap (y1 - x1) = y1 - x1 := IntWalk.i64_in _ (by omega)
          have w2 : IntKind.i64.wrap (y0 - x0) = y0 - x0 := IntWalk.i64_in _ (by omega)
          obtain ⟨z, hz⟩ : ∃ z, z = sz (y1 - x1) := ⟨_, rfl⟩
          rw [← hz] at A s0 s1 sb1 sb2 tn
          clear hz
          have w3 : IntKind.i64.wrap (z * 1000) = z * 1000 := IntWalk.i64_in _ (by omega)
          have UU := Lib.hid (fun w => UP.out (z * 1000) v w (by omega) (by omega) (by omega) (by omega))
          obtain ⟨q, hq⟩ : ∃ q, q = upQ (z * 1000) v := ⟨_, rfl⟩
          rw [← hq] at UU sb1 sb2 tn
          clear hq
          have MM := Lib.hid (fun w => MX.out q (y0 - x0) w)
          change F (k + 1) = F k + (if y0 - x0 < q then q else y0 - x0) at tn
          unfold mxI at sb2
          obtain ⟨r, hr⟩ : ∃ r, r = (if y0 - x0 < q then q else y0 - x0) := ⟨_, rfl⟩
          rw [← hr] at MM tn sb2
          clear hr
          generalize F k = u at *
          have w4 : IntKind.i64.wrap (u + r) = u + r := IntWalk.i64_in _ (by omega)
          rw [tn] at hms
          have HNL : Hid ((M (k + 1)).length = zs.length) := Lib.hid hml
          rw [← hma] at hO
          have HHO := Lib.hid hO
          clear hml hO hat hat2 hma
          go_wp2_with fail
          go_quiet ((first | (go_at_call 86; with_reducible exact quiet_leftT (A.out _)) | (go_at_call 85; with_reducible exact quiet_leftT (UU.out _))))
          rename Nat => q9
          go_wp2_with fail
          refine wp_region_still_tail 29 (by kernel_rfl) (by kernel_rfl) ?_
          obtain ⟨W5, hW5⟩ : ∃ W : World, W = ({ heap := (wr.drewN q9).heap, tape := (wr.drewN q9).tape, drawn := (wr.drewN q9).drawn + 1, os := (wr.drewN q9).os, output := (wr.drewN q9).output } : World) := ⟨_, rfl⟩
          have hB5 : Below wr.heap.size wr W5 := by rw [hW5]; exact ⟨rfl, rfl, rfl, Nat.le_refl _, fun _ _ => rfl⟩
          have e1 : W5.cell? ⟨CC, 1, none⟩ = some (.slice (some ⟨h, 0, none⟩) zs.length hcp) := by rw [hW5]; exact t1
          have e2 : W5.cell? ⟨w.heap.size, 1, none⟩ = some (.slice (some ⟨g, 0, none⟩) zs.length cap) := by rw [hW5]; exact m1
          have e3 : W5.cell? ⟨g, k * 2, none⟩ = some (.int .i64 x0) := by rw [hW5]; exact c0
          have e4 : W5.cell? ⟨g, (k + 1) * 2, none⟩ = some (.int .i64 y0) := by rw [hW5]; exact d0
          have e5 : W5.cell? ⟨h, k * 2, none⟩ = some (.int .i64 u) := by rw [hW5]; exact p0
          have e7 : W5.cell? ⟨h, (k + 1) * 2, none⟩ = some (.int .i64 y0) := by rw [hW5]; exact q0
          have e6 : W5.frozen? ⟨h, (k + 1) * 2, none⟩ = false := by rw [hW5]; exact g0
          have hs5 := hB5.size
          rw [← hW5]
          have hP := Ky.Own.put0 (HHO.out.below hB5) (by rw [HNL.out]; exact hlt) (u + r)
          rw [hms] at hP
          have PU := Lib.hid hP
          have PF := Lib.hid ((HFW.out.below hB5).set (b := h) (o := (k + 1) * 2) (v := .int .i64 (u + r)) (by omega))
          have PT := Lib.hid ((HT.out.below hB5).mod (B := h) (C := h + 1) (Mod.setCell (o := (k + 1) * 2) (Mod.refl _ _ W5) (Nat.le_refl _) (Nat.lt_succ_self _) (.int .i64 (u + r))) (Or.inr (by omega)))
          have hz5 : CC < (W5.setCell ⟨h, (k + 1) * 2, none⟩ (.int .i64 (u + r))).heap.size := by simp [World.setCell]; omega
          have HZ := Lib.hid hz5
          clear hP hz5 hms hW5 hB5 t0 t1 m0 m1 c0 c1 d0 d1 p0 q0 g0 HHO
          simp only [List.take_succ_cons, List.take_zero, List.drop_succ_cons, List.drop_zero]
          repeat still_step
          still_call (quiet_wT (MM.out _))
          repeat still_step
          refine wpStill_nil ?_
          go_wp2_with fail
          go_roundg (zs.length + 1 - (k + 1))
          case measure => omega
          case rel => exact ⟨k + 1, by go_num, by omega, by omega, PU, PF, PT, HZ.out⟩
        · have hk2 : k + 1 = zs.length := by omega
          rw [hk2] at HO
          have hk3 : ¬ ((k : Int) + 1 < (zs.length : Int)) := by omega
          clear hk2
          have hO := HO.out
          rw [IA.out] at hO
          have hRW := hO.row
          rw [← RL] at hO
          have DN2 := Lib.hid (DN.out h hcp RR wr (by omega) hRW)
          rw [RL] at DN2 hO
          have HO2 := Lib.hid hO
          have hwr := HFW.out.hs
          clear hO hRW DN
          unfold doneT at DN2
          cases ho : trackB s RR with
          | false =>
            have HD : Hid (doneV s RR = tErr 6) := Lib.hid (by unfold doneV; rw [if_neg (by rw [ho]; simp)])
            rw [if_neg (by rw [ho]; simp)] at DN2
            clear ho
            go_wp2_with fail
            refine (DN2.out).mono ?_
            rintro e w6 ⟨rfl, hb6⟩
            clear t0 t1 m0 m1
            have hfr := HFW.out.below hb6
            have HFR := Lib.hid hfr
            have HB1 := Lib.hid hfr.bel
            obtain ⟨m0, m1⟩ := hfr.t
            have r0 := hfr.r0
            have r1 := hfr.r1
            have f0 := hfr.f0
            have f1 := hfr.f1
            clear hfr
            go_wp2_with fail
            refine bodyPost_ret (v := .tuple #[.agg #[.string { data := #[] }, .slice none 0 0], .int .i64 6]) (by simp [results, Try.results47, go_sem, r0, r1]) rfl ⟨_, by rw [HD.out]; rfl, by rw [HD.out]; exact Ky.Own.nil _ _ _, ?_⟩
            repeat (first | exact Below.refl _ _ | exact HB1.out | refine Below.setCell ?_ (by first | (simp; done) | omega | (simp; omega)) _ | refine Below.alloc ?_ (by first | (simp; done) | omega | (simp; omega)) _ | refine bel_drew ?_)
          | true =>
            have HD : Hid (doneV s RR = (s, RR, 0)) := Lib.hid (by unfold doneV; rw [if_pos ho])
            rw [if_pos ho] at DN2
            clear ho
            go_wp2_with fail
            refine (DN2.out).mono ?_
            rintro e w6 ⟨rfl, hb6⟩
            have HO6 := Lib.hid (HO2.out.below hb6)
            have hs6 := hb6.size
            clear t0 t1 m0 m1
            have hfr := HFW.out.below hb6
            have HFR := Lib.hid hfr
            have HB1 := Lib.hid hfr.bel
            obtain ⟨m0, m1⟩ := hfr.t
            have r0 := hfr.r0
            have r1 := hfr.r1
            have f0 := hfr.f0
            have f1 := hfr.f1
            clear hfr
            go_wp2_with fail
            refine bodyPost_ret (v := .tuple #[.agg #[.string s, .slice (some ⟨h, 0, none⟩) zs.length hcp], .int .i64 0]) (by simp [results, Try.results47, go_sem, r0, r1]) rfl ⟨_, by rw [HD.out], ?_, ?_⟩
            · rw [HD.out]
              refine Ky.Own.le (Ky.Own.mod HO6.out (B' := w.heap.size + 1) (C' := w.heap.size + 2) ?_ (Or.inr (Nat.le_refl _))) (by omega) (by simp; omega)
              repeat (first | exact Mod.refl _ _ _ | refine Mod.setCell ?_ (by omega) (by omega) _)
            ·
              repeat (first | exact Below.refl _ _ | exact HB1.out | refine Below.setCell ?_ (by first | (simp; done) | omega | (simp; omega)) _ | refine Below.alloc ?_ (by first | (simp; done) | omega | (simp; omega)) _ | refine bel_drew ?_)
end Go.Proofs.Ytdbocpcijkngpaa.Tk
