/-
  New times for the keys of a track (both packages): retimed, shifted, ShiftTrack.
-/
import Derived.Test.YtdbocpcijkngpaaTkF
import Derived.Test.YtdbocpcijkngpaaTkW
import Derived.Deep.LoopGhost
namespace Go.Proofs.Ytdbocpcijkngpaa.Tk
open Go.RowKit
open Ky (V In Own Row At gk)
set_option linter.unusedVariables false

/-- The keys with new times. -/
def retL (zs : List V) (T : Nat → Int) (j : Nat) : List V := (List.range j).map fun i => ⟨T i, (gk zs i).f1⟩
theorem retL_len (zs : List V) (T : Nat → Int) (j : Nat) : (retL zs T j).length = j := by unfold retL; rw [List.length_map, List.length_range]
theorem retL_next (zs : List V) (T : Nat → Int) (j : Nat) : retL zs T (j + 1) = retL zs T j ++ [⟨T j, (gk zs j).f1⟩] := by
  unfold retL
  rw [List.range_succ, List.map_append]
  rfl
/-- The first j with new times, the others as they were. -/
def rtT (zs : List V) (T : Nat → Int) (j : Nat) : List V := retL zs T j ++ zs.drop j
theorem rtT_len (zs : List V) (T : Nat → Int) (j : Nat) (h : j ≤ zs.length) : (rtT zs T j).length = zs.length := by
  unfold rtT
  rw [List.length_append, retL_len, List.length_drop]
  omega
theorem rtT_zero (zs : List V) (T : Nat → Int) : rtT zs T 0 = zs := by simp [rtT, retL]
theorem rtT_all (zs : List V) (T : Nat → Int) : rtT zs T zs.length = retL zs T zs.length := by simp [rtT]
theorem rtT_at (zs : List V) (T : Nat → Int) (j : Nat) (h : j < zs.length) : (rtT zs T j).set j zs[j] = rtT zs T j := by
  have hl := retL_len zs T j
  unfold rtT
  rw [List.drop_eq_getElem_cons h, List.set_append_right _ _ (by omega), hl, Nat.sub_self, List.set_cons_zero]
theorem rtT_set (zs : List V) (T : Nat → Int) (j : Nat) (h : j < zs.length) : (rtT zs T j).set j ⟨T j, zs[j].f1⟩ = rtT zs T (j + 1) := by
  have hl := retL_len zs T j
  unfold rtT
  rw [List.drop_eq_getElem_cons h, List.set_append_right _ _ (by omega), hl, Nat.sub_self, List.set_cons_zero, retL_next, List.append_assoc, Ky.gk_at zs j h]
  rfl
theorem rtT_get (zs : List V) (T : Nat → Int) (j : Nat) (h : j < zs.length) (h2 : j < (rtT zs T j).length) : (rtT zs T j)[j] = zs[j] := by
  have hl := retL_len zs T j
  have e : (rtT zs T j)[j]? = some zs[j] := by
    unfold rtT
    rw [List.getElem?_append_right (by omega), hl, Nat.sub_self, List.getElem?_drop, Nat.add_zero, List.getElem?_eq_getElem h]
  rw [List.getElem?_eq_getElem h2] at e
  exact Option.some.inj e
theorem modOut {B C B' C' : Nat} {w W W' : World} (h : Mod B C w W) (hm : Mod B' C' W W') (hB : w.heap.size ≤ B') : Mod B C w W' :=
  ⟨hm.os.trans h.os, hm.tape.trans h.tape, hm.output.trans h.output, Nat.le_trans h.size hm.size, fun i hi hc => (hm.block i (Nat.lt_of_lt_of_le hi h.size) (by omega)).trans (h.block i hi hc)⟩
/-- What a function that returns a track and a code comes to, if it may have changed blocks from B to C besides. -/
def MPost (B C : Nat) (r : ByteArray × List V × Int) (w : World) (e : Ending) (w' : World) : Prop :=
  ∃ v, e = .returned (.tuple #[.agg #[.string r.1, v], .int .i64 r.2.2]) ∧ Own w' w.heap.size w'.heap.size v r.2.1 ∧ Mod B C w w'
theorem MPost.t {r : ByteArray × List V × Int} {w w' : World} {e : Ending} (h : MPost w.heap.size w.heap.size r w e w') : TPost r w e w' := by
  obtain ⟨v, he, ho, hm⟩ := h
  exact ⟨v, he, ho, hm.below (Nat.le_refl _) (Nat.le_refl _)⟩

set_option maxRecDepth 100000 in
set_option maxHeartbeats 8000000 in
theorem retimed_any (FN : Nat) (cb : Array Value) (eg : ∀ args w, (callFunc FN args).run Try.prog w = .ok (.enter FN args) w) (s : ByteArray) (hs : s.size ≤ maxLen) (g cap : Nat) (zs : List V) (w : World) (B C : Nat) (hC : C ≤ w.heap.size) (hz : zs.length ≤ 24) (hn : 0 < zs.length) (h1 : Row w g zs)
    (T : Nat → Int) (S : Nat → World → Prop) (hS0 : S 0 w) (hSt : ∀ j W W', S j W → Below w.heap.size W W' → S j W')
    (hf : ∀ j W, j < zs.length → w.heap.size ≤ W.heap.size → S j W → Calls Try.prog FN (#[.agg #[.int .i64 ((gk zs j).f0), .int .i64 ((gk zs j).f1)]] ++ cb) W fun e w' => e = .returned (.int .i64 (T j)) ∧ S (j + 1) w' ∧ Mod B C W w') :
    Calls Try.prog 83 #[.agg #[.string s, .slice (some ⟨g, 0, none⟩) zs.length cap], .func (.func FN) #[] cb] w (MPost B C (doneV s (retL zs T zs.length)) w) := by
  obtain ⟨W0, hW0⟩ : ∃ W, W = (w.alloc (Obj.cells #[Value.string s, Value.slice (some ⟨g, 0, none⟩) zs.length cap] 29)).alloc (Obj.cells #[Value.string { data := #[] }, Value.slice none 0 0] 29) := ⟨_, rfl⟩
  have F0 : Fr 1 B C w W0 s (.slice (some ⟨g, 0, none⟩) zs.length cap) := by rw [hW0]; exact fr_new _ _ _ _ _ hC
  have hb0 : Below w.heap.size w W0 := by rw [hW0]; exact ((Below.refl _ w).alloc (Nat.le_refl _) _).alloc (by simp) _
  have CL := Lib.hid (Ky.clone_any g cap zs W0 (by omega) (h1.below hb0))
  have HV := Lib.hid (fun h hcp zs' (W : World) (hb : zs'.length ≤ 1048577) (hR : Row W h zs') => implValid_any s hs h hcp zs' W hb hR)
  have S0 := Lib.hid (hSt 0 w W0 hS0 hb0)
  have ST := Lib.hid hSt
  have HF := Lib.hid hf
  have IL := Lib.hid (rtT_len zs T)
  have IS := Lib.hid (rtT_set zs T)
  have IG := Lib.hid (rtT_get zs T)
  have IAt := Lib.hid (rtT_at zs T)
  have IA := Lib.hid (rtT_all zs T)
  have I0 := rtT_zero zs T
  have RL := retL_len zs T zs.length
  have HF0 := Lib.hid F0
  have HW := Lib.hid hW0
  clear h1 hS0 hSt hf hs F0 hb0 hW0
  obtain ⟨RR, hRR⟩ : ∃ L, L = retL zs T zs.length := ⟨_, rfl⟩
  have HRR := Lib.hid hRR
  rw [← hRR] at IA RL
  rw [← hRR]
  clear hRR
  obtain ⟨M, hM⟩ : ∃ M, M = rtT zs T := ⟨_, rfl⟩
  rw [← hM] at IL IS IG IAt IA I0
  clear hM
  go_enter Try.func83, Try.ntmps83
  go_wp2_with fail
  rw [← HW.out]
  obtain ⟨m0, m1⟩ := HF0.out.t
  go_wp2_with fail
  refine (CL.out).mono ?_
  rintro e w3 ⟨v3, rfl, ho3, hn3, hb3⟩
  have hsz := hb3.size
  have F3 := HF0.out.below hb3
  have S3 := Lib.hid (ST.out 0 W0 w3 S0.out (hb3.mono (Nat.le_of_lt (Nat.lt_of_le_of_lt (Nat.le_add_right _ _) HF0.out.hs))))
  obtain ⟨h, hcp, rfl, hh1, hh2⟩ : ∃ h hcp, v3 = .slice (some ⟨h, 0, none⟩) zs.length hcp ∧ W0.heap.size ≤ h ∧ h < w3.heap.size := by
    rcases ho3.forms with ⟨e, _⟩ | ⟨h, c, e, e1, e2, _⟩
    · exact absurd e hn3
    · exact ⟨h, c, e, e1, e2⟩
  have hw0 := HF0.out.hs
  obtain ⟨CC, hCC⟩ : ∃ C, C = w3.heap.size := ⟨_, rfl⟩
  have hc4 : CC ≤ w3.heap.size := by omega
  have O3 := ho3.le (B := w.heap.size + 2) (by omega) (Nat.le_refl _)
  rw [← hCC] at hh2 O3
  have hh3 : w.heap.size + 2 ≤ h := by omega
  have M0 : Hid (Own w3 (w.heap.size + 2) CC (.slice (some ⟨h, 0, none⟩) zs.length hcp) (M 0)) := Lib.hid (by rw [I0]; exact O3)
  have HF3 := Lib.hid F3
  clear ho3 hn3 hb3 O3 I0 hCC F3 hh1 m0 m1 hsz hw0 S0
  go_wp2_with fail
  go_loopg [15] (zs.length + 1) (fun kx s15 wr => ∃ j : Nat, s15 = .int .i64 (j : Int) ∧ j ≤ zs.length ∧ kx = zs.length + 1 - j ∧ Hid (Own wr (w.heap.size + 2) CC (.slice (some ⟨h, 0, none⟩) zs.length hcp) (M j)) ∧ Hid (Fr 1 B C w wr s (.slice (some ⟨g, 0, none⟩) zs.length cap)) ∧ Hid (S j wr) ∧ CC ≤ wr.heap.size)
  case atStart => exact ⟨0, rfl, Nat.zero_le _, rfl, M0, HF3, S3, hc4⟩
  case round =>
    obtain ⟨j, rfl, hj, rfl, HO, HFR, HS, hcw⟩ := hrel
    by_cases hlt : j < zs.length
    · have j0 : (0 : Int) ≤ (j : Int) := by omega
      have j1 : (j : Int) < (zs.length : Int) := by omega
      have hml := IL.out j hj
      have hat := HO.out.at j (by omega)
      rw [IG.out j hlt (by omega)] at hat
      have hms := IS.out j hlt
      have hma := IAt.out j hlt
      obtain ⟨c0, c1⟩ := hat
      have hO := HO.out
      rw [← hma] at hO
      have hwr := HFR.out.hs
      obtain ⟨W1, hW1⟩ : ∃ W, W = wr.alloc (Obj.cells #[.int .i64 zs[j].f0, .int .i64 zs[j].f1] 48) := ⟨_, rfl⟩
      have hbw : Below wr.heap.size wr W1 := by rw [hW1]; exact (Below.refl _ _).alloc (Nat.le_refl _) _
      have hCL := HF.out j W1 hlt (by have := hbw.size; omega) (ST.out j wr W1 HS.out (hbw.mono (by omega)))
      rw [Ky.gk_at zs j hlt] at hCL
      have hO1 := hO.below hbw
      have F1 := HFR.out.below hbw
      have hs1 := hbw.size
      have k0 : W1.cell? ⟨wr.heap.size, 0, none⟩ = some (.int .i64 zs[j].f0) := by rw [hW1]; simp
      have k1 : W1.cell? ⟨wr.heap.size, 1, none⟩ = some (.int .i64 zs[j].f1) := by rw [hW1]; simp
      have HCL := Lib.hid hCL
      generalize zs[j] = x at *
      obtain ⟨x0, x1⟩ := x
      simp only at c0 c1 k0 k1 hms HCL hW1
      have HW1 := Lib.hid hW1
      have HO1 := Lib.hid hO1
      have HF1 := Lib.hid F1
      have HMS := Lib.hid hms
      have HML := Lib.hid hml
      clear hW1 hO hO1 F1 hms hma hml hCL hbw
      go_wp2_with fail
      rw [← HW1.out]
      clear HW1 c0 c1
      go_wp2_with (go_at_fn FN; refine (HCL.out).mono ?_; rintro e w5 ⟨rfl, hS5, hm5⟩; have hO5 := HO1.out.mod hm5 (Or.inr (by omega)); have d0 := (hO5.at j (by rw [List.length_set, HML.out]; exact hlt)).c0; have f0 := hO5.free (j * 2); have HO5 := Lib.hid hO5; have HS5 := Lib.hid hS5; have HM5 := Lib.hid hm5; clear hO5 hS5 hm5)
      have F5 := HF1.out.mod HM5.out (Or.inr ⟨Nat.le_refl _, Nat.le_refl _⟩)
      have hs5 := HM5.out.size
      have hP := Ky.Own.put0 HO5.out (by rw [HML.out]; exact hlt) (T j)
      rw [HMS.out] at hP
      have PU := Lib.hid hP
      have PF := Lib.hid (F5.set (b := h) (o := j * 2) (v := .int .i64 (T j)) (by omega))
      have PS := Lib.hid (ST.out (j + 1) w5 (w5.setCell ⟨h, j * 2, none⟩ (.int .i64 (T j))) HS5.out ((Below.refl _ _).setCell (p := ⟨h, j * 2, none⟩) (show w.heap.size ≤ h by omega) _))
      have hz5 : CC ≤ (w5.setCell ⟨h, j * 2, none⟩ (.int .i64 (T j))).heap.size := by simp [World.setCell]; omega
      have HZ := Lib.hid hz5
      clear hP hz5 F5 k0 k1
      go_roundg (zs.length + 1 - (j + 1))
      case measure => omega
      case rel => exact ⟨j + 1, by go_num, by omega, by omega, PU, PF, PS, HZ.out⟩
    · obtain rfl : j = zs.length := by omega
      have hO := HO.out
      rw [IA.out] at hO
      rw [← RL] at hO
      have hRW := hO.row
      have hbd := hO.bd
      have hF := HFR.out
      obtain ⟨m0, m1⟩ := hF.t
      have hwr := hF.hs
      obtain ⟨W1, hW1⟩ : ∃ W, W = wr.alloc (Obj.cells #[Value.string s, .slice (some ⟨h, 0, none⟩) zs.length hcp] 29) := ⟨_, rfl⟩
      have hbw : Below wr.heap.size wr W1 := by rw [hW1]; exact (Below.refl _ _).alloc (Nat.le_refl _) _
      have T1 : TAt W1 wr.heap.size s (.slice (some ⟨h, 0, none⟩) zs.length hcp) := by rw [hW1]; exact TAt.new _ _ _ _
      have VV := HV.out h hcp RR W1 (by omega) (hRW.below hbw)
      rw [RL] at VV hO
      have HVV := Lib.hid VV
      have HO1 := Lib.hid (hO.below hbw)
      have HF1 := Lib.hid (hF.below hbw)
      have HT1 := Lib.hid T1
      have HW1 := Lib.hid hW1
      have hs1 := hbw.size
      obtain ⟨k0, k1⟩ := T1
      clear hW1 VV hO hF hRW hbd hbw
      cases ho : trackB s RR with
      | false =>
        have HD : Hid (doneV s RR = tErr 6) := Lib.hid (by unfold doneV; rw [if_neg (by rw [ho]; simp)])
        rw [ho] at HVV
        clear ho
        go_wp2_with fail
        rw [← HW1.out]
        clear HW1
        go_wp2_with fail
        refine (HVV.out).mono ?_
        rintro e w6 ⟨rfl, hb6⟩
        have hfr := HF1.out.below hb6
        have HM6 := Lib.hid hfr.hb
        have r0 := hfr.r0
        have r1 := hfr.r1
        have f0 := hfr.f0
        have f1 := hfr.f1
        clear hfr hb6 m0 m1 k0 k1
        go_wp2_with fail
        refine bodyPost_ret (v := .tuple #[.agg #[.string { data := #[] }, .slice none 0 0], .int .i64 6]) (by simp [results, Try.results83, go_sem, r0, r1]) rfl ⟨_, by rw [HD.out]; rfl, by rw [HD.out]; exact Ky.Own.nil _ _ _, ?_⟩
        refine modOut HM6.out (B' := w.heap.size + 1) (C' := w.heap.size + 2) ?_ (by omega)
        repeat (first | exact Mod.refl _ _ _ | refine Mod.setCell ?_ (by omega) (by omega) _)
      | true =>
        have HD : Hid (doneV s RR = (s, RR, 0)) := Lib.hid (by unfold doneV; rw [if_pos ho])
        rw [ho] at HVV
        clear ho
        go_wp2_with fail
        rw [← HW1.out]
        clear HW1
        go_wp2_with fail
        refine (HVV.out).mono ?_
        rintro e w6 ⟨rfl, hb6⟩
        have hfr := HF1.out.below hb6
        have HM6 := Lib.hid hfr.hb
        obtain ⟨p0, p1⟩ := HT1.out.below hb6
        have HO6 := Lib.hid (HO1.out.below hb6)
        have hs6 := hb6.size
        have r0 := hfr.r0
        have r1 := hfr.r1
        have f0 := hfr.f0
        have f1 := hfr.f1
        clear hfr hb6 m0 m1 k0 k1
        go_wp2_with fail
        refine bodyPost_ret (v := .tuple #[.agg #[.string s, .slice (some ⟨h, 0, none⟩) zs.length hcp], .int .i64 0]) (by simp [results, Try.results83, go_sem, r0, r1]) rfl ⟨_, by rw [HD.out], ?_, ?_⟩
        · rw [HD.out]
          refine Ky.Own.le (Ky.Own.mod HO6.out (B' := w.heap.size + 1) (C' := w.heap.size + 2) ?_ (Or.inr (Nat.le_refl _))) (by omega) (by simp; omega)
          repeat (first | exact Mod.refl _ _ _ | refine Mod.setCell ?_ (by omega) (by omega) _)
        · refine modOut HM6.out (B' := w.heap.size + 1) (C' := w.heap.size + 2) ?_ (by omega)
          repeat (first | exact Mod.refl _ _ _ | refine Mod.setCell ?_ (by omega) (by omega) _)
end Go.Proofs.Ytdbocpcijkngpaa.Tk
