/-
  Keys of tracks (package impl): when one is valid, which one stands before another, when a list of them is valid.
-/
import Derived.Test.YtdbocpcijkngpaaKyR
import Derived.Test.YtdbocpcijkngpaaKyL
import Derived.Test.YtdbocpcijkngpaaNam
import Derived.Test.YtdbocpcijkngpaaCore3
import Derived.Test.YtdbocpcijkngpaaKeep
import Derived.IntWalk
import Derived.RegionTactic
import Derived.Deep.QuietTactic
import Derived.BigQuiet
import Derived.Deep.Draws
import Derived.Deep.LoopGhost
import Derived.Deep.RegionHeld3
import Derived.Deep.RegionWith
import Derived.StillTailTactics
import Derived.Shelf.Abstract
import Derived.Handy
namespace Go.Proofs.Ytdbocpcijkngpaa.Ky
open Go.RowKit
set_option linter.unusedVariables false

def gk (zs : List V) (k : Nat) : V := zs.getD k zero
theorem gk_at (zs : List V) (k : Nat) (hk : k < zs.length) : gk zs k = zs[k] := by unfold gk; rw [List.getD_eq_getElem?_getD, List.getElem?_eq_getElem hk]; rfl
theorem Row.gk {w : World} {g : Nat} {zs : List V} (h : Row w g zs) (k : Nat) (hk : k < zs.length) : At w g (k * 2) (gk zs k) := by rw [gk_at zs k hk]; exact h.at k hk
def keyB (x0 x1 : Int) : Bool := inR 0 7200000 [x0] && inR (-1000000) 1000000 [x1]
def V.good (x : V) : Bool := keyB x.f0 x.f1
theorem good_bd {x : V} (h : x.good = true) : (0 ≤ x.f0 ∧ x.f0 ≤ 7200000) ∧ (-1000000 ≤ x.f1 ∧ x.f1 ≤ 1000000) := by
  unfold V.good keyB at h
  simp only [Bool.and_eq_true, inR_1] at h
  omega
def befC (x y : V) : Bool := decide (x.f0 < y.f0)
def cmpI (a b : Int) : Int := if a < b then -1 else if b < a then 1 else 0
def cmpC (x y : V) : Int := cmpI x.f0 y.f0
theorem cmpC_lt (x y : V) : (cmpC x y < 0) ↔ befC x y = true := by
  unfold cmpC befC cmpI
  rw [decide_eq_true_eq]
  split
  · constructor <;> intro <;> omega
  · split <;> constructor <;> intro h <;> omega
def stepB (zs : List V) (j : Nat) : Bool := (zs.getD j zero).good && (j == 0 || befC (zs.getD (j - 1) zero) (zs.getD j zero))
def okZ (zs : List V) (j : Nat) : Bool := (List.range j).all (stepB zs)
/-- All valid, each behind the one before, no more than 24. -/
def incB (zs : List V) : Bool := okZ zs zs.length && decide (zs.length ≤ 24)
theorem okZ_next (zs : List V) (j : Nat) : okZ zs (j + 1) = (okZ zs j && stepB zs j) := by
  unfold okZ
  rw [List.range_succ, List.all_append]
  simp
theorem okZ_stop (zs : List V) (j : Nat) (h : j < zs.length) (hs : stepB zs j = false) : incB zs = false := by
  unfold incB okZ
  have : (List.range zs.length).all (stepB zs) = false := by
    rw [List.all_eq_false]
    exact ⟨j, List.mem_range.2 h, by rw [hs]; simp⟩
  rw [this, Bool.false_and]
theorem stepB_zero (zs : List V) : stepB zs 0 = (zs.getD 0 zero).good := by simp [stepB]
theorem stepB_succ (zs : List V) (k : Nat) : stepB zs (k + 1) = ((zs.getD (k + 1) zero).good && befC (zs.getD k zero) (zs.getD (k + 1) zero)) := by simp [stepB]
theorem stepB_pos (zs : List V) (j k : Nat) (h : j = k + 1) : stepB zs j = ((zs.getD j zero).good && befC (zs.getD k zero) (zs.getD j zero)) := by subst h; exact stepB_succ zs k

theorem incB_at {zs : List V} (h : incB zs = true) : zs.length ≤ 24 ∧ (∀ j, j < zs.length → (gk zs j).good = true) ∧ (∀ j, j + 1 < zs.length → (gk zs j).f0 < (gk zs (j + 1)).f0) := by
  unfold incB okZ at h
  rw [Bool.and_eq_true, decide_eq_true_eq, List.all_eq_true] at h
  refine ⟨h.2, fun j hj => ?_, fun j hj => ?_⟩
  · have := h.1 j (List.mem_range.2 hj)
    unfold stepB at this
    rw [Bool.and_eq_true] at this
    exact this.1
  · have := h.1 (j + 1) (List.mem_range.2 hj)
    rw [stepB_succ, Bool.and_eq_true] at this
    have h2 := this.2
    unfold befC at h2
    rw [decide_eq_true_eq] at h2
    exact h2
set_option maxHeartbeats 400000 in
theorem areTimes1 (a : Int) (b cap : Nat) (w : World) (hc : w.cell? ⟨b, 0, none⟩ = some (.int .i64 a)) :
    Calls Try.prog 69 #[.slice (some ⟨b, 0, none⟩) 1 cap] w fun e w' => e = .returned (.bool (inR 0 7200000 [a])) ∧ w = w' := by
  have W := Lib.hid (within1 0 7200000 a b cap w hc)
  clear hc
  go_enter Try.func69, Try.ntmps69
  go_wp2_with fail
  refine (W.out).mono ?_
  rintro e w' ⟨rfl, rfl⟩
  go_wp2_with fail
  go_ret
  exact ⟨rfl, rfl⟩
set_option maxRecDepth 100000 in
set_option maxHeartbeats 2000000 in
theorem isValid_any (x0 x1 : Int) (w : World) :
    Calls Try.prog 59 #[.agg #[.int .i64 x0, .int .i64 x1]] w fun e w' => e = .returned (.bool (keyB x0 x1)) ∧ Below w.heap.size w w' := by
  unfold keyB
  have I1 := Lib.hid (fun b cap w hc => areTimes1 x0 b cap w hc)
  have I2 := Lib.hid (fun b cap w hc => within1 (-1000000) 1000000 x1 b cap w hc)
  generalize inR 0 7200000 [x0] = p1 at *
  generalize inR (-1000000) 1000000 [x1] = p2 at *
  cases p1 with
  | false =>
    rw [Bool.false_and]
    go_enter Try.func59, Try.ntmps59
    go_wp2_with fail
    refine (I1.out _ _ _ (by first | (simp; done) | (rw [World.cell?_alloc_at _ _ _ _ (by simp)]; rfl) | (rw [World.cell?_alloc_at]; rfl))).mono ?_
    rintro e w' ⟨rfl, rfl⟩
    go_wp2_with fail
    go_ret
    refine ⟨rfl, ?_⟩
    repeat (first | exact Below.refl _ _ | refine Below.setCell ?_ (by first | (simp; done) | omega | (simp; omega)) _ | refine Below.alloc ?_ (by first | (simp; done) | omega | (simp; omega)) _ | refine bel_drew ?_)
  | true =>
    rw [Bool.true_and]
    go_enter Try.func59, Try.ntmps59
    go_wp2_with fail
    refine (I1.out _ _ _ (by first | (simp; done) | (rw [World.cell?_alloc_at _ _ _ _ (by simp)]; rfl) | (rw [World.cell?_alloc_at]; rfl))).mono ?_
    rintro e w' ⟨rfl, rfl⟩
    go_wp2_with fail
    refine (I2.out _ _ _ (by first | (simp; done) | (rw [World.cell?_alloc_at _ _ _ _ (by simp)]; rfl) | (rw [World.cell?_alloc_at]; rfl))).mono ?_
    rintro e w' ⟨rfl, rfl⟩
    go_wp2_with fail
    go_ret
    refine ⟨rfl, ?_⟩
    repeat (first | exact Below.refl _ _ | refine Below.setCell ?_ (by first | (simp; done) | omega | (simp; omega)) _ | refine Below.alloc ?_ (by first | (simp; done) | omega | (simp; omega)) _ | refine bel_drew ?_)
set_option maxHeartbeats 400000 in
theorem nanI_any (x : Int) (w : World) : Calls Try.prog 116 #[.int .i64 x] w fun e w' => e = .returned (.bool false) ∧ w = w' := by
  have h : (x != x) = false := by simp
  have h2 : (x == x) = true := by simp
  go_enter Try.func116, Try.ntmps116
  go_wp2_with fail
  go_ret
  exact ⟨by simp, rfl⟩
set_option maxHeartbeats 400000 in
theorem cmpI_any (x y : Int) (w : World) : Calls Try.prog 97 #[.int .i64 x, .int .i64 y] w fun e w' => e = .returned (.int .i64 (cmpI x y)) ∧ w = w' := by
  have NX := Lib.hid (fun w => nanI_any x w)
  have NY := Lib.hid (fun w => nanI_any y w)
  unfold cmpI
  cases h1 : decide (x < y) with
  | true =>
    have k1 : x < y := of_decide_eq_true h1
    rw [if_pos k1]
    go_enter Try.func97, Try.ntmps97
    go_wp2_with fail
    refine (NX.out _).mono ?_
    rintro e w' ⟨rfl, rfl⟩
    go_wp2_with fail
    refine (NY.out _).mono ?_
    rintro e w' ⟨rfl, rfl⟩
    go_wp2_with fail
    go_ret
    exact ⟨rfl, rfl⟩
  | false =>
    have k1 : ¬ x < y := of_decide_eq_false h1
    rw [if_neg k1]
    cases h2 : decide (y < x) with
    | true =>
      have k2 : y < x := of_decide_eq_true h2
      rw [if_pos k2]
      go_enter Try.func97, Try.ntmps97
      go_wp2_with fail
      refine (NX.out _).mono ?_
      rintro e w' ⟨rfl, rfl⟩
      go_wp2_with fail
      refine (NY.out _).mono ?_
      rintro e w' ⟨rfl, rfl⟩
      go_wp2_with fail
      go_ret
      exact ⟨rfl, rfl⟩
    | false =>
      have k2 : ¬ y < x := of_decide_eq_false h2
      rw [if_neg k2]
      go_enter Try.func97, Try.ntmps97
      go_wp2_with fail
      refine (NX.out _).mono ?_
      rintro e w' ⟨rfl, rfl⟩
      go_wp2_with fail
      refine (NY.out _).mono ?_
      rintro e w' ⟨rfl, rfl⟩
      go_wp2_with fail
      go_ret
      exact ⟨rfl, rfl⟩
set_option maxHeartbeats 1000000 in
theorem cmpC_any (x0 x1 y0 y1 : Int) (w : World) :
    Calls Try.prog 60 #[.agg #[.int .i64 x0, .int .i64 x1], .agg #[.int .i64 y0, .int .i64 y1]] w fun e w' => e = .returned (.int .i64 (cmpC ⟨x0, x1⟩ ⟨y0, y1⟩)) ∧ Below w.heap.size w w' := by
  have CI := Lib.hid (fun w => cmpI_any x0 y0 w)
  show Calls _ _ _ _ (fun e w' => e = .returned (.int .i64 (cmpI x0 y0)) ∧ Below w.heap.size w w')
  generalize cmpI x0 y0 = a at *
  go_enter Try.func60, Try.ntmps60
  go_wp2_with fail
  refine (CI.out _).mono ?_
  rintro e w' ⟨rfl, rfl⟩
  go_wp2_with fail
  go_ret
  refine ⟨rfl, ?_⟩
  repeat (first | exact Below.refl _ _ | refine Below.setCell ?_ (by first | (simp; done) | omega | (simp; omega)) _ | refine Below.alloc ?_ (by first | (simp; done) | omega | (simp; omega)) _ | refine bel_drew ?_)
set_option maxRecDepth 100000 in
set_option maxHeartbeats 8000000 in
theorem incr_any (g cap : Nat) (zs : List V) (w : World) (hb : zs.length ≤ 1048577) (h1 : Row w g zs) :
    Calls Try.prog 58 #[.slice (some ⟨g, 0, none⟩) zs.length cap, .int .i64 24, .func (.func 59) #[] #[], .func (.func 60) #[] #[]] w fun e w' => e = .returned (.bool (incB zs)) ∧ Below w.heap.size w w' := by
  have H1 := Lib.hid h1
  have KN := Lib.hid (okZ_next zs)
  have KS := Lib.hid (okZ_stop zs)
  have KE : Hid (incB zs = (okZ zs zs.length && decide (zs.length ≤ 24))) := Lib.hid rfl
  generalize incB zs = r at *
  clear h1
  by_cases hmo : 24 < zs.length
  · have hr : r = false := by rw [KE.out, show decide (zs.length ≤ 24) = false by simpa using hmo, Bool.and_false]
    subst hr
    have hmo' : (24 : Int) < (zs.length : Int) := by omega
    go_enter Try.func58, Try.ntmps58
    go_wp2_with fail
    go_ret
    exact ⟨rfl, Below.refl _ _⟩
  · have hmo' : ¬ (24 : Int) < (zs.length : Int) := by omega
    have hE : r = okZ zs zs.length := by rw [KE.out, show decide (zs.length ≤ 24) = true by simpa using Nat.not_lt.1 hmo, Bool.and_true]
    have HE := Lib.hid hE
    clear hE KE
    go_enter Try.func58, Try.ntmps58
    go_wp2_with fail
    go_loopg [17] (zs.length + 1) (fun kx s17 wr => ∃ j : Nat, s17 = .int .i64 (j : Int) ∧ j ≤ zs.length ∧ kx = zs.length + 1 - j ∧ Hid (okZ zs j = true) ∧ Hid (Below w.heap.size w wr))
    case atStart => exact ⟨0, rfl, Nat.zero_le _, rfl, Lib.hid rfl, Lib.hid (Below.refl _ _)⟩
    case round =>
      obtain ⟨j, rfl, hj, rfl, HO, HB⟩ := hrel
      by_cases hlt : j < zs.length
      · have hR := H1.out.below HB.out
        obtain ⟨c0, c1⟩ := hR.at j hlt
        have V := Lib.hid (fun w => isValid_any zs[j].f0 zs[j].f1 w)
        have HS := Lib.hid (KS.out j hlt)
        have HN := Lib.hid (KN.out j)
        have j0 : (0 : Int) ≤ (j : Int) := by omega
        have j1 : (j : Int) < (zs.length : Int) := by omega
        have GD := getD_at zs j hlt
        have hgd : zs[j].good = keyB zs[j].f0 zs[j].f1 := rfl
        rw [← hgd] at V
        clear hgd
        obtain ⟨W0, hW0⟩ : ∃ W0, W0 = wr.alloc (Obj.cells #[.int .i64 zs[j].f0, .int .i64 zs[j].f1] 48) := ⟨_, rfl⟩
        have hB0 : Below wr.heap.size wr W0 := by rw [hW0]; exact (Below.refl _ wr).alloc (Nat.le_refl _) _
        have HB0 : Below w.heap.size w W0 := HB.out.trans (hB0.mono HB.out.size)
        have e0 : W0.cell? ⟨wr.heap.size, 0, none⟩ = some (.int .i64 zs[j].f0) := by rw [hW0]; simp
        have e1 : W0.cell? ⟨wr.heap.size, 1, none⟩ = some (.int .i64 zs[j].f1) := by rw [hW0]; simp
        have HW := Lib.hid hW0
        clear hW0
        cases hg : zs[j].good with
        | false =>
          have hst : stepB zs j = false := by unfold stepB; rw [GD, hg]; rfl
          have hr : r = false := HS.out hst
          rw [hg] at V
          subst hr
          clear hg hst GD hR HS HN KS KN hB0
          generalize zs[j] = x at *
          obtain ⟨x0, x1⟩ := x
          simp only at c0 c1 V e0 e1 HW
          go_wp2_with fail
          rw [← HW.out]
          clear HW c0 c1
          have KX : Hid (W0.cell? ⟨wr.heap.size, 0, none⟩ = some (.int .i64 x0) ∧ W0.cell? ⟨wr.heap.size, 1, none⟩ = some (.int .i64 x1) ∧ Below w.heap.size w W0) := Lib.hid ⟨e0, e1, HB0⟩
          clear e0 e1 HB0
          refine wp_region_held_drew (S := fun W => W.cell? ⟨wr.heap.size, 0, none⟩ = some (.int .i64 x0) ∧ W.cell? ⟨wr.heap.size, 1, none⟩ = some (.int .i64 x1) ∧ Below w.heap.size w W) (by kernel_rfl) ?_ (fun hHeld => ?_)
          · exact keepW2 KX.out (drewG W0)
          refine wpAnyH_take (i := 0) rfl (by kernel_rfl) (by kernel_rfl) (by kernel_rfl) (fun _ _ _ h => h) (Or.inl ⟨by kernel_rfl, fun w hSw => by (try dsimp only at hSw); go_simp; (try with_reducible rfl)⟩) hHeld ?_
          try simp only [List.getElem_toArray, List.getElem_cons_zero, List.getElem_cons_succ, Act.put, List.setIfInBounds_toArray, List.set_cons_zero, List.set_cons_succ]
          refine wpAnyH_take (i := 1) rfl (by kernel_rfl) (by kernel_rfl) (by kernel_rfl) (fun _ _ _ h => h) (Or.inl ⟨by kernel_rfl, fun w hSw => by (try dsimp only at hSw); go_simp; (try with_reducible rfl)⟩) hHeld ?_
          try simp only [List.getElem_toArray, List.getElem_cons_zero, List.getElem_cons_succ, Act.put, List.setIfInBounds_toArray, List.set_cons_zero, List.set_cons_succ]
          refine wpAnyH_ready (rs := [2]) (by kernel_rfl) (by simp) ?_
          refine AllReadyH.cons rfl (fun KK hK => ?_) AllReadyH.nil
          go_simp
          first | go_at_call 59 | skip
          refine (V.out _).mono ?_
          rintro e z1 ⟨rfl, hz1⟩
          have w1 := undrewG hz1
          refine hK.out _ _ ?_ (fun hHeld2 => ?_)
          · exact keepW2 KX.out w1
          clear hK KK hHeld hz1 w1 KX
          try simp only [List.getElem_toArray, List.getElem_cons_zero, List.getElem_cons_succ, Act.put, List.setIfInBounds_toArray, List.set_cons_zero, List.set_cons_succ]
          refine wpAnyH_take (i := 3) rfl (by kernel_rfl) (by kernel_rfl) (by kernel_rfl) (fun _ _ _ h => h) (Or.inl ⟨by kernel_rfl, fun w hSw => by (try dsimp only at hSw); go_simp; (try with_reducible rfl)⟩) hHeld2 ?_
          try simp only [List.getElem_toArray, List.getElem_cons_zero, List.getElem_cons_succ, Act.put, List.setIfInBounds_toArray, List.set_cons_zero, List.set_cons_succ]
          refine wpAnyH_take (i := 4) rfl (by kernel_rfl) (by kernel_rfl) (by kernel_rfl) (fun _ _ _ h => h) (Or.inl ⟨by kernel_rfl, fun w hSw => by (try dsimp only at hSw); go_simp; (try with_reducible rfl)⟩) hHeld2 ?_
          try simp only [List.getElem_toArray, List.getElem_cons_zero, List.getElem_cons_succ, Act.put, List.setIfInBounds_toArray, List.set_cons_zero, List.set_cons_succ]
          refine wpAnyH_take (i := 5) rfl (by kernel_rfl) (by kernel_rfl) (by kernel_rfl) (fun _ _ _ h => h) (Or.inr ⟨by kernel_rfl, rfl⟩) hHeld2 ?_
          try simp only [List.getElem_toArray, List.getElem_cons_zero, List.getElem_cons_succ, Act.put, List.setIfInBounds_toArray, List.set_cons_zero, List.set_cons_succ]
          refine wpAnyH_take (i := 6) rfl (by kernel_rfl) (by kernel_rfl) (by kernel_rfl) (fun _ _ _ h => h) (Or.inr ⟨by kernel_rfl, rfl⟩) hHeld2 ?_
          try simp only [List.getElem_toArray, List.getElem_cons_zero, List.getElem_cons_succ, Act.put, List.setIfInBounds_toArray, List.set_cons_zero, List.set_cons_succ]
          refine wpAnyH_take (i := 7) rfl (by kernel_rfl) (by kernel_rfl) (by kernel_rfl) (fun _ _ _ h => h) (Or.inr ⟨by kernel_rfl, rfl⟩) hHeld2 ?_
          try simp only [List.getElem_toArray, List.getElem_cons_zero, List.getElem_cons_succ, Act.put, List.setIfInBounds_toArray, List.set_cons_zero, List.set_cons_succ]
          refine wpAnyH_take (i := 8) rfl (by kernel_rfl) (by kernel_rfl) (by kernel_rfl) (fun _ _ _ h => h) (Or.inr ⟨by kernel_rfl, rfl⟩) hHeld2 ?_
          try simp only [List.getElem_toArray, List.getElem_cons_zero, List.getElem_cons_succ, Act.put, List.setIfInBounds_toArray, List.set_cons_zero, List.set_cons_succ]
          refine wpAnyH_take (i := 9) rfl (by kernel_rfl) (by kernel_rfl) (by kernel_rfl) (fun _ _ _ h => h) (Or.inr ⟨by kernel_rfl, rfl⟩) hHeld2 ?_
          try simp only [List.getElem_toArray, List.getElem_cons_zero, List.getElem_cons_succ, Act.put, List.setIfInBounds_toArray, List.set_cons_zero, List.set_cons_succ]
          refine wpAnyH_take (i := 10) rfl (by kernel_rfl) (by kernel_rfl) (by kernel_rfl) (fun _ _ _ h => h) (Or.inr ⟨by kernel_rfl, rfl⟩) hHeld2 ?_
          try simp only [List.getElem_toArray, List.getElem_cons_zero, List.getElem_cons_succ, Act.put, List.setIfInBounds_toArray, List.set_cons_zero, List.set_cons_succ]
          refine wpAnyH_take (i := 11) rfl (by kernel_rfl) (by kernel_rfl) (by kernel_rfl) (fun _ _ _ h => h) (Or.inr ⟨by kernel_rfl, rfl⟩) hHeld2 ?_
          try simp only [List.getElem_toArray, List.getElem_cons_zero, List.getElem_cons_succ, Act.put, List.setIfInBounds_toArray, List.set_cons_zero, List.set_cons_succ]
          refine wpAnyH_take (i := 12) rfl (by kernel_rfl) (by kernel_rfl) (by kernel_rfl) (fun _ _ _ h => h) (Or.inr ⟨by kernel_rfl, rfl⟩) hHeld2 ?_
          try simp only [List.getElem_toArray, List.getElem_cons_zero, List.getElem_cons_succ, Act.put, List.setIfInBounds_toArray, List.set_cons_zero, List.set_cons_succ]
          refine wpAnyH_take (i := 13) rfl (by kernel_rfl) (by kernel_rfl) (by kernel_rfl) (fun _ _ _ h => h) (Or.inr ⟨by kernel_rfl, rfl⟩) hHeld2 ?_
          try simp only [List.getElem_toArray, List.getElem_cons_zero, List.getElem_cons_succ, Act.put, List.setIfInBounds_toArray, List.set_cons_zero, List.set_cons_succ]
          refine wpAnyH_take (i := 14) rfl (by kernel_rfl) (by kernel_rfl) (by kernel_rfl) (fun _ _ _ h => h) (Or.inr ⟨by kernel_rfl, rfl⟩) hHeld2 ?_
          try simp only [List.getElem_toArray, List.getElem_cons_zero, List.getElem_cons_succ, Act.put, List.setIfInBounds_toArray, List.set_cons_zero, List.set_cons_succ]
          refine wpAnyH_take (i := 15) rfl (by kernel_rfl) (by kernel_rfl) (by kernel_rfl) (fun _ _ _ h => h) (Or.inr ⟨by kernel_rfl, rfl⟩) hHeld2 ?_
          try simp only [List.getElem_toArray, List.getElem_cons_zero, List.getElem_cons_succ, Act.put, List.setIfInBounds_toArray, List.set_cons_zero, List.set_cons_succ]
          refine wpAnyH_take (i := 16) rfl (by kernel_rfl) (by kernel_rfl) (by kernel_rfl) (fun _ _ _ h => h) (Or.inr ⟨by kernel_rfl, rfl⟩) hHeld2 ?_
          try simp only [List.getElem_toArray, List.getElem_cons_zero, List.getElem_cons_succ, Act.put, List.setIfInBounds_toArray, List.set_cons_zero, List.set_cons_succ]
          refine wpAnyH_take (i := 17) rfl (by kernel_rfl) (by kernel_rfl) (by kernel_rfl) (fun _ _ _ h => h) (Or.inr ⟨by kernel_rfl, rfl⟩) hHeld2 ?_
          try simp only [List.getElem_toArray, List.getElem_cons_zero, List.getElem_cons_succ, Act.put, List.setIfInBounds_toArray, List.set_cons_zero, List.set_cons_succ]
          refine wpAnyH_take (i := 18) rfl (by kernel_rfl) (by kernel_rfl) (by kernel_rfl) (fun _ _ _ h => h) (Or.inl ⟨by kernel_rfl, fun w hSw => by (try dsimp only at hSw); go_simp; (try with_reducible rfl)⟩) hHeld2 ?_
          try simp only [List.getElem_toArray, List.getElem_cons_zero, List.getElem_cons_succ, Act.put, List.setIfInBounds_toArray, List.set_cons_zero, List.set_cons_succ]
          refine wpAnyH_done (by kernel_rfl) ?_ _
          have HH : Hid (Below w.heap.size w z1) := Lib.hid hHeld2.2.2
          clear hHeld2
          go_wp2_with fail
          go_ret
          exact ⟨rfl, HH.out⟩
        | true =>
          rw [hg] at V
          by_cases hz : j = 0
          · subst hz
            have hst : okZ zs (0 + 1) = true := by rw [HN.out, stepB_zero, GD, hg]; rfl
            have HT := Lib.hid hst
            clear hg hst GD hR HS HN KS KN hB0
            generalize zs[0] = x at *
            obtain ⟨x0, x1⟩ := x
            simp only at c0 c1 V e0 e1 HW
            go_wp2_with fail
            rw [← HW.out]
            clear HW c0 c1
            have KX : Hid (W0.cell? ⟨wr.heap.size, 0, none⟩ = some (.int .i64 x0) ∧ W0.cell? ⟨wr.heap.size, 1, none⟩ = some (.int .i64 x1) ∧ Below w.heap.size w W0) := Lib.hid ⟨e0, e1, HB0⟩
            clear e0 e1 HB0
            refine wp_region_held_drew (S := fun W => W.cell? ⟨wr.heap.size, 0, none⟩ = some (.int .i64 x0) ∧ W.cell? ⟨wr.heap.size, 1, none⟩ = some (.int .i64 x1) ∧ Below w.heap.size w W) (by kernel_rfl) ?_ (fun hHeld => ?_)
            · exact keepW2 KX.out (drewG W0)
            refine wpAnyH_take (i := 0) rfl (by kernel_rfl) (by kernel_rfl) (by kernel_rfl) (fun _ _ _ h => h) (Or.inl ⟨by kernel_rfl, fun w hSw => by (try dsimp only at hSw); go_simp; (try with_reducible rfl)⟩) hHeld ?_
            try simp only [List.getElem_toArray, List.getElem_cons_zero, List.getElem_cons_succ, Act.put, List.setIfInBounds_toArray, List.set_cons_zero, List.set_cons_succ]
            refine wpAnyH_take (i := 1) rfl (by kernel_rfl) (by kernel_rfl) (by kernel_rfl) (fun _ _ _ h => h) (Or.inl ⟨by kernel_rfl, fun w hSw => by (try dsimp only at hSw); go_simp; (try with_reducible rfl)⟩) hHeld ?_
            try simp only [List.getElem_toArray, List.getElem_cons_zero, List.getElem_cons_succ, Act.put, List.setIfInBounds_toArray, List.set_cons_zero, List.set_cons_succ]
            refine wpAnyH_ready (rs := [2]) (by kernel_rfl) (by simp) ?_
            refine AllReadyH.cons rfl (fun KK hK => ?_) AllReadyH.nil
            go_simp
            first | go_at_call 59 | skip
            refine (V.out _).mono ?_
            rintro e z1 ⟨rfl, hz1⟩
            have w1 := undrewG hz1
            refine hK.out _ _ ?_ (fun hHeld2 => ?_)
            · exact keepW2 KX.out w1
            clear hK KK hHeld hz1 w1 KX
            try simp only [List.getElem_toArray, List.getElem_cons_zero, List.getElem_cons_succ, Act.put, List.setIfInBounds_toArray, List.set_cons_zero, List.set_cons_succ]
            refine wpAnyH_take (i := 3) rfl (by kernel_rfl) (by kernel_rfl) (by kernel_rfl) (fun _ _ _ h => h) (Or.inl ⟨by kernel_rfl, fun w hSw => by (try dsimp only at hSw); go_simp; (try with_reducible rfl)⟩) hHeld2 ?_
            try simp only [List.getElem_toArray, List.getElem_cons_zero, List.getElem_cons_succ, Act.put, List.setIfInBounds_toArray, List.set_cons_zero, List.set_cons_succ]
            refine wpAnyH_take (i := 4) rfl (by kernel_rfl) (by kernel_rfl) (by kernel_rfl) (fun _ _ _ h => h) (Or.inl ⟨by kernel_rfl, fun w hSw => by (try dsimp only at hSw); go_simp; (try with_reducible rfl)⟩) hHeld2 ?_
            try simp only [List.getElem_toArray, List.getElem_cons_zero, List.getElem_cons_succ, Act.put, List.setIfInBounds_toArray, List.set_cons_zero, List.set_cons_succ]
            refine wpAnyH_take (i := 5) rfl (by kernel_rfl) (by kernel_rfl) (by kernel_rfl) (fun _ _ _ h => h) (Or.inl ⟨by kernel_rfl, fun w hSw => by (try dsimp only at hSw); go_simp; (try with_reducible rfl)⟩) hHeld2 ?_
            try simp only [List.getElem_toArray, List.getElem_cons_zero, List.getElem_cons_succ, Act.put, List.setIfInBounds_toArray, List.set_cons_zero, List.set_cons_succ]
            refine wpAnyH_take (i := 6) rfl (by kernel_rfl) (by kernel_rfl) (by kernel_rfl) (fun _ _ _ h => h) (Or.inl ⟨by kernel_rfl, fun w hSw => by (try dsimp only at hSw); go_simp; (try with_reducible rfl)⟩) hHeld2 ?_
            try simp only [List.getElem_toArray, List.getElem_cons_zero, List.getElem_cons_succ, Act.put, List.setIfInBounds_toArray, List.set_cons_zero, List.set_cons_succ]
            refine wpAnyH_take (i := 7) rfl (by kernel_rfl) (by kernel_rfl) (by kernel_rfl) (fun _ _ _ h => h) (Or.inl ⟨by kernel_rfl, fun w hSw => by (try dsimp only at hSw); go_simp; (try with_reducible rfl)⟩) hHeld2 ?_
            try simp only [List.getElem_toArray, List.getElem_cons_zero, List.getElem_cons_succ, Act.put, List.setIfInBounds_toArray, List.set_cons_zero, List.set_cons_succ]
            refine wpAnyH_take (i := 8) rfl (by kernel_rfl) (by kernel_rfl) (by kernel_rfl) (fun _ _ _ h => h) (Or.inr ⟨by kernel_rfl, rfl⟩) hHeld2 ?_
            try simp only [List.getElem_toArray, List.getElem_cons_zero, List.getElem_cons_succ, Act.put, List.setIfInBounds_toArray, List.set_cons_zero, List.set_cons_succ]
            refine wpAnyH_take (i := 9) rfl (by kernel_rfl) (by kernel_rfl) (by kernel_rfl) (fun _ _ _ h => h) (Or.inr ⟨by kernel_rfl, rfl⟩) hHeld2 ?_
            try simp only [List.getElem_toArray, List.getElem_cons_zero, List.getElem_cons_succ, Act.put, List.setIfInBounds_toArray, List.set_cons_zero, List.set_cons_succ]
            refine wpAnyH_take (i := 10) rfl (by kernel_rfl) (by kernel_rfl) (by kernel_rfl) (fun _ _ _ h => h) (Or.inr ⟨by kernel_rfl, rfl⟩) hHeld2 ?_
            try simp only [List.getElem_toArray, List.getElem_cons_zero, List.getElem_cons_succ, Act.put, List.setIfInBounds_toArray, List.set_cons_zero, List.set_cons_succ]
            refine wpAnyH_take (i := 11) rfl (by kernel_rfl) (by kernel_rfl) (by kernel_rfl) (fun _ _ _ h => h) (Or.inr ⟨by kernel_rfl, rfl⟩) hHeld2 ?_
            try simp only [List.getElem_toArray, List.getElem_cons_zero, List.getElem_cons_succ, Act.put, List.setIfInBounds_toArray, List.set_cons_zero, List.set_cons_succ]
            refine wpAnyH_take (i := 12) rfl (by kernel_rfl) (by kernel_rfl) (by kernel_rfl) (fun _ _ _ h => h) (Or.inr ⟨by kernel_rfl, rfl⟩) hHeld2 ?_
            try simp only [List.getElem_toArray, List.getElem_cons_zero, List.getElem_cons_succ, Act.put, List.setIfInBounds_toArray, List.set_cons_zero, List.set_cons_succ]
            refine wpAnyH_take (i := 13) rfl (by kernel_rfl) (by kernel_rfl) (by kernel_rfl) (fun _ _ _ h => h) (Or.inr ⟨by kernel_rfl, rfl⟩) hHeld2 ?_
            try simp only [List.getElem_toArray, List.getElem_cons_zero, List.getElem_cons_succ, Act.put, List.setIfInBounds_toArray, List.set_cons_zero, List.set_cons_succ]
            refine wpAnyH_take (i := 14) rfl (by kernel_rfl) (by kernel_rfl) (by kernel_rfl) (fun _ _ _ h => h) (Or.inr ⟨by kernel_rfl, rfl⟩) hHeld2 ?_
            try simp only [List.getElem_toArray, List.getElem_cons_zero, List.getElem_cons_succ, Act.put, List.setIfInBounds_toArray, List.set_cons_zero, List.set_cons_succ]
            refine wpAnyH_take (i := 15) rfl (by kernel_rfl) (by kernel_rfl) (by kernel_rfl) (fun _ _ _ h => h) (Or.inr ⟨by kernel_rfl, rfl⟩) hHeld2 ?_
            try simp only [List.getElem_toArray, List.getElem_cons_zero, List.getElem_cons_succ, Act.put, List.setIfInBounds_toArray, List.set_cons_zero, List.set_cons_succ]
            refine wpAnyH_take (i := 16) rfl (by kernel_rfl) (by kernel_rfl) (by kernel_rfl) (fun _ _ _ h => h) (Or.inr ⟨by kernel_rfl, rfl⟩) hHeld2 ?_
            try simp only [List.getElem_toArray, List.getElem_cons_zero, List.getElem_cons_succ, Act.put, List.setIfInBounds_toArray, List.set_cons_zero, List.set_cons_succ]
            refine wpAnyH_take (i := 17) rfl (by kernel_rfl) (by kernel_rfl) (by kernel_rfl) (fun _ _ _ h => h) (Or.inl ⟨by kernel_rfl, fun w hSw => by (try dsimp only at hSw); go_simp; (try with_reducible rfl)⟩) hHeld2 ?_
            try simp only [List.getElem_toArray, List.getElem_cons_zero, List.getElem_cons_succ, Act.put, List.setIfInBounds_toArray, List.set_cons_zero, List.set_cons_succ]
            refine wpAnyH_take (i := 18) rfl (by kernel_rfl) (by kernel_rfl) (by kernel_rfl) (fun _ _ _ h => h) (Or.inl ⟨by kernel_rfl, fun w hSw => by (try dsimp only at hSw); go_simp; (try with_reducible rfl)⟩) hHeld2 ?_
            try simp only [List.getElem_toArray, List.getElem_cons_zero, List.getElem_cons_succ, Act.put, List.setIfInBounds_toArray, List.set_cons_zero, List.set_cons_succ]
            refine wpAnyH_done (by kernel_rfl) ?_ _
            have HH : Hid (Below w.heap.size w z1) := Lib.hid hHeld2.2.2
            clear hHeld2
            go_wp2_with fail
            go_roundg (zs.length + 1 - (0 + 1))
            case measure => omega
            case rel => exact ⟨0 + 1, by go_num, by omega, by omega, HT, HH⟩
          · obtain ⟨k, hk⟩ : ∃ k, j = k + 1 := ⟨j - 1, by omega⟩
            have hkl : k < zs.length := by omega
            obtain ⟨p0, p1⟩ := (hR.below hB0).at k hkl
            have hst : stepB zs j = befC (zs[k]'hkl) zs[j] := by rw [stepB_pos zs j k hk, GD, getD_at zs k hkl, hg, Bool.true_and]
            have ek : (j : Int) - 1 = (k : Int) := by omega
            have k0 : (0 : Int) ≤ (k : Int) := by omega
            have k1 : (k : Int) < (zs.length : Int) := by omega
            have kg : 0 < j := by omega
            have kd : decide (0 < j) = true := by simpa using kg
            have wk : IntKind.i64.wrap (k : Int) = (k : Int) := IntWalk.i64_in _ (by omega)
            rw [hst] at HS HN
            have hlt0 := cmpC_lt (zs[k]'hkl) zs[j]
            have C := Lib.hid (fun w => cmpC_any (zs[k]'hkl).f0 (zs[k]'hkl).f1 zs[j].f0 zs[j].f1 w)
            have hce : cmpC (zs[k]'hkl) zs[j] = cmpC ⟨(zs[k]'hkl).f0, (zs[k]'hkl).f1⟩ ⟨zs[j].f0, zs[j].f1⟩ := rfl
            rw [← hce] at C
            clear hce hz hR GD hg hst hk hB0
            generalize befC (zs[k]'hkl) zs[j] = lt at *
            generalize cmpC (zs[k]'hkl) zs[j] = q at *
            generalize zs[k]'hkl = px at *
            generalize zs[j] = x at *
            obtain ⟨x0, x1⟩ := x
            obtain ⟨y0, y1⟩ := px
            simp only at c0 c1 V C e0 e1 HW p0 p1
            have KX : Hid (W0.cell? ⟨wr.heap.size, 0, none⟩ = some (.int .i64 x0) ∧ W0.cell? ⟨wr.heap.size, 1, none⟩ = some (.int .i64 x1) ∧ W0.cell? ⟨g, k * 2, none⟩ = some (.int .i64 y0) ∧ W0.cell? ⟨g, k * 2 + 1, none⟩ = some (.int .i64 y1) ∧ Below w.heap.size w W0) := Lib.hid ⟨e0, e1, p0, p1, HB0⟩
            clear e0 e1 HB0 p0 p1
            cases lt with
            | true =>
              have hn1 : q < 0 := hlt0.2 rfl
              have hn : ¬ (0 : Int) ≤ q := by omega
              have hn' : decide ((0 : Int) ≤ q) = false := by simpa using hn1
              clear hn1 hlt0
              have HT : Hid (okZ zs (j + 1) = true) := Lib.hid (by rw [HN.out, HO.out]; rfl)
              clear HS HN KS KN
              go_wp2_with fail
              rw [← HW.out]
              clear HW c0 c1
              go_region_held3 (fun W => W.cell? ⟨wr.heap.size, 0, none⟩ = some (.int .i64 x0) ∧ W.cell? ⟨wr.heap.size, 1, none⟩ = some (.int .i64 x1) ∧ W.cell? ⟨g, k * 2, none⟩ = some (.int .i64 y0) ∧ W.cell? ⟨g, k * 2 + 1, none⟩ = some (.int .i64 y1) ∧ Below w.heap.size w W) (first | (exact keepW4 KX.out (drewG W0)) | (exact keepW4 KX.out w2) | (exact keepW4 KX.out w1) | go_keep) ((first
                | (go_at_call 59; refine (V.out _).mono ?_; rintro e z1 ⟨rfl, hz1⟩; have w1 := undrewG hz1)
                | (go_at_call 60; refine (C.out _).mono ?_; rintro e z2 ⟨rfl, hz2⟩; have w2 := w1.trans (hz2.mono w1.size))))
              rename_i held
              have HH := Lib.hid held.2.2.2.2
              clear held KX
              go_wp2_with fail
              go_roundg (zs.length + 1 - (j + 1))
              case measure => omega
              case rel => exact ⟨j + 1, by go_num, by omega, by omega, HT, HH⟩
            | false =>
              have hn1 : ¬ q < 0 := fun h => by have := hlt0.1 h; cases this
              have hn : (0 : Int) ≤ q := by omega
              have hn' : decide ((0 : Int) ≤ q) = true := by simpa using hn
              clear hn1 hlt0
              have hr : r = false := HS.out rfl
              subst hr
              clear HS HN KS KN
              go_wp2_with fail
              rw [← HW.out]
              clear HW c0 c1
              go_region_held3 (fun W => W.cell? ⟨wr.heap.size, 0, none⟩ = some (.int .i64 x0) ∧ W.cell? ⟨wr.heap.size, 1, none⟩ = some (.int .i64 x1) ∧ W.cell? ⟨g, k * 2, none⟩ = some (.int .i64 y0) ∧ W.cell? ⟨g, k * 2 + 1, none⟩ = some (.int .i64 y1) ∧ Below w.heap.size w W) (first | (exact keepW4 KX.out (drewG W0)) | (exact keepW4 KX.out w2) | (exact keepW4 KX.out w1) | go_keep) ((first
                | (go_at_call 59; refine (V.out _).mono ?_; rintro e z1 ⟨rfl, hz1⟩; have w1 := undrewG hz1)
                | (go_at_call 60; refine (C.out _).mono ?_; rintro e z2 ⟨rfl, hz2⟩; have w2 := w1.trans (hz2.mono w1.size))))
              rename_i held
              have HH := Lib.hid held.2.2.2.2
              clear held KX
              go_wp2_with fail
              go_ret
              exact ⟨rfl, HH.out⟩
      · obtain rfl : j = zs.length := by omega
        go_wp2_with fail
        go_ret
        refine ⟨ret_bool ?_, HB.out⟩
        rw [HE.out, HO.out]
end Go.Proofs.Ytdbocpcijkngpaa.Ky
