/-
  DropKey (both packages): l14Without, hasKeyAt.
-/
import Derived.Test.YtdbocpcijkngpaaTkD
namespace Go.Proofs.Ytdbocpcijkngpaa.Tk
open Go.RowKit
open Ky (V In Own Row At gk)
set_option linter.unusedVariables false

set_option maxRecDepth 100000 in
set_option maxHeartbeats 4000000 in
theorem l14Without_any (g k : Nat) (zs : List V) (w : World) (hz : zs.length ≤ 24) (hk : k < zs.length) (h1 : Row w g zs) :
    Calls Try.prog 76 #[.slice (some ⟨g, 0, none⟩) zs.length zs.length, .int .i64 (k : Int)] w fun e w' => ∃ v, e = .returned v ∧ Own w' w.heap.size w'.heap.size v (zs.take k ++ zs.drop (k + 1)) ∧ Below w.heap.size w w' := by
  have k0 : (0 : Int) ≤ (k : Int) := by omega
  have k1 : (k : Int) ≤ (zs.length : Int) := by omega
  have k2 : (k : Int) + 1 ≤ (zs.length : Int) := by omega
  have k3 : (0 : Int) ≤ (k : Int) + 1 := by omega
  have T1 := Lib.hid (fun (W : World) (hB : Below w.heap.size w W) => (src_take (h1.below hB) k))
  have D1 := Lib.hid (fun (W : World) (hB : Below w.heap.size w W) => (src_drop (h1.below hB) (k + 1)))
  have FL1 : (Ky.flat (zs.take k)).length = k * 2 := by rw [Ky.flat_len, List.length_take, Nat.min_eq_left (Nat.le_of_lt hk)]
  have FL2 : (Ky.flat (zs.drop (k + 1))).length = (zs.length - (k + 1)) * 2 := by rw [Ky.flat_len, List.length_drop]
  have P1 := Lib.hid (Ky.flat_one (zs.take k))
  have P2 := Lib.hid (Ky.flat_one (zs.drop (k + 1)))
  have LT : (zs.take k).length = k := by rw [List.length_take]; omega
  have LD : (zs.drop (k + 1)).length = zs.length - (k + 1) := List.length_drop
  have FA := Lib.hid (Ky.flat_app (zs.take k) (zs.drop (k + 1)))
  have LA : (zs.take k ++ zs.drop (k + 1)).length = k + (zs.length - (k + 1)) := by rw [List.length_append, LT, LD]
  have DE : k + 1 = zs.length → zs.drop (k + 1) = [] := fun h => by rw [h, List.drop_length]
  clear h1
  have HFL1 := Lib.hid FL1
  have HFL2 := Lib.hid FL2
  have HLT := Lib.hid LT
  have HLD := Lib.hid LD
  have HLA := Lib.hid LA
  have HDE := Lib.hid DE
  clear FL1 FL2 LT LD LA DE
  generalize zs.take k ++ zs.drop (k + 1) = R at *
  generalize zs.take k = A at *
  generalize zs.drop (k + 1) = D at *
  obtain ⟨i0, hi, hzz⟩ := Option.map_eq_some_iff.1 Ky.info_rec
  simp only [Prod.mk.injEq] at hzz
  obtain ⟨hz0, hz1, hz2⟩ := hzz
  have own0 : (w.alloc (Obj.cells #[] 48)).ownsRow w.heap.size 48 2 (.slice (some ⟨w.heap.size, 0, none⟩) 0 0) 0 [] := World.ownsRow_made w #[] 0 (Nat.le_refl _) (Nat.zero_le _) rfl
  have hb2 : Below w.heap.size w (w.alloc (Obj.cells #[] 48)) := (Below.refl _ _).alloc (Nat.le_refl _) _
  have S1 := T1.out _ hb2
  have F1 := HFL1.out
  have hm1 : 0 + k ≤ maxLen := by unfold maxLen; omega
  have hy1 : (0 + k) * 16 ≤ 140737488355328 := by omega
  by_cases hc : k + 1 < zs.length
  · have k4 : (k : Int) + 1 < (zs.length : Int) := by omega
    have k5 : ¬ (zs.length : Int) = (k : Int) + 1 := by omega
    have k6 : ¬ (k : Int) + 1 = (zs.length : Int) := by omega
    have hif : (if zs.length = k + 1 then some (⟨g, 0, none⟩ : Addr) else some ⟨g, (k + 1) * 2, none⟩) = some ⟨g, (k + 1) * 2, none⟩ := if_neg (by omega)
    go_enter Try.func76, Try.ntmps76
    go_wp2_with (at_builtin; refine wpList_append_own _ rfl _ _ 27 rfl w.heap.size 48 i0 (.agg #[.int .i64 0, .int .i64 0]) 2 16 Try.underlying27 hi hz0 hz1 hz2 rfl (by decide) _ _ _ rfl own0 ⟨g, 0, none⟩ k zs.length (Ky.flat A) rfl F1 S1 P1.out hm1 hy1 hb2.size ?_)
    intro v3 w3 hown3 hgrow3 hnil3
    have hb3 : Below w.heap.size w w3 := hb2.grown hgrow3 hb2.size (fun kk hk => (own0.lt kk hk).1)
    have O3 : Hid (w3.ownsRow w.heap.size 48 2 v3 k (Ky.flat A)) := Lib.hid (by simpa using hown3)
    have HB3 := Lib.hid hb3
    have hbs := hb3.size
    have hown := O3.out
    have S2 := D1.out _ HB3.out
    have F2 := HFL2.out
    have hm2 : k + (zs.length - (k + 1)) ≤ maxLen := by unfold maxLen; omega
    have hy2 : (k + (zs.length - (k + 1))) * 16 ≤ 140737488355328 := by omega
    clear hb3 hgrow3 hown3 own0 hb2 S1 F1 hnil3 O3
    go_wp2_with (at_builtin; refine wpList_append_own _ rfl _ _ 27 rfl w.heap.size 48 i0 (.agg #[.int .i64 0, .int .i64 0]) 2 16 Try.underlying27 hi hz0 hz1 hz2 rfl (by decide) _ _ _ rfl hown ⟨g, (k + 1) * 2, none⟩ (zs.length - (k + 1)) (zs.length - (k + 1)) (Ky.flat D) rfl F2 S2 P2.out hm2 hy2 hbs ?_)
    intro v5 w5 hown5 hgrow5 _
    have hb5 := HB3.out.grown hgrow5 hbs (fun kk hk => (hown.lt kk hk).1)
    have O5 : Hid (Own w5 w.heap.size w5.heap.size v5 R) := Lib.hid (Ky.Own.mk (by rw [HLA.out, FA.out]; exact hown5))
    have HB5 := Lib.hid hb5
    clear hb5 hgrow5 hown5 hown S2 F2
    go_wp2_with fail
    go_returns
    exact ⟨_, rfl, O5.out, HB5.out⟩
  · have he : k + 1 = zs.length := by omega
    have hd := HDE.out he
    have HD := Lib.hid hd
    have hif : (if zs.length = k + 1 then some (⟨g, 0, none⟩ : Addr) else some ⟨g, (k + 1) * 2, none⟩) = some ⟨g, 0, none⟩ := if_pos he.symm
    have HE : Hid (zs.length - (k + 1) = 0) := Lib.hid (by omega)
    clear he hd hc
    go_enter Try.func76, Try.ntmps76
    go_wp2_with (at_builtin; refine wpList_append_own _ rfl _ _ 27 rfl w.heap.size 48 i0 (.agg #[.int .i64 0, .int .i64 0]) 2 16 Try.underlying27 hi hz0 hz1 hz2 rfl (by decide) _ _ _ rfl own0 ⟨g, 0, none⟩ k zs.length (Ky.flat A) rfl F1 S1 P1.out hm1 hy1 hb2.size ?_)
    intro v3 w3 hown3 hgrow3 hnil3
    have hb3 : Below w.heap.size w w3 := hb2.grown hgrow3 hb2.size (fun kk hk => (own0.lt kk hk).1)
    have O3 : Hid (w3.ownsRow w.heap.size 48 2 v3 k (Ky.flat A)) := Lib.hid (by simpa using hown3)
    have HB3 := Lib.hid hb3
    have hbs := hb3.size
    have hown := O3.out
    have S2 := (show ∀ j u, (Ky.flat D)[j]? = some u → w3.cell? ((⟨g, 0, none⟩ : Addr).add j) = some u from fun j u hj => by rw [HD.out] at hj; simp [Ky.flat] at hj)
    have F2 := HFL2.out
    have hm2 : k + (zs.length - (k + 1)) ≤ maxLen := by unfold maxLen; omega
    have hy2 : (k + (zs.length - (k + 1))) * 16 ≤ 140737488355328 := by omega
    clear hb3 hgrow3 hown3 own0 hb2 S1 F1 hnil3 O3
    go_wp2_with (at_builtin; refine wpList_append_own _ rfl _ _ 27 rfl w.heap.size 48 i0 (.agg #[.int .i64 0, .int .i64 0]) 2 16 Try.underlying27 hi hz0 hz1 hz2 rfl (by decide) _ _ _ rfl hown ⟨g, 0, none⟩ (zs.length - (k + 1)) (zs.length - (k + 1)) (Ky.flat D) rfl F2 S2 P2.out hm2 hy2 hbs ?_)
    intro v5 w5 hown5 hgrow5 _
    have hb5 := HB3.out.grown hgrow5 hbs (fun kk hk => (hown.lt kk hk).1)
    have O5 : Hid (Own w5 w.heap.size w5.heap.size v5 R) := Lib.hid (Ky.Own.mk (by rw [HLA.out, FA.out]; exact hown5))
    have HB5 := Lib.hid hb5
    clear hb5 hgrow5 hown5 hown S2 F2
    go_wp2_with fail
    go_returns
    exact ⟨_, rfl, O5.out, HB5.out⟩

theorem atK_eq {zs : List V} (h : Trk zs) (x : Int) (i : Nat) (hi : i < zs.length) (hx : (gk zs i).f0 = x) : atK zs x = i := by
  have h1 := (atK_iff h x i hi).1 (by omega)
  rcases Nat.lt_or_ge (atK zs x) i with c | c
  · have h2 := (atK_iff h x (atK zs x) (by omega)).2 (Nat.le_refl _)
    have h3 := h.lt _ _ c hi
    omega
  · omega
/-- There is a key at a time. -/
def hasB (zs : List V) (a : Nat) (x : Int) : Bool := decide (a < zs.length) && decide ((gk zs a).f0 = x)
set_option maxRecDepth 100000 in
set_option maxHeartbeats 2000000 in
theorem hasKey_any (s : ByteArray) (g cap : Nat) (zs : List V) (a : Nat) (x : Int) (w : World) (hb : zs.length ≤ 1048577) (h1 : Row w g zs) :
    Calls Try.prog 73 #[.agg #[.string s, .slice (some ⟨g, 0, none⟩) zs.length cap], .int .i64 (a : Int), .int .i64 x] w fun e w' => e = .returned (.bool (hasB zs a x)) ∧ Below w.heap.size w w' := by
  unfold hasB
  have a0 : (0 : Int) ≤ (a : Int) := by omega
  by_cases ha : a < zs.length
  · rw [show decide (a < zs.length) = true from decide_eq_true ha, Bool.true_and]
    obtain ⟨c0, c1⟩ := Ky.Row.gk (h1.below ((Below.refl _ w).alloc (Nat.le_refl _) (Obj.cells #[Value.string s, Value.slice (some ⟨g, 0, none⟩) zs.length cap] 29))) a ha
    have a1 : (a : Int) < (zs.length : Int) := by omega
    generalize (gk zs a).f0 = y at *
    clear h1 c1
    by_cases hy : y = x
    · subst hy
      rw [show decide (y = y) = true by simp]
      go_enter Try.func73, Try.ntmps73
      go_wp2_with fail
      go_ret
      refine ⟨rfl, ?_⟩
      repeat (first | exact Below.refl _ _ | refine Below.setCell ?_ (by first | (simp; done) | omega | (simp; omega)) _ | refine Below.alloc ?_ (by first | (simp; done) | omega | (simp; omega)) _ | refine bel_drew ?_)
    · rw [show decide (y = x) = false from decide_eq_false hy]
      have hy2 : (y == x) = false := beq_eq_false_iff_ne.2 hy
      go_enter Try.func73, Try.ntmps73
      go_wp2_with fail
      go_ret
      refine ⟨rfl, ?_⟩
      repeat (first | exact Below.refl _ _ | refine Below.setCell ?_ (by first | (simp; done) | omega | (simp; omega)) _ | refine Below.alloc ?_ (by first | (simp; done) | omega | (simp; omega)) _ | refine bel_drew ?_)
  · rw [show decide (a < zs.length) = false from decide_eq_false ha, Bool.false_and]
    have a1 : ¬ (a : Int) < (zs.length : Int) := by omega
    clear h1
    go_enter Try.func73, Try.ntmps73
    go_wp2_with fail
    go_ret
    refine ⟨rfl, ?_⟩
    repeat (first | exact Below.refl _ _ | refine Below.setCell ?_ (by first | (simp; done) | omega | (simp; omega)) _ | refine Below.alloc ?_ (by first | (simp; done) | omega | (simp; omega)) _ | refine bel_drew ?_)
/-- What DropKey answers. -/
def dropV (s : ByteArray) (zs : List V) (x : Int) : ByteArray × List V × Int := if trackB s zs = true then (if hasB zs (atK zs x) x = true then (if zs.length = 1 then tErr 6 else (s, woL zs (atK zs x), 0)) else tErr 3) else tErr 1
theorem dropV_len (s : ByteArray) (zs : List V) (x : Int) : (dropV s zs x).2.1.length ≤ zs.length := by
  unfold dropV
  split
  · split
    · rename_i h
      unfold hasB at h
      rw [Bool.and_eq_true, decide_eq_true_eq] at h
      split
      · exact Nat.zero_le _
      · rw [woL_len _ _ h.1]; omega
    · exact Nat.zero_le _
  · exact Nat.zero_le _
set_option maxRecDepth 100000 in
set_option maxHeartbeats 8000000 in
theorem implDrop_any (s : ByteArray) (hs : s.size ≤ maxLen) (g : Nat) (zs : List V) (x : Int) (w : World) (hb : zs.length ≤ 1048577) (h1 : Row w g zs) :
    Calls Try.prog 36 #[.agg #[.string s, .slice (some ⟨g, 0, none⟩) zs.length zs.length], .int .i64 x] w (TPost (dropV s zs x) w) := by
  obtain ⟨W0, hW0⟩ : ∃ W, W = (w.alloc (Obj.cells #[Value.string s, Value.slice (some ⟨g, 0, none⟩) zs.length zs.length] 29)).alloc (Obj.cells #[Value.string { data := #[] }, Value.slice none 0 0] 29) := ⟨_, rfl⟩
  have F0 : Fr 1 w.heap.size w.heap.size w W0 s (.slice (some ⟨g, 0, none⟩) zs.length zs.length) := by rw [hW0]; exact fr_new _ _ _ _ _ (Nat.le_refl _)
  have V := Lib.hid (implValid_any s hs g zs.length zs W0 hb (h1.below F0.bel))
  have FK := Lib.hid (fun (W : World) (hB : Below w.heap.size w W) hc => firstKey_any s g zs.length zs x W (h1.below hB) hc)
  have HK := Lib.hid (fun (W : World) (hB : Below w.heap.size w W) => hasKey_any s g zs.length zs (atK zs x) x W hb (h1.below hB))
  have WK := Lib.hid (fun (W : World) (hB : Below w.heap.size w W) hz hk => withoutKey_any s g zs (atK zs x) W hz hk (h1.below hB))
  have HF0 := Lib.hid F0
  obtain ⟨m0, m1⟩ := F0.t
  have HW := Lib.hid hW0
  clear h1 hs F0 hW0
  unfold dropV
  cases ho : trackB s zs with
  | false =>
    rw [if_neg (by simp)]
    rw [ho] at V
    clear ho
    go_enter Try.func36, Try.ntmps36
    go_wp2_with fail
    rw [← HW.out]
    clear HW
    go_wp2_with fail
    refine V.out.mono ?_
    rintro e w1 ⟨rfl, hb1⟩
    clear m0 m1
    have hfr := HF0.out.below hb1
    have HFR := Lib.hid hfr
    have HB1 := Lib.hid hfr.bel
    obtain ⟨m0, m1⟩ := hfr.t
    have r0 := hfr.r0
    have r1 := hfr.r1
    have f0 := hfr.f0
    have f1 := hfr.f1
    clear hfr
    go_wp2_with fail
    refine bodyPost_ret (v := .tuple #[.agg #[.string { data := #[] }, .slice none 0 0], .int .i64 1]) (by simp [results, Try.results36, go_sem, r0, r1]) rfl ⟨_, rfl, Ky.Own.nil _ _ _, ?_⟩
    repeat (first | exact Below.refl _ _ | exact HB1.out | refine Below.setCell ?_ (by first | (simp; done) | omega | (simp; omega)) _ | refine Below.alloc ?_ (by first | (simp; done) | omega | (simp; omega)) _ | refine bel_drew ?_)
  | true =>
    rw [if_pos rfl]
    rw [ho] at V
    have hT := trk_of ho
    have FK2 := Lib.hid (fun (W : World) (hB : Below w.heap.size w W) => FK.out W hB hT)
    have n1 := hT.n1
    have n24 := hT.n24
    clear ho FK hT
    have FK := FK2
    clear FK2
    cases hh : hasB zs (atK zs x) x with
    | false =>
      rw [if_neg (by simp)]
      rw [hh] at HK
      clear hh WK
      generalize atK zs x = a at *
      go_enter Try.func36, Try.ntmps36
      go_wp2_with fail
      rw [← HW.out]
      clear HW
      go_wp2_with fail
      refine V.out.mono ?_
      rintro e w1 ⟨rfl, hb1⟩
      clear m0 m1
      have hfr := HF0.out.below hb1
      have HFR := Lib.hid hfr
      have HB1 := Lib.hid hfr.bel
      obtain ⟨m0, m1⟩ := hfr.t
      have r0 := hfr.r0
      have r1 := hfr.r1
      have f0 := hfr.f0
      have f1 := hfr.f1
      clear hfr
      clear hb1
      go_wp2_with fail
      refine (FK.out _ HB1.out).mono ?_
      rintro e w2 ⟨rfl, hb2⟩
      clear m0 m1 r0 r1 f0 f1
      have hFRx := HFR
      clear HB1
      have hfr := hFRx.out.below hb2
      have HFR := Lib.hid hfr
      have HB1 := Lib.hid hfr.bel
      obtain ⟨m0, m1⟩ := hfr.t
      have r0 := hfr.r0
      have r1 := hfr.r1
      have f0 := hfr.f0
      have f1 := hfr.f1
      clear hfr
      clear hb2 hFRx
      go_wp2_with fail
      refine (HK.out _ HB1.out).mono ?_
      rintro e w3 ⟨rfl, hb3⟩
      clear m0 m1 r0 r1 f0 f1
      have hFRx := HFR
      clear HB1
      have hfr := hFRx.out.below hb3
      have HFR := Lib.hid hfr
      have HB1 := Lib.hid hfr.bel
      obtain ⟨m0, m1⟩ := hfr.t
      have r0 := hfr.r0
      have r1 := hfr.r1
      have f0 := hfr.f0
      have f1 := hfr.f1
      clear hfr
      clear hb3 hFRx
      go_wp2_with fail
      refine bodyPost_ret (v := .tuple #[.agg #[.string { data := #[] }, .slice none 0 0], .int .i64 3]) (by simp [results, Try.results36, go_sem, r0, r1]) rfl ⟨_, rfl, Ky.Own.nil _ _ _, ?_⟩
      repeat (first | exact Below.refl _ _ | exact HB1.out | refine Below.setCell ?_ (by first | (simp; done) | omega | (simp; omega)) _ | refine Below.alloc ?_ (by first | (simp; done) | omega | (simp; omega)) _ | refine bel_drew ?_)
    | true =>
      rw [if_pos rfl]
      rw [hh] at HK
      unfold hasB at hh
      rw [Bool.and_eq_true, decide_eq_true_eq] at hh
      have hal := hh.1
      have WK2 := Lib.hid (fun (W : World) (hB : Below w.heap.size w W) => WK.out W hB n24 hal)
      clear hh WK
      have WL := woL_len zs (atK zs x) hal
      obtain ⟨RW, hRW⟩ : ∃ R, R = woL zs (atK zs x) := ⟨_, rfl⟩
      rw [← hRW] at WK2 WL ⊢
      clear hRW
      obtain ⟨R, hR⟩ : ∃ R, R = if zs.length = 1 then tErr 6 else (s, RW, 0) := ⟨_, rfl⟩
      rw [← hR]
      have HR := Lib.hid hR
      clear hR
      generalize atK zs x = a at *
      have HWL := Lib.hid WL
      clear WL
      go_enter Try.func36, Try.ntmps36
      go_wp2_with fail
      rw [← HW.out]
      clear HW
      go_wp2_with fail
      refine V.out.mono ?_
      rintro e w1 ⟨rfl, hb1⟩
      clear m0 m1
      have hfr := HF0.out.below hb1
      have HFR := Lib.hid hfr
      have HB1 := Lib.hid hfr.bel
      obtain ⟨m0, m1⟩ := hfr.t
      have r0 := hfr.r0
      have r1 := hfr.r1
      have f0 := hfr.f0
      have f1 := hfr.f1
      clear hfr
      clear hb1
      go_wp2_with fail
      refine (FK.out _ HB1.out).mono ?_
      rintro e w2 ⟨rfl, hb2⟩
      clear m0 m1 r0 r1 f0 f1
      have hFRx := HFR
      clear HB1
      have hfr := hFRx.out.below hb2
      have HFR := Lib.hid hfr
      have HB1 := Lib.hid hfr.bel
      obtain ⟨m0, m1⟩ := hfr.t
      have r0 := hfr.r0
      have r1 := hfr.r1
      have f0 := hfr.f0
      have f1 := hfr.f1
      clear hfr
      clear hb2 hFRx
      go_wp2_with fail
      refine (HK.out _ HB1.out).mono ?_
      rintro e w3 ⟨rfl, hb3⟩
      clear m0 m1 r0 r1 f0 f1
      have hFRx := HFR
      clear HB1
      have hfr := hFRx.out.below hb3
      have HFR := Lib.hid hfr
      have HB1 := Lib.hid hfr.bel
      obtain ⟨m0, m1⟩ := hfr.t
      have r0 := hfr.r0
      have r1 := hfr.r1
      have f0 := hfr.f0
      have f1 := hfr.f1
      clear hfr
      clear hb3 hFRx
      by_cases hl : zs.length = 1
      · have HD : Hid (R = tErr 6) := Lib.hid (by rw [HR.out, if_pos hl])
        have l1 : ((zs.length : Int) == 1) = true := by rw [hl]; rfl
        have l2 : (zs.length : Int) = 1 := by omega
        clear WK2 hl
        go_wp2_with fail
        refine bodyPost_ret (v := .tuple #[.agg #[.string { data := #[] }, .slice none 0 0], .int .i64 6]) (by simp [results, Try.results36, go_sem, r0, r1]) rfl ⟨_, by rw [HD.out]; rfl, by rw [HD.out]; exact Ky.Own.nil _ _ _, ?_⟩
        repeat (first | exact Below.refl _ _ | exact HB1.out | refine Below.setCell ?_ (by first | (simp; done) | omega | (simp; omega)) _ | refine Below.alloc ?_ (by first | (simp; done) | omega | (simp; omega)) _ | refine bel_drew ?_)
      · have HD : Hid (R = (s, RW, 0)) := Lib.hid (by rw [HR.out, if_neg hl])
        have l1 : ((zs.length : Int) == 1) = false := beq_eq_false_iff_ne.2 (by omega)
        have l2 : ¬ (zs.length : Int) = 1 := by omega
        go_wp2_with fail
        refine (WK2.out _ HB1.out).mono ?_
        rintro e w9 ⟨h9, rfl, ho9, hb9⟩
        clear m0 m1 r0 r1 f0 f1
        have hfr := HFR.out.below hb9
        have hs8 := HFR.out.hs
        have hs9 := hb9.size
        have HB9 := Lib.hid hfr.bel
        have r0 := hfr.r0
        have r1 := hfr.r1
        have f0 := hfr.f0
        have f1 := hfr.f1
        have HO9 := Lib.hid ho9
        clear hfr hb9 ho9
        go_wp2_with fail
        refine bodyPost_ret (v := .tuple #[.agg #[.string s, .slice (some ⟨h9, 0, none⟩) (zs.length - 1) (zs.length - 1)], .int .i64 0]) (by simp [results, Try.results36, go_sem, r0, r1]) rfl ⟨_, by rw [HD.out], ?_, ?_⟩
        · rw [HD.out]
          refine Ky.Own.le (Ky.Own.mod HO9.out (B' := w.heap.size + 1) (C' := w.heap.size + 1 + 1) ?_ (Or.inr (by omega))) (by omega) (by simp)
          repeat (first | exact Mod.refl _ _ _ | refine Mod.setCell ?_ (by omega) (by omega) _)
        ·
          repeat (first | exact Below.refl _ _ | exact HB9.out | refine Below.setCell ?_ (by first | (simp; done) | omega | (simp; omega)) _ | refine Below.alloc ?_ (by first | (simp; done) | omega | (simp; omega)) _ | refine bel_drew ?_)
set_option maxRecDepth 100000 in
set_option maxHeartbeats 8000000 in
theorem specDrop_any (s : ByteArray) (hs : s.size ≤ maxLen) (g : Nat) (zs : List V) (x : Int) (w : World) (hb : zs.length ≤ 1048577) (h1 : Row w g zs) :
    Calls Try.prog 35 #[.agg #[.string s, .slice (some ⟨g, 0, none⟩) zs.length zs.length], .int .i64 x] w (TPost (dropV s zs x) w) := by
  obtain ⟨W0, hW0⟩ : ∃ W, W = (w.alloc (Obj.cells #[Value.string s, Value.slice (some ⟨g, 0, none⟩) zs.length zs.length] 29)).alloc (Obj.cells #[Value.string { data := #[] }, Value.slice none 0 0] 29) := ⟨_, rfl⟩
  have F0 : Fr 1 w.heap.size w.heap.size w W0 s (.slice (some ⟨g, 0, none⟩) zs.length zs.length) := by rw [hW0]; exact fr_new _ _ _ _ _ (Nat.le_refl _)
  have V := Lib.hid (l14One_any w.heap.size 0 g zs.length s zs W0 hb F0.t.c0 F0.t.c1 (h1.below F0.bel))
  have WO := Lib.hid (fun (W : World) (hB : Below w.heap.size w W) k hz hk => l14Without_any g k zs W hz hk (h1.below hB))
  have RP := Lib.hid (fun (W : World) (hB : Below w.heap.size w W) k hk => Ky.Row.gk (h1.below hB) k hk)
  have HF0 := Lib.hid F0
  obtain ⟨m0, m1⟩ := F0.t
  have HW := Lib.hid hW0
  clear h1 hs F0 hW0
  cases ho : trackB s zs with
  | false =>
    unfold dropV
    rw [if_neg (by rw [ho]; simp)]
    rw [ho] at V
    clear ho
    go_enter Try.func35, Try.ntmps35
    go_wp2_with fail
    rw [← HW.out]
    clear HW
    go_wp2_with fail
    refine V.out.mono ?_
    rintro e w1 ⟨rfl, m, hm⟩
    have hb1 : Below W0.heap.size W0 w1 := by rw [hm]; exact bel_dT (Below.refl _ _) m
    clear m0 m1 hm
    have hfr := HF0.out.below hb1
    have HFR := Lib.hid hfr
    have HB1 := Lib.hid hfr.bel
    obtain ⟨m0, m1⟩ := hfr.t
    have r0 := hfr.r0
    have r1 := hfr.r1
    have f0 := hfr.f0
    have f1 := hfr.f1
    clear hfr
    go_wp2_with fail
    refine bodyPost_ret (v := .tuple #[.agg #[.string { data := #[] }, .slice none 0 0], .int .i64 1]) (by simp [results, Try.results35, go_sem, r0, r1]) rfl ⟨_, rfl, Ky.Own.nil _ _ _, ?_⟩
    repeat (first | exact Below.refl _ _ | exact HB1.out | refine Below.setCell ?_ (by first | (simp; done) | omega | (simp; omega)) _ | refine Below.alloc ?_ (by first | (simp; done) | omega | (simp; omega)) _ | refine bel_drew ?_)
  | true =>
    have hT := trk_of ho
    have n1 := hT.n1
    have n24 := hT.n24
    have DF : Hid (∀ j, j < zs.length → (gk zs j).f0 = x → dropV s zs x = if zs.length = 1 then tErr 6 else (s, woL zs j, 0)) := Lib.hid (fun j hj hx => by
      have e := atK_eq hT x j hj hx
      unfold dropV
      rw [if_pos ho, e, if_pos (by unfold hasB; rw [decide_eq_true hj, decide_eq_true hx]; rfl)])
    have DN : Hid ((∀ j, j < zs.length → (gk zs j).f0 ≠ x) → dropV s zs x = tErr 3) := Lib.hid (fun hn => by
      unfold dropV
      rw [if_pos ho, if_neg]
      intro hh
      unfold hasB at hh
      rw [Bool.and_eq_true, decide_eq_true_eq, decide_eq_true_eq] at hh
      exact hn _ hh.1 hh.2)
    rw [ho] at V
    clear ho hT
    obtain ⟨R, hR⟩ : ∃ R, R = dropV s zs x := ⟨_, rfl⟩
    rw [← hR] at DF DN ⊢
    clear hR
    go_enter Try.func35, Try.ntmps35
    go_wp2_with fail
    rw [← HW.out]
    clear HW
    go_wp2_with fail
    refine V.out.mono ?_
    rintro e w1 ⟨rfl, m, hm⟩
    have hb1 : Below W0.heap.size W0 w1 := by rw [hm]; exact bel_dT (Below.refl _ _) m
    clear m0 m1 hm
    have hfr := HF0.out.below hb1
    have HFR := Lib.hid hfr
    have HB1 := Lib.hid hfr.bel
    obtain ⟨m0, m1⟩ := hfr.t
    have r0 := hfr.r0
    have r1 := hfr.r1
    have f0 := hfr.f0
    have f1 := hfr.f1
    clear hfr
    clear hb1
    go_wp2_with fail
    clear m0 m1 r0 r1 f0 f1
    go_loopg [6] (zs.length + 1) (fun kx s6 wr => ∃ j : Nat, s6 = .int .i64 (j : Int) ∧ j ≤ zs.length ∧ kx = zs.length + 1 - j ∧ w1 = wr ∧ Hid (∀ i, i < j → (gk zs i).f0 ≠ x))
    case atStart => exact ⟨0, rfl, Nat.zero_le _, rfl, rfl, Lib.hid (fun i hi => absurd hi (Nat.not_lt_zero _))⟩
    case round =>
      obtain ⟨j, rfl, hj, rfl, rfl, HN⟩ := hrel
      have hfr := HFR.out
      obtain ⟨m0, m1⟩ := hfr.t
      have r0 := hfr.r0
      have r1 := hfr.r1
      have f0 := hfr.f0
      have f1 := hfr.f1
      clear hfr
      by_cases hlt : j < zs.length
      · have j0 : (0 : Int) ≤ (j : Int) := by omega
        have j1 : (j : Int) < (zs.length : Int) := by omega
        obtain ⟨c0, c1⟩ := RP.out _ HB1.out j hlt
        by_cases hx : (gk zs j).f0 = x
        · have hd := DF.out j hlt hx
          rw [hx] at c0
          have q1 : (x == x) = true := by simp
          clear hx c1 DF DN HN
          by_cases hl : zs.length = 1
          · have HD : Hid (R = tErr 6) := Lib.hid (by rw [hd, if_pos hl])
            have l1 : ((zs.length : Int) == 1) = true := by rw [hl]; rfl
            have l2 : (zs.length : Int) = 1 := by omega
            clear hd
            go_wp2_with fail
            refine bodyPost_ret (v := .tuple #[.agg #[.string { data := #[] }, .slice none 0 0], .int .i64 6]) (by simp [results, Try.results35, go_sem, r0, r1]) rfl ⟨_, by rw [HD.out]; rfl, by rw [HD.out]; exact Ky.Own.nil _ _ _, ?_⟩
            repeat (first | exact Below.refl _ _ | exact HB1.out | refine Below.setCell ?_ (by first | (simp; done) | omega | (simp; omega)) _ | refine Below.alloc ?_ (by first | (simp; done) | omega | (simp; omega)) _ | refine bel_drew ?_)
          · have HD0 : Hid (R = (s, woL zs j, 0)) := Lib.hid (by rw [hd, if_neg hl])
            have l1 : ((zs.length : Int) == 1) = false := beq_eq_false_iff_ne.2 (by omega)
            have l2 : ¬ (zs.length : Int) = 1 := by omega
            have WOJ := Lib.hid (fun (W : World) (hB : Below w.heap.size w W) => WO.out W hB j n24 hlt)
            obtain ⟨RW, hRW⟩ : ∃ R, R = zs.take j ++ zs.drop (j + 1) := ⟨_, rfl⟩
            rw [← hRW] at WOJ
            have HD : Hid (R = (s, RW, 0)) := Lib.hid (by rw [HD0.out, hRW]; rfl)
            clear hRW HD0
            have hws := HFR.out.hs
            have KC : Hid (w1.cell? ⟨w.heap.size, 0, none⟩ = some (.string s) ∧ w1.cell? ⟨w.heap.size, 1, none⟩ = some (.slice (some ⟨g, 0, none⟩) zs.length zs.length) ∧ Below w.heap.size w w1) := Lib.hid ⟨m0, m1, HB1.out⟩
            clear hd WO r0 r1 f0 f1 hl
            go_wp2_with fail
            clear m0 m1 c0
            refine wp_region_held_drew (S := fun W => W.cell? ⟨w.heap.size, 0, none⟩ = some (.string s) ∧ W.cell? ⟨w.heap.size, 1, none⟩ = some (.slice (some ⟨g, 0, none⟩) zs.length zs.length) ∧ Below w.heap.size w W) (by kernel_rfl) ?_ (fun hHeld => ?_)
            · exact keepW2 KC.out (drewG w1)
            refine wpAnyH_take (i := 0) rfl (by kernel_rfl) (by kernel_rfl) (by kernel_rfl) (fun _ _ _ h => h) (Or.inl ⟨by kernel_rfl, fun w hSw => by (try dsimp only at hSw); (try obtain ⟨s0, s1, s2⟩ := hSw); go_simp; (try with_reducible rfl)⟩) hHeld ?_
            try simp only [List.getElem_toArray, List.getElem_cons_zero, List.getElem_cons_succ, Act.put, List.setIfInBounds_toArray, List.set_cons_zero, List.set_cons_succ]
            refine wpAnyH_take (i := 1) rfl (by kernel_rfl) (by kernel_rfl) (by kernel_rfl) (fun _ _ _ h => h) (Or.inl ⟨by kernel_rfl, fun w hSw => by (try dsimp only at hSw); (try obtain ⟨s0, s1, s2⟩ := hSw); go_simp; (try with_reducible rfl)⟩) hHeld ?_
            try simp only [List.getElem_toArray, List.getElem_cons_zero, List.getElem_cons_succ, Act.put, List.setIfInBounds_toArray, List.set_cons_zero, List.set_cons_succ]
            refine wpAnyH_take (i := 2) rfl (by kernel_rfl) (by kernel_rfl) (by kernel_rfl) (fun _ _ _ h => h) (Or.inl ⟨by kernel_rfl, fun w hSw => by (try dsimp only at hSw); (try obtain ⟨s0, s1, s2⟩ := hSw); go_simp; (try with_reducible rfl)⟩) hHeld ?_
            try simp only [List.getElem_toArray, List.getElem_cons_zero, List.getElem_cons_succ, Act.put, List.setIfInBounds_toArray, List.set_cons_zero, List.set_cons_succ]
            refine wpAnyH_take (i := 3) rfl (by kernel_rfl) (by kernel_rfl) (by kernel_rfl) (fun _ _ _ h => h) (Or.inl ⟨by kernel_rfl, fun w hSw => by (try dsimp only at hSw); (try obtain ⟨s0, s1, s2⟩ := hSw); go_simp; (try with_reducible rfl)⟩) hHeld ?_
            try simp only [List.getElem_toArray, List.getElem_cons_zero, List.getElem_cons_succ, Act.put, List.setIfInBounds_toArray, List.set_cons_zero, List.set_cons_succ]
            refine wpAnyH_take (i := 4) rfl (by kernel_rfl) (by kernel_rfl) (by kernel_rfl) (fun _ _ _ h => h) (Or.inl ⟨by kernel_rfl, fun w hSw => by (try dsimp only at hSw); (try obtain ⟨s0, s1, s2⟩ := hSw); go_simp; (try with_reducible rfl)⟩) hHeld ?_
            try simp only [List.getElem_toArray, List.getElem_cons_zero, List.getElem_cons_succ, Act.put, List.setIfInBounds_toArray, List.set_cons_zero, List.set_cons_succ]
            refine wpAnyH_ready (rs := [5]) (by kernel_rfl) (by simp) ?_
            refine AllReadyH.cons rfl (fun KK hK => ?_) AllReadyH.nil
            go_simp
            first | go_at_call 76 | skip
            refine (WOJ.out _ hHeld.2.2).mono ?_
            rintro e w5 ⟨v5, rfl, ho5, hb5⟩
            have hb6 := undrewG hb5
            have hfr := HFR.out.below hb6
            have HO5 := Lib.hid ho5
            have HB5 := Lib.hid hfr.bel
            have hs5 := hb6.size
            have r0 := hfr.r0
            have r1 := hfr.r1
            have f0 := hfr.f0
            have f1 := hfr.f1
            obtain ⟨a5, c5, rfl⟩ := ho5.len
            refine hK.out _ _ ?_ (fun hH2 => ?_)
            · exact keepW2 KC.out hb6
            clear hK KK hHeld hfr hb5 hb6 ho5
            try simp only [List.getElem_toArray, List.getElem_cons_zero, List.getElem_cons_succ, Act.put, List.setIfInBounds_toArray, List.set_cons_zero, List.set_cons_succ]
            refine wpAnyH_take (i := 6) rfl (by kernel_rfl) (by kernel_rfl) (by kernel_rfl) (fun _ _ _ h => h) (Or.inl ⟨by kernel_rfl, fun w hSw => by (try dsimp only at hSw); (try obtain ⟨s0, s1, s2⟩ := hSw); go_simp; (try with_reducible rfl)⟩) hH2 ?_
            try simp only [List.getElem_toArray, List.getElem_cons_zero, List.getElem_cons_succ, Act.put, List.setIfInBounds_toArray, List.set_cons_zero, List.set_cons_succ]
            refine wpAnyH_ready (rs := [7]) (by kernel_rfl) (by simp) ?_
            refine AllReadyH.cons rfl (fun KK hK => ?_) AllReadyH.nil
            go_simp
            refine hK.out _ _ ?_ (fun hH4 => ?_)
            · exact keepM2 (B := w.heap.size + 1) (C := w.heap.size + 2) hH2 (by repeat (first | exact Mod.refl _ _ _ | refine Mod.setCell ?_ (by omega) (by omega) _)) (by omega) (by omega) (by omega)
            clear hK KK
            try simp only [List.getElem_toArray, List.getElem_cons_zero, List.getElem_cons_succ, Act.put, List.setIfInBounds_toArray, List.set_cons_zero, List.set_cons_succ]
            refine wpAnyH_take (i := 8) rfl (by kernel_rfl) (by kernel_rfl) (by kernel_rfl) (fun _ _ _ h => h) (Or.inl ⟨by kernel_rfl, fun w hSw => by (try dsimp only at hSw); (try obtain ⟨s0, s1, s2⟩ := hSw); go_simp; (try with_reducible rfl)⟩) hH4 ?_
            try simp only [List.getElem_toArray, List.getElem_cons_zero, List.getElem_cons_succ, Act.put, List.setIfInBounds_toArray, List.set_cons_zero, List.set_cons_succ]
            refine wpAnyH_done (by kernel_rfl) ?_ _
            clear hH2 hH4
            go_wp2_with fail
            refine bodyPost_ret (v := .tuple #[.agg #[.string s, .slice a5 RW.length c5], .int .i64 0]) (by simp [results, Try.results35, go_sem, r0, r1]) rfl ⟨_, by rw [HD.out], ?_, ?_⟩
            · rw [HD.out]
              refine Ky.Own.le (Ky.Own.mod HO5.out (B' := w.heap.size + 1) (C' := w.heap.size + 1 + 1) ?_ (Or.inr (by simp; omega))) (by simp; omega) (by simp)
              repeat (first | exact Mod.refl _ _ _ | refine Mod.setCell ?_ (by omega) (by omega) _)
            ·
              repeat (first | exact Below.refl _ _ | exact HB5.out | refine Below.setCell ?_ (by first | (simp; done) | omega | (simp; omega)) _ | refine Below.alloc ?_ (by first | (simp; done) | omega | (simp; omega)) _ | refine bel_drew ?_)
        · have HNX : Hid (∀ i, i < j + 1 → (gk zs i).f0 ≠ x) := Lib.hid (fun i hi => by
            rcases Nat.lt_or_ge i j with c | c
            · exact HN.out i c
            · obtain rfl : i = j := by omega
              exact hx)
          have q1 : ((gk zs j).f0 == x) = false := beq_eq_false_iff_ne.2 hx
          have HNE := Lib.hid hx
          clear hx c1 DF DN HN
          generalize (gk zs j).f0 = y at *
          have q2 := HNE.out
          clear HNE
          go_wp2_with fail
          go_roundg (zs.length + 1 - (j + 1))
          case measure => omega
          case rel => exact ⟨j + 1, by go_num, by omega, by omega, rfl, HNX⟩
      · obtain rfl : j = zs.length := by omega
        have HD : Hid (R = tErr 3) := Lib.hid (DN.out HN.out)
        clear DF DN HN WO
        go_wp2_with fail
        refine bodyPost_ret (v := .tuple #[.agg #[.string { data := #[] }, .slice none 0 0], .int .i64 3]) (by simp [results, Try.results35, go_sem, r0, r1]) rfl ⟨_, by rw [HD.out]; rfl, by rw [HD.out]; exact Ky.Own.nil _ _ _, ?_⟩
        repeat (first | exact Below.refl _ _ | exact HB1.out | refine Below.setCell ?_ (by first | (simp; done) | omega | (simp; omega)) _ | refine Below.alloc ?_ (by first | (simp; done) | omega | (simp; omega)) _ | refine bel_drew ?_)
end Go.Proofs.Ytdbocpcijkngpaa.Tk
