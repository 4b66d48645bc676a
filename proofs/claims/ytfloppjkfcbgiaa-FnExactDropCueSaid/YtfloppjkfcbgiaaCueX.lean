/-
  DropCue (both packages).
-/
import Derived.Test.YtfloppjkfcbgiaaCueD
namespace Go.Proofs.Ytfloppjkfcbgiaa.Cue
open Go.RowKit Go.Lib
open Sm (memS)
set_option linter.unusedVariables false

set_option maxRecDepth 100000 in
set_option maxHeartbeats 2000000 in
theorem without_any (g k : Nat) (zs : List V) (w : World) (hz : zs.length ≤ 32) (hk : k < zs.length) (h1 : Row w g zs) :
    Calls Try.prog 66 #[.slice (some ⟨g, 0, none⟩) zs.length zs.length, .int .i64 (k : Int)] w fun e w' => ∃ v, e = .returned v ∧ Own w' w.heap.size w'.heap.size v (zs.take k ++ zs.drop (k + 1)) ∧ Below w.heap.size w w' := by
  have k0 : (0 : Int) ≤ (k : Int) := by omega
  have k1 : (k : Int) ≤ (zs.length : Int) := by omega
  have k2 : (k : Int) + 1 ≤ (zs.length : Int) := by omega
  have k3 : (0 : Int) ≤ (k : Int) + 1 := by omega
  have wk : IntKind.i64.wrap ((k : Int) + 1) = (k : Int) + 1 := IntWalk.i64_in _ (by omega)
  by_cases hc : k + 1 < zs.length
  · have k4 : (k : Int) + 1 < (zs.length : Int) := by omega
    have k5 : ¬ (zs.length : Int) = (k : Int) + 1 := by omega
    have k6 : ¬ (k : Int) + 1 = (zs.length : Int) := by omega
    have hif : (if zs.length = k + 1 then some (⟨g, 0, none⟩ : Addr) else some ⟨g, (k + 1) * 6, none⟩) = some ⟨g, (k + 1) * 6, none⟩ := if_neg (by omega)
    have C : Hid (∀ (W : World) (hB : Below w.heap.size w W) (b : Nat) (h0 : W.cell? ⟨b, 0, none⟩ = some (.slice (some ⟨g, 0, none⟩) k zs.length)) (h2 : W.cell? ⟨b, 1, none⟩ = some (.slice (some ⟨g, (k + 1) * 6, none⟩) (zs.length - (k + 1)) (zs.length - (k + 1)))),
        Calls Try.prog 95 #[.slice (some ⟨b, 0, none⟩) 2 2] W fun e w' => ∃ v, e = .returned v ∧ Own w' W.heap.size w'.heap.size v (zs.take k ++ zs.drop (k + 1)) ∧ Below W.heap.size W w') := Lib.hid (fun W hB b h0 h2 => by
      have h := concat_any b 2 [⟨g, 0, zs.length, zs.take k⟩, ⟨g, (k + 1) * 6, zs.length - (k + 1), zs.drop (k + 1)⟩] W (by simp) (by simp; omega) (fun j hj => by
        match j, hj with
        | 0, _ => simpa [Part.val, Nat.min_eq_left (Nat.le_of_lt hk)] using h0
        | 1, _ => simpa [Part.val] using h2) (fun j hj => by
        match j, hj with
        | 0, _ => exact src_take (h1.below hB) k _
        | 1, _ => exact src_drop (h1.below hB) (k + 1) _)
      simpa using h)
    clear h1
    go_enter Try.func66, Try.ntmps66
    go_wp2_with fail
    go_region_held3 (fun W => Below w.heap.size w W) (first | (exact bel_drew ((Below.refl _ w).alloc (Nat.le_refl _) _)) | (exact (drewG w).alloc (Nat.le_refl _) _) | (exact drewG w) | (exact y1) | go_keep) ((first
      | (go_at_call 95; (refine (C.out _ (bel_drew ((Below.refl _ w).alloc (Nat.le_refl _) _)) _ (by simp) (by simp)).mono ?_); rintro e x1 ⟨v1, rfl, ho1, hx1⟩; have y0 := bel_drew ((Below.refl w.heap.size w).alloc (Nat.le_refl _) (Obj.cells #[.slice (some ⟨g, 0, none⟩) k zs.length, .slice (some ⟨g, (k + 1) * 6, none⟩) (zs.length - (k + 1)) (zs.length - (k + 1))] 32)); have y1 := y0.trans (hx1.mono y0.size))))
    all_goals
      have HO1 := Lib.hid (ho1.le y0.size (Nat.le_refl _))
      have HY := Lib.hid y1
      clear ho1 hx1 y1 y0
      go_wp2_with fail
      go_returns
      exact ⟨_, rfl, HO1.out, HY.out⟩
  · have he : k + 1 = zs.length := by omega
    have hd : zs.drop (k + 1) = [] := by rw [he, List.drop_length]
    have HD := Lib.hid hd
    have hif : (if zs.length = k + 1 then some (⟨g, 0, none⟩ : Addr) else some ⟨g, (k + 1) * 6, none⟩) = some ⟨g, 0, none⟩ := if_pos he.symm
    clear he hd hc
    have C : Hid (∀ (W : World) (hB : Below w.heap.size w W) (b : Nat) (h0 : W.cell? ⟨b, 0, none⟩ = some (.slice (some ⟨g, 0, none⟩) k zs.length)) (h2 : W.cell? ⟨b, 1, none⟩ = some (.slice (some ⟨g, 0, none⟩) (zs.length - (k + 1)) (zs.length - (k + 1)))),
        Calls Try.prog 95 #[.slice (some ⟨b, 0, none⟩) 2 2] W fun e w' => ∃ v, e = .returned v ∧ Own w' W.heap.size w'.heap.size v (zs.take k ++ zs.drop (k + 1)) ∧ Below W.heap.size W w') := Lib.hid (fun W hB b h0 h2 => by
      have h := concat_any b 2 [⟨g, 0, zs.length, zs.take k⟩, ⟨g, 0, zs.length - (k + 1), zs.drop (k + 1)⟩] W (by simp) (by simp; omega) (fun j hj => by
        match j, hj with
        | 0, _ => simpa [Part.val, Nat.min_eq_left (Nat.le_of_lt hk)] using h0
        | 1, _ => simpa [Part.val] using h2) (fun j hj => by
        match j, hj with
        | 0, _ => exact src_take (h1.below hB) k _
        | 1, _ => exact (by rw [HD.out]; exact src_none 0 _ (h1.below hB).lt))
      simpa using h)
    clear h1
    go_enter Try.func66, Try.ntmps66
    go_wp2_with fail
    go_region_held3 (fun W => Below w.heap.size w W) (first | (exact bel_drew ((Below.refl _ w).alloc (Nat.le_refl _) _)) | (exact (drewG w).alloc (Nat.le_refl _) _) | (exact drewG w) | (exact y1) | go_keep) ((first
      | (go_at_call 95; (refine (C.out _ (bel_drew ((Below.refl _ w).alloc (Nat.le_refl _) _)) _ (by simp) (by simp)).mono ?_); rintro e x1 ⟨v1, rfl, ho1, hx1⟩; have y0 := bel_drew ((Below.refl w.heap.size w).alloc (Nat.le_refl _) (Obj.cells #[.slice (some ⟨g, 0, none⟩) k zs.length, .slice (some ⟨g, 0, none⟩) (zs.length - (k + 1)) (zs.length - (k + 1))] 32)); have y1 := y0.trans (hx1.mono y0.size))))
    all_goals
      have HO1 := Lib.hid (ho1.le y0.size (Nat.le_refl _))
      have HY := Lib.hid y1
      clear ho1 hx1 y1 y0
      go_wp2_with fail
      go_returns
      exact ⟨_, rfl, HO1.out, HY.out⟩

def dropV (zs : List V) (s : ByteArray) : List V × Int := if cuesB zs = true then (if fndS zs s < zs.length then (zs.take (fndS zs s) ++ zs.drop (fndS zs s + 1), 0) else ([], 3)) else ([], 1)
theorem dropV_len (zs : List V) (s : ByteArray) : (dropV zs s).1.length ≤ zs.length := by
  unfold dropV
  split
  · split
    · show (zs.take _ ++ zs.drop _).length ≤ _
      rw [List.length_append, List.length_take, List.length_drop]
      omega
    · exact Nat.zero_le _
  · exact Nat.zero_le _
set_option maxRecDepth 100000 in
set_option maxHeartbeats 2000000 in
theorem implDrop_any (g : Nat) (zs : List V) (s : ByteArray) (w : World) (hb : zs.length ≤ 1048577) (h1 : Row w g zs) (hok : ∀ j, (h : j < zs.length) → zs[j].txt) :
    Calls Try.prog 28 #[.slice (some ⟨g, 0, none⟩) zs.length zs.length, .string s] w (LPost (dropV zs s) w) := by
  have N := Lib.hid (implNamed_any g zs.length zs s w hb h1 hok)
  have WO := Lib.hid (fun (W : World) (hB : Below w.heap.size w W) k hz hk => without_any g k zs W hz hk (h1.below hB))
  clear h1 hok
  unfold dropV
  unfold NPost namedV at N
  cases ho : cuesB zs with
  | false =>
    rw [if_neg (by simp)]
    rw [ho, if_neg (by simp)] at N
    clear ho
    go_enter Try.func28, Try.ntmps28
    go_wp2_with fail
    refine N.out.mono ?_
    rintro e w1 ⟨rfl, hb1⟩
    have HB1 := Lib.hid hb1
    clear hb1
    go_wp2_with fail
    go_ret2
    exact ⟨_, rfl, Own.nil _ _ _, HB1.out⟩
  | true =>
    rw [if_pos rfl]
    rw [ho, if_pos rfl] at N
    have hz32 := cuesB_len ho
    clear ho
    by_cases hf : fndS zs s < zs.length
    · rw [if_pos hf]
      rw [if_pos hf] at N
      have W2 := Lib.hid (fun (W : World) (hB : Below w.heap.size w W) => WO.out W hB (fndS zs s) hz32 hf)
      clear WO
      generalize fndS zs s = k at *
      generalize zs.take k ++ zs.drop (k + 1) = L at *
      go_enter Try.func28, Try.ntmps28
      go_wp2_with fail
      refine N.out.mono ?_
      rintro e w1 ⟨rfl, hb1⟩
      have HB1 := Lib.hid hb1
      clear hb1
      go_wp2_with fail
      refine (W2.out _ HB1.out).mono ?_
      rintro e w2 ⟨v, rfl, ho2, hb2⟩
      have HB2 := Lib.hid (HB1.out.trans (hb2.mono HB1.out.size))
      have HO2 := Lib.hid (ho2.le HB1.out.size (Nat.le_refl _))
      clear hb2 ho2
      go_wp2_with fail
      go_ret2
      exact ⟨_, rfl, HO2.out, HB2.out⟩
    · rw [if_neg hf]
      rw [if_neg hf] at N
      clear WO
      go_enter Try.func28, Try.ntmps28
      go_wp2_with fail
      refine N.out.mono ?_
      rintro e w1 ⟨rfl, hb1⟩
      have HB1 := Lib.hid hb1
      clear hb1
      go_wp2_with fail
      go_ret2
      exact ⟨_, rfl, Own.nil _ _ _, HB1.out⟩

set_option maxRecDepth 100000 in
set_option maxHeartbeats 4000000 in
theorem l13Without_any (g k : Nat) (zs : List V) (w : World) (hz : zs.length ≤ 32) (hk : k < zs.length) (h1 : Row w g zs) :
    Calls Try.prog 65 #[.slice (some ⟨g, 0, none⟩) zs.length zs.length, .int .i64 (k : Int)] w fun e w' => ∃ v, e = .returned v ∧ Own w' w.heap.size w'.heap.size v (zs.take k ++ zs.drop (k + 1)) ∧ Below w.heap.size w w' := by
  have k0 : (0 : Int) ≤ (k : Int) := by omega
  have k1 : (k : Int) ≤ (zs.length : Int) := by omega
  have k2 : (k : Int) + 1 ≤ (zs.length : Int) := by omega
  have k3 : (0 : Int) ≤ (k : Int) + 1 := by omega
  have T1 := Lib.hid (fun (W : World) (hB : Below w.heap.size w W) => (src_take (h1.below hB) k zs.length).2)
  have D1 := Lib.hid (fun (W : World) (hB : Below w.heap.size w W) => (src_drop (h1.below hB) (k + 1) zs.length).2)
  have FL1 : (flat (zs.take k)).length = k * 6 := by rw [flat_len, List.length_take, Nat.min_eq_left (Nat.le_of_lt hk)]
  have FL2 : (flat (zs.drop (k + 1))).length = (zs.length - (k + 1)) * 6 := by rw [flat_len, List.length_drop]
  have P1 := Lib.hid (flat_one (zs.take k))
  have P2 := Lib.hid (flat_one (zs.drop (k + 1)))
  have LT : (zs.take k).length = k := by rw [List.length_take]; omega
  have LD : (zs.drop (k + 1)).length = zs.length - (k + 1) := List.length_drop
  have FA := Lib.hid (flat_app (zs.take k) (zs.drop (k + 1)))
  have LA : (zs.take k ++ zs.drop (k + 1)).length = k + (zs.length - (k + 1)) := by rw [List.length_append, LT, LD]
  have DE : k + 1 = zs.length → zs.drop (k + 1) = [] := fun h => by rw [h, List.drop_length]
  clear h1
  have HFL1 := Lib.hid FL1
  have HFL2 := Lib.hid FL2
  have HLT := Lib.hid LT
  have HLD := Lib.hid LD
  have HLA := Lib.hid LA
  have HDE := Lib.hid DE
  clear FL1 FL2 LT LD LA DE
  generalize zs.take k ++ zs.drop (k + 1) = R at *
  generalize zs.take k = A at *
  generalize zs.drop (k + 1) = D at *
  obtain ⟨i0, hi, hzz⟩ := Option.map_eq_some_iff.1 info_rec
  simp only [Prod.mk.injEq] at hzz
  obtain ⟨hz0, hz1, hz2⟩ := hzz
  have own0 : (w.alloc (Obj.cells #[] 26)).ownsRow w.heap.size 26 6 (.slice (some ⟨w.heap.size, 0, none⟩) 0 0) 0 [] := World.ownsRow_made w #[] 0 (Nat.le_refl _) (Nat.zero_le _) rfl
  have hb2 : Below w.heap.size w (w.alloc (Obj.cells #[] 26)) := (Below.refl _ _).alloc (Nat.le_refl _) _
  have S1 := T1.out _ hb2
  have F1 := HFL1.out
  have hm1 : 0 + k ≤ maxLen := by unfold maxLen; omega
  have hy1 : (0 + k) * 64 ≤ 140737488355328 := by omega
  by_cases hc : k + 1 < zs.length
  · have k4 : (k : Int) + 1 < (zs.length : Int) := by omega
    have k5 : ¬ (zs.length : Int) = (k : Int) + 1 := by omega
    have k6 : ¬ (k : Int) + 1 = (zs.length : Int) := by omega
    have hif : (if zs.length = k + 1 then some (⟨g, 0, none⟩ : Addr) else some ⟨g, (k + 1) * 6, none⟩) = some ⟨g, (k + 1) * 6, none⟩ := if_neg (by omega)
    go_enter Try.func65, Try.ntmps65
    go_wp2_with (at_builtin; refine wpList_append_own _ rfl _ _ 32 rfl w.heap.size 26 i0 (.agg #[.string ByteArray.empty, .int .i64 0, .int .i64 0, .string ByteArray.empty, .int .i64 0, .int .i64 0]) 6 64 Try.underlying32 hi hz0 hz1 hz2 rfl (by decide) _ _ _ rfl own0 ⟨g, 0, none⟩ k zs.length (flat A) rfl F1 S1 P1.out hm1 hy1 hb2.size ?_)
    intro v3 w3 hown3 hgrow3 hnil3
    have hb3 : Below w.heap.size w w3 := hb2.grown hgrow3 hb2.size (fun kk hk => (own0.lt kk hk).1)
    have O3 : Hid (w3.ownsRow w.heap.size 26 6 v3 k (flat A)) := Lib.hid (by simpa using hown3)
    have HB3 := Lib.hid hb3
    have hbs := hb3.size
    have hown := O3.out
    have S2 := D1.out _ HB3.out
    have F2 := HFL2.out
    have hm2 : k + (zs.length - (k + 1)) ≤ maxLen := by unfold maxLen; omega
    have hy2 : (k + (zs.length - (k + 1))) * 64 ≤ 140737488355328 := by omega
    clear hb3 hgrow3 hown3 own0 hb2 S1 F1 hnil3 O3
    go_wp2_with (at_builtin; refine wpList_append_own _ rfl _ _ 32 rfl w.heap.size 26 i0 (.agg #[.string ByteArray.empty, .int .i64 0, .int .i64 0, .string ByteArray.empty, .int .i64 0, .int .i64 0]) 6 64 Try.underlying32 hi hz0 hz1 hz2 rfl (by decide) _ _ _ rfl hown ⟨g, (k + 1) * 6, none⟩ (zs.length - (k + 1)) (zs.length - (k + 1)) (flat D) rfl F2 S2 P2.out hm2 hy2 hbs ?_)
    intro v5 w5 hown5 hgrow5 _
    have hb5 := HB3.out.grown hgrow5 hbs (fun kk hk => (hown.lt kk hk).1)
    have O5 : Hid (Own w5 w.heap.size w5.heap.size v5 R) := Lib.hid (Own.mk (by rw [HLA.out, FA.out]; exact hown5))
    have HB5 := Lib.hid hb5
    clear hb5 hgrow5 hown5 hown S2 F2
    go_wp2_with fail
    go_returns
    exact ⟨_, rfl, O5.out, HB5.out⟩
  · have he : k + 1 = zs.length := by omega
    have hd := HDE.out he
    have HD := Lib.hid hd
    have hif : (if zs.length = k + 1 then some (⟨g, 0, none⟩ : Addr) else some ⟨g, (k + 1) * 6, none⟩) = some ⟨g, 0, none⟩ := if_pos he.symm
    have HE : Hid (zs.length - (k + 1) = 0) := Lib.hid (by omega)
    clear he hd hc
    go_enter Try.func65, Try.ntmps65
    go_wp2_with (at_builtin; refine wpList_append_own _ rfl _ _ 32 rfl w.heap.size 26 i0 (.agg #[.string ByteArray.empty, .int .i64 0, .int .i64 0, .string ByteArray.empty, .int .i64 0, .int .i64 0]) 6 64 Try.underlying32 hi hz0 hz1 hz2 rfl (by decide) _ _ _ rfl own0 ⟨g, 0, none⟩ k zs.length (flat A) rfl F1 S1 P1.out hm1 hy1 hb2.size ?_)
    intro v3 w3 hown3 hgrow3 hnil3
    have hb3 : Below w.heap.size w w3 := hb2.grown hgrow3 hb2.size (fun kk hk => (own0.lt kk hk).1)
    have O3 : Hid (w3.ownsRow w.heap.size 26 6 v3 k (flat A)) := Lib.hid (by simpa using hown3)
    have HB3 := Lib.hid hb3
    have hbs := hb3.size
    have hown := O3.out
    have S2 := (show ∀ j u, (flat D)[j]? = some u → w3.cell? ((⟨g, 0, none⟩ : Addr).add j) = some u from fun j u hj => by rw [HD.out] at hj; simp [flat] at hj)
    have F2 := HFL2.out
    have hm2 : k + (zs.length - (k + 1)) ≤ maxLen := by unfold maxLen; omega
    have hy2 : (k + (zs.length - (k + 1))) * 64 ≤ 140737488355328 := by omega
    clear hb3 hgrow3 hown3 own0 hb2 S1 F1 hnil3 O3
    go_wp2_with (at_builtin; refine wpList_append_own _ rfl _ _ 32 rfl w.heap.size 26 i0 (.agg #[.string ByteArray.empty, .int .i64 0, .int .i64 0, .string ByteArray.empty, .int .i64 0, .int .i64 0]) 6 64 Try.underlying32 hi hz0 hz1 hz2 rfl (by decide) _ _ _ rfl hown ⟨g, 0, none⟩ (zs.length - (k + 1)) (zs.length - (k + 1)) (flat D) rfl F2 S2 P2.out hm2 hy2 hbs ?_)
    intro v5 w5 hown5 hgrow5 _
    have hb5 := HB3.out.grown hgrow5 hbs (fun kk hk => (hown.lt kk hk).1)
    have O5 : Hid (Own w5 w.heap.size w5.heap.size v5 R) := Lib.hid (Own.mk (by rw [HLA.out, FA.out]; exact hown5))
    have HB5 := Lib.hid hb5
    clear hb5 hgrow5 hown5 hown S2 F2
    go_wp2_with fail
    go_returns
    exact ⟨_, rfl, O5.out, HB5.out⟩
set_option maxRecDepth 100000 in
set_option maxHeartbeats 2000000 in
theorem specDrop_any (g : Nat) (zs : List V) (s : ByteArray) (w : World) (hb : zs.length ≤ 1048577) (h1 : Row w g zs) :
    Calls Try.prog 27 #[.slice (some ⟨g, 0, none⟩) zs.length zs.length, .string s] w (LPost (dropV zs s) w) := by
  have V := Lib.hid (okS_any g zs.length zs w hb h1)
  have F := Lib.hid (fun (W : World) (hB : Below w.heap.size w W) => find_any g zs.length zs s W hb (h1.below hB))
  have WO := Lib.hid (fun (W : World) (hB : Below w.heap.size w W) k hz hk => l13Without_any g k zs W hz hk (h1.below hB))
  clear h1
  unfold dropV
  cases ho : cuesB zs with
  | false =>
    rw [if_neg (by simp)]
    rw [ho] at V
    clear ho
    go_enter Try.func27, Try.ntmps27
    go_wp2_with fail
    refine V.out.mono ?_
    rintro e w1 ⟨rfl, hb1⟩
    have HB1 := Lib.hid hb1
    clear hb1
    go_wp2_with fail
    go_ret2
    exact ⟨_, rfl, Own.nil _ _ _, HB1.out⟩
  | true =>
    rw [if_pos rfl]
    rw [ho] at V
    have hz32 := cuesB_len ho
    clear ho
    by_cases hf : fndS zs s < zs.length
    · rw [if_pos hf]
      have fe : fndI zs s = (fndS zs s : Int) := if_pos hf
      rw [fe] at F
      have W2 := Lib.hid (fun (W : World) (hB : Below w.heap.size w W) => WO.out W hB (fndS zs s) hz32 hf)
      clear WO fe
      generalize fndS zs s = k at *
      generalize zs.take k ++ zs.drop (k + 1) = L at *
      go_enter Try.func27, Try.ntmps27
      go_wp2_with fail
      refine V.out.mono ?_
      rintro e w1 ⟨rfl, hb1⟩
      have HB1 := Lib.hid hb1
      clear hb1
      go_wp2_with fail
      refine (F.out _ HB1.out).mono ?_
      rintro e w' ⟨rfl, rfl⟩
      go_wp2_with fail
      refine (W2.out _ HB1.out).mono ?_
      rintro e w2 ⟨v, rfl, ho2, hb2⟩
      have HB2 := Lib.hid (HB1.out.trans (hb2.mono HB1.out.size))
      have HO2 := Lib.hid (ho2.le HB1.out.size (Nat.le_refl _))
      clear hb2 ho2
      go_wp2_with fail
      go_ret2
      exact ⟨_, rfl, HO2.out, HB2.out⟩
    · rw [if_neg hf]
      have fe : fndI zs s = -1 := if_neg hf
      rw [fe] at F
      clear WO fe
      go_enter Try.func27, Try.ntmps27
      go_wp2_with fail
      refine V.out.mono ?_
      rintro e w1 ⟨rfl, hb1⟩
      have HB1 := Lib.hid hb1
      clear hb1
      go_wp2_with fail
      refine (F.out _ HB1.out).mono ?_
      rintro e w' ⟨rfl, rfl⟩
      go_wp2_with fail
      go_ret2
      exact ⟨_, rfl, Own.nil _ _ _, HB1.out⟩
end Go.Proofs.Ytfloppjkfcbgiaa.Cue
