/-
  DropStar (package spec): l05Find, DropStar.
-/
import Derived.Test.YtfjhlapcopjfiaaSLaw
namespace Go.Proofs.Ytfjhlapcopjfiaa
open Go.RowKit
set_option linter.unusedVariables false

theorem okL_lenD {zs : List StarV} (h : okL zs = true) : zs.length ≤ 24 := by
  unfold okL at h
  simp only [Bool.and_eq_true, decide_eq_true_eq] at h
  exact h.2
theorem ne_text {x y : ByteArray} (h : x ≠ y) : (x.toList == y.toList) = false := by
  rw [ByteArray.toList_eq, ByteArray.toList_eq]
  exact beq_eq_false_iff_ne.2 (fun e => h (ByteArray.ext (Array.toList_inj.mp e)))
/-- The place of a name in a list; its length if there is none. -/
def fndS (zs : List StarV) (s : ByteArray) : Nat := zs.findIdx (fun x => decide (x.s = s))
theorem fndS_at {zs : List StarV} {s : ByteArray} (j : Nat) (hj : j < zs.length) (h : zs[j].s = s) (hb : ∀ i, (hi : i < zs.length) → i < j → zs[i].s ≠ s) : fndS zs s = j :=
  (List.findIdx_eq hj).2 ⟨decide_eq_true h, fun i hi => decide_eq_false (hb i (by omega) hi)⟩
theorem fndS_no {zs : List StarV} {s : ByteArray} (hb : ∀ i, (hi : i < zs.length) → zs[i].s ≠ s) : fndS zs s = zs.length :=
  List.findIdx_eq_length.2 fun x hx => by
    obtain ⟨i, hi, rfl⟩ := List.mem_iff_getElem.1 hx
    exact decide_eq_false (hb i hi)
theorem fndS_le (zs : List StarV) (s : ByteArray) : fndS zs s ≤ zs.length := List.findIdx_le_length
theorem fndS_is {zs : List StarV} {s : ByteArray} (h : fndS zs s < zs.length) : zs[fndS zs s].s = s := of_decide_eq_true (List.findIdx_getElem (w := h))
theorem fndS_not {zs : List StarV} {s : ByteArray} (h : ¬ fndS zs s < zs.length) (i : Nat) (hi : i < zs.length) : zs[i].s ≠ s := by
  intro e
  exact h (List.findIdx_lt_length_of_exists ⟨zs[i], List.getElem_mem hi, decide_eq_true e⟩)

def fndI (zs : List StarV) (s : ByteArray) : Int := if fndS zs s < zs.length then (fndS zs s : Int) else -1
theorem fndI_at {zs : List StarV} {s : ByteArray} (j : Nat) (hj : j < zs.length) (h : zs[j].s = s) (hb : ∀ i, (hi : i < zs.length) → i < j → zs[i].s ≠ s) : fndI zs s = (j : Int) := by
  unfold fndI
  rw [fndS_at j hj h hb, if_pos hj]
theorem fndI_no {zs : List StarV} {s : ByteArray} (hb : ∀ i, (hi : i < zs.length) → zs[i].s ≠ s) : fndI zs s = -1 := by
  unfold fndI
  rw [fndS_no hb, if_neg (Nat.lt_irrefl _)]

theorem Row.src {w : World} {g : Nat} {zs : List StarV} (h : Row w g zs) (o : Nat) : ∀ j u, ((flatS zs).drop o)[j]? = some u → w.cell? ((⟨g, o, none⟩ : Addr).add j) = some u := by
  intro j u hj
  have ea : ((⟨g, o, none⟩ : Addr).add j) = ⟨g, o + j, none⟩ := by unfold Addr.add; split <;> simp_all
  rw [List.getElem?_drop] at hj
  have hl : o + j < zs.length * 5 := by
    rw [← flatS_len]
    exact (List.getElem?_eq_some_iff.1 hj).1
  have e : o + j = (o + j) / 5 * 5 + (o + j) % 5 := by omega
  have g0 := flatS_get zs ((o + j) / 5) (by omega) ((o + j) % 5) (by omega)
  rw [← e, hj] at g0
  rw [ea, World.rowIs.cell h hl]
  unfold rowF
  rw [List.getD, List.getElem?_eq_getElem (by omega)]
  exact g0.symm

set_option maxRecDepth 100000 in
set_option maxHeartbeats 2000000 in
theorem l05Find_any (g cap : Nat) (zs : List StarV) (s : ByteArray) (w : World) (hb : zs.length ≤ 1048577) (h1 : Row w g zs) :
    Calls Try.prog 64 #[.slice (some ⟨g, 0, none⟩) zs.length cap, .string s] w fun e w' => e = .returned (.int .i64 (fndI zs s)) ∧ w = w' := by
  have H1 := Lib.hid h1
  have FA := Lib.hid (fun j hj h hb => fndI_at (zs := zs) (s := s) j hj h hb)
  have FN := Lib.hid (fun hb => fndI_no (zs := zs) (s := s) hb)
  clear h1
  generalize fndI zs s = f at *
  go_enter Try.func64, Try.ntmps64
  go_wp2_with fail
  go_loopg [5] (zs.length + 1) (fun kx s5 wr => ∃ (j : Nat), s5 = .int .i64 (j : Int) ∧ j ≤ zs.length ∧ kx = zs.length + 1 - j ∧ w = wr ∧ Hid (∀ i, (hi : i < zs.length) → i < j → zs[i].s ≠ s))
  case atStart => exact ⟨0, rfl, Nat.zero_le _, rfl, rfl, Lib.hid (fun i _ h => absurd h (Nat.not_lt_zero _))⟩
  case round =>
    obtain ⟨j, rfl, hj, rfl, rfl, HP⟩ := hrel
    by_cases hlt : j < zs.length
    · have j0 : (0 : Int) ≤ (j : Int) := by omega
      have j1 : (j : Int) < (zs.length : Int) := by omega
      have c0 := (H1.out.at j hlt).c0
      by_cases hs : zs[j].s = s
      · have e := FA.out j hlt hs HP.out
        subst e
        rw [hs] at c0
        clear FA FN HP hs
        go_wp2_with fail
        go_ret
        exact ⟨rfl, rfl⟩
      · have NX : Hid (∀ i, (hi : i < zs.length) → i < j + 1 → zs[i].s ≠ s) := Lib.hid (fun i hi h => by
          by_cases c : i < j
          · exact HP.out i hi c
          · obtain rfl : i = j := by omega
            exact hs)
        have hne : (zs[j].s.toList == s.toList) = false := ne_text hs
        clear FA FN HP
        generalize zs[j].s = t at *
        go_wp2_with fail
        go_roundg (zs.length + 1 - (j + 1))
        case measure => omega
        case rel => exact ⟨j + 1, by go_num, by omega, by omega, rfl, NX⟩
    · obtain rfl : j = zs.length := by omega
      have e := FN.out (fun i hi => HP.out i hi hi)
      subst e
      go_wp2_with fail
      go_ret
      exact ⟨rfl, rfl⟩

/-- What DropStar answers. -/
def dropV (zs : List StarV) (s : ByteArray) : List StarV × Int := if okL zs = true then (if fndS zs s < zs.length then (zs.take (fndS zs s) ++ zs.drop (fndS zs s + 1), 0) else ([], 3)) else ([], 1)
theorem dropV_len (zs : List StarV) (s : ByteArray) : (dropV zs s).1.length ≤ zs.length := by
  unfold dropV
  split
  · split
    · show (zs.take _ ++ zs.drop _).length ≤ _
      rw [List.length_append, List.length_take, List.length_drop]
      omega
    · exact Nat.zero_le _
  · exact Nat.zero_le _
def SPost (r : List StarV × Int) (w : World) (e : Ending) (w' : World) : Prop :=
  ∃ v, e = .returned (.tuple #[v, .int .i64 r.2]) ∧ SOwn w' w.heap.size v r.1 ∧ Below w.heap.size w w'
theorem SPost.of {w w' : World} {v : Value} {zs : List StarV} {c : Int} (ho : SOwn w' w.heap.size v zs) (hb : Below w.heap.size w w') : SPost (zs, c) w (.returned (.tuple #[v, .int .i64 c])) w' := ⟨v, rfl, ho, hb⟩

set_option maxRecDepth 100000 in
set_option maxHeartbeats 4000000 in
theorem specDrop_any (g cap : Nat) (zs : List StarV) (s : ByteArray) (w : World) (hb : zs.length ≤ 1048577) (h1 : Row w g zs) :
    Calls Try.prog 23 #[.slice (some ⟨g, 0, none⟩) zs.length zs.length, .string s] w (SPost (dropV zs s) w) := by
  have V := Lib.hid (l05Ok_any g zs.length zs w hb h1)
  have F := Lib.hid (fun (W : World) (hB : Below w.heap.size w W) => l05Find_any g zs.length zs s W hb (h1.below hB))
  have H1 := Lib.hid h1
  clear h1
  unfold dropV
  cases ho : okL zs with
  | false =>
    rw [if_neg (by simp)]
    rw [ho] at V
    clear ho
    go_enter Try.func23, Try.ntmps23
    go_wp2_with fail
    refine V.out.mono ?_
    rintro e w1 ⟨rfl, hb1⟩
    have HB1 := Lib.hid hb1
    clear hb1
    go_wp2_with fail
    go_ret2
    exact ⟨_, rfl, SOwn.nil _ _, HB1.out⟩
  | true =>
    rw [if_pos rfl]
    rw [ho] at V
    have hz24 := okL_lenD ho
    clear ho
    by_cases hf : fndS zs s < zs.length
    · rw [if_pos hf]
      have fe : fndI zs s = (fndS zs s : Int) := if_pos hf
      rw [fe] at F
      clear fe
      generalize fndS zs s = k at *
      obtain ⟨i0, hi, hzz⟩ := Option.map_eq_some_iff.1 info_star
      simp only [Prod.mk.injEq] at hzz
      obtain ⟨hz0, hz1, hz2⟩ := hzz
      have k0 : (0 : Int) ≤ (k : Int) := by omega
      have k1 : (k : Int) ≤ (zs.length : Int) := by omega
      have k2 : (k : Int) + 1 ≤ (zs.length : Int) := by omega
      have L1 : (flatS (zs.take k)).length = k * 5 := by rw [flatS_len, List.length_take]; omega
      have L2 : (flatS (zs.drop (k + 1))).length = (zs.length - (k + 1)) * 5 := by rw [flatS_len, List.length_drop]
      have P1 := Lib.hid (flatS_one (zs.take k))
      have P2 := Lib.hid (flatS_one (zs.drop (k + 1)))
      have S1 : Hid (∀ W, Below w.heap.size w W → ∀ j u, (flatS (zs.take k))[j]? = some u → W.cell? ((⟨g, 0, none⟩ : Addr).add j) = some u) := Lib.hid (fun W hB j u hj => by
        rw [flatS_take] at hj
        refine (H1.out.below hB).src 0 j u ?_
        rw [List.drop_zero]
        rw [List.getElem?_take] at hj
        split at hj
        · exact hj
        · cases hj)
      have S2 : Hid (∀ W, Below w.heap.size w W → ∀ j u, (flatS (zs.drop (k + 1)))[j]? = some u → W.cell? ((⟨g, (k + 1) * 5, none⟩ : Addr).add j) = some u) := Lib.hid (fun W hB j u hj => by
        rw [flatS_drop] at hj
        exact (H1.out.below hB).src ((k + 1) * 5) j u hj)
      have RES : Hid (∀ W v, W.ownsRow w.heap.size 26 5 v (k + (zs.length - (k + 1))) (flatS (zs.take k) ++ flatS (zs.drop (k + 1))) → SOwn W w.heap.size v (zs.take k ++ zs.drop (k + 1))) := Lib.hid (fun W v h => by
        unfold SOwn
        rw [flatS_app, List.length_append, List.length_take, List.length_drop, Nat.min_eq_left (by omega)]
        exact h)
      generalize zs.take k ++ zs.drop (k + 1) = R at *
      generalize flatS (zs.take k) = X1 at *
      generalize flatS (zs.drop (k + 1)) = X2 at *
      go_enter Try.func23, Try.ntmps23
      go_wp2_with fail
      refine V.out.mono ?_
      rintro e w1 ⟨rfl, hb1⟩
      have HB1 := Lib.hid hb1
      clear hb1
      go_wp2_with fail
      refine (F.out _ HB1.out).mono ?_
      rintro e w' ⟨rfl, rfl⟩
      have own0 : (w1.alloc (Obj.cells #[] 26)).ownsRow w.heap.size 26 5 (.slice (some ⟨w1.heap.size, 0, none⟩) 0 0) 0 [] := World.ownsRow_made w1 #[] 0 HB1.out.size (Nat.zero_le _) rfl
      have hb2 : Below w.heap.size w (w1.alloc (Obj.cells #[] 26)) := HB1.out.alloc HB1.out.size _
      have hm1 : 0 + k ≤ maxLen := by unfold maxLen; omega
      have hy1 : (0 + k) * 48 ≤ 140737488355328 := by omega
      by_cases hlast : k + 1 < zs.length
      · have l1 : (k : Int) + 1 < (zs.length : Int) := by omega
        have hm2 : k + (zs.length - (k + 1)) ≤ maxLen := by unfold maxLen; omega
        have hy2 : (k + (zs.length - (k + 1))) * 48 ≤ 140737488355328 := by omega
        go_wp2_with (first
          | (at_builtin; refine wpList_append_own _ rfl _ _ 32 rfl w.heap.size 26 i0 (.agg #[.string ByteArray.empty, .int .i64 0, .int .i64 0, .int .i64 0, .int .i64 0]) 5 48 Try.underlying32 hi hz0 hz1 hz2 rfl (by decide) _ _ _ rfl hown4 ⟨g, (k + 1) * 5, none⟩ (zs.length - (k + 1)) (zs.length - (k + 1)) X2 rfl L2 (S2.out _ hb3) P2.out hm2 hy2 hb3.size ?_; intro v5 w5 hown5 hgrow5 _; have hb5 : Below w.heap.size w w5 := hb3.grown hgrow5 hb3.size (fun kk hk => (hown4.lt kk hk).1))
          | (at_builtin; refine wpList_append_own _ rfl _ _ 32 rfl w.heap.size 26 i0 (.agg #[.string ByteArray.empty, .int .i64 0, .int .i64 0, .int .i64 0, .int .i64 0]) 5 48 Try.underlying32 hi hz0 hz1 hz2 rfl (by decide) _ _ _ rfl own0 ⟨g, 0, none⟩ k _ X1 rfl L1 (S1.out _ hb2) P1.out hm1 hy1 hb2.size ?_; intro v3 w3 hown3 hgrow3 _; have hb3 : Below w.heap.size w w3 := hb2.grown hgrow3 hb2.size (fun kk hk => (own0.lt kk hk).1); have hown4 : w3.ownsRow w.heap.size 26 5 v3 k X1 := by simpa using hown3))
        go_ret2
        exact SPost.of (RES.out _ _ hown5) hb5
      · have l1 : zs.length = k + 1 := by omega
        have hX2 : X2 = [] := List.length_eq_zero_iff.1 (by rw [L2]; omega)
        subst hX2
        have hm2 : k + 0 ≤ maxLen := by unfold maxLen; omega
        have hy2 : (k + 0) * 48 ≤ 140737488355328 := by omega
        have P3 : ∀ u ∈ ([] : List Value), u.oneCell' = true := fun u hu => by cases hu
        go_wp2_with (first
          | (at_builtin; refine wpList_append_own _ rfl _ _ 32 rfl w.heap.size 26 i0 (.agg #[.string ByteArray.empty, .int .i64 0, .int .i64 0, .int .i64 0, .int .i64 0]) 5 48 Try.underlying32 hi hz0 hz1 hz2 rfl (by decide) _ _ _ rfl hown4 ⟨g, 0, none⟩ 0 0 [] rfl rfl (fun j u hj => by simp at hj) P3 hm2 hy2 hb3.size ?_; intro v5 w5 hown5 hgrow5 _; have hb5 : Below w.heap.size w w5 := hb3.grown hgrow5 hb3.size (fun kk hk => (hown4.lt kk hk).1))
          | (at_builtin; refine wpList_append_own _ rfl _ _ 32 rfl w.heap.size 26 i0 (.agg #[.string ByteArray.empty, .int .i64 0, .int .i64 0, .int .i64 0, .int .i64 0]) 5 48 Try.underlying32 hi hz0 hz1 hz2 rfl (by decide) _ _ _ rfl own0 ⟨g, 0, none⟩ k _ X1 rfl L1 (S1.out _ hb2) P1.out hm1 hy1 hb2.size ?_; intro v3 w3 hown3 hgrow3 _; have hb3 : Below w.heap.size w w3 := hb2.grown hgrow3 hb2.size (fun kk hk => (own0.lt kk hk).1); have hown4 : w3.ownsRow w.heap.size 26 5 v3 k X1 := by simpa using hown3))
        go_ret2
        exact SPost.of (RES.out _ _ (by rw [show zs.length - (k + 1) = 0 by omega]; exact hown5)) hb5
    · rw [if_neg hf]
      have fe : fndI zs s = -1 := if_neg hf
      rw [fe] at F
      clear fe hf
      go_enter Try.func23, Try.ntmps23
      go_wp2_with fail
      refine V.out.mono ?_
      rintro e w1 ⟨rfl, hb1⟩
      have HB1 := Lib.hid hb1
      clear hb1
      go_wp2_with fail
      refine (F.out _ HB1.out).mono ?_
      rintro e w' ⟨rfl, rfl⟩
      go_wp2_with fail
      go_ret2
      exact ⟨_, rfl, SOwn.nil _ _, HB1.out⟩
end Go.Proofs.Ytfjhlapcopjfiaa
