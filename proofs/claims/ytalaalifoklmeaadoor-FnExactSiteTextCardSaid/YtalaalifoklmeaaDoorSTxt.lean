/-
  Sites as texts: the contracts of l06Text, SiteText (package spec) and of SiteText (package impl).
-/
import Derived.Test.YtalaalifoklmeaaDoorAngT
import Derived.Test.YtalaalifoklmeaaDoorShelfJoin
import Derived.Test.YtalaalifoklmeaaDoorSite0
import Derived.Deep.RegionHeld3
import Derived.Lib.Join
namespace Go.Proofs.YtalaalifoklmeaaDoor
open Go.RowKit
set_option linter.unusedVariables false

theorem name_leS (s : ByteArray) (h : nameB s.data.toList = true) : s.size ≤ 10 := by
  rcases (show 10 < s.size ∨ s.size ≤ 10 by omega) with c | c
  · rw [nameB_long s c] at h; cases h
  · exact c
theorem site_3 (s : ByteArray) (a b : Int) (h : siteB s a b = true) : s.size ≤ 10 ∧ (-180000 ≤ a ∧ a ≤ 180000) ∧ (-90000 ≤ b ∧ b ≤ 90000) := by
  unfold siteB at h
  simp only [Bool.and_eq_true, inR_1] at h
  exact ⟨name_leS s h.1, h.2.1, h.2.2⟩
theorem angL_len (a : Int) (h0 : -359999 ≤ a) (h1 : a ≤ 359999) : (⟨(angL a).toArray⟩ : ByteArray).size ≤ 50 := by
  rw [size_of]
  have e0 : 0 ≤ absI a ∧ absI a ≤ 359999 := by unfold absI; split <;> omega
  have h2 := itoa_20 (absI a / 1000) (by omega) (by omega)
  have h3 := dec3_len (absI a % 1000) (by omega) (by omega)
  unfold angL
  simp only [List.length_append, List.length_cons, List.length_nil]
  split <;> simp <;> omega
/-- What SiteText returns. -/
def stxt (s : ByteArray) (a b : Int) : ByteArray := if siteB s a b = true then s ++ ⟨#[32]⟩ ++ ⟨(angL a).toArray⟩ ++ ⟨#[32]⟩ ++ ⟨(angL b).toArray⟩ else ⟨#[]⟩
theorem join_3s (x y z : ByteArray) : (⟨(Lib.join ([x, y, z].map (·.data.toList)) [32]).toArray⟩ : ByteArray) = x ++ ⟨#[32]⟩ ++ y ++ ⟨#[32]⟩ ++ z := by
  apply WideShapes.bytes_inj
  simp [ByteArray.data_append, Lib.join_cons, Lib.joinTail]
theorem keepS3 {w W W' : World} {g : Nat} {v0 v1 v2 : Value} (h : W.cell? ⟨g, 0, none⟩ = some v0 ∧ W.cell? ⟨g, 1, none⟩ = some v1 ∧ W.cell? ⟨g, 2, none⟩ = some v2 ∧ Below w.heap.size w W) (hb : Below W.heap.size W W') :
    W'.cell? ⟨g, 0, none⟩ = some v0 ∧ W'.cell? ⟨g, 1, none⟩ = some v1 ∧ W'.cell? ⟨g, 2, none⟩ = some v2 ∧ Below w.heap.size w W' := by
  obtain ⟨h0, h1, h2, hB⟩ := h
  have l0 := World.block_lt_of_cell? W ⟨g, 0, none⟩ h0
  obtain ⟨k, _⟩ := bcell hb
  exact ⟨(k _ _ l0).trans h0, (k _ _ l0).trans h1, (k _ _ l0).trans h2, hB.trans (hb.mono hB.size)⟩
theorem undrewS0 {W u : World} (h : Below W.drew.heap.size W.drew u) : Below W.heap.size W u := ⟨h.os, h.tape, h.output, h.size, h.block⟩
theorem onwSA {W u v : World} {o : Obj} (b : Below W.heap.size W u) (k : Below (u.alloc o).heap.size (u.alloc o) v) : Below W.heap.size W v := (b.alloc b.size o).trans (k.mono (b.alloc b.size o).size)
theorem join_at (x y z : ByteArray) (hx : x.size ≤ 100) (hy : y.size ≤ 100) (hz : z.size ≤ 100) (w : World) (T : TypeId) :
    Calls Tryd.prog 83 #[.slice (some ⟨w.heap.size, 0, none⟩) 3 3, .string ⟨#[32]⟩] (w.alloc (.cells #[.string x, .string y, .string z] T)) fun e w' => e = .returned (.string (x ++ ⟨#[32]⟩ ++ y ++ ⟨#[32]⟩ ++ z)) ∧ Below (w.alloc (.cells #[.string x, .string y, .string z] T)).heap.size (w.alloc (.cells #[.string x, .string y, .string z] T)) w' := by
  have hc : ∀ (j : Nat) u, [x, y, z][j]? = some u → (w.alloc (.cells #[.string x, .string y, .string z] T)).cell? ⟨w.heap.size, 0 + j, none⟩ = some (.string u) := by
    intro j u hj
    match j, hj with
    | 0, hj => simp at hj; subst hj; simp
    | 1, hj => simp at hj; subst hj; simp
    | 2, hj => simp at hj; subst hj; simp
  have e : (⟨(Lib.join ([x, y, z].map (·.data.toList)) [32]).toArray⟩ : ByteArray) = _ := join_3s x y z
  have hl : (Lib.join ([x, y, z].map (·.data.toList)) [32]).length ≤ 140737488355328 := by
    rw [← size_of, e]
    simp only [ByteArray.size_append]
    show x.size + 1 + y.size + 1 + z.size ≤ 140737488355328
    omega
  have := Tryd.strings_Join w.heap.size 0 3 [x, y, z] ⟨#[32]⟩ _ hc (by simp) (by simp) (by simp) hl
  rw [show (⟨#[32]⟩ : ByteArray).data.toList = [32] from rfl, e] at this
  exact this

set_option maxRecDepth 100000 in
set_option maxHeartbeats 2000000 in
theorem l06Text_at (g : Nat) (s : ByteArray) (a b : Int) (h : siteB s a b = true) (w : World) (c0 : w.cell? ⟨g, 0, none⟩ = some (.string s)) (c1 : w.cell? ⟨g, 1, none⟩ = some (.int .i64 a)) (c2 : w.cell? ⟨g, 2, none⟩ = some (.int .i64 b)) :
    Calls Tryd.prog 81 #[.pointer (some ⟨g, 0, none⟩)] w fun e w' => e = .returned (.string (s ++ ⟨#[32]⟩ ++ ⟨(angL a).toArray⟩ ++ ⟨#[32]⟩ ++ ⟨(angL b).toArray⟩)) ∧ Below w.heap.size w w' := by
  obtain ⟨hs, ⟨a0, a1⟩, b0, b1⟩ := site_3 s a b h
  have TA := Lib.hid (fun w => l02Text_any a (by omega) (by omega) w)
  have TB := Lib.hid (fun w => l02Text_any b (by omega) (by omega) w)
  have la := angL_len a (by omega) (by omega)
  have lb := angL_len b (by omega) (by omega)
  clear h a0 a1 b0 b1
  generalize (⟨(angL a).toArray⟩ : ByteArray) = A at *
  generalize (⟨(angL b).toArray⟩ : ByteArray) = B at *
  have z1 : (s ++ ⟨#[32]⟩ : ByteArray).size = s.size + 1 := ByteArray.size_append
  have z2 : (s ++ ⟨#[32]⟩ ++ A : ByteArray).size = s.size + 1 + A.size := by rw [ByteArray.size_append, z1]
  have z3 : (s ++ ⟨#[32]⟩ ++ A ++ ⟨#[32]⟩ : ByteArray).size = s.size + 1 + A.size + 1 := by rw [ByteArray.size_append, z2]; rfl
  have h1 : ¬ 9223372036854775807 < s.size + 1 := by omega
  have h2 : ¬ 9223372036854775807 < (s ++ ⟨#[32]⟩ : ByteArray).size + A.size := by omega
  have h3 : ¬ 9223372036854775807 < (s ++ ⟨#[32]⟩ ++ A : ByteArray).size + 1 := by omega
  have h4 : ¬ 9223372036854775807 < (s ++ ⟨#[32]⟩ ++ A ++ ⟨#[32]⟩ : ByteArray).size + B.size := by omega
  have h5 : ¬ 9223372036854775807 < s.size + 1 + A.size := by omega
  have h6 : ¬ 9223372036854775807 < s.size + 1 + A.size + 1 := by omega
  have h7 : ¬ 9223372036854775807 < s.size + 1 + A.size + 1 + B.size := by omega
  clear z1 z2 z3
  have K : Hid (w.cell? ⟨g, 0, none⟩ = some (.string s) ∧ w.cell? ⟨g, 1, none⟩ = some (.int .i64 a) ∧ w.cell? ⟨g, 2, none⟩ = some (.int .i64 b) ∧ Below w.heap.size w w) := Lib.hid ⟨c0, c1, c2, Below.refl _ _⟩
  go_enter Tryd.func81, Tryd.ntmps81
  go_wp2_with fail
  go_region_held3 (fun w' => w'.cell? ⟨g, 0, none⟩ = some (.string s) ∧ w'.cell? ⟨g, 1, none⟩ = some (.int .i64 a) ∧ w'.cell? ⟨g, 2, none⟩ = some (.int .i64 b) ∧ Below w.heap.size w w') (first | (exact keepS3 K.out (bel_drew (Below.refl _ _))) | (exact keepS3 K.out y2) | (exact keepS3 K.out y1) | go_keep) ((first
    | (go_at_call 77; (first
      | ((with_reducible refine (TB.out _).mono ?_); rintro e x2 ⟨rfl, hx2⟩; have y2 := y1.trans (hx2.mono y1.size))
      | ((with_reducible refine (TA.out _).mono ?_); rintro e x1 ⟨rfl, hx1⟩; have y1 := undrewS0 hx1)))))
  rename_i held
  have HB := Lib.hid held.2.2.2
  clear held
  go_wp2_with fail
  go_ret
  exact ⟨rfl, HB.out⟩

set_option maxRecDepth 100000 in
set_option maxHeartbeats 1000000 in
theorem specSText_any (s : ByteArray) (a b : Int) (w : World) :
    Calls Tryd.prog 44 #[.agg #[.string s, .int .i64 a, .int .i64 b]] w fun e w' => e = .returned (.string (stxt s a b)) ∧ Below w.heap.size w w' := by
  unfold stxt
  have O := Lib.hid (fun (w : World) g c0 c1 c2 => l06Ok_at g 0 s a b w c0 c1 c2)
  cases h : siteB s a b with
  | false =>
    rw [if_neg (by simp)]
    rw [h] at O
    clear h
    go_enter Tryd.func44, Tryd.ntmps44
    go_wp2_with fail
    refine (O.out _ _ (by simp) (by simp) (by simp)).mono ?_
    rintro e w1 ⟨rfl, rfl⟩
    go_wp2_with fail
    go_ret
    refine ⟨rfl, ?_⟩
    repeat (first | exact Below.refl _ _ | refine Below.setCell ?_ (by first | (simp; done) | omega | (simp; omega)) _ | refine Below.alloc ?_ (by first | (simp; done) | omega | (simp; omega)) _ | refine bel_drew ?_)
  | true =>
    rw [if_pos rfl]
    have T := Lib.hid (fun (w : World) g c0 c1 c2 => l06Text_at g s a b h w c0 c1 c2)
    rw [h] at O
    clear h
    generalize s ++ ⟨#[32]⟩ ++ ⟨(angL a).toArray⟩ ++ ⟨#[32]⟩ ++ ⟨(angL b).toArray⟩ = r at *
    go_enter Tryd.func44, Tryd.ntmps44
    go_wp2_with fail
    refine (O.out _ _ (by simp) (by simp) (by simp)).mono ?_
    rintro e w1 ⟨rfl, rfl⟩
    go_wp2_with fail
    refine (T.out _ _ (by simp) (by simp) (by simp)).mono ?_
    rintro e w1 ⟨rfl, hb⟩
    have HB := Lib.hid (((Below.refl _ w).alloc (Nat.le_refl _) _).trans (hb.mono (by simp)))
    clear hb
    go_wp2_with fail
    go_ret
    exact ⟨rfl, HB.out⟩

set_option maxRecDepth 100000 in
set_option maxHeartbeats 2000000 in
theorem implSText_any (s : ByteArray) (a b : Int) (hmax : s.size ≤ maxLen) (w : World) (ht : TabOK w) :
    Calls Tryd.prog 46 #[.agg #[.string s, .int .i64 a, .int .i64 b]] w fun e w' => e = .returned (.string (stxt s a b)) ∧ Below w.heap.size w w' := by
  unfold stxt
  have V := Lib.hid (fun w => validSite_any s a b hmax w)
  have E := Lib.hid ht
  clear ht hmax
  cases h : siteB s a b with
  | false =>
    rw [if_neg (by simp)]
    rw [h] at V
    clear h
    go_enter Tryd.func46, Tryd.ntmps46
    go_wp2_with fail
    refine (V.out _).mono ?_
    rintro e w1 ⟨rfl, hb⟩
    have hsw1 := hb.size
    try simp at hsw1
    obtain ⟨hcw1, hfw1⟩ := bcell hb
    have HBw1 : Hid (Below w.heap.size w w1) := by
      apply Lib.hid
      refine Below.trans ?_ (hb.mono ?_)
      · repeat (first | exact Below.refl _ _ | refine Below.setCell ?_ (by first | (simp; done) | omega | (simp; omega)) _ | refine Below.alloc ?_ (by first | (simp; done) | omega | (simp; omega)) _)
      · first | (simp; done) | omega | (simp; omega)
    have hzw1 : w.heap.size < w1.heap.size := by have := hb.size; (try simp at this); omega
    clear hb
    go_wp2_with fail
    go_ret
    refine ⟨rfl, ?_⟩
    repeat (first | exact Below.refl _ _ | exact HBw1.out | refine Below.setCell ?_ (by first | (simp; done) | omega | (simp; omega)) _ | refine Below.alloc ?_ (by first | (simp; done) | omega | (simp; omega)) _ | refine bel_drew ?_)
  | true =>
    rw [if_pos rfl]
    rw [h] at V
    obtain ⟨hs, ⟨a0, a1⟩, b0, b1⟩ := site_3 s a b h
    have TA0 := fun w ht => implAngT_any a w ht
    have TB0 := fun w ht => implAngT_any b w ht
    have ea : angTV a = ⟨(angL a).toArray⟩ := by unfold angTV; rw [if_pos ((inR_1 _ _ _).2 ⟨by omega, by omega⟩)]
    have eb : angTV b = ⟨(angL b).toArray⟩ := by unfold angTV; rw [if_pos ((inR_1 _ _ _).2 ⟨by omega, by omega⟩)]
    simp only [ea] at TA0
    simp only [eb] at TB0
    have TA := Lib.hid TA0
    have TB := Lib.hid TB0
    have la := angL_len a (by omega) (by omega)
    have lb := angL_len b (by omega) (by omega)
    clear h a0 a1 b0 b1 TA0 TB0 ea eb
    generalize (⟨(angL a).toArray⟩ : ByteArray) = A at *
    generalize (⟨(angL b).toArray⟩ : ByteArray) = B at *
    have J := Lib.hid (fun w T => join_at s A B (by omega) (by omega) (by omega) w T)
    generalize s ++ ⟨#[32]⟩ ++ A ++ ⟨#[32]⟩ ++ B = r at *
    obtain ⟨W0, hW0⟩ : ∃ W0, W0 = w.alloc (.cells #[.string s, .int .i64 a, .int .i64 b] 66) := ⟨_, rfl⟩
    have K0 : Hid (W0.cell? ⟨w.heap.size, 0, none⟩ = some (.string s) ∧ W0.cell? ⟨w.heap.size, 1, none⟩ = some (.int .i64 a) ∧ W0.cell? ⟨w.heap.size, 2, none⟩ = some (.int .i64 b) ∧ Below w.heap.size w W0) := Lib.hid (by rw [hW0]; exact ⟨by simp, by simp, by simp, (Below.refl _ _).alloc (Nat.le_refl _) _⟩)
    have HW := Lib.hid hW0
    clear hW0
    go_enter Tryd.func46, Tryd.ntmps46
    obtain ⟨k0, k1, k2, k3⟩ := K0.out
    go_wp2_with fail
    rw [← HW.out]
    clear HW
    refine (V.out _).mono ?_
    rintro e w1 ⟨rfl, hb⟩
    have K1 := Lib.hid (keepS3 K0.out hb)
    have E1 := Lib.hid (E.out.below K1.out.2.2.2)
    clear hb k0 k1 k2 k3
    obtain ⟨k0, k1, k2, k3⟩ := K1.out
    go_wp2_with fail
    go_region_held3 (fun w' => w'.cell? ⟨w.heap.size, 0, none⟩ = some (.string s) ∧ w'.cell? ⟨w.heap.size, 1, none⟩ = some (.int .i64 a) ∧ w'.cell? ⟨w.heap.size, 2, none⟩ = some (.int .i64 b) ∧ Below w.heap.size w w') (first | (exact keepS3 K1.out (bel_drew (Below.refl _ _))) | (exact keepS3 K1.out y3) | (exact keepS3 K1.out y2) | (exact keepS3 K1.out y1) | (exact keepS3 K1.out (y2.alloc y2.size _)) | (exact keepS3 K1.out (bel_drew (y2.alloc y2.size _))) | go_keep) ((first
      | (go_at_call 42; (first
        | ((with_reducible refine (TB.out _ (E1.out.below y1)).mono ?_); rintro e x2 ⟨rfl, hx2⟩; have y2 := y1.trans (hx2.mono y1.size))
        | ((with_reducible refine (TA.out _ (E1.out.below (bel_drew (Below.refl _ _)))).mono ?_); rintro e x1 ⟨rfl, hx1⟩; have y1 := undrewS0 hx1)))
      | (go_at_call 83; (refine (J.out _ _).mono ?_); rintro e x3 ⟨rfl, hx3⟩; have y3 := onwSA y2 hx3)))
    rename_i held
    have HB := Lib.hid held.2.2.2
    clear held
    go_wp2_with fail
    go_ret
    exact ⟨rfl, HB.out⟩
end Go.Proofs.YtalaalifoklmeaaDoor
