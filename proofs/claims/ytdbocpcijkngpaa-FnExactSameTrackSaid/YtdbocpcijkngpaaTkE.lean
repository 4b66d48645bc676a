/-
  SameTrack (both packages).
-/
import Derived.Test.YtdbocpcijkngpaaTkV
import Derived.Test.YtdbocpcijkngpaaKyS
namespace Go.Proofs.Ytdbocpcijkngpaa.Tk
open Go.RowKit
open Ky (V Own Row eqTo sameL eqV)
set_option linter.unusedVariables false

def sameM (s t : ByteArray) (xs ys : List V) : Bool := decide (s = t) && sameL xs ys
theorem sameM_c {s t : ByteArray} {xs ys : List V} (h : ¬ s = t) : sameM s t xs ys = false := by simp [sameM, h]
theorem sameM_l {s : ByteArray} {xs ys : List V} (h : ¬ xs.length = ys.length) : sameM s s xs ys = false := by simp [sameM, sameL, h]
theorem sameM_e {s : ByteArray} {xs ys : List V} (h : xs.length = ys.length) : sameM s s xs ys = eqTo xs ys xs.length := by simp [sameM, sameL, h]
theorem sameM_s {s : ByteArray} {xs ys : List V} : sameM s s xs ys = sameL xs ys := by simp [sameM]
theorem ne_textT {x y : ByteArray} (h : x ≠ y) : (x.toList == y.toList) = false := by
  rw [ByteArray.toList_eq, ByteArray.toList_eq]
  exact beq_eq_false_iff_ne.2 (fun e => h (ByteArray.ext (Array.toList_inj.mp e)))

set_option maxRecDepth 100000 in
set_option maxHeartbeats 2000000 in
theorem implSame_any (s t : ByteArray) (g g' cap cap' : Nat) (xs ys : List V) (w : World) (hb : xs.length ≤ 1048577) (hb2 : ys.length ≤ 1048577) (h1 : Row w g xs) (h2 : Row w g' ys) :
    Calls Try.prog 27 #[.agg #[.string s, .slice (some ⟨g, 0, none⟩) xs.length cap], .agg #[.string t, .slice (some ⟨g', 0, none⟩) ys.length cap']] w fun e w' => e = .returned (.bool (sameM s t xs ys)) ∧ Below w.heap.size w w' := by
  have EQ := Lib.hid (fun (W : World) (hB : Below w.heap.size w W) => Ky.equal_any g g' cap cap' xs ys W hb hb2 (h1.below hB) (h2.below hB))
  clear h1 h2
  by_cases hs : s = t
  · subst hs
    rw [sameM_s]
    have hd : (s.toList == s.toList) = true := by simp
    go_enter Try.func27, Try.ntmps27
    go_wp2_with fail
    refine (EQ.out _ (by repeat (first | exact Below.refl _ _ | refine Below.setCell ?_ (by first | (simp; done) | omega | (simp; omega)) _ | refine Below.alloc ?_ (by first | (simp; done) | omega | (simp; omega)) _ | refine bel_drew ?_)
      )).mono ?_
    rintro e w2 ⟨rfl, hb3⟩
    have HB3 : Hid (Below w.heap.size w w2) := Lib.hid (by
      refine Below.trans ?_ (hb3.mono ?_)
      · repeat (first | exact Below.refl _ _ | refine Below.setCell ?_ (by first | (simp; done) | omega | (simp; omega)) _ | refine Below.alloc ?_ (by first | (simp; done) | omega | (simp; omega)) _ | refine bel_drew ?_)
      · first | (simp; done) | (simp; omega))
    clear hb3
    go_wp2_with fail
    go_ret
    exact ⟨rfl, HB3.out⟩
  · rw [sameM_c hs]
    have hd : (s.toList == t.toList) = false := ne_textT hs
    clear hs EQ
    go_enter Try.func27, Try.ntmps27
    go_wp2_with fail
    go_ret
    refine ⟨rfl, ?_⟩
    repeat (first | exact Below.refl _ _ | refine Below.setCell ?_ (by first | (simp; done) | omega | (simp; omega)) _ | refine Below.alloc ?_ (by first | (simp; done) | omega | (simp; omega)) _ | refine bel_drew ?_)

set_option maxRecDepth 100000 in
set_option maxHeartbeats 2000000 in
theorem l14Same_any (b b' : Nat) (s t : ByteArray) (g g' cap cap' : Nat) (xs ys : List V) (w : World) (hb : xs.length ≤ 1048577) (hb2 : ys.length ≤ 1048577) (hm : TAt w b s (.slice (some ⟨g, 0, none⟩) xs.length cap)) (hm2 : TAt w b' t (.slice (some ⟨g', 0, none⟩) ys.length cap')) (h1 : Row w g xs) (h2 : Row w g' ys) :
    Calls Try.prog 65 #[.pointer (some ⟨b, 0, none⟩), .pointer (some ⟨b', 0, none⟩)] w fun e w' => e = .returned (.bool (sameM s t xs ys)) ∧ Below w.heap.size w w' := by
  have H1 := Lib.hid h1
  have H2 := Lib.hid h2
  have HM := Lib.hid hm
  have HM2 := Lib.hid hm2
  obtain ⟨m0, m1⟩ := hm
  obtain ⟨k0, k1⟩ := hm2
  clear h1 h2
  by_cases hc : s = t
  case neg =>
    rw [sameM_c hc]
    clear HM HM2 H1 H2 m1 k1
    have hd3 : (s.toList == t.toList) = false := ne_textT hc
    have hd2 : (s.toList != t.toList) = true := by rw [bne, hd3]; rfl
    have hd4 : (s.toList = t.toList) = False := by simpa using hd3
    have hd : decide (s.toList = t.toList) = false := by simpa using hd3
    clear hc
    go_enter Try.func65, Try.ntmps65
    go_wp2_with fail
    go_quiet (fail)
    rename Nat => q1
    go_wp2_with fail
    go_ret
    exact ⟨rfl, Ky.bel_drewNS (Below.refl _ _) _⟩
  subst hc
  have he3 : (s.toList == s.toList) = true := by simp
  have he2 : (s.toList != s.toList) = false := by simp
  by_cases hl : xs.length = ys.length
  case neg =>
    rw [sameM_l hl]
    have hne : ¬ ((xs.length : Int) = (ys.length : Int)) := by omega
    have hd : decide ((xs.length : Int) = (ys.length : Int)) = false := by simpa using hne
    have hd2 : ((xs.length : Int) != (ys.length : Int)) = true := by simpa using hne
    have hd3 : ((xs.length : Int) == (ys.length : Int)) = false := by simpa using hne
    have hd4 : ((xs.length : Int) = (ys.length : Int)) = False := by simpa using hne
    clear hl hne
    clear HM HM2 H1 H2
    go_enter Try.func65, Try.ntmps65
    go_wp2_with fail
    go_quiet (fail)
    rename Nat => q1
    go_wp2_with fail
    go_ret
    exact ⟨rfl, Ky.bel_drewNS (Below.refl _ _) _⟩
  rw [sameM_e hl]
  have KN := Lib.hid (Ky.eqTo_next xs ys)
  have KS := Lib.hid (Ky.eqTo_stop xs ys)
  rw [← hl] at k1 HM2
  have HL := Lib.hid hl
  clear hl
  go_enter Try.func65, Try.ntmps65
  go_wp2_with fail
  go_quiet (fail)
  rename Nat => q0
  go_wp2_with fail
  have HB0 : Hid (Below w.heap.size w (w.drewN q0)) := Lib.hid (Ky.bel_drewNS (Below.refl _ _) _)
  clear m0 m1 k0 k1
  go_loopg [5] (xs.length + 1) (fun kx s5 wr => ∃ j : Nat, s5 = .int .i64 (j : Int) ∧ j ≤ xs.length ∧ kx = xs.length + 1 - j ∧ Hid (eqTo xs ys j = true) ∧ Hid (Below w.heap.size w wr))
  case atStart => exact ⟨0, rfl, Nat.zero_le _, rfl, Lib.hid rfl, HB0⟩
  case round =>
    obtain ⟨j, rfl, hj, rfl, HO, HB⟩ := hrel
    obtain ⟨-, m1⟩ := HM.out.below HB.out
    obtain ⟨-, k1⟩ := HM2.out.below HB.out
    by_cases hlt : j < xs.length
    · have hlt' : j < ys.length := by rw [← HL.out]; exact hlt
      obtain ⟨c0, c1⟩ := (H1.out.below HB.out).at j hlt
      obtain ⟨d0, d1⟩ := (H2.out.below HB.out).at j hlt'
      have HN := Lib.hid (KN.out j)
      have HS := Lib.hid (KS.out j hlt)
      rw [Ky.getD_at xs j hlt, Ky.getD_at ys j hlt'] at HN HS
      generalize xs[j] = x at *
      generalize ys[j] = y at *
      have NE : ∀ w, (binOp .neq 48 (.agg #[.int .i64 x.f0, .int .i64 x.f1]) (.agg #[.int .i64 y.f0, .int .i64 y.f1])).run Try.prog w = .ok (.bool (!(eqV x y))) w := fun w => Ky.neq_run x y w
      have EG : ∀ (p q : Operand) (w : World), (eqGuard .neq 48 p q (.agg #[.int .i64 x.f0, .int .i64 x.f1]) (.agg #[.int .i64 y.f0, .int .i64 y.f1])).run Try.prog w = .ok () w := fun p q w => run_eqGuard_agg w .neq 48 p q _ _ Ky.eq_guard
      generalize eqV x y = q at *
      obtain ⟨x0, x1⟩ := x
      obtain ⟨y0, y1⟩ := y
      simp only at c0 c1 d0 d1 NE EG
      have j0 : (0 : Int) ≤ (j : Int) := by omega
      have j1 : (j : Int) < (xs.length : Int) := by omega
      cases q with
      | true =>
        have HT : Hid (eqTo xs ys (j + 1) = true) := Lib.hid (by rw [HN.out, HO.out]; rfl)
        clear HN HS KN KS
        go_wp2_with fail
        go_quiet (fail)
        rename Nat => q1
        go_wp2_with fail
        go_roundg (xs.length + 1 - (j + 1))
        case measure => omega
        case rel => exact ⟨j + 1, by go_num, by omega, by omega, HT, Lib.hid (Ky.bel_drewNS HB.out _)⟩
      | false =>
        have HR := Lib.hid (HS.out rfl)
        clear HN HS KN KS
        go_wp2_with fail
        go_quiet (fail)
        rename Nat => q1
        go_wp2_with fail
        go_ret
        exact ⟨ret_bool HR.out.symm, Ky.bel_drewNS HB.out _⟩
    · obtain rfl : j = xs.length := by omega
      go_wp2_with fail
      go_ret
      exact ⟨ret_bool HO.out.symm, HB.out⟩

set_option maxHeartbeats 1000000 in
theorem specSame_any (s t : ByteArray) (g g' cap cap' : Nat) (xs ys : List V) (w : World) (hb : xs.length ≤ 1048577) (hb2 : ys.length ≤ 1048577) (h1 : Row w g xs) (h2 : Row w g' ys) :
    Calls Try.prog 26 #[.agg #[.string s, .slice (some ⟨g, 0, none⟩) xs.length cap], .agg #[.string t, .slice (some ⟨g', 0, none⟩) ys.length cap']] w fun e w' => e = .returned (.bool (sameM s t xs ys)) ∧ Below w.heap.size w w' := by
  have O := Lib.hid (fun (W : World) (hB : Below w.heap.size w W) b b' hm hm2 => l14Same_any b b' s t g g' cap cap' xs ys W hb hb2 hm hm2 (h1.below hB) (h2.below hB))
  clear h1 h2
  obtain ⟨W1, hW1⟩ : ∃ W, W = w.alloc (Obj.cells #[.string s, .slice (some ⟨g, 0, none⟩) xs.length cap] 29) := ⟨_, rfl⟩
  have hb1 : Below w.heap.size w W1 := by rw [hW1]; exact (Below.refl _ _).alloc (Nat.le_refl _) _
  have hz : W1.heap.size = w.heap.size + 1 := by rw [hW1]; simp
  have M1 : TAt W1 w.heap.size s (.slice (some ⟨g, 0, none⟩) xs.length cap) := by rw [hW1]; exact TAt.new _ _ _ _
  have hb2 := hb1.alloc hb1.size (Obj.cells #[.string t, .slice (some ⟨g', 0, none⟩) ys.length cap'] 29)
  have M1' := M1.below ((Below.refl _ W1).alloc (Nat.le_refl _) (Obj.cells #[.string t, .slice (some ⟨g', 0, none⟩) ys.length cap'] 29))
  have M2 := TAt.new W1 t (.slice (some ⟨g', 0, none⟩) ys.length cap') 29
  rw [hz] at M2
  have OO := Lib.hid (O.out _ hb2 _ _ M1' M2)
  have HB2 := Lib.hid hb2
  clear O M1 M1' M2 hb1 hb2
  go_enter Try.func26, Try.ntmps26
  go_wp2_with fail
  rw [hW1] at OO HB2 hz
  refine (OO.out).mono ?_
  rintro e w1 ⟨rfl, hb3⟩
  have HB3 := Lib.hid (HB2.out.trans (hb3.mono HB2.out.size))
  clear hb3
  go_wp2_with fail
  go_ret
  exact ⟨rfl, HB3.out⟩
end Go.Proofs.Ytdbocpcijkngpaa.Tk
