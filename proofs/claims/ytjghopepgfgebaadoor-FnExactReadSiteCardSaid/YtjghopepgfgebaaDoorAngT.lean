/-
  Angles as texts: the contracts of filledDecimal, AngleText (package impl), l02Text, AngleText (package spec).
-/
import Derived.Test.YtjghopepgfgebaaDoorDec
import Derived.Test.YtjghopepgfgebaaDoorShelfRepeat
import Derived.Deep.LoopGhost
namespace Go.Proofs.YtjghopepgfgebaaDoor
open Go.RowKit
set_option linter.unusedVariables false

/-- A number with three digits at least. -/
def dec3 (n : Int) : List UInt8 := List.replicate (3 - (Lib.itoa n).length) 48 ++ Lib.itoa n
def absI (a : Int) : Int := if a < 0 then -a else a
def angL (a : Int) : List UInt8 := (if a < 0 then [45] else []) ++ Lib.itoa (absI a / 1000) ++ [46] ++ dec3 (absI a % 1000)
/-- What AngleText returns. -/
def angTV (a : Int) : ByteArray := if inR (-359999) 359999 [a] = true then ⟨(angL a).toArray⟩ else ⟨#[]⟩
theorem app_b (a b : List UInt8) : (⟨a.toArray⟩ : ByteArray) ++ (⟨b.toArray⟩ : ByteArray) = ⟨(a ++ b).toArray⟩ := by
  apply WideShapes.bytes_inj
  rw [ByteArray.data_append, Array.toList_append]
theorem itoa_20 (n : Int) (h0 : -1000000000000 ≤ n) (h1 : n ≤ 1000000000000) : (Lib.itoa n).length ≤ 20 := by
  by_cases h : n = 0
  · rw [h, itoa_zero]; simp
  · have e := congrArg List.length (signed_back n h)
    rw [List.length_reverse, List.length_map] at e
    have := signed_len n (by omega) (by omega)
    omega
theorem tm_neg (a : Int) (h : a < 0) : -a.tmod 1000 = -a % 1000 := by
  rw [← Int.neg_tmod, Int.tmod_eq_emod_of_nonneg (by omega)]
theorem tm_pos (a : Int) (h : ¬ a < 0) : a.tmod 1000 = a % 1000 := Int.tmod_eq_emod_of_nonneg (by omega)
theorem td_neg (a : Int) (h : a < 0) : -a.tdiv 1000 = -a / 1000 := by
  rw [← Int.neg_tdiv, Int.tdiv_eq_ediv_of_nonneg (by omega)]
theorem td_pos (a : Int) (h : ¬ a < 0) : a.tdiv 1000 = a / 1000 := Int.tdiv_eq_ediv_of_nonneg (by omega)
theorem dec3_len (n : Int) (h0 : 0 ≤ n) (h1 : n ≤ 1000) : (dec3 n).length ≤ 23 := by
  unfold dec3
  have := itoa_20 n (by omega) (by omega)
  rw [List.length_append, List.length_replicate]
  omega
theorem repL (c : Nat) : Lib.repeatL [48] c = List.replicate c (48 : UInt8) := by
  induction c with
  | zero => rfl
  | succ c ih =>
    rw [List.replicate_succ, ← ih]
    rfl
theorem rep_any (c : Nat) (w : World) (h : c ≤ 1000) :
    Calls Tryd.prog 136 #[.string ⟨#[48]⟩, .int .i64 (c : Int)] w fun e w' => e = .returned (.string ⟨(List.replicate c 48).toArray⟩) ∧ Below w.heap.size w w' := by
  have := Tryd.strings_Repeat ⟨#[48]⟩ c w (by omega) (by show 1 * c ≤ 140737488355328; omega)
  rw [show (⟨#[48]⟩ : ByteArray).data.toList = [48] from rfl, repL] at this
  exact this
theorem size_of (l : List UInt8) : (⟨l.toArray⟩ : ByteArray).size = l.length := by
  show l.toArray.size = l.length
  simp

set_option maxRecDepth 100000 in
set_option maxHeartbeats 2000000 in
theorem filled_any (n : Int) (h0 : 0 ≤ n) (h1 : n ≤ 1000) (w : World) (ht : TabOK w) :
    Calls Tryd.prog 114 #[.int .i64 n, .int .i64 3] w fun e w' => e = .returned (.string ⟨(dec3 n).toArray⟩) ∧ Below w.heap.size w w' := by
  have D := Lib.hid (implDec_any n w (by omega) (by omega) ht)
  have hl := itoa_20 n (by omega) (by omega)
  have hd : (⟨(dec3 n).toArray⟩ : ByteArray) = ⟨(List.replicate (3 - (Lib.itoa n).length) 48).toArray⟩ ++ ⟨(Lib.itoa n).toArray⟩ := by rw [app_b]; rfl
  rw [hd]
  clear hd
  have hz := size_of (Lib.itoa n)
  generalize hk : (Lib.itoa n).length = k at *
  clear hk
  generalize (⟨(Lib.itoa n).toArray⟩ : ByteArray) = L at *
  have hr : ∀ w, Calls Tryd.prog 136 #[.string ⟨#[48]⟩, .int .i64 ((3 - k : Nat) : Int)] w fun e w' => e = .returned (.string ⟨(List.replicate (3 - k) 48).toArray⟩) ∧ Below w.heap.size w w' := fun w => rep_any (3 - k) w (by omega)
  have RP := Lib.hid hr
  clear hr
  have hz2 : (⟨(List.replicate (3 - k) (48 : UInt8)).toArray⟩ : ByteArray).size = 3 - k := by rw [size_of, List.length_replicate]
  generalize (⟨(List.replicate (3 - k) (48 : UInt8)).toArray⟩ : ByteArray) = Z at *
  have e1 : max (3 - (k : Int)) 0 = ((3 - k : Nat) : Int) := by omega
  have h4 : ¬ 9223372036854775807 < Z.size + L.size := by omega
  have h5 : ¬ 9223372036854775807 < 3 - k + k := by omega
  have EE := Lib.hid e1
  clear e1
  go_enter Tryd.func114, Tryd.ntmps114
  go_wp2_with fail
  refine D.out.mono ?_
  rintro e w1 ⟨rfl, hb1⟩
  have HB1 := Lib.hid hb1
  clear hb1
  go_wp2_with fail
  rw [EE.out]
  with_reducible refine (RP.out _).mono ?_
  rintro e w2 ⟨rfl, hb2⟩
  have HB2 := Lib.hid (HB1.out.trans (hb2.mono HB1.out.size))
  clear hb2
  go_wp2_with fail
  go_ret
  exact ⟨rfl, HB2.out⟩

/-- The text, put together. -/
theorem ang_neg (a : Int) (h : a < 0) : (⟨#[45]⟩ : ByteArray) ++ ⟨(Lib.itoa (-a / 1000)).toArray⟩ ++ ⟨#[46]⟩ ++ ⟨(dec3 (-a % 1000)).toArray⟩ = ⟨(angL a).toArray⟩ := by
  rw [show (⟨#[45]⟩ : ByteArray) = ⟨([45] : List UInt8).toArray⟩ from rfl, show (⟨#[46]⟩ : ByteArray) = ⟨([46] : List UInt8).toArray⟩ from rfl, app_b, app_b, app_b]
  unfold angL absI
  rw [if_pos h, if_pos h]
theorem ang_pos (a : Int) (h : ¬ a < 0) : (⟨#[]⟩ : ByteArray) ++ ⟨(Lib.itoa (a / 1000)).toArray⟩ ++ ⟨#[46]⟩ ++ ⟨(dec3 (a % 1000)).toArray⟩ = ⟨(angL a).toArray⟩ := by
  rw [show (⟨#[]⟩ : ByteArray) = ⟨([] : List UInt8).toArray⟩ from rfl, show (⟨#[46]⟩ : ByteArray) = ⟨([46] : List UInt8).toArray⟩ from rfl, app_b, app_b, app_b]
  unfold angL absI
  rw [if_neg h, if_neg h]
theorem empty_app (x : ByteArray) : (⟨#[]⟩ : ByteArray) ++ x = x := by
  apply WideShapes.bytes_inj
  rw [ByteArray.data_append, Array.toList_append]
  simp

set_option maxRecDepth 100000 in
set_option maxHeartbeats 2000000 in
theorem implAngT_any (a : Int) (w : World) (ht : TabOK w) :
    Calls Tryd.prog 88 #[.int .i64 a] w fun e w' => e = .returned (.string (angTV a)) ∧ Below w.heap.size w w' := by
  unfold angTV
  have E := Lib.hid ht
  clear ht
  cases hin : inR (-359999) 359999 [a] with
  | false =>
    rw [if_neg (by simp)]
    have HI := Lib.hid hin
    clear hin
    go_enter Tryd.func88, Tryd.ntmps88
    go_wp2_with fail
    refine (within1 _ _ a _ _ _ (by first | (simp; done) | (rw [World.cell?_alloc_at _ _ _ _ (by simp)]; rfl))).mono ?_
    rintro e w' ⟨rfl, rfl⟩
    rw [HI.out]
    go_wp2_with fail
    go_ret
    exact ⟨rfl, (Below.refl _ _).alloc (Nat.le_refl _) _⟩
  | true =>
    rw [if_pos rfl]
    obtain ⟨a0, a1⟩ := (inR_1 _ _ _).1 hin
    have HI := Lib.hid hin
    clear hin
    by_cases hn : a < 0
    · have NG := Lib.hid (ang_neg a hn)
      have TM := Lib.hid (tm_neg a hn)
      have TD := Lib.hid (td_neg a hn)
      have EW : Hid (wrap64 (-a / 1000) = -a / 1000) := Lib.hid (IntWalk.wrap64_in _ (by omega))
      have EM : Hid (max a (-a) = -a) := Lib.hid (by omega)
      have D := Lib.hid (fun w ht => implDec_any (-a / 1000) w (by omega) (by omega) ht)
      have F := Lib.hid (fun w ht => filled_any (-a % 1000) (by omega) (by omega) w ht)
      have l1 := itoa_20 (-a / 1000) (by omega) (by omega)
      have l2 := dec3_len (-a % 1000) (by omega) (by omega)
      rw [← size_of] at l1 l2
      generalize (⟨(Lib.itoa (-a / 1000)).toArray⟩ : ByteArray) = X at *
      generalize (⟨(dec3 (-a % 1000)).toArray⟩ : ByteArray) = Y at *
      generalize (⟨(angL a).toArray⟩ : ByteArray) = R at *
      have s1 : ((⟨#[45]⟩ : ByteArray) ++ X).size = 1 + X.size := ByteArray.size_append
      have s2 : ((⟨#[45]⟩ : ByteArray) ++ X ++ ⟨#[46]⟩).size = 1 + X.size + 1 := by rw [ByteArray.size_append, s1]; rfl
      have h1 : ¬ 9223372036854775807 < 1 + X.size := by omega
      have h2 : ¬ 9223372036854775807 < ((⟨#[45]⟩ : ByteArray) ++ X).size + 1 := by omega
      have h3 : ¬ 9223372036854775807 < ((⟨#[45]⟩ : ByteArray) ++ X ++ ⟨#[46]⟩).size + Y.size := by omega
      have h4 : ¬ 9223372036854775807 < 1 + X.size + 1 := by omega
      have h5 : ¬ 9223372036854775807 < 1 + X.size + 1 + Y.size := by omega
      have hm : a ≤ -a := by omega
      have hm' : a < -a := by omega
      clear s1 s2
      go_enter Tryd.func88, Tryd.ntmps88
      go_wp2_with fail
      refine (within1 _ _ a _ _ _ (by first | (simp; done) | (rw [World.cell?_alloc_at _ _ _ _ (by simp)]; rfl))).mono ?_
      rintro e w' ⟨rfl, rfl⟩
      rw [HI.out]
      have HB0 : Hid (Below w.heap.size w (w.alloc (.cells #[.int .i64 a] 2))) := Lib.hid ((Below.refl _ _).alloc (Nat.le_refl _) _)
      go_wp2_with fail
      try rw [EM.out]
      try rw [TM.out]
      try rw [TD.out]
      try rw [EW.out]
      with_reducible refine (D.out _ (E.out.below HB0.out)).mono ?_
      rintro e w1 ⟨rfl, hb1⟩
      have HB1 := Lib.hid (HB0.out.trans (hb1.mono HB0.out.size))
      clear hb1
      go_wp2_with fail
      try rw [EM.out]
      try rw [TM.out]
      try rw [TD.out]
      try rw [EW.out]
      with_reducible refine (F.out _ (E.out.below HB1.out)).mono ?_
      rintro e w2 ⟨rfl, hb2⟩
      have HB2 := Lib.hid (HB1.out.trans (hb2.mono HB1.out.size))
      clear hb2
      go_wp2_with fail
      go_ret
      exact ⟨ret_str NG.out, HB2.out⟩
    · have NG := Lib.hid (ang_pos a hn)
      have TM := Lib.hid (tm_pos a hn)
      have TD := Lib.hid (td_pos a hn)
      have EW : Hid (wrap64 (a / 1000) = a / 1000) := Lib.hid (IntWalk.wrap64_in _ (by omega))
      have EM : Hid (max a (-a) = a) := Lib.hid (by omega)
      have D := Lib.hid (fun w ht => implDec_any (a / 1000) w (by omega) (by omega) ht)
      have F := Lib.hid (fun w ht => filled_any (a % 1000) (by omega) (by omega) w ht)
      have l1 := itoa_20 (a / 1000) (by omega) (by omega)
      have l2 := dec3_len (a % 1000) (by omega) (by omega)
      rw [← size_of] at l1 l2
      generalize (⟨(Lib.itoa (a / 1000)).toArray⟩ : ByteArray) = X at *
      generalize (⟨(dec3 (a % 1000)).toArray⟩ : ByteArray) = Y at *
      generalize (⟨(angL a).toArray⟩ : ByteArray) = R at *
      have s1 : ((⟨#[]⟩ : ByteArray) ++ X).size = X.size := by rw [empty_app]
      have s2 : ((⟨#[]⟩ : ByteArray) ++ X ++ ⟨#[46]⟩).size = X.size + 1 := by rw [ByteArray.size_append, s1]; rfl
      have s3 : (X ++ ⟨#[46]⟩).size = X.size + 1 := ByteArray.size_append
      have h1 : ¬ 9223372036854775807 < X.size := by omega
      have h2 : ¬ 9223372036854775807 < ((⟨#[]⟩ : ByteArray) ++ X).size + 1 := by omega
      have h3 : ¬ 9223372036854775807 < ((⟨#[]⟩ : ByteArray) ++ X ++ ⟨#[46]⟩).size + Y.size := by omega
      have h4 : ¬ 9223372036854775807 < X.size + 1 := by omega
      have h5 : ¬ 9223372036854775807 < (X ++ ⟨#[46]⟩).size + Y.size := by omega
      have h6 : ¬ 9223372036854775807 < X.size + 1 + Y.size := by omega
      have hm : -a ≤ a := by omega
      clear s1 s2 s3
      go_enter Tryd.func88, Tryd.ntmps88
      go_wp2_with fail
      refine (within1 _ _ a _ _ _ (by first | (simp; done) | (rw [World.cell?_alloc_at _ _ _ _ (by simp)]; rfl))).mono ?_
      rintro e w' ⟨rfl, rfl⟩
      rw [HI.out]
      have HB0 : Hid (Below w.heap.size w (w.alloc (.cells #[.int .i64 a] 2))) := Lib.hid ((Below.refl _ _).alloc (Nat.le_refl _) _)
      go_wp2_with fail
      try rw [EM.out]
      try rw [TM.out]
      try rw [TD.out]
      try rw [EW.out]
      with_reducible refine (D.out _ (E.out.below HB0.out)).mono ?_
      rintro e w1 ⟨rfl, hb1⟩
      have HB1 := Lib.hid (HB0.out.trans (hb1.mono HB0.out.size))
      clear hb1
      go_wp2_with fail
      try rw [EM.out]
      try rw [TM.out]
      try rw [TD.out]
      try rw [EW.out]
      with_reducible refine (F.out _ (E.out.below HB1.out)).mono ?_
      rintro e w2 ⟨rfl, hb2⟩
      have HB2 := Lib.hid (HB1.out.trans (hb2.mono HB1.out.size))
      clear hb2
      go_wp2_with fail
      go_ret
      exact ⟨ret_str (by first | exact NG.out | (rw [← NG.out, empty_app])), HB2.out⟩
/-- A number's text with k zeros ahead. -/
def padT (r : Int) (k : Nat) : ByteArray := ⟨(List.replicate k 48 ++ Lib.itoa r).toArray⟩
theorem padT_size (r : Int) (k : Nat) : (padT r k).size = k + (Lib.itoa r).length := by
  unfold padT
  rw [size_of, List.length_append, List.length_replicate]
theorem pad_at (r : Int) (k : Nat) : (⟨#[48]⟩ : ByteArray) ++ padT r k = padT r (k + 1) := by
  unfold padT
  rw [show (⟨#[48]⟩ : ByteArray) = ⟨([48] : List UInt8).toArray⟩ from rfl, app_b, List.replicate_succ]
  rfl
set_option maxRecDepth 100000 in
set_option maxHeartbeats 2000000 in
theorem l02Text_any (a : Int) (a0 : -359999 ≤ a) (a1 : a ≤ 359999) (w : World) :
    Calls Tryd.prog 111 #[.int .i64 a] w fun e w' => e = .returned (.string ⟨(angL a).toArray⟩) ∧ Below w.heap.size w w' := by
  by_cases hn : a < 0
  · have NG := Lib.hid (ang_neg a hn)
    have TM := Lib.hid (tm_neg a hn)
    have TD := Lib.hid (td_neg a hn)
    have EW : Hid (wrap64 (-a / 1000) = -a / 1000) := Lib.hid (IntWalk.wrap64_in _ (by omega))
    have D := Lib.hid (fun w => l01Dec_any (-a / 1000) w (by omega) (by omega))
    have F := Lib.hid (fun w => l01Dec_any (-a % 1000) w (by omega) (by omega))
    have l1 := itoa_20 (-a / 1000) (by omega) (by omega)
    have l2 := dec3_len (-a % 1000) (by omega) (by omega)
    have l3 := itoa_20 (-a % 1000) (by omega) (by omega)
    have PD := Lib.hid (fun k => pad_at (-a % 1000) k)
    rw [← size_of] at l1 l2 l3
    have z3 := size_of (Lib.itoa (-a % 1000))
    have P0 : Hid ((⟨(Lib.itoa (-a % 1000)).toArray⟩ : ByteArray) = padT (-a % 1000) 0) := Lib.hid rfl
    have PZ : Hid (∀ k, (padT (-a % 1000) k).size = k + (Lib.itoa (-a % 1000)).length) := Lib.hid (fun k => padT_size (-a % 1000) k)
    have PE : Hid (padT (-a % 1000) (3 - (Lib.itoa (-a % 1000)).length) = ⟨(dec3 (-a % 1000)).toArray⟩) := Lib.hid rfl
    generalize padT (-a % 1000) = T at *
    generalize (Lib.itoa (-a % 1000)).length = n at *
    generalize (⟨(Lib.itoa (-a % 1000)).toArray⟩ : ByteArray) = T0 at *
    generalize (⟨(Lib.itoa (-a / 1000)).toArray⟩ : ByteArray) = X at *
    generalize (⟨(dec3 (-a % 1000)).toArray⟩ : ByteArray) = Y at *
    generalize (⟨(angL a).toArray⟩ : ByteArray) = R at *
    have s1 : ((⟨#[45]⟩ : ByteArray) ++ X).size = 1 + X.size := ByteArray.size_append
    have s2 : (((⟨#[45]⟩ : ByteArray) ++ X) ++ ⟨#[46]⟩).size = 1 + X.size + 1 := by rw [ByteArray.size_append, s1]; rfl
    have h1 : ¬ 9223372036854775807 < 1 + X.size := by omega
    have h2 : ¬ 9223372036854775807 < ((⟨#[45]⟩ : ByteArray) ++ X).size + 1 := by omega
    have h4 : ¬ 9223372036854775807 < 1 + X.size + 1 := by omega
    have h3 : ¬ 9223372036854775807 < ((⟨#[45]⟩ : ByteArray) ++ X ++ ⟨#[46]⟩).size + Y.size := by omega
    have h5 : ¬ 9223372036854775807 < 1 + X.size + 1 + Y.size := by omega
    clear s1 s2
    go_enter Tryd.func111, Tryd.ntmps111
    go_wp2_with fail
    try rw [TM.out]
    try rw [TD.out]
    try rw [EW.out]
    with_reducible refine (F.out _).mono ?_
    rintro e w1 ⟨rfl, hb1⟩
    have HB1 := Lib.hid hb1
    clear hb1
    go_wp2_with fail
    go_loopg [4] 30 (fun kx s4 wr => ∃ (k : Nat) (D : ByteArray), s4 = .string D ∧ Hid (D = T k) ∧ D.size = k + n ∧ k ≤ 3 - n ∧ kx = 30 - k ∧ Hid (Below w.heap.size w wr))
    case atStart => exact ⟨0, T0, rfl, P0, by omega, Nat.zero_le _, rfl, HB1⟩
    case round =>
      obtain ⟨k, D', rfl, HD, hds, hk, hkx, HB⟩ := hrel
      by_cases hlt : D'.size < 3
      · have hlt' : (D'.size : Int) < 3 := by omega
        have g1 : ¬ 9223372036854775807 < 1 + D'.size := by omega
        have HK : Hid ((⟨#[48]⟩ : ByteArray) ++ D' = T (k + 1)) := Lib.hid (by rw [HD.out]; exact PD.out k)
        have hsz : ((⟨#[48]⟩ : ByteArray) ++ D').size = k + 1 + n := by rw [HK.out]; exact PZ.out (k + 1)
        have HS := Lib.hid hsz
        clear hsz
        go_wp2_with fail
        go_roundg (30 - (k + 1))
        case measure => omega
        case rel => exact ⟨k + 1, _, rfl, HK, HS.out, by omega, rfl, HB⟩
      · have hlt' : ¬ (D'.size : Int) < 3 := by omega
        obtain rfl : k = 3 - n := by omega
        have HY : Hid (D' = Y) := Lib.hid (by rw [HD.out]; exact PE.out)
        obtain rfl := HY.out
        clear HD PZ PE PD
        go_wp2_with fail
        try rw [TM.out]
        try rw [TD.out]
        try rw [EW.out]
        with_reducible refine (D.out _).mono ?_
        rintro e w2 ⟨rfl, hb2⟩
        have HB2 := Lib.hid (HB.out.trans (hb2.mono HB.out.size))
        clear hb2
        go_wp2_with fail
        go_ret
        exact ⟨ret_str (by first | exact NG.out | (rw [← NG.out, empty_app])), HB2.out⟩
  · have NG := Lib.hid (ang_pos a hn)
    have TM := Lib.hid (tm_pos a hn)
    have TD := Lib.hid (td_pos a hn)
    have EW : Hid (wrap64 (a / 1000) = a / 1000) := Lib.hid (IntWalk.wrap64_in _ (by omega))
    have D := Lib.hid (fun w => l01Dec_any (a / 1000) w (by omega) (by omega))
    have F := Lib.hid (fun w => l01Dec_any (a % 1000) w (by omega) (by omega))
    have l1 := itoa_20 (a / 1000) (by omega) (by omega)
    have l2 := dec3_len (a % 1000) (by omega) (by omega)
    have l3 := itoa_20 (a % 1000) (by omega) (by omega)
    have PD := Lib.hid (fun k => pad_at (a % 1000) k)
    rw [← size_of] at l1 l2 l3
    have z3 := size_of (Lib.itoa (a % 1000))
    have P0 : Hid ((⟨(Lib.itoa (a % 1000)).toArray⟩ : ByteArray) = padT (a % 1000) 0) := Lib.hid rfl
    have PZ : Hid (∀ k, (padT (a % 1000) k).size = k + (Lib.itoa (a % 1000)).length) := Lib.hid (fun k => padT_size (a % 1000) k)
    have PE : Hid (padT (a % 1000) (3 - (Lib.itoa (a % 1000)).length) = ⟨(dec3 (a % 1000)).toArray⟩) := Lib.hid rfl
    generalize padT (a % 1000) = T at *
    generalize (Lib.itoa (a % 1000)).length = n at *
    generalize (⟨(Lib.itoa (a % 1000)).toArray⟩ : ByteArray) = T0 at *
    generalize (⟨(Lib.itoa (a / 1000)).toArray⟩ : ByteArray) = X at *
    generalize (⟨(dec3 (a % 1000)).toArray⟩ : ByteArray) = Y at *
    generalize (⟨(angL a).toArray⟩ : ByteArray) = R at *
    have s1 : ((⟨#[]⟩ : ByteArray) ++ X).size = X.size := by rw [empty_app]
    have s2 : (((⟨#[]⟩ : ByteArray) ++ X) ++ ⟨#[46]⟩).size = X.size + 1 := by rw [ByteArray.size_append, s1]; rfl
    have h1 : ¬ 9223372036854775807 < X.size := by omega
    have h2 : ¬ 9223372036854775807 < ((⟨#[]⟩ : ByteArray) ++ X).size + 1 := by omega
    have h4 : ¬ 9223372036854775807 < X.size + 1 := by omega
    have s3 : (X ++ ⟨#[46]⟩).size = X.size + 1 := ByteArray.size_append
    have h3 : ¬ 9223372036854775807 < ((⟨#[]⟩ : ByteArray) ++ X ++ ⟨#[46]⟩).size + Y.size := by omega
    have h5 : ¬ 9223372036854775807 < (X ++ ⟨#[46]⟩).size + Y.size := by omega
    have h6 : ¬ 9223372036854775807 < X.size + 1 + Y.size := by omega
    clear s3
    clear s1 s2
    go_enter Tryd.func111, Tryd.ntmps111
    go_wp2_with fail
    try rw [TM.out]
    try rw [TD.out]
    try rw [EW.out]
    with_reducible refine (F.out _).mono ?_
    rintro e w1 ⟨rfl, hb1⟩
    have HB1 := Lib.hid hb1
    clear hb1
    go_wp2_with fail
    go_loopg [4] 30 (fun kx s4 wr => ∃ (k : Nat) (D : ByteArray), s4 = .string D ∧ Hid (D = T k) ∧ D.size = k + n ∧ k ≤ 3 - n ∧ kx = 30 - k ∧ Hid (Below w.heap.size w wr))
    case atStart => exact ⟨0, T0, rfl, P0, by omega, Nat.zero_le _, rfl, HB1⟩
    case round =>
      obtain ⟨k, D', rfl, HD, hds, hk, hkx, HB⟩ := hrel
      by_cases hlt : D'.size < 3
      · have hlt' : (D'.size : Int) < 3 := by omega
        have g1 : ¬ 9223372036854775807 < 1 + D'.size := by omega
        have HK : Hid ((⟨#[48]⟩ : ByteArray) ++ D' = T (k + 1)) := Lib.hid (by rw [HD.out]; exact PD.out k)
        have hsz : ((⟨#[48]⟩ : ByteArray) ++ D').size = k + 1 + n := by rw [HK.out]; exact PZ.out (k + 1)
        have HS := Lib.hid hsz
        clear hsz
        go_wp2_with fail
        go_roundg (30 - (k + 1))
        case measure => omega
        case rel => exact ⟨k + 1, _, rfl, HK, HS.out, by omega, rfl, HB⟩
      · have hlt' : ¬ (D'.size : Int) < 3 := by omega
        obtain rfl : k = 3 - n := by omega
        have HY : Hid (D' = Y) := Lib.hid (by rw [HD.out]; exact PE.out)
        obtain rfl := HY.out
        clear HD PZ PE PD
        go_wp2_with fail
        try rw [TM.out]
        try rw [TD.out]
        try rw [EW.out]
        with_reducible refine (D.out _).mono ?_
        rintro e w2 ⟨rfl, hb2⟩
        have HB2 := Lib.hid (HB.out.trans (hb2.mono HB.out.size))
        clear hb2
        go_wp2_with fail
        go_ret
        exact ⟨ret_str (by first | exact NG.out | (rw [← NG.out, empty_app])), HB2.out⟩

end Go.Proofs.YtjghopepgfgebaaDoor
