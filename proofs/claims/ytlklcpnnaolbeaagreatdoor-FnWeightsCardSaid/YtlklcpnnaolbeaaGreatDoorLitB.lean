/-
  Directions that are up: the contract of isUp (package impl).
  The distance between two directions: the contract of distanceOf at two directions (package impl).
  A projector's own test: the contracts of axis and isValid of a projector (package impl).
  What a projector gives at a direction: the contracts of weightAt and RawWeight (package impl).
  The light at a direction (package impl): lightAt.
  Valid lists of projectors: the contracts of isNamedList and impl.ValidProjectors (package impl).
  The light at a direction that is lit, shares and brightness (package impl): litDirection, WeightsAt, brightness, BrightnessAt.
  Shares and brightness at a direction (package impl): WeightsAt, brightness, BrightnessAt.
  Brightness at a direction (package impl): brightness, BrightnessAt.
  The law's own helpers on stars and numbers: eqInt64S at equal lists, markInt64S, heldInt64S, markText, markStarS.
  What the law of WeightsAt asks of its two calls.
-/
import Derived.Test.YtlklcpnnaolbeaaGreatDoorDirV
import Derived.IntWalk
import Derived.Test.YtlklcpnnaolbeaaGreatDoorSep9
import Derived.Test.YtlklcpnnaolbeaaGreatDoorTow
import Derived.Test.YtlklcpnnaolbeaaGreatDoorSSep
import Derived.Handy
import Derived.Test.YtlklcpnnaolbeaaGreatDoorProj1
import Derived.Test.YtlklcpnnaolbeaaGreatDoorLitA
import Derived.Deep.Cut
import Derived.Test.YtlklcpnnaolbeaaGreatDoorProjK
import Derived.Deep.RegionHeld3
import Derived.Deep.RegionWith
import Derived.StillTailTactics
import Derived.Shelf.Abstract
import Derived.Test.YtlklcpnnaolbeaaGreatDoorProjL
import Derived.Lib.ItoaNum
import Derived.Deep.QuietTactic
import Derived.BigQuiet
namespace Go.Proofs.YtlklcpnnaolbeaaGreatDoor
section
open Go.RowKit
set_option linter.unusedVariables false

/-- A direction that is up. -/
def upB (a h : Int) : Bool := inR 0 359999 [a] && inR 0 90000 [h]
theorem upB_eq (a h : Int) : upB a h = (dirB a h && decide (0 ≤ h)) := by
  rw [Bool.eq_iff_iff]
  unfold upB dirB
  simp only [Bool.and_eq_true, inR_1, decide_eq_true_eq]
  constructor
  · rintro ⟨h1, h2⟩; exact ⟨⟨h1, by omega⟩, by omega⟩
  · rintro ⟨⟨h1, h2⟩, h3⟩; exact ⟨h1, by omega⟩
theorem upB_bd {a h : Int} (H : upB a h = true) : (0 ≤ a ∧ a ≤ 359999) ∧ 0 ≤ h ∧ h ≤ 90000 := by
  unfold upB at H
  simp only [Bool.and_eq_true, inR_1] at H
  exact H
set_option maxHeartbeats 400000 in
theorem isUp_any (a b : Int) (w : World) :
    Calls Tryz.prog 44 #[.agg #[.int .i64 a, .int .i64 b]] w fun e w' => e = .returned (.bool (upB a b)) ∧ Below w.heap.size w w' := by
  rw [upB_eq]
  have I1 := Lib.hid (fun w => dirValid_any a b w)
  generalize dirB a b = p1 at *
  cases p1 with
  | false =>
    rw [Bool.false_and]
    go_enter Tryz.func44, Tryz.ntmps44
    go_wp2_with fail
    refine (I1.out _).mono ?_
    rintro e w1 ⟨rfl, hb⟩
    have hsw1 := hb.size
    try simp at hsw1
    obtain ⟨hcw1, hfw1⟩ := bcell hb
    have HBw1 : Hid (Below w.heap.size w w1) := by
      apply Lib.hid
      refine Below.trans ?_ (hb.mono ?_)
      · repeat (first | exact Below.refl _ _ | refine Below.setCell ?_ (by first | (simp; done) | omega | (simp; omega)) _ | refine Below.alloc ?_ (by first | (simp; done) | omega | (simp; omega)) _)
      · first | (simp; done) | omega | (simp; omega)
    have hzw1 : w.heap.size < w1.heap.size := by have := hb.size; (try simp at this); omega
    clear hb
    go_wp2_with fail
    go_ret
    refine ⟨rfl, ?_⟩
    repeat (first | exact Below.refl _ _ | exact HBw1.out | refine Below.setCell ?_ (by first | (simp; done) | omega | (simp; omega)) _ | refine Below.alloc ?_ (by first | (simp; done) | omega | (simp; omega)) _ | refine bel_drew ?_)
  | true =>
    rw [Bool.true_and]
    go_enter Tryz.func44, Tryz.ntmps44
    go_wp2_with fail
    refine (I1.out _).mono ?_
    rintro e w1 ⟨rfl, hb⟩
    have q1 : w1.cell? ⟨w.heap.size, 1, none⟩ = some (.int .i64 b) := (hb.cell (p := ⟨w.heap.size, 1, none⟩) (by simp)).trans (by simp)
    have HB : Hid (Below w.heap.size w w1) := Lib.hid (((Below.refl _ _).alloc (Nat.le_refl _) _).trans (hb.mono (by simp)))
    clear hb
    go_wp2_with fail
    go_ret
    refine ⟨rfl, ?_⟩
    repeat (first | exact Below.refl _ _ | exact HB.out | refine Below.setCell ?_ (by first | (simp; done) | omega | (simp; omega)) _ | refine Below.alloc ?_ (by first | (simp; done) | omega | (simp; omega)) _ | refine bel_drew ?_)
theorem fin_UpB : True := trivial
end

section
open Go.RowKit
set_option linter.unusedVariables false

theorem dirT_inS (lon d : Int) (d0 : -90000 ≤ d) (d1 : d ≤ 90000) : dirT lon d = (dX lon d, dY lon d, sinI d) := by
  unfold dirT
  rw [if_pos ((inR_1 _ _ _).2 ⟨d0, d1⟩)]
  rfl
def sightB (a b : Int) : Value := .iface 58 (.agg #[.int .i64 a, .int .i64 b])
set_option maxHeartbeats 1000000 in
theorem distDD_any (a h p q : Int) (fa : fits a) (fp : fits p) (h0 : -90000 ≤ h) (h1 : h ≤ 90000) (q0 : -90000 ≤ q) (q1 : q ≤ 90000) (w : World) (hs : SinesOK w) :
    Calls Tryz.prog 78 #[sightB a h, sightB p q] w fun r w' => r = .returned (.int .i64 (sep9 a h p q)) ∧ Below w.heap.size w w' := by
  unfold sep9
  obtain ⟨d, hd⟩ := sepX_impl (dX a h) (dY a h) (sinI h) (dX p q) (dY p q) (sinI q) (inV_2 (dir_in _ _)) (inV_2 (dir_in _ _))
  have S := Lib.hid (fun w hs => dirTow_any a h fa w hs)
  have T := Lib.hid (fun w hs => dirTow_any p q fp w hs)
  rw [dirT_inS _ _ h0 h1] at S
  rw [dirT_inS _ _ q0 q1] at T
  have F := Lib.hid (fun w hs => implSep_any (dX a h) (dY a h) (sinI h) (dX p q) (dY p q) (sinI q) w hs)
  rw [hd] at F
  have E := Lib.hid hs
  clear hs hd fa fp
  simp only at S T
  generalize sepX (dX a h) (dY a h) (sinI h) (dX p q) (dY p q) (sinI q) = n at *
  generalize dX a h = x at *
  generalize dY a h = y at *
  generalize sinI h = z at *
  generalize dX p q = x' at *
  generalize dY p q = y' at *
  generalize sinI q = z' at *
  unfold sightB
  go_enter Tryz.func78, Tryz.ntmps78
  go_wp2_with fail
  refine (S.out _ E.out).mono ?_
  rintro r w1 ⟨rfl, hb⟩
  have H1 := Lib.hid hb
  clear hb S
  go_wp2_with fail
  refine (T.out _ (E.out.below H1.out)).mono ?_
  rintro r w2 ⟨rfl, hb⟩
  have H2 := Lib.hid (H1.out.trans (hb.mono H1.out.size))
  clear hb T
  go_wp2_with fail
  refine (F.out _ (E.out.below H2.out)).mono ?_
  rintro r w3 ⟨rfl, hb⟩
  have H3 := Lib.hid (H2.out.trans (hb.mono H2.out.size))
  clear hb F
  go_wp2_with fail
  exact bodyPost_ret (v := .int .i64 n) (by simp [results, Tryz.results78, go_sem]) rfl ⟨rfl, H3.out⟩
theorem fin_DistD : True := trivial
end

section
open Go.RowKit
set_option linter.unusedVariables false

set_option maxHeartbeats 400000 in
theorem axis_any (s : ByteArray) (a b c d : Int) (w : World) :
    Calls Tryz.prog 68 #[.agg #[.string s, .int .i64 a, .int .i64 b, .int .i64 c, .int .i64 d]] w fun e w' => e = .returned (.agg #[.int .i64 a, .int .i64 b]) ∧ Below w.heap.size w w' := by
  go_enter Tryz.func68, Tryz.ntmps68
  go_wp2_with fail
  refine bodyPost_ret (v := .agg #[.int .i64 a, .int .i64 b]) (by first | (simp [results, Tryz.results68, go_sem]; done) | (simp [results, Tryz.results68, go_sem]; done)) rfl ⟨rfl, ?_⟩
  repeat (first | exact Below.refl _ _ | refine Below.setCell ?_ (by first | (simp; done) | omega | (simp; omega)) _ | refine Below.alloc ?_ (by first | (simp; done) | omega | (simp; omega)) _ | refine bel_drew ?_)

theorem within1B (lo hi a : Int) (cap : Nat) (W : World) :
    Calls Tryz.prog 70 #[.int .i64 lo, .int .i64 hi, .slice (some ⟨W.heap.size, 0, none⟩) 1 cap] (W.alloc (.cells #[.int .i64 a] 2)) fun e w' => e = .returned (.bool (inR lo hi [a])) ∧ Below (W.alloc (.cells #[.int .i64 a] 2)).heap.size (W.alloc (.cells #[.int .i64 a] 2)) w' :=
  (within1 lo hi a _ cap _ (by simp)).mono fun e w' ⟨h1, h2⟩ => ⟨h1, by subst h2; exact Below.refl _ _⟩
theorem starB_dir (s : ByteArray) (a b c d : Int) : starB s a b c d = (nameB s.data.toList && (dirB a b && (inR 5000 120000 [c] && inR 1 1000 [d]))) := by
  unfold starB dirB
  rw [Bool.and_assoc]

set_option maxHeartbeats 1000000 in
theorem projValid_any (s : ByteArray) (a b c d : Int) (hmax : s.size ≤ maxLen) (w : World) :
    Calls Tryz.prog 40 #[.agg #[.string s, .int .i64 a, .int .i64 b, .int .i64 c, .int .i64 d]] w fun e w' => e = .returned (.bool (starB s a b c d)) ∧ Below w.heap.size w w' := by
  rw [starB_dir]
  have hm : s.size ≤ 9223372036854775807 := by unfold maxLen at hmax; omega
  have I1 := Lib.hid (fun w => implName_any s w hm)
  have D := Lib.hid (fun w => axis_any s a b c d w)
  have I2 := Lib.hid (fun w => dirValid_any a b w)
  have I3 := Lib.hid (fun cap W => within1B 5000 120000 c cap W)
  have I4 := Lib.hid (fun cap W => within1B 1 1000 d cap W)
  clear hm hmax
  generalize nameB s.data.toList = p1 at *
  generalize dirB a b = p2 at *
  generalize inR 5000 120000 [c] = p3 at *
  generalize inR 1 1000 [d] = p4 at *
  cases p1 with
  | false =>
    rw [Bool.false_and]
    go_enter Tryz.func40, Tryz.ntmps40
    go_wp2_with fail
    refine (I1.out _).mono ?_
    rintro e wx0 ⟨rfl, hb⟩
    have hswx0 := hb.size
    try simp at hswx0
    obtain ⟨hcwx0, hfwx0⟩ := bcell hb
    have HBwx0 : Hid (Below w.heap.size w wx0) := by
      apply Lib.hid
      refine Below.trans ?_ (hb.mono ?_)
      · repeat (first | exact Below.refl _ _ | refine Below.setCell ?_ (by first | (simp; done) | omega | (simp; omega)) _ | refine Below.alloc ?_ (by first | (simp; done) | omega | (simp; omega)) _)
      · first | (simp; done) | omega | (simp; omega)
    have hzwx0 : w.heap.size < wx0.heap.size := by have := hb.size; (try simp at this); omega
    clear hb
    go_wp2_with fail
    go_ret
    refine ⟨rfl, ?_⟩
    repeat (first | exact Below.refl _ _ | exact HBwx0.out | refine Below.setCell ?_ (by first | (simp; done) | omega | (simp; omega)) _ | refine Below.alloc ?_ (by first | (simp; done) | omega | (simp; omega)) _ | refine bel_drew ?_)
  | true =>
    rw [Bool.true_and]
    cases p2 with
    | false =>
      rw [Bool.false_and]
      go_enter Tryz.func40, Tryz.ntmps40
      go_wp2_with fail
      refine (I1.out _).mono ?_
      rintro e wx0 ⟨rfl, hb⟩
      have hswx0 := hb.size
      try simp at hswx0
      obtain ⟨hcwx0, hfwx0⟩ := bcell hb
      have HBwx0 : Hid (Below w.heap.size w wx0) := by
        apply Lib.hid
        refine Below.trans ?_ (hb.mono ?_)
        · repeat (first | exact Below.refl _ _ | refine Below.setCell ?_ (by first | (simp; done) | omega | (simp; omega)) _ | refine Below.alloc ?_ (by first | (simp; done) | omega | (simp; omega)) _)
        · first | (simp; done) | omega | (simp; omega)
      have hzwx0 : w.heap.size < wx0.heap.size := by have := hb.size; (try simp at this); omega
      clear hb
      go_wp2_with fail
      refine (D.out _).mono ?_
      rintro e wx1 ⟨rfl, hb⟩
      have hswx1 := hb.size
      try simp at hswx1
      obtain ⟨hcwx1, hfwx1⟩ := bcell hb
      have HBwx1 : Hid (Below w.heap.size w wx1) := by
        apply Lib.hid
        refine Below.trans ?_ (hb.mono ?_)
        · repeat (first | exact Below.refl _ _ | exact HBwx0.out | refine Below.setCell ?_ (by first | (simp; done) | omega | (simp; omega)) _ | refine Below.alloc ?_ (by first | (simp; done) | omega | (simp; omega)) _)
        · first | (simp; done) | omega | (simp; omega)
      have hzwx1 : w.heap.size < wx1.heap.size := by have := hb.size; (try simp at this); omega
      clear hb
      first | (have gswx1wx0 : wx0.heap.size < wx1.heap.size := by omega) | skip
      go_wp2_with fail
      refine (I2.out _).mono ?_
      rintro e wx2 ⟨rfl, hb⟩
      have hswx2 := hb.size
      try simp at hswx2
      obtain ⟨hcwx2, hfwx2⟩ := bcell hb
      have HBwx2 : Hid (Below w.heap.size w wx2) := by
        apply Lib.hid
        refine Below.trans ?_ (hb.mono ?_)
        · repeat (first | exact Below.refl _ _ | exact HBwx1.out | refine Below.setCell ?_ (by first | (simp; done) | omega | (simp; omega)) _ | refine Below.alloc ?_ (by first | (simp; done) | omega | (simp; omega)) _)
        · first | (simp; done) | omega | (simp; omega)
      have hzwx2 : w.heap.size < wx2.heap.size := by have := hb.size; (try simp at this); omega
      clear hb
      first | (have gswx2wx0 : wx0.heap.size < wx2.heap.size := by omega) | skip
      first | (have gswx2wx1 : wx1.heap.size < wx2.heap.size := by omega) | skip
      go_wp2_with fail
      go_ret
      refine ⟨rfl, ?_⟩
      repeat (first | exact Below.refl _ _ | exact HBwx2.out | refine Below.setCell ?_ (by first | (simp; done) | omega | (simp; omega)) _ | refine Below.alloc ?_ (by first | (simp; done) | omega | (simp; omega)) _ | refine bel_drew ?_)
    | true =>
      rw [Bool.true_and]
      cases p3 with
      | false =>
        rw [Bool.false_and]
        go_enter Tryz.func40, Tryz.ntmps40
        go_wp2_with fail
        refine (I1.out _).mono ?_
        rintro e wx0 ⟨rfl, hb⟩
        have hswx0 := hb.size
        try simp at hswx0
        obtain ⟨hcwx0, hfwx0⟩ := bcell hb
        have HBwx0 : Hid (Below w.heap.size w wx0) := by
          apply Lib.hid
          refine Below.trans ?_ (hb.mono ?_)
          · repeat (first | exact Below.refl _ _ | refine Below.setCell ?_ (by first | (simp; done) | omega | (simp; omega)) _ | refine Below.alloc ?_ (by first | (simp; done) | omega | (simp; omega)) _)
          · first | (simp; done) | omega | (simp; omega)
        have hzwx0 : w.heap.size < wx0.heap.size := by have := hb.size; (try simp at this); omega
        clear hb
        go_wp2_with fail
        refine (D.out _).mono ?_
        rintro e wx1 ⟨rfl, hb⟩
        have hswx1 := hb.size
        try simp at hswx1
        obtain ⟨hcwx1, hfwx1⟩ := bcell hb
        have HBwx1 : Hid (Below w.heap.size w wx1) := by
          apply Lib.hid
          refine Below.trans ?_ (hb.mono ?_)
          · repeat (first | exact Below.refl _ _ | exact HBwx0.out | refine Below.setCell ?_ (by first | (simp; done) | omega | (simp; omega)) _ | refine Below.alloc ?_ (by first | (simp; done) | omega | (simp; omega)) _)
          · first | (simp; done) | omega | (simp; omega)
        have hzwx1 : w.heap.size < wx1.heap.size := by have := hb.size; (try simp at this); omega
        clear hb
        first | (have gswx1wx0 : wx0.heap.size < wx1.heap.size := by omega) | skip
        go_wp2_with fail
        refine (I2.out _).mono ?_
        rintro e wx2 ⟨rfl, hb⟩
        have hswx2 := hb.size
        try simp at hswx2
        obtain ⟨hcwx2, hfwx2⟩ := bcell hb
        have HBwx2 : Hid (Below w.heap.size w wx2) := by
          apply Lib.hid
          refine Below.trans ?_ (hb.mono ?_)
          · repeat (first | exact Below.refl _ _ | exact HBwx1.out | refine Below.setCell ?_ (by first | (simp; done) | omega | (simp; omega)) _ | refine Below.alloc ?_ (by first | (simp; done) | omega | (simp; omega)) _)
          · first | (simp; done) | omega | (simp; omega)
        have hzwx2 : w.heap.size < wx2.heap.size := by have := hb.size; (try simp at this); omega
        clear hb
        first | (have gswx2wx0 : wx0.heap.size < wx2.heap.size := by omega) | skip
        first | (have gswx2wx1 : wx1.heap.size < wx2.heap.size := by omega) | skip
        go_wp2_with fail
        refine (I3.out _ _).mono ?_
        rintro e wx3 ⟨rfl, hb⟩
        have hswx3 := hb.size
        try simp at hswx3
        obtain ⟨hcwx3, hfwx3⟩ := bcell hb
        have HBwx3 : Hid (Below w.heap.size w wx3) := by
          apply Lib.hid
          refine Below.trans ?_ (hb.mono ?_)
          · repeat (first | exact Below.refl _ _ | exact HBwx2.out | refine Below.setCell ?_ (by first | (simp; done) | omega | (simp; omega)) _ | refine Below.alloc ?_ (by first | (simp; done) | omega | (simp; omega)) _)
          · first | (simp; done) | omega | (simp; omega)
        have hzwx3 : w.heap.size < wx3.heap.size := by have := hb.size; (try simp at this); omega
        clear hb
        first | (have gswx3wx0 : wx0.heap.size < wx3.heap.size := by omega) | skip
        first | (have gswx3wx1 : wx1.heap.size < wx3.heap.size := by omega) | skip
        first | (have gswx3wx2 : wx2.heap.size < wx3.heap.size := by omega) | skip
        go_wp2_with fail
        go_ret
        refine ⟨rfl, ?_⟩
        repeat (first | exact Below.refl _ _ | exact HBwx3.out | refine Below.setCell ?_ (by first | (simp; done) | omega | (simp; omega)) _ | refine Below.alloc ?_ (by first | (simp; done) | omega | (simp; omega)) _ | refine bel_drew ?_)
      | true =>
        rw [Bool.true_and]
        go_enter Tryz.func40, Tryz.ntmps40
        go_wp2_with fail
        refine (I1.out _).mono ?_
        rintro e wx0 ⟨rfl, hb⟩
        have hswx0 := hb.size
        try simp at hswx0
        obtain ⟨hcwx0, hfwx0⟩ := bcell hb
        have HBwx0 : Hid (Below w.heap.size w wx0) := by
          apply Lib.hid
          refine Below.trans ?_ (hb.mono ?_)
          · repeat (first | exact Below.refl _ _ | refine Below.setCell ?_ (by first | (simp; done) | omega | (simp; omega)) _ | refine Below.alloc ?_ (by first | (simp; done) | omega | (simp; omega)) _)
          · first | (simp; done) | omega | (simp; omega)
        have hzwx0 : w.heap.size < wx0.heap.size := by have := hb.size; (try simp at this); omega
        clear hb
        go_wp2_with fail
        refine (D.out _).mono ?_
        rintro e wx1 ⟨rfl, hb⟩
        have hswx1 := hb.size
        try simp at hswx1
        obtain ⟨hcwx1, hfwx1⟩ := bcell hb
        have HBwx1 : Hid (Below w.heap.size w wx1) := by
          apply Lib.hid
          refine Below.trans ?_ (hb.mono ?_)
          · repeat (first | exact Below.refl _ _ | exact HBwx0.out | refine Below.setCell ?_ (by first | (simp; done) | omega | (simp; omega)) _ | refine Below.alloc ?_ (by first | (simp; done) | omega | (simp; omega)) _)
          · first | (simp; done) | omega | (simp; omega)
        have hzwx1 : w.heap.size < wx1.heap.size := by have := hb.size; (try simp at this); omega
        clear hb
        first | (have gswx1wx0 : wx0.heap.size < wx1.heap.size := by omega) | skip
        go_wp2_with fail
        refine (I2.out _).mono ?_
        rintro e wx2 ⟨rfl, hb⟩
        have hswx2 := hb.size
        try simp at hswx2
        obtain ⟨hcwx2, hfwx2⟩ := bcell hb
        have HBwx2 : Hid (Below w.heap.size w wx2) := by
          apply Lib.hid
          refine Below.trans ?_ (hb.mono ?_)
          · repeat (first | exact Below.refl _ _ | exact HBwx1.out | refine Below.setCell ?_ (by first | (simp; done) | omega | (simp; omega)) _ | refine Below.alloc ?_ (by first | (simp; done) | omega | (simp; omega)) _)
          · first | (simp; done) | omega | (simp; omega)
        have hzwx2 : w.heap.size < wx2.heap.size := by have := hb.size; (try simp at this); omega
        clear hb
        first | (have gswx2wx0 : wx0.heap.size < wx2.heap.size := by omega) | skip
        first | (have gswx2wx1 : wx1.heap.size < wx2.heap.size := by omega) | skip
        go_wp2_with fail
        refine (I3.out _ _).mono ?_
        rintro e wx3 ⟨rfl, hb⟩
        have hswx3 := hb.size
        try simp at hswx3
        obtain ⟨hcwx3, hfwx3⟩ := bcell hb
        have HBwx3 : Hid (Below w.heap.size w wx3) := by
          apply Lib.hid
          refine Below.trans ?_ (hb.mono ?_)
          · repeat (first | exact Below.refl _ _ | exact HBwx2.out | refine Below.setCell ?_ (by first | (simp; done) | omega | (simp; omega)) _ | refine Below.alloc ?_ (by first | (simp; done) | omega | (simp; omega)) _)
          · first | (simp; done) | omega | (simp; omega)
        have hzwx3 : w.heap.size < wx3.heap.size := by have := hb.size; (try simp at this); omega
        clear hb
        first | (have gswx3wx0 : wx0.heap.size < wx3.heap.size := by omega) | skip
        first | (have gswx3wx1 : wx1.heap.size < wx3.heap.size := by omega) | skip
        first | (have gswx3wx2 : wx2.heap.size < wx3.heap.size := by omega) | skip
        go_wp2_with fail
        refine (I4.out _ _).mono ?_
        rintro e wx4 ⟨rfl, hb⟩
        have hswx4 := hb.size
        try simp at hswx4
        obtain ⟨hcwx4, hfwx4⟩ := bcell hb
        have HBwx4 : Hid (Below w.heap.size w wx4) := by
          apply Lib.hid
          refine Below.trans ?_ (hb.mono ?_)
          · repeat (first | exact Below.refl _ _ | exact HBwx3.out | refine Below.setCell ?_ (by first | (simp; done) | omega | (simp; omega)) _ | refine Below.alloc ?_ (by first | (simp; done) | omega | (simp; omega)) _)
          · first | (simp; done) | omega | (simp; omega)
        have hzwx4 : w.heap.size < wx4.heap.size := by have := hb.size; (try simp at this); omega
        clear hb
        first | (have gswx4wx0 : wx0.heap.size < wx4.heap.size := by omega) | skip
        first | (have gswx4wx1 : wx1.heap.size < wx4.heap.size := by omega) | skip
        first | (have gswx4wx2 : wx2.heap.size < wx4.heap.size := by omega) | skip
        first | (have gswx4wx3 : wx3.heap.size < wx4.heap.size := by omega) | skip
        go_wp2_with fail
        go_ret
        refine ⟨rfl, ?_⟩
        repeat (first | exact Below.refl _ _ | exact HBwx4.out | refine Below.setCell ?_ (by first | (simp; done) | omega | (simp; omega)) _ | refine Below.alloc ?_ (by first | (simp; done) | omega | (simp; omega)) _ | refine bel_drew ?_)
theorem fin_ProjV : True := trivial
end

section
open Go.RowKit
set_option linter.unusedVariables false

theorem nearQ_odd (n : Int) : nearQ (-n) 1000000 = -nearQ n 1000000 := by
  rcases (show n < 0 ∨ n = 0 ∨ 0 < n by omega) with c | c | c
  · rw [nearQ_np n 1000000 c (by omega), nearQ_pp (-n) 1000000 (by omega) (by omega)]; omega
  · subst c; rw [show (-(0 : Int)) = 0 from rfl, nearQ_pp 0 1000000 (by omega) (by omega)]; omega
  · rw [nearQ_pp n 1000000 (by omega) (by omega), nearQ_np (-n) 1000000 (by omega) (by omega)]; omega
theorem crI_swap (y z y' z' : Int) : crI y' z z' y = -crI y z' z y' := by
  unfold crI
  rw [← nearQ_odd]
  congr 1
  rw [Int.mul_comm y' z, Int.mul_comm z' y]
  omega
theorem sepX_swap (x y z x' y' z' : Int) : sepX x' y' z' x y z = sepX x y z x' y' z' := by
  have e1 : crL x' y' z' x y z = crL x y z x' y' z' := by
    unfold crL len3 sq3
    rw [crI_swap y z y' z', crI_swap z x z' x', crI_swap x y x' y']
    simp only [Int.neg_mul_neg]
  have e2 : dotI x' y' z' x y z = dotI x y z x' y' z' := by
    unfold dotI
    rw [Int.mul_comm x' x, Int.mul_comm y' y, Int.mul_comm z' z]
  unfold sepX
  rw [e1, e2]
theorem sep9_swap (a h p q : Int) : sep9 p q a h = sep9 a h p q := sepX_swap _ _ _ _ _ _


set_option maxRecDepth 100000 in
set_option maxHeartbeats 4000000 in
theorem weightAt_any (s : ByteArray) (a b c d u v : Int) (hg : starB s a b c d = true) (u0 : 0 ≤ u) (u1 : u ≤ 359999) (v0 : -90000 ≤ v) (v1 : v ≤ 90000) (w : World) (hs : SinesOK w) :
    Calls Tryz.prog 45 #[.agg #[.string s, .int .i64 a, .int .i64 b, .int .i64 c, .int .i64 d], .agg #[.int .i64 u, .int .i64 v]] w fun e w' => e = .returned (.int .i64 (rawN ⟨s, a, b, c, d⟩ u v)) ∧ Below w.heap.size w w' := by
  have hgd := starB_bd hg
  unfold rawN
  simp only
  have sb := sep9_bd u v a b
  have DD := Lib.hid (fun w hs => distDD_any u v a b (by unfold fits; omega) (by unfold fits; omega) v0 v1 (by omega) (by omega) w hs)
  unfold sightB at DD
  rw [← sep9_swap u v a b] at DD sb
  have AX := Lib.hid (fun w => axis_any s a b c d w)
  clear hg u0 u1 v0 v1
  generalize sep9 a b u v = n at *
  unfold rawD
  have e1 : IntKind.i64.wrap (c - n) = c - n := IntWalk.i64_in _ (by omega)
  have e2 : IntKind.i64.wrap (1000 * (c - n)) = 1000 * (c - n) := IntWalk.i64_in _ (by omega)
  obtain ⟨W0, hW0⟩ : ∃ W0, W0 = ((w.alloc (.cells #[.string s, .int .i64 a, .int .i64 b, .int .i64 c, .int .i64 d] 37)).alloc (.cells #[.int .i64 u, .int .i64 v] 58)) := ⟨_, rfl⟩
  have K0 : Hid (W0.cell? ⟨w.heap.size, 0, none⟩ = some (.string s) ∧ W0.cell? ⟨w.heap.size, 1, none⟩ = some (.int .i64 a) ∧ W0.cell? ⟨w.heap.size, 2, none⟩ = some (.int .i64 b) ∧ W0.cell? ⟨w.heap.size, 3, none⟩ = some (.int .i64 c) ∧ W0.cell? ⟨w.heap.size, 4, none⟩ = some (.int .i64 d) ∧ W0.cell? ⟨w.heap.size + 1, 0, none⟩ = some (.int .i64 u) ∧ W0.cell? ⟨w.heap.size + 1, 1, none⟩ = some (.int .i64 v) ∧ Below w.heap.size w W0) := Lib.hid (by rw [hW0]; exact ⟨by rw [World.cell?_alloc_lt _ _ _ (by first | (simp; done) | (simp; omega))]; first | (simp; done) | (rw [World.cell?_alloc_at _ _ _ _ (by first | (simp; done) | (simp; omega))]; rfl), by rw [World.cell?_alloc_lt _ _ _ (by first | (simp; done) | (simp; omega))]; first | (simp; done) | (rw [World.cell?_alloc_at _ _ _ _ (by first | (simp; done) | (simp; omega))]; rfl), by rw [World.cell?_alloc_lt _ _ _ (by first | (simp; done) | (simp; omega))]; first | (simp; done) | (rw [World.cell?_alloc_at _ _ _ _ (by first | (simp; done) | (simp; omega))]; rfl), by rw [World.cell?_alloc_lt _ _ _ (by first | (simp; done) | (simp; omega))]; first | (simp; done) | (rw [World.cell?_alloc_at _ _ _ _ (by first | (simp; done) | (simp; omega))]; rfl), by rw [World.cell?_alloc_lt _ _ _ (by first | (simp; done) | (simp; omega))]; first | (simp; done) | (rw [World.cell?_alloc_at _ _ _ _ (by first | (simp; done) | (simp; omega))]; rfl), by first | (simp; done) | (rw [World.cell?_alloc_at _ _ _ _ (by first | (simp; done) | (simp; omega))]; rfl), by first | (simp; done) | (rw [World.cell?_alloc_at _ _ _ _ (by first | (simp; done) | (simp; omega))]; rfl), by repeat (first | exact Below.refl _ _ | refine Below.alloc ?_ (by first | (simp; done) | (simp; omega)) _)⟩)
  have HW := Lib.hid hW0
  clear hW0
  have E0 := Lib.hid (hs.below K0.out.2.2.2.2.2.2.2)
  clear hs
  by_cases hd : c < n
  · rw [if_pos hd]
    clear e1 e2
    go_enter Tryz.func45, Tryz.ntmps45
    obtain ⟨k0, k1, k2, k3, k4, k5, k6, k7⟩ := K0.out
    go_wp2_with fail
    rw [← HW.out]
    clear HW
    go_region_held3 (fun w' => w'.cell? ⟨w.heap.size, 0, none⟩ = some (.string s) ∧ w'.cell? ⟨w.heap.size, 1, none⟩ = some (.int .i64 a) ∧ w'.cell? ⟨w.heap.size, 2, none⟩ = some (.int .i64 b) ∧ w'.cell? ⟨w.heap.size, 3, none⟩ = some (.int .i64 c) ∧ w'.cell? ⟨w.heap.size, 4, none⟩ = some (.int .i64 d) ∧ w'.cell? ⟨w.heap.size + 1, 0, none⟩ = some (.int .i64 u) ∧ w'.cell? ⟨w.heap.size + 1, 1, none⟩ = some (.int .i64 v) ∧ Below w.heap.size w w') (first | (exact keepW7 K0.out (bel_drew (Below.refl _ _))) | (exact keepW7 K0.out y2) | (exact keepW7 K0.out y1) | go_keep) ((first
      | (go_at_call 68; (with_reducible refine (AX.out _).mono ?_); rintro e x1 ⟨rfl, hx1⟩; have y1 := undrewG hx1)
      | (go_at_call 78; (with_reducible refine (DD.out _ (E0.out.below y1)).mono ?_); rintro e x2 ⟨rfl, hx2⟩; have y2 := y1.trans (hx2.mono y1.size))))
    all_goals
      rename_i held
      obtain ⟨m0, m1, m2, m3, m4, m5, m6, m7⟩ := held
      have HB := Lib.hid m7
      clear m7 m0 m1 m2 m4 m5 m6
      go_wp2_with fail
      go_ret
      exact ⟨rfl, HB.out⟩
  · rw [if_neg hd]
    have q0 : (1000 * (c - n)).tdiv c = 1000 * (c - n) / c := Int.tdiv_eq_ediv_of_nonneg (by omega)
    have qb : 0 ≤ 1000 * (c - n) / c := Int.ediv_nonneg (by omega) (by omega)
    have qc : 1000 * (c - n) / c ≤ 1000 := Int.ediv_le_of_le_mul (by omega) (by omega)
    have e3 : IntKind.i64.wrap (1000 * (c - n) / c) = 1000 * (c - n) / c := IntWalk.i64_in _ (by omega)
    have e4 : IntKind.i64.wrap (1000 * (c - n) / c + 1) = 1000 * (c - n) / c + 1 := IntWalk.i64_in _ (by omega)
    have f1 : wrap64 (c - n) = c - n := IntWalk.wrap64_in _ (by omega)
    have f2 : wrap64 (1000 * (c - n)) = 1000 * (c - n) := IntWalk.wrap64_in _ (by omega)
    have f3 : wrap64 (1000 * (c - n) / c) = 1000 * (c - n) / c := IntWalk.wrap64_in _ (by omega)
    have f4 : wrap64 (1000 * (c - n) / c + 1) = 1000 * (c - n) / c + 1 := IntWalk.wrap64_in _ (by omega)
    have cz : ¬ c = 0 := by omega
    clear qb qc
    go_enter Tryz.func45, Tryz.ntmps45
    obtain ⟨k0, k1, k2, k3, k4, k5, k6, k7⟩ := K0.out
    go_wp2_with fail
    rw [← HW.out]
    clear HW
    go_region_held3 (fun w' => w'.cell? ⟨w.heap.size, 0, none⟩ = some (.string s) ∧ w'.cell? ⟨w.heap.size, 1, none⟩ = some (.int .i64 a) ∧ w'.cell? ⟨w.heap.size, 2, none⟩ = some (.int .i64 b) ∧ w'.cell? ⟨w.heap.size, 3, none⟩ = some (.int .i64 c) ∧ w'.cell? ⟨w.heap.size, 4, none⟩ = some (.int .i64 d) ∧ w'.cell? ⟨w.heap.size + 1, 0, none⟩ = some (.int .i64 u) ∧ w'.cell? ⟨w.heap.size + 1, 1, none⟩ = some (.int .i64 v) ∧ Below w.heap.size w w') (first | (exact keepW7 K0.out (bel_drew (Below.refl _ _))) | (exact keepW7 K0.out y2) | (exact keepW7 K0.out y1) | go_keep) ((first
      | (go_at_call 68; (with_reducible refine (AX.out _).mono ?_); rintro e x1 ⟨rfl, hx1⟩; have y1 := undrewG hx1)
      | (go_at_call 78; (with_reducible refine (DD.out _ (E0.out.below y1)).mono ?_); rintro e x2 ⟨rfl, hx2⟩; have y2 := y1.trans (hx2.mono y1.size))))
    all_goals
      rename_i held
      obtain ⟨m0, m1, m2, m3, m4, m5, m6, m7⟩ := held
      have HB := Lib.hid m7
      clear m7 m0 m1 m2 m4 m5 m6
      go_wp2_with fail
      go_ret
      exact ⟨by simp [e1, e2, e3, e4, f1, f2, f3, f4, q0], HB.out⟩

/-- What RawWeight returns. -/
def rawV10 (s : ByteArray) (a b c d u v : Int) : Value := if starB s a b c d = true then (if spotB u v = true then .tuple #[.int .i64 (rawN ⟨s, a, b, c, d⟩ u v), .int .i64 0] else .tuple #[.int .i64 0, .int .i64 2]) else .tuple #[.int .i64 0, .int .i64 1]
theorem rawV_10 (s : ByteArray) (a b c d u v : Int) : rawV ⟨s, a, b, c, d⟩ u v = rawV10 s a b c d u v := rfl
theorem rawV10_form (s : ByteArray) (a b c d u v : Int) : ∃ p q : Int, rawV10 s a b c d u v = .tuple #[.int .i64 p, .int .i64 q] := by
  unfold rawV10
  split
  · split <;> exact ⟨_, _, rfl⟩
  · exact ⟨_, _, rfl⟩
theorem upB_spot (u v : Int) : upB u v = spotB u v := rfl
set_option maxRecDepth 100000 in
set_option maxHeartbeats 2000000 in
theorem implRaw_any (s : ByteArray) (a b c d u v : Int) (hmax : s.size ≤ maxLen) (w : World) (hs : SinesOK w) :
    Calls Tryz.prog 24 #[.agg #[.string s, .int .i64 a, .int .i64 b, .int .i64 c, .int .i64 d], .int .i64 u, .int .i64 v] w fun e w' => e = .returned (rawV10 s a b c d u v) ∧ Below w.heap.size w w' := by
  unfold rawV10
  have V := Lib.hid (fun w => projValid_any s a b c d hmax w)
  have UP := Lib.hid (fun w => isUp_any u v w)
  simp only [upB_spot] at UP
  have E := Lib.hid hs
  clear hs hmax
  cases hg : starB s a b c d with
  | false =>
    rw [if_neg (by simp)]
    rw [hg] at V
    clear hg
    go_enter Tryz.func24, Tryz.ntmps24
    go_wp2_with fail
    refine (V.out _).mono ?_
    rintro e w1 ⟨rfl, hb⟩
    have hsw1 := hb.size
    try simp at hsw1
    obtain ⟨hcw1, hfw1⟩ := bcell hb
    have HBw1 : Hid (Below w.heap.size w w1) := by
      apply Lib.hid
      refine Below.trans ?_ (hb.mono ?_)
      · repeat (first | exact Below.refl _ _ | refine Below.setCell ?_ (by first | (simp; done) | omega | (simp; omega)) _ | refine Below.alloc ?_ (by first | (simp; done) | omega | (simp; omega)) _)
      · first | (simp; done) | omega | (simp; omega)
    have hzw1 : w.heap.size + 1 < w1.heap.size := by have := hb.size; (try simp at this); omega
    have hyw1 : w.heap.size < w1.heap.size := by have := hb.size; (try simp at this); omega
    clear hb
    go_wp2_with fail
    refine bodyPost_ret (v := .tuple #[.int .i64 0, .int .i64 1]) (by first | (simp [results, Tryz.results24, go_sem]; done) | (simp [results, Tryz.results24, go_sem, *]; done)) rfl ⟨rfl, ?_⟩
    repeat (first | exact Below.refl _ _ | exact HBw1.out | refine Below.setCell ?_ (by first | (simp; done) | omega | (simp; omega)) _ | refine Below.alloc ?_ (by first | (simp; done) | omega | (simp; omega)) _ | refine bel_drew ?_)
  | true =>
    rw [if_pos rfl]
    rw [hg] at V
    cases hu : spotB u v with
    | false =>
      rw [if_neg (by simp)]
      rw [hu] at UP
      clear hg hu
      go_enter Tryz.func24, Tryz.ntmps24
      go_wp2_with fail
      refine (V.out _).mono ?_
      rintro e w1 ⟨rfl, hb⟩
      have hsw1 := hb.size
      try simp at hsw1
      obtain ⟨hcw1, hfw1⟩ := bcell hb
      have HBw1 : Hid (Below w.heap.size w w1) := by
        apply Lib.hid
        refine Below.trans ?_ (hb.mono ?_)
        · repeat (first | exact Below.refl _ _ | refine Below.setCell ?_ (by first | (simp; done) | omega | (simp; omega)) _ | refine Below.alloc ?_ (by first | (simp; done) | omega | (simp; omega)) _)
        · first | (simp; done) | omega | (simp; omega)
      have hzw1 : w.heap.size + 1 < w1.heap.size := by have := hb.size; (try simp at this); omega
      have hyw1 : w.heap.size < w1.heap.size := by have := hb.size; (try simp at this); omega
      clear hb
      go_wp2_with fail
      refine (UP.out _).mono ?_
      rintro e w2 ⟨rfl, hb⟩
      have hsw2 := hb.size
      try simp at hsw2
      obtain ⟨hcw2, hfw2⟩ := bcell hb
      have HBw2 : Hid (Below w.heap.size w w2) := by
        apply Lib.hid
        refine Below.trans ?_ (hb.mono ?_)
        · repeat (first | exact Below.refl _ _ | exact HBw1.out | refine Below.setCell ?_ (by first | (simp; done) | omega | (simp; omega)) _ | refine Below.alloc ?_ (by first | (simp; done) | omega | (simp; omega)) _)
        · first | (simp; done) | omega | (simp; omega)
      have hzw2 : w.heap.size + 1 < w2.heap.size := by have := hb.size; (try simp at this); omega
      have hyw2 : w.heap.size < w2.heap.size := by have := hb.size; (try simp at this); omega
      clear hb
      first | (have gsw2w1 : w1.heap.size < w2.heap.size := by omega) | skip
      go_wp2_with fail
      refine bodyPost_ret (v := .tuple #[.int .i64 0, .int .i64 2]) (by first | (simp [results, Tryz.results24, go_sem]; done) | (simp [results, Tryz.results24, go_sem, *]; done)) rfl ⟨rfl, ?_⟩
      repeat (first | exact Below.refl _ _ | exact HBw2.out | refine Below.setCell ?_ (by first | (simp; done) | omega | (simp; omega)) _ | refine Below.alloc ?_ (by first | (simp; done) | omega | (simp; omega)) _ | refine bel_drew ?_)
    | true =>
      rw [if_pos rfl]
      rw [hu] at UP
      obtain ⟨⟨u0, u1⟩, v0, v1⟩ := spotB_bd hu
      have WA := Lib.hid (fun w hs => weightAt_any s a b c d u v hg u0 u1 (by omega) v1 w hs)
      clear hg hu u0 u1 v0 v1
      generalize rawN ⟨s, a, b, c, d⟩ u v = r at *
      go_enter Tryz.func24, Tryz.ntmps24
      go_wp2_with fail
      refine (V.out _).mono ?_
      rintro e w1 ⟨rfl, hb⟩
      have hsw1 := hb.size
      try simp at hsw1
      obtain ⟨hcw1, hfw1⟩ := bcell hb
      have HBw1 : Hid (Below w.heap.size w w1) := by
        apply Lib.hid
        refine Below.trans ?_ (hb.mono ?_)
        · repeat (first | exact Below.refl _ _ | refine Below.setCell ?_ (by first | (simp; done) | omega | (simp; omega)) _ | refine Below.alloc ?_ (by first | (simp; done) | omega | (simp; omega)) _)
        · first | (simp; done) | omega | (simp; omega)
      have hzw1 : w.heap.size + 1 < w1.heap.size := by have := hb.size; (try simp at this); omega
      have hyw1 : w.heap.size < w1.heap.size := by have := hb.size; (try simp at this); omega
      clear hb
      go_wp2_with fail
      refine (UP.out _).mono ?_
      rintro e w2 ⟨rfl, hb⟩
      have hsw2 := hb.size
      try simp at hsw2
      obtain ⟨hcw2, hfw2⟩ := bcell hb
      have HBw2 : Hid (Below w.heap.size w w2) := by
        apply Lib.hid
        refine Below.trans ?_ (hb.mono ?_)
        · repeat (first | exact Below.refl _ _ | exact HBw1.out | refine Below.setCell ?_ (by first | (simp; done) | omega | (simp; omega)) _ | refine Below.alloc ?_ (by first | (simp; done) | omega | (simp; omega)) _)
        · first | (simp; done) | omega | (simp; omega)
      have hzw2 : w.heap.size + 1 < w2.heap.size := by have := hb.size; (try simp at this); omega
      have hyw2 : w.heap.size < w2.heap.size := by have := hb.size; (try simp at this); omega
      clear hb
      first | (have gsw2w1 : w1.heap.size < w2.heap.size := by omega) | skip
      go_wp2_with fail
      refine (WA.out _ (E.out.below HBw2.out)).mono ?_
      rintro e w3 ⟨rfl, hb⟩
      have HB3 := Lib.hid (HBw2.out.trans (hb.mono HBw2.out.size))
      clear hb
      go_wp2_with fail
      refine bodyPost_ret (v := .tuple #[.int .i64 r, .int .i64 0]) (by first | (simp [results, Tryz.results24, go_sem]; done) | (simp [results, Tryz.results24, go_sem, *]; done)) rfl ⟨rfl, ?_⟩
      repeat (first | exact Below.refl _ _ | exact HB3.out | refine Below.setCell ?_ (by first | (simp; done) | omega | (simp; omega)) _ | refine Below.alloc ?_ (by first | (simp; done) | omega | (simp; omega)) _ | refine bel_drew ?_)
theorem fin_Proj5 : True := trivial
end

section
open Go.RowKit
set_option linter.unusedVariables false

/-- A light that lies in a block of its own. -/
structure L3 (w : World) (b : Nat) (u v : Int) (sl : Value) : Prop where
  c0 : w.cell? ⟨b, 0, none⟩ = some (.int .i64 u)
  c1 : w.cell? ⟨b, 1, none⟩ = some (.int .i64 v)
  c2 : w.cell? ⟨b, 2, none⟩ = some sl
  f0 : w.frozen? ⟨b, 0, none⟩ = false
  f1 : w.frozen? ⟨b, 1, none⟩ = false
  f2 : w.frozen? ⟨b, 2, none⟩ = false
theorem L3.lt {w : World} {b : Nat} {u v : Int} {sl : Value} (h : L3 w b u v sl) : b < w.heap.size := World.block_lt_of_cell? w ⟨b, 0, none⟩ h.c0
theorem L3.on {w w' : World} {b : Nat} {u v : Int} {sl : Value} (h : L3 w b u v sl) (hb : Below w.heap.size w w') : L3 w' b u v sl := by
  obtain ⟨k1, k2⟩ := bcell hb
  have hg := h.lt
  exact ⟨(k1 b 0 hg).trans h.c0, (k1 b 1 hg).trans h.c1, (k1 b 2 hg).trans h.c2, (k2 b 0 hg).trans h.f0, (k2 b 1 hg).trans h.f1, (k2 b 2 hg).trans h.f2⟩
theorem L3.block {w w' : World} {b : Nat} {u v : Int} {sl : Value} (h : L3 w b u v sl) (e : w'.heap[b]? = w.heap[b]?) : L3 w' b u v sl := by
  have k1 : ∀ o, w'.cell? ⟨b, o, none⟩ = w.cell? ⟨b, o, none⟩ := fun o => World.cell?_of_block (a := ⟨b, o, none⟩) e
  have k2 : ∀ o, w'.frozen? ⟨b, o, none⟩ = w.frozen? ⟨b, o, none⟩ := fun o => by simp only [World.frozen?, e]
  exact ⟨(k1 0).trans h.c0, (k1 1).trans h.c1, (k1 2).trans h.c2, (k2 0).trans h.f0, (k2 1).trans h.f1, (k2 2).trans h.f2⟩
theorem L3.new (w : World) (T : TypeId) (u v : Int) (sl : Value) : L3 (w.alloc (.cells #[.int .i64 u, .int .i64 v, sl] T)) w.heap.size u v sl := ⟨by simp, by simp, by simp, by simp, by simp, by simp⟩
theorem L3.put {w : World} {b : Nat} {u v : Int} {sl : Value} (h : L3 w b u v sl) (u' v' : Int) (sl' : Value) : L3 (((w.setCell ⟨b, 0, none⟩ (.int .i64 u')).setCell ⟨b, 1, none⟩ (.int .i64 v')).setCell ⟨b, 2, none⟩ sl') b u' v' sl' := by
  have e0 : (w.setCell ⟨b, 0, none⟩ (.int .i64 u')).cell? ⟨b, 0, none⟩ = some (.int .i64 u') := by rw [World.cell?_setCell_same (h := h.c0)]
  have e1 : (w.setCell ⟨b, 0, none⟩ (.int .i64 u')).cell? ⟨b, 1, none⟩ = some (.int .i64 v) := by rw [World.cell?_setCell_other (h := by simp)]; exact h.c1
  have e2 : (w.setCell ⟨b, 0, none⟩ (.int .i64 u')).cell? ⟨b, 2, none⟩ = some sl := by rw [World.cell?_setCell_other (h := by simp)]; exact h.c2
  have g1 : ((w.setCell ⟨b, 0, none⟩ (.int .i64 u')).setCell ⟨b, 1, none⟩ (.int .i64 v')).cell? ⟨b, 1, none⟩ = some (.int .i64 v') := by rw [World.cell?_setCell_same (h := e1)]
  have g2 : ((w.setCell ⟨b, 0, none⟩ (.int .i64 u')).setCell ⟨b, 1, none⟩ (.int .i64 v')).cell? ⟨b, 2, none⟩ = some sl := by rw [World.cell?_setCell_other (h := by simp)]; exact e2
  exact ⟨by rw [World.cell?_setCell_other (h := by simp), World.cell?_setCell_other (h := by simp)]; exact e0, by rw [World.cell?_setCell_other (h := by simp)]; exact g1, by rw [World.cell?_setCell_same (h := g2)], by simp [h.f0], by simp [h.f1], by simp [h.f2]⟩
theorem info_beam : (Tryz.prog.info? 65).map (fun i => (i.zero, i.size, i.bytes)) = some (some (.agg #[.int .i64 0, .int .i64 0, .int .i64 0]), 3, 24) := by kernel_rfl
theorem beam_make (n : Nat) (hn : n ≤ 1000) (w : World) :
    (Instr.makeSlice 59 (.int .i64 (n : Int)) (.int .i64 (n : Int))).run Tryz.prog w = .ok (.slice (some ⟨w.heap.size, 0, none⟩) n n) (w.alloc (.cells (madeCells #[.int .i64 0, .int .i64 0, .int .i64 0] (n * 3)) 65)) := by
  obtain ⟨i, hi, hzz⟩ := Option.map_eq_some_iff.1 info_beam
  simp only [Prod.mk.injEq] at hzz
  obtain ⟨hz, hs, hb⟩ := hzz
  have hr := run_make (P := Tryz.prog) w 59 65 i _ Tryz.underlying59 hi hz .i64 .i64 (n : Int) (n : Int) (by omega) (Int.le_refl _) (by rw [hb]; omega) (by omega)
  simp only [Int.toNat_natCast, hs] at hr
  exact hr
theorem BRow.made (w : World) (n : Nat) : BRow (w.alloc (.cells (madeCells #[.int .i64 0, .int .i64 0, .int .i64 0] (n * 3)) 65)) w.heap.size n (List.replicate n 0) (List.replicate n 0) (List.replicate n 0) := by
  have h := World.rowIs_alloc w (madeCells #[.int .i64 0, .int .i64 0, .int .i64 0] (n * 3)) 65 (bF (List.replicate n 0) (List.replicate n 0) (List.replicate n 0)) (by
    intro k hk
    rw [size_madeCells] at hk
    have hx : (List.replicate n (0 : Int)).getD (k / 3) 0 = 0 := by
      rw [List.getD, List.getElem?_replicate]
      split <;> rfl
    have hf : bF (List.replicate n 0) (List.replicate n 0) (List.replicate n 0) k = .int .i64 0 := by
      unfold bF
      split
      · rw [hx]
      · split <;> rw [hx]
    rw [hf]
    simp only [madeCells, Array.getElem?_map, Array.getElem?_range, hk, if_true, Option.map_some]
    congr 1
    show (#[Value.int .i64 0, .int .i64 0, .int .i64 0] : Array Value)[k % 3]! = _
    rcases (by omega : k % 3 = 0 ∨ k % 3 = 1 ∨ k % 3 = 2) with e | e | e <;> rw [e] <;> rfl)
  rw [size_madeCells] at h
  exact h

/-- What lightAt has made ahead of its loop. -/
def Made7 (w : World) (n : Nat) (u v : Int) (W : World) (s : Value) (wx : World) : Prop :=
  ∃ lb g : Nat, s = .pointer (some ⟨lb, 0, none⟩) ∧ lb ≠ g ∧ W.heap.size ≤ lb ∧ W.heap.size ≤ g ∧ L3 wx lb u v (.slice (some ⟨g, 0, none⟩) n n) ∧ BRow wx g n (List.replicate n 0) (List.replicate n 0) (List.replicate n 0) ∧ Below W.heap.size W wx
theorem made_A (w : World) (n : Nat) (u v : Int) (W : World) : Made7 w n u v W (.pointer (some ⟨W.heap.size + 1, 0, none⟩)) ((W.alloc (.cells (madeCells #[.int .i64 0, .int .i64 0, .int .i64 0] (n * 3)) 65)).alloc (.cells #[.int .i64 u, .int .i64 v, .slice (some ⟨W.heap.size, 0, none⟩) n n] 61)) := by
  have h1 := BRow.made W n
  have h2 := L3.new (W.alloc (.cells (madeCells #[.int .i64 0, .int .i64 0, .int .i64 0] (n * 3)) 65)) 61 u v (.slice (some ⟨W.heap.size, 0, none⟩) n n)
  rw [show (W.alloc (.cells (madeCells #[.int .i64 0, .int .i64 0, .int .i64 0] (n * 3)) 65)).heap.size = W.heap.size + 1 by simp] at h2
  exact ⟨_, _, rfl, by omega, by omega, Nat.le_refl _, h2, World.rowIs.alloc h1 _, ((Below.refl _ _).alloc (Nat.le_refl _) _).alloc (by simp) _⟩
theorem made_drew {w : World} {n : Nat} {u v : Int} {W : World} {s : Value} {wx : World} (h : Made7 w n u v W s wx) : Made7 w n u v W s wx.drew := by
  obtain ⟨lb, g, e, h1, h2, h3, h4, h5, h6⟩ := h
  exact ⟨lb, g, e, h1, h2, h3, ⟨h4.c0, h4.c1, h4.c2, h4.f0, h4.f1, h4.f2⟩, h5, ⟨h6.os, h6.tape, h6.output, h6.size, h6.block⟩⟩

theorem setW8 {w W : World} {b0 o0 b1 o1 b2 o2 b3 o3 b4 o4 b5 o5 b6 o6 b7 o7 : Nat} {v0 v1 v2 v3 v4 v5 v6 v7 : Value} {r o : Nat} {u : Value} (h : W.cell? ⟨b0, o0, none⟩ = some v0 ∧ W.cell? ⟨b1, o1, none⟩ = some v1 ∧ W.cell? ⟨b2, o2, none⟩ = some v2 ∧ W.cell? ⟨b3, o3, none⟩ = some v3 ∧ W.cell? ⟨b4, o4, none⟩ = some v4 ∧ W.cell? ⟨b5, o5, none⟩ = some v5 ∧ W.cell? ⟨b6, o6, none⟩ = some v6 ∧ W.cell? ⟨b7, o7, none⟩ = some v7 ∧ Below w.heap.size w W) (n0 : b0 ≠ r) (n1 : b1 ≠ r) (n2 : b2 ≠ r) (n3 : b3 ≠ r) (n4 : b4 ≠ r) (n5 : b5 ≠ r) (n6 : b6 ≠ r) (n7 : b7 ≠ r) (hr : w.heap.size ≤ r) :
    (W.setCell ⟨r, o, none⟩ u).cell? ⟨b0, o0, none⟩ = some v0 ∧ (W.setCell ⟨r, o, none⟩ u).cell? ⟨b1, o1, none⟩ = some v1 ∧ (W.setCell ⟨r, o, none⟩ u).cell? ⟨b2, o2, none⟩ = some v2 ∧ (W.setCell ⟨r, o, none⟩ u).cell? ⟨b3, o3, none⟩ = some v3 ∧ (W.setCell ⟨r, o, none⟩ u).cell? ⟨b4, o4, none⟩ = some v4 ∧ (W.setCell ⟨r, o, none⟩ u).cell? ⟨b5, o5, none⟩ = some v5 ∧ (W.setCell ⟨r, o, none⟩ u).cell? ⟨b6, o6, none⟩ = some v6 ∧ (W.setCell ⟨r, o, none⟩ u).cell? ⟨b7, o7, none⟩ = some v7 ∧ Below w.heap.size w (W.setCell ⟨r, o, none⟩ u) := by
  obtain ⟨h0, h1, h2, h3, h4, h5, h6, h7, hB⟩ := h
  exact ⟨by rw [World.cell?_setCell_other (h := by simp [n0])]; exact h0, by rw [World.cell?_setCell_other (h := by simp [n1])]; exact h1, by rw [World.cell?_setCell_other (h := by simp [n2])]; exact h2, by rw [World.cell?_setCell_other (h := by simp [n3])]; exact h3, by rw [World.cell?_setCell_other (h := by simp [n4])]; exact h4, by rw [World.cell?_setCell_other (h := by simp [n5])]; exact h5, by rw [World.cell?_setCell_other (h := by simp [n6])]; exact h6, by rw [World.cell?_setCell_other (h := by simp [n7])]; exact h7, hB.setCell hr _⟩
theorem made_B (w : World) (n : Nat) (u v : Int) (W : World) : Made7 w n u v W (.pointer (some ⟨W.heap.size, 0, none⟩)) ((W.alloc (.cells #[.int .i64 u, .int .i64 v, .slice (some ⟨W.heap.size + 1, 0, none⟩) n n] 61)).alloc (.cells (madeCells #[.int .i64 0, .int .i64 0, .int .i64 0] (n * 3)) 65)) := by
  have h1 := BRow.made (W.alloc (.cells #[.int .i64 u, .int .i64 v, .slice (some ⟨W.heap.size + 1, 0, none⟩) n n] 61)) n
  have h2 := L3.new W 61 u v (.slice (some ⟨W.heap.size + 1, 0, none⟩) n n)
  have hb : Below (W.alloc (.cells #[.int .i64 u, .int .i64 v, .slice (some ⟨W.heap.size + 1, 0, none⟩) n n] 61)).heap.size (W.alloc (.cells #[.int .i64 u, .int .i64 v, .slice (some ⟨W.heap.size + 1, 0, none⟩) n n] 61)) ((W.alloc (.cells #[.int .i64 u, .int .i64 v, .slice (some ⟨W.heap.size + 1, 0, none⟩) n n] 61)).alloc (.cells (madeCells #[.int .i64 0, .int .i64 0, .int .i64 0] (n * 3)) 65)) := (Below.refl _ _).alloc (Nat.le_refl _) _
  have h3 := h2.on hb
  rw [show (W.alloc (.cells #[.int .i64 u, .int .i64 v, .slice (some ⟨W.heap.size + 1, 0, none⟩) n n] 61)).heap.size = W.heap.size + 1 by simp] at h1
  exact ⟨_, _, rfl, by omega, Nat.le_refl _, by omega, h3, h1, ((Below.refl _ _).alloc (Nat.le_refl _) _).alloc (by simp) _⟩
theorem BRow.put3 {w : World} {g n : Nat} {P W S : List Int} (h : BRow w g n P W S) (i : Nat) (hi : i < n) (hP : P.length = n) (hW : W.length = n) (hS : S.length = n) (p x s : Int) :
    BRow (((w.setCell ⟨g, i * 3, none⟩ (.int .i64 p)).setCell ⟨g, i * 3 + 1, none⟩ (.int .i64 x)).setCell ⟨g, i * 3 + 2, none⟩ (.int .i64 s)) g n (P.set i p) (W.set i x) (S.set i s) := by
  refine World.rowIs.congr (((World.rowIs.set h (i * 3) (.int .i64 p)).set (i * 3 + 1) (.int .i64 x)).set (i * 3 + 2) (.int .i64 s)) (fun k hk => ?_)
  show (if k = i * 3 + 2 then Value.int .i64 s else if k = i * 3 + 1 then Value.int .i64 x else if k = i * 3 then Value.int .i64 p else bF P W S k) = bF (P.set i p) (W.set i x) (S.set i s) k
  have sg : ∀ (L : List Int) (y : Int), L.length = n → (L.set i y).getD i 0 = y := fun L y hL => by rw [List.getD, List.getElem?_set_self (by omega)]; rfl
  have so : ∀ (L : List Int) (y : Int) (j : Nat), j ≠ i → (L.set i y).getD j 0 = L.getD j 0 := fun L y j hj => by rw [List.getD, List.getD, List.getElem?_set_ne (fun e => hj e.symm)]
  unfold bF
  by_cases c2 : k = i * 3 + 2
  · subst c2
    rw [if_pos rfl, show (i * 3 + 2) % 3 = 2 by omega, show (i * 3 + 2) / 3 = i by omega]
    show _ = Value.int .i64 ((S.set i s).getD i 0)
    rw [sg S s hS]
  · rw [if_neg c2]
    by_cases c1 : k = i * 3 + 1
    · subst c1
      rw [if_pos rfl, show (i * 3 + 1) % 3 = 1 by omega, show (i * 3 + 1) / 3 = i by omega]
      show _ = Value.int .i64 ((W.set i x).getD i 0)
      rw [sg W x hW]
    · rw [if_neg c1]
      by_cases c0 : k = i * 3
      · subst c0
        rw [if_pos rfl, show i * 3 % 3 = 0 by omega, show i * 3 / 3 = i by omega]
        show _ = Value.int .i64 ((P.set i p).getD i 0)
        rw [sg P p hP]
      · rw [if_neg c0]
        have hne : k / 3 ≠ i := by omega
        by_cases d0 : k % 3 = 0
        · rw [if_pos d0, if_pos d0, so P p _ hne]
        · by_cases d1 : k % 3 = 1
          · rw [if_neg d0, if_pos d1, if_neg d0, if_pos d1, so W x _ hne]
          · rw [if_neg d0, if_neg d1, if_neg d0, if_neg d1, so S s _ hne]

set_option maxRecDepth 100000 in
set_option maxHeartbeats 8000000 in
theorem lightAt_any (g cap : Nat) (zs : List StarV) (u v : Int) (u0 : 0 ≤ u) (u1 : u ≤ 359999) (v0 : 0 ≤ v) (v1 : v ≤ 90000) (w : World) (hn : zs.length ≤ 6) (h1 : Row w g zs) (hgd : ∀ j, (hj : j < zs.length) → zs[j].good = true) (hs : SinesOK w) :
    Calls Tryz.prog 54 #[.slice (some ⟨g, 0, none⟩) zs.length cap, .agg #[.int .i64 u, .int .i64 v]] w fun e w' => ∃ b, e = .returned (.agg #[.int .i64 u, .int .i64 v, .slice (some ⟨b, 0, none⟩) zs.length zs.length]) ∧ w.heap.size ≤ b ∧ BRow w' b zs.length (zs.map (·.d)) (rawsL zs u v) (if sumK (rawsL zs u v) zs.length = 0 then List.replicate zs.length 0 else wgtL (rawsL zs u v)) ∧ Below w.heap.size w w' := by
  obtain ⟨sh, hsh⟩ : ∃ sh : List Int, sh = (if sumK (rawsL zs u v) zs.length = 0 then List.replicate zs.length 0 else wgtL (rawsL zs u v)) := ⟨_, rfl⟩
  rw [← hsh]
  have HSH := Lib.hid hsh
  clear hsh
  have BM := Lib.hid (fun w => beam_make zs.length (by omega) w)
  obtain ⟨W0, hW0⟩ : ∃ W0, W0 = ((w.alloc (.cells #[.int .i64 u, .int .i64 v] 58)).alloc (.cells #[.int .i64 0, .int .i64 0, .slice none 0 0] 61)) := ⟨_, rfl⟩
  have hB0 : Below w.heap.size w W0 := by rw [hW0]; exact ((Below.refl _ _).alloc (Nat.le_refl _) _).alloc (by simp) _
  have HD0 : Hid (W0.cell? ⟨w.heap.size, 0, none⟩ = some (.int .i64 u) ∧ W0.cell? ⟨w.heap.size, 1, none⟩ = some (.int .i64 v)) := Lib.hid (by rw [hW0]; exact ⟨by rw [World.cell?_alloc_lt _ _ _ (by simp)]; simp, by rw [World.cell?_alloc_lt _ _ _ (by simp)]; simp⟩)
  have HL0 : Hid (L3 W0 (w.heap.size + 1) 0 0 (.slice none 0 0)) := Lib.hid (by rw [hW0]; simpa using L3.new (w.alloc (.cells #[.int .i64 u, .int .i64 v] 58)) 61 0 0 (.slice none 0 0))
  have HS0 : Hid (W0.heap.size = w.heap.size + 1 + 1) := Lib.hid (by rw [hW0]; simp)
  have HB0 := Lib.hid hB0
  have HR0 := Lib.hid (h1.below hB0)
  have E0 := Lib.hid (hs.below hB0)
  have GD := Lib.hid hgd
  have HW := Lib.hid hW0
  clear hW0 hB0 h1 hs hgd
  obtain ⟨d0, d1⟩ := HD0.out
  have hl1 : w.heap.size < W0.heap.size := by rw [HS0.out]; omega
  have hl2 : w.heap.size < W0.heap.size + 1 := by omega
  have hl3 : w.heap.size ≠ W0.heap.size := by omega
  have hl4 : w.heap.size ≠ W0.heap.size + 1 := by omega
  have bm := BM.out
  go_enter Tryz.func54, Tryz.ntmps54
  go_upto_region 1 with fail
  rw [← HW.out]
  go_cut [5] from 6 (fun s5 wx => Made7 w zs.length u v W0 s5 wx)
  case first =>
    clear HW
    go_region
    all_goals
      go_wp2_with fail
      go_meet
      case rel =>
        first
        | exact made_drew (made_A w _ _ _ _)
        | exact made_drew (made_B w _ _ _ _)
  case rest =>
    obtain ⟨lb, gb, hs5, hlg, hlb, hgb, hL, hB, hbw⟩ := hcut
    subst hs5
    have hP : (zs.map (·.d)).length = zs.length := by simp
    have hWl : (rawsL zs u v).length = zs.length := rawsL_len zs u v
    have WB := Lib.hid (fun i (hi : i < zs.length) => (show 0 ≤ (rawsL zs u v).getD i 0 ∧ (rawsL zs u v).getD i 0 ≤ 1001 from by
      rw [List.getD, rawsL_at zs u v i hi]
      exact rawN_bd (GD.out i hi) u v))
    have WV := Lib.hid (fun i (hi : i < zs.length) => (show (rawsL zs u v).getD i 0 = rawN zs[i] u v from by rw [List.getD, rawsL_at zs u v i hi]; rfl))
    have PV := Lib.hid (fun i (hi : i < zs.length) => (show (zs.map (·.d)).getD i 0 = zs[i].d from by rw [List.getD, List.getElem?_map, List.getElem?_eq_getElem hi]; rfl))
    have hZl : (List.replicate zs.length (0 : Int)).length = zs.length := by simp
    have ZS : Hid (∀ i, (List.replicate zs.length (0 : Int)).set i 0 = List.replicate zs.length 0) := Lib.hid (fun i => by
      apply List.ext_getElem?
      intro k
      by_cases c : i = k
      · subst c
        by_cases hi : i < zs.length
        · rw [List.getElem?_set_self (by simpa using hi), List.getElem?_replicate, if_pos hi]
        · rw [List.getElem?_eq_none (by simpa using hi), List.getElem?_eq_none (by simpa using hi)]
      · rw [List.getElem?_set_ne c])
    have HL := Lib.hid hL
    have HB := Lib.hid hB
    have HBW := Lib.hid hbw
    clear hL hB hbw d0 d1
    generalize hPP : zs.map (·.d) = P at *
    generalize hWW : rawsL zs u v = W at *
    go_wp2_with fail
    go_loopg [15] (zs.length + 1) (fun kx s15 wr => ∃ k : Nat, s15 = .int .i64 (k : Int) ∧ k ≤ zs.length ∧ kx = zs.length + 1 - k ∧ Hid (BRow wr gb zs.length (fillL P zs.length k) (fillL W zs.length k) (List.replicate zs.length 0)) ∧ Hid (L3 wr lb u v (.slice (some ⟨gb, 0, none⟩) zs.length zs.length)) ∧ Hid (Below W0.heap.size W0 wr))
    case atStart => exact ⟨0, rfl, Nat.zero_le _, rfl, Lib.hid (by rw [fillL_zero, fillL_zero]; exact HB.out), HL, HBW⟩
    case round =>
      clear HB HL HBW
      obtain ⟨k, rfl, hk, rfl, HB, HL, HBW⟩ := hrel
      by_cases hlt : k < zs.length
      · have hat := (HR0.out.below HBW.out).at k hlt
        have WA := Lib.hid (fun w hs => weightAt_any zs[k].s zs[k].a zs[k].b zs[k].c zs[k].d u v (GD.out k hlt) u0 u1 (by omega) v1 w hs)
        have wv := WV.out k hlt
        have pv := PV.out k hlt
        have FP := fillL_set P zs.length k hP hlt _ pv.symm
        have FW := fillL_set W zs.length k hWl hlt _ wv.symm
        have k0 : (0 : Int) ≤ (k : Int) := by omega
        have k1 : (k : Int) < (zs.length : Int) := by omega
        have l2 := HL.out.c2
        have lbl := HL.out.lt
        have gbl := HB.out.lt
        have s0 := HBW.out.size
        have q0 := (HBW.out.cell (p := ⟨w.heap.size, 0, none⟩) hl1).trans HD0.out.1
        have q1 := (HBW.out.cell (p := ⟨w.heap.size, 1, none⟩) hl1).trans HD0.out.2
        generalize zs[k] = x at *
        obtain ⟨xs, xa, xb, xc, xd⟩ := x
        obtain ⟨c0, c1, c2, c3, c4⟩ := hat
        simp only at c0 c1 c2 c3 c4 WA FP FW
        clear wv pv
        generalize rawN ⟨xs, xa, xb, xc, xd⟩ u v = rx at *
        obtain ⟨W5, hW5⟩ : ∃ W5, W5 = wr.alloc (.cells #[.string xs, .int .i64 xa, .int .i64 xb, .int .i64 xc, .int .i64 xd] 37) := ⟨_, rfl⟩
        have hb5 : Below wr.heap.size wr W5 := by rw [hW5]; exact (Below.refl _ _).alloc (Nat.le_refl _) _
        have K6 : Hid (W5.cell? ⟨lb, 2, none⟩ = some (.slice (some ⟨gb, 0, none⟩) zs.length zs.length) ∧ W5.cell? ⟨wr.heap.size, 0, none⟩ = some (.string xs) ∧ W5.cell? ⟨wr.heap.size, 1, none⟩ = some (.int .i64 xa) ∧ W5.cell? ⟨wr.heap.size, 2, none⟩ = some (.int .i64 xb) ∧ W5.cell? ⟨wr.heap.size, 3, none⟩ = some (.int .i64 xc) ∧ W5.cell? ⟨wr.heap.size, 4, none⟩ = some (.int .i64 xd) ∧ W5.cell? ⟨w.heap.size, 0, none⟩ = some (.int .i64 u) ∧ W5.cell? ⟨w.heap.size, 1, none⟩ = some (.int .i64 v) ∧ Below w.heap.size w W5) := Lib.hid (by rw [hW5]; exact ⟨by rw [World.cell?_alloc_lt _ _ _ lbl]; exact l2, by simp, by simp, by simp, by simp, by simp, by rw [World.cell?_alloc_lt _ _ _ (show w.heap.size < wr.heap.size by omega)]; exact q0, by rw [World.cell?_alloc_lt _ _ _ (show w.heap.size < wr.heap.size by omega)]; exact q1, (HB0.out.trans (HBW.out.mono HB0.out.size)).alloc (HB0.out.trans (HBW.out.mono HB0.out.size)).size _⟩)
        have BR5 := Lib.hid (HB.out.below hb5)
        have LR5 := Lib.hid (HL.out.on hb5)
        have BW5 := Lib.hid (HBW.out.trans (hb5.mono HBW.out.size))
        have E5 := Lib.hid (E0.out.below BW5.out)
        have s5 : W5.heap.size = wr.heap.size + 1 := by rw [hW5]; simp
        have hw0 : w.heap.size < W0.heap.size := hl1
        have HW5 := Lib.hid hW5
        clear hW5 hb5 HB HL HBW l2 q0 q1
        obtain ⟨t0, t1, t2, t3, t4, t5, t6, t7, t8⟩ := K6.out
        go_wp2_with fail
        rw [← HW5.out]
        clear HW5 c0 c1 c2 c3 c4
        go_region_held3 (fun w' => w'.cell? ⟨lb, 2, none⟩ = some (.slice (some ⟨gb, 0, none⟩) zs.length zs.length) ∧ w'.cell? ⟨wr.heap.size, 0, none⟩ = some (.string xs) ∧ w'.cell? ⟨wr.heap.size, 1, none⟩ = some (.int .i64 xa) ∧ w'.cell? ⟨wr.heap.size, 2, none⟩ = some (.int .i64 xb) ∧ w'.cell? ⟨wr.heap.size, 3, none⟩ = some (.int .i64 xc) ∧ w'.cell? ⟨wr.heap.size, 4, none⟩ = some (.int .i64 xd) ∧ w'.cell? ⟨w.heap.size, 0, none⟩ = some (.int .i64 u) ∧ w'.cell? ⟨w.heap.size, 1, none⟩ = some (.int .i64 v) ∧ Below w.heap.size w w') (first | (exact keepW8 K6.out (bel_drew (Below.refl _ _))) | (exact keepW8 K6.out y1) | (exact setW8 (setW8 (setW8 (keepW8 K6.out y1) (by omega) (by omega) (by omega) (by omega) (by omega) (by omega) (by omega) (by omega) (by omega)) (by omega) (by omega) (by omega) (by omega) (by omega) (by omega) (by omega) (by omega) (by omega)) (by omega) (by omega) (by omega) (by omega) (by omega) (by omega) (by omega) (by omega) (by omega)) | go_keep) ((first
          | (go_at_call 45; (with_reducible refine (WA.out _ (E5.out.below (bel_drew (Below.refl _ _)))).mono ?_); rintro e x1 ⟨rfl, hx1⟩; have y1 := undrewG hx1; have rb := BR5.out.below y1; obtain ⟨p0, p1, p2⟩ := rb.at k hlt; have f0 := rb.free (k * 3); have f1 := rb.free (k * 3 + 1); have f2 := rb.free (k * 3 + 2))))
        all_goals
          rename_i held
          clear held
          have PT := rb.put3 k hlt (fillL_len P zs.length k hP hk) (fillL_len W zs.length k hWl hk) hZl xd rx 0
          rw [FP, FW, ZS.out] at PT
          have HB7 := Lib.hid PT
          have L6 := LR5.out.on y1
          have HL7 : Hid (L3 (((x1.setCell ⟨gb, k * 3, none⟩ (.int .i64 xd)).setCell ⟨gb, k * 3 + 1, none⟩ (.int .i64 rx)).setCell ⟨gb, k * 3 + 2, none⟩ (.int .i64 0)) lb u v (.slice (some ⟨gb, 0, none⟩) zs.length zs.length)) := Lib.hid (L6.block (by rw [Go.Deep.blk_setCell_other _ _ _ _ hlg, Go.Deep.blk_setCell_other _ _ _ _ hlg, Go.Deep.blk_setCell_other _ _ _ _ hlg]))
          have HW7 : Hid (Below W0.heap.size W0 (((x1.setCell ⟨gb, k * 3, none⟩ (.int .i64 xd)).setCell ⟨gb, k * 3 + 1, none⟩ (.int .i64 rx)).setCell ⟨gb, k * 3 + 2, none⟩ (.int .i64 0))) := Lib.hid (((((BW5.out.trans (y1.mono BW5.out.size)).setCell hgb _).setCell hgb _).setCell hgb _))
          clear PT L6 rb p0 p1 p2 f0 f1 f2 t0 t1 t2 t3 t4 t5 t6 t7 t8
          go_wp2_with fail
          go_roundg (zs.length + 1 - (k + 1))
          case measure => omega
          case rel => exact ⟨k + 1, by go_num, by omega, rfl, HB7, HL7, HW7⟩
      · obtain rfl : k = zs.length := by omega
        rw [fillL_all P _ hP, fillL_all W _ hWl] at HB
        have l0 := HL.out.c0
        have l1 := HL.out.c1
        have l2 := HL.out.c2
        have ID := Lib.hid (isDark_any gb zs.length zs.length P W (List.replicate zs.length 0) u v wr (by omega) (fun i hi => (WB.out i hi).1) HB.out)
        have HRS := Lib.hid (HL0.out.on HBW.out)
        have hrs : w.heap.size + 1 < W0.heap.size := HL0.out.lt
        by_cases hz : sumK W zs.length = 0
        · have hse := HSH.out.trans (if_pos hz)
          subst hse
          rw [decide_eq_true hz] at ID
          clear hz
          go_wp2_with fail
          refine ID.out.mono ?_
          rintro e w6 ⟨rfl, hb6⟩
          have HB6 := Lib.hid (HB.out.below hb6)
          have HL6 := HL.out.on hb6
          have HS6 := HRS.out.on hb6
          have HBW6 := Lib.hid (HBW.out.trans (hb6.mono HBW.out.size))
          clear hb6 HB HL HBW HRS l0 l1 l2
          have PT := HS6.put u v (.slice (some ⟨gb, 0, none⟩) zs.length zs.length)
          have HF : Hid (BRow (((w6.setCell ⟨w.heap.size + 1, 0, none⟩ (.int .i64 u)).setCell ⟨w.heap.size + 1, 1, none⟩ (.int .i64 v)).setCell ⟨w.heap.size + 1, 2, none⟩ (.slice (some ⟨gb, 0, none⟩) zs.length zs.length)) gb zs.length P W (List.replicate zs.length 0)) := Lib.hid (World.rowIs.setOther (World.rowIs.setOther (World.rowIs.setOther HB6.out (show gb ≠ w.heap.size + 1 by omega) _) (show gb ≠ w.heap.size + 1 by omega) _) (show gb ≠ w.heap.size + 1 by omega) _)
          have HG : Hid (Below w.heap.size w (((w6.setCell ⟨w.heap.size + 1, 0, none⟩ (.int .i64 u)).setCell ⟨w.heap.size + 1, 1, none⟩ (.int .i64 v)).setCell ⟨w.heap.size + 1, 2, none⟩ (.slice (some ⟨gb, 0, none⟩) zs.length zs.length))) := Lib.hid ((((HB0.out.trans (HBW6.out.mono HB0.out.size)).setCell (show w.heap.size ≤ w.heap.size + 1 by omega) _).setCell (show w.heap.size ≤ w.heap.size + 1 by omega) _).setCell (show w.heap.size ≤ w.heap.size + 1 by omega) _)
          obtain ⟨l0, l1, l2, _, _, _⟩ := HL6
          obtain ⟨r0, r1, r2, r3, r4, r5⟩ := HS6
          obtain ⟨z0, z1, z2, _, _, _⟩ := PT
          go_wp2_with fail
          refine bodyPost_ret (v := .agg #[.int .i64 u, .int .i64 v, .slice (some ⟨gb, 0, none⟩) zs.length zs.length]) (by first | (simp [results, Tryz.results54, go_sem]; done) | (simp [results, Tryz.results54, go_sem, *]; done)) rfl ⟨gb, rfl, by omega, by rw [hPP, hWW]; exact HF.out, HG.out⟩
        · have hse := HSH.out.trans (if_neg hz)
          subst hse
          rw [decide_eq_false hz] at ID
          have hn0 : 0 < zs.length := by
            rcases Nat.eq_zero_or_pos zs.length with h | h
            · rw [h] at hz; exact absurd rfl hz
            · exact h
          have SO := Lib.hid (fun X h => shareOut_any gb zs.length P W X hn0 hn hWl WB.out hz h)
          clear hz
          go_wp2_with fail
          refine ID.out.mono ?_
          rintro e w6 ⟨rfl, hb6⟩
          have HB6 := Lib.hid (HB.out.below hb6)
          have HL6 := Lib.hid (HL.out.on hb6)
          have HS6 := Lib.hid (HRS.out.on hb6)
          have HBW6 := Lib.hid (HBW.out.trans (hb6.mono HBW.out.size))
          clear hb6 HB HL HBW HRS l0 l1 l2
          have l2 := HL6.out.c2
          go_wp2_with fail
          refine (SO.out _ HB6.out).mono ?_
          rintro e w7 ⟨rfl, hb7, hg7⟩
          have HB7 := Lib.hid hb7
          have HL7 := HL6.out.block (hg7.block lb HL6.out.lt (fun e => hlg (by injection e)))
          have HS7 := HS6.out.block (hg7.block (w.heap.size + 1) HS6.out.lt (fun e => by injection e with e; omega))
          have HBW7 := Lib.hid (HBW6.out.grown hg7 HBW6.out.size (fun kk hk => by injection hk with hk; omega))
          clear hb7 hg7 HB6 HL6 HS6 HBW6 l2
          have PT := HS7.put u v (.slice (some ⟨gb, 0, none⟩) zs.length zs.length)
          have HF : Hid (BRow (((w7.setCell ⟨w.heap.size + 1, 0, none⟩ (.int .i64 u)).setCell ⟨w.heap.size + 1, 1, none⟩ (.int .i64 v)).setCell ⟨w.heap.size + 1, 2, none⟩ (.slice (some ⟨gb, 0, none⟩) zs.length zs.length)) gb zs.length P W (wgtL W)) := Lib.hid (World.rowIs.setOther (World.rowIs.setOther (World.rowIs.setOther HB7.out (show gb ≠ w.heap.size + 1 by omega) _) (show gb ≠ w.heap.size + 1 by omega) _) (show gb ≠ w.heap.size + 1 by omega) _)
          have HG : Hid (Below w.heap.size w (((w7.setCell ⟨w.heap.size + 1, 0, none⟩ (.int .i64 u)).setCell ⟨w.heap.size + 1, 1, none⟩ (.int .i64 v)).setCell ⟨w.heap.size + 1, 2, none⟩ (.slice (some ⟨gb, 0, none⟩) zs.length zs.length))) := Lib.hid ((((HB0.out.trans (HBW7.out.mono HB0.out.size)).setCell (show w.heap.size ≤ w.heap.size + 1 by omega) _).setCell (show w.heap.size ≤ w.heap.size + 1 by omega) _).setCell (show w.heap.size ≤ w.heap.size + 1 by omega) _)
          obtain ⟨l0, l1, l2, _, _, _⟩ := HL7
          obtain ⟨r0, r1, r2, r3, r4, r5⟩ := HS7
          obtain ⟨z0, z1, z2, _, _, _⟩ := PT
          go_wp2_with fail
          refine bodyPost_ret (v := .agg #[.int .i64 u, .int .i64 v, .slice (some ⟨gb, 0, none⟩) zs.length zs.length]) (by first | (simp [results, Tryz.results54, go_sem]; done) | (simp [results, Tryz.results54, go_sem, *]; done)) rfl ⟨gb, rfl, by omega, by rw [hPP, hWW]; exact HF.out, HG.out⟩
theorem fin_Bm7 : True := trivial
end

section
open Go.RowKit
set_option linter.unusedVariables false

theorem keepI1 {w W W' : World} {b : Nat} {v0 v1 v2 v3 v4 : Value} (h : W.cell? ⟨b, 0, none⟩ = some v0 ∧ W.cell? ⟨b, 1, none⟩ = some v1 ∧ W.cell? ⟨b, 2, none⟩ = some v2 ∧ W.cell? ⟨b, 3, none⟩ = some v3 ∧ W.cell? ⟨b, 4, none⟩ = some v4 ∧ Below w.heap.size w W) (hb : Below W.heap.size W W') :
    W'.cell? ⟨b, 0, none⟩ = some v0 ∧ W'.cell? ⟨b, 1, none⟩ = some v1 ∧ W'.cell? ⟨b, 2, none⟩ = some v2 ∧ W'.cell? ⟨b, 3, none⟩ = some v3 ∧ W'.cell? ⟨b, 4, none⟩ = some v4 ∧ Below w.heap.size w W' := by
  obtain ⟨h0, h1, h2, h3, h4, hB⟩ := h
  have l0 := World.block_lt_of_cell? W ⟨b, 0, none⟩ h0
  obtain ⟨c, _⟩ := bcell hb
  exact ⟨(c _ _ l0).trans h0, (c _ _ l0).trans h1, (c _ _ l0).trans h2, (c _ _ l0).trans h3, (c _ _ l0).trans h4, hB.trans (hb.mono hB.size)⟩
theorem keepI2 {w W W' : World} {b g o : Nat} {v0 v1 v2 v3 v4 u0 u1 u2 u3 u4 : Value} (h : W.cell? ⟨b, 0, none⟩ = some v0 ∧ W.cell? ⟨b, 1, none⟩ = some v1 ∧ W.cell? ⟨b, 2, none⟩ = some v2 ∧ W.cell? ⟨b, 3, none⟩ = some v3 ∧ W.cell? ⟨b, 4, none⟩ = some v4 ∧ W.cell? ⟨g, o, none⟩ = some u0 ∧ W.cell? ⟨g, o + 1, none⟩ = some u1 ∧ W.cell? ⟨g, o + 2, none⟩ = some u2 ∧ W.cell? ⟨g, o + 3, none⟩ = some u3 ∧ W.cell? ⟨g, o + 4, none⟩ = some u4 ∧ Below w.heap.size w W) (hb : Below W.heap.size W W') :
    W'.cell? ⟨b, 0, none⟩ = some v0 ∧ W'.cell? ⟨b, 1, none⟩ = some v1 ∧ W'.cell? ⟨b, 2, none⟩ = some v2 ∧ W'.cell? ⟨b, 3, none⟩ = some v3 ∧ W'.cell? ⟨b, 4, none⟩ = some v4 ∧ W'.cell? ⟨g, o, none⟩ = some u0 ∧ W'.cell? ⟨g, o + 1, none⟩ = some u1 ∧ W'.cell? ⟨g, o + 2, none⟩ = some u2 ∧ W'.cell? ⟨g, o + 3, none⟩ = some u3 ∧ W'.cell? ⟨g, o + 4, none⟩ = some u4 ∧ Below w.heap.size w W' := by
  obtain ⟨h0, h1, h2, h3, h4, k0, k1, k2, k3, k4, hB⟩ := h
  have l0 := World.block_lt_of_cell? W ⟨b, 0, none⟩ h0
  have l1 := World.block_lt_of_cell? W ⟨g, o, none⟩ k0
  obtain ⟨c, _⟩ := bcell hb
  exact ⟨(c _ _ l0).trans h0, (c _ _ l0).trans h1, (c _ _ l0).trans h2, (c _ _ l0).trans h3, (c _ _ l0).trans h4, (c _ _ l1).trans k0, (c _ _ l1).trans k1, (c _ _ l1).trans k2, (c _ _ l1).trans k3, (c _ _ l1).trans k4, hB.trans (hb.mono hB.size)⟩
/-- What cmp.Compare answers of two texts. -/
def cmpS (x y : ByteArray) : Int := if Op.bytesLess x.toList y.toList = true then -1 else if (x.toList == y.toList) = true then 0 else 1
set_option maxHeartbeats 400000 in
theorem nanS_any (x : ByteArray) (w : World) : Calls Tryz.prog 150 #[.string x] w fun e w' => e = .returned (.bool false) ∧ w = w' := by
  have h : (x.toList != x.toList) = false := by simp
  have h2 : (x.toList == x.toList) = true := by simp
  go_enter Tryz.func150, Tryz.ntmps150
  go_wp2_with fail
  go_ret
  exact ⟨by simp, rfl⟩
set_option maxHeartbeats 400000 in
theorem cmpS_any (x y : ByteArray) (w : World) : Calls Tryz.prog 117 #[.string x, .string y] w fun e w' => e = .returned (.int .i64 (cmpS x y)) ∧ w = w' := by
  have NX := Lib.hid (fun w => nanS_any x w)
  have NY := Lib.hid (fun w => nanS_any y w)
  unfold cmpS
  cases h1 : Op.bytesLess x.toList y.toList with
  | true =>
    rw [if_pos rfl]
    go_enter Tryz.func117, Tryz.ntmps117
    go_wp2_with fail
    refine (NX.out _).mono ?_
    rintro e w' ⟨rfl, rfl⟩
    go_wp2_with fail
    refine (NY.out _).mono ?_
    rintro e w' ⟨rfl, rfl⟩
    go_wp2_with fail
    go_ret
    exact ⟨rfl, rfl⟩
  | false =>
    rw [if_neg (by simp)]
    cases h2 : (x.toList == y.toList) with
    | true =>
      rw [if_pos rfl]
      go_enter Tryz.func117, Tryz.ntmps117
      go_wp2_with fail
      refine (NX.out _).mono ?_
      rintro e w' ⟨rfl, rfl⟩
      go_wp2_with fail
      refine (NY.out _).mono ?_
      rintro e w' ⟨rfl, rfl⟩
      go_wp2_with fail
      go_ret
      exact ⟨rfl, rfl⟩
    | false =>
      rw [if_neg (by simp)]
      go_enter Tryz.func117, Tryz.ntmps117
      go_wp2_with fail
      refine (NX.out _).mono ?_
      rintro e w' ⟨rfl, rfl⟩
      go_wp2_with fail
      refine (NY.out _).mono ?_
      rintro e w' ⟨rfl, rfl⟩
      go_wp2_with fail
      go_ret
      exact ⟨rfl, rfl⟩
theorem cmpS_lt (x y : ByteArray) : (cmpS x y < 0) ↔ Op.bytesLess x.toList y.toList = true := by
  unfold cmpS
  cases Op.bytesLess x.toList y.toList with
  | true => simp
  | false => cases (x.toList == y.toList) <;> simp

set_option maxHeartbeats 400000 in
theorem nameOf_any (xs : ByteArray) (xa xb xc xd : Int) (w : World) :
    Calls Tryz.prog 85 #[.agg #[.string xs, .int .i64 xa, .int .i64 xb, .int .i64 xc, .int .i64 xd]] w fun e w' => e = .returned (.string xs) ∧ Below w.heap.size w w' := by
  go_enter Tryz.func85, Tryz.ntmps85
  go_wp2_with fail
  go_ret
  refine ⟨rfl, ?_⟩
  repeat (first | exact Below.refl _ _ | refine Below.setCell ?_ (by first | (simp; done) | omega | (simp; omega)) _ | refine Below.alloc ?_ (by first | (simp; done) | omega | (simp; omega)) _ | refine bel_drew ?_)

theorem keepI3 {w W W' : World} {b g h : Nat} {v0 v1 v2 v3 v4 u0 u1 u2 u3 u4 q : Value} (hh : W.cell? ⟨b, 0, none⟩ = some v0 ∧ W.cell? ⟨b, 1, none⟩ = some v1 ∧ W.cell? ⟨b, 2, none⟩ = some v2 ∧ W.cell? ⟨b, 3, none⟩ = some v3 ∧ W.cell? ⟨b, 4, none⟩ = some v4 ∧ W.cell? ⟨g, 0, none⟩ = some u0 ∧ W.cell? ⟨g, 1, none⟩ = some u1 ∧ W.cell? ⟨g, 2, none⟩ = some u2 ∧ W.cell? ⟨g, 3, none⟩ = some u3 ∧ W.cell? ⟨g, 4, none⟩ = some u4 ∧ W.cell? ⟨h, 0, none⟩ = some q ∧ Below w.heap.size w W) (hb : Below W.heap.size W W') :
    W'.cell? ⟨b, 0, none⟩ = some v0 ∧ W'.cell? ⟨b, 1, none⟩ = some v1 ∧ W'.cell? ⟨b, 2, none⟩ = some v2 ∧ W'.cell? ⟨b, 3, none⟩ = some v3 ∧ W'.cell? ⟨b, 4, none⟩ = some v4 ∧ W'.cell? ⟨g, 0, none⟩ = some u0 ∧ W'.cell? ⟨g, 1, none⟩ = some u1 ∧ W'.cell? ⟨g, 2, none⟩ = some u2 ∧ W'.cell? ⟨g, 3, none⟩ = some u3 ∧ W'.cell? ⟨g, 4, none⟩ = some u4 ∧ W'.cell? ⟨h, 0, none⟩ = some q ∧ Below w.heap.size w W' := by
  obtain ⟨h0, h1, h2, h3, h4, k0, k1, k2, k3, k4, hq, hB⟩ := hh
  have l0 := World.block_lt_of_cell? W ⟨b, 0, none⟩ h0
  have l1 := World.block_lt_of_cell? W ⟨g, 0, none⟩ k0
  have l2 := World.block_lt_of_cell? W ⟨h, 0, none⟩ hq
  obtain ⟨c, _⟩ := bcell hb
  exact ⟨(c _ _ l0).trans h0, (c _ _ l0).trans h1, (c _ _ l0).trans h2, (c _ _ l0).trans h3, (c _ _ l0).trans h4, (c _ _ l1).trans k0, (c _ _ l1).trans k1, (c _ _ l1).trans k2, (c _ _ l1).trans k3, (c _ _ l1).trans k4, (c _ _ l2).trans hq, hB.trans (hb.mono hB.size)⟩
set_option maxRecDepth 100000 in
set_option maxHeartbeats 4000000 in
theorem nameCmp_any (ps xs : ByteArray) (pa pb pc pd xa xb xc xd : Int) (p : Nat) (w : World) (hp : w.cell? ⟨p, 0, none⟩ = some (.func (.func 85) #[] #[])) :
    Calls Tryz.prog 116 #[.agg #[.string ps, .int .i64 pa, .int .i64 pb, .int .i64 pc, .int .i64 pd], .agg #[.string xs, .int .i64 xa, .int .i64 xb, .int .i64 xc, .int .i64 xd], .pointer (some ⟨p, 0, none⟩)] w fun e w' => e = .returned (.int .i64 (cmpS ps xs)) ∧ Below w.heap.size w w' := by
  have NP := Lib.hid (fun w => nameOf_any ps pa pb pc pd w)
  have NX := Lib.hid (fun w => nameOf_any xs xa xb xc xd w)
  have CC := Lib.hid (fun w => cmpS_any ps xs w)
  have hpl := World.block_lt_of_cell? w ⟨p, 0, none⟩ hp
  obtain ⟨n, hn⟩ : ∃ n, n = cmpS ps xs := ⟨_, rfl⟩
  rw [← hn] at CC ⊢
  clear hn
  obtain ⟨W0, hW0⟩ : ∃ W0, W0 = (w.alloc (Obj.cells #[.string ps, .int .i64 pa, .int .i64 pb, .int .i64 pc, .int .i64 pd] 37)).alloc (Obj.cells #[.string xs, .int .i64 xa, .int .i64 xb, .int .i64 xc, .int .i64 xd] 37) := ⟨_, rfl⟩
  have hB0 : Below w.heap.size w W0 := by rw [hW0]; exact ((Below.refl _ w).alloc (Nat.le_refl _) _).alloc (by simp) _
  have e0 : W0.cell? ⟨w.heap.size, 0, none⟩ = some (.string ps) := by rw [hW0, World.cell?_alloc_lt _ _ _ (by simp)]; simp
  have e1 : W0.cell? ⟨w.heap.size, 1, none⟩ = some (.int .i64 pa) := by rw [hW0, World.cell?_alloc_lt _ _ _ (by simp)]; simp
  have e2 : W0.cell? ⟨w.heap.size, 2, none⟩ = some (.int .i64 pb) := by rw [hW0, World.cell?_alloc_lt _ _ _ (by simp)]; simp
  have e3 : W0.cell? ⟨w.heap.size, 3, none⟩ = some (.int .i64 pc) := by rw [hW0, World.cell?_alloc_lt _ _ _ (by simp)]; simp
  have e4 : W0.cell? ⟨w.heap.size, 4, none⟩ = some (.int .i64 pd) := by rw [hW0, World.cell?_alloc_lt _ _ _ (by simp)]; simp
  have d0 : W0.cell? ⟨w.heap.size + 1, 0, none⟩ = some (.string xs) := by rw [hW0]; first | (simp; done) | (rw [show w.heap.size + 1 = (w.alloc (Obj.cells #[.string ps, .int .i64 pa, .int .i64 pb, .int .i64 pc, .int .i64 pd] 37)).heap.size by simp]; simp; done) | (rw [show w.heap.size + 1 = (w.alloc (Obj.cells #[.string ps, .int .i64 pa, .int .i64 pb, .int .i64 pc, .int .i64 pd] 37)).heap.size by simp, World.cell?_alloc_at]; rfl)
  have d1 : W0.cell? ⟨w.heap.size + 1, 1, none⟩ = some (.int .i64 xa) := by rw [hW0]; first | (simp; done) | (rw [show w.heap.size + 1 = (w.alloc (Obj.cells #[.string ps, .int .i64 pa, .int .i64 pb, .int .i64 pc, .int .i64 pd] 37)).heap.size by simp]; simp; done) | (rw [show w.heap.size + 1 = (w.alloc (Obj.cells #[.string ps, .int .i64 pa, .int .i64 pb, .int .i64 pc, .int .i64 pd] 37)).heap.size by simp, World.cell?_alloc_at]; rfl)
  have d2 : W0.cell? ⟨w.heap.size + 1, 2, none⟩ = some (.int .i64 xb) := by rw [hW0]; first | (simp; done) | (rw [show w.heap.size + 1 = (w.alloc (Obj.cells #[.string ps, .int .i64 pa, .int .i64 pb, .int .i64 pc, .int .i64 pd] 37)).heap.size by simp]; simp; done) | (rw [show w.heap.size + 1 = (w.alloc (Obj.cells #[.string ps, .int .i64 pa, .int .i64 pb, .int .i64 pc, .int .i64 pd] 37)).heap.size by simp, World.cell?_alloc_at]; rfl)
  have d3 : W0.cell? ⟨w.heap.size + 1, 3, none⟩ = some (.int .i64 xc) := by rw [hW0]; first | (simp; done) | (rw [show w.heap.size + 1 = (w.alloc (Obj.cells #[.string ps, .int .i64 pa, .int .i64 pb, .int .i64 pc, .int .i64 pd] 37)).heap.size by simp]; simp; done) | (rw [show w.heap.size + 1 = (w.alloc (Obj.cells #[.string ps, .int .i64 pa, .int .i64 pb, .int .i64 pc, .int .i64 pd] 37)).heap.size by simp, World.cell?_alloc_at]; rfl)
  have d4 : W0.cell? ⟨w.heap.size + 1, 4, none⟩ = some (.int .i64 xd) := by rw [hW0]; first | (simp; done) | (rw [show w.heap.size + 1 = (w.alloc (Obj.cells #[.string ps, .int .i64 pa, .int .i64 pb, .int .i64 pc, .int .i64 pd] 37)).heap.size by simp]; simp; done) | (rw [show w.heap.size + 1 = (w.alloc (Obj.cells #[.string ps, .int .i64 pa, .int .i64 pb, .int .i64 pc, .int .i64 pd] 37)).heap.size by simp, World.cell?_alloc_at]; rfl)
  have hq := (hB0.cell (p := ⟨p, 0, none⟩) hpl).trans hp
  have KX : Hid (W0.cell? ⟨w.heap.size, 0, none⟩ = some (.string ps) ∧ W0.cell? ⟨w.heap.size, 1, none⟩ = some (.int .i64 pa) ∧ W0.cell? ⟨w.heap.size, 2, none⟩ = some (.int .i64 pb) ∧ W0.cell? ⟨w.heap.size, 3, none⟩ = some (.int .i64 pc) ∧ W0.cell? ⟨w.heap.size, 4, none⟩ = some (.int .i64 pd) ∧ W0.cell? ⟨w.heap.size + 1, 0, none⟩ = some (.string xs) ∧ W0.cell? ⟨w.heap.size + 1, 1, none⟩ = some (.int .i64 xa) ∧ W0.cell? ⟨w.heap.size + 1, 2, none⟩ = some (.int .i64 xb) ∧ W0.cell? ⟨w.heap.size + 1, 3, none⟩ = some (.int .i64 xc) ∧ W0.cell? ⟨w.heap.size + 1, 4, none⟩ = some (.int .i64 xd) ∧ W0.cell? ⟨p, 0, none⟩ = some (.func (.func 85) #[] #[]) ∧ Below w.heap.size w W0) := Lib.hid ⟨e0, e1, e2, e3, e4, d0, d1, d2, d3, d4, hq, hB0⟩
  have HW := Lib.hid hW0
  clear hW0 hB0 e0 e1 e2 e3 e4 d0 d1 d2 d3 d4 hq
  go_enter Tryz.func116, Tryz.ntmps116
  go_wp2_with fail
  rw [← HW.out]
  clear HW hp
  go_region_held3 (fun W => W.cell? ⟨w.heap.size, 0, none⟩ = some (.string ps) ∧ W.cell? ⟨w.heap.size, 1, none⟩ = some (.int .i64 pa) ∧ W.cell? ⟨w.heap.size, 2, none⟩ = some (.int .i64 pb) ∧ W.cell? ⟨w.heap.size, 3, none⟩ = some (.int .i64 pc) ∧ W.cell? ⟨w.heap.size, 4, none⟩ = some (.int .i64 pd) ∧ W.cell? ⟨w.heap.size + 1, 0, none⟩ = some (.string xs) ∧ W.cell? ⟨w.heap.size + 1, 1, none⟩ = some (.int .i64 xa) ∧ W.cell? ⟨w.heap.size + 1, 2, none⟩ = some (.int .i64 xb) ∧ W.cell? ⟨w.heap.size + 1, 3, none⟩ = some (.int .i64 xc) ∧ W.cell? ⟨w.heap.size + 1, 4, none⟩ = some (.int .i64 xd) ∧ W.cell? ⟨p, 0, none⟩ = some (.func (.func 85) #[] #[]) ∧ Below w.heap.size w W) (first | (exact keepI3 KX.out (drewS W0)) | (exact keepI3 KX.out y2) | (exact keepI3 KX.out y1) | go_keep) ((first
    | (go_at_call 85; (first
      | ((with_reducible refine (NP.out _).mono ?_); rintro e x1 ⟨rfl, hx1⟩; (first | have y1 := undrewS hx1 | have y2 := y1.trans (hx1.mono y1.size)))
      | ((with_reducible refine (NX.out _).mono ?_); rintro e x2 ⟨rfl, hx2⟩; (first | have y1 := undrewS hx2 | have y2 := y1.trans (hx2.mono y1.size)))))
    | (refine (CC.out _).mono ?_; rintro e w' ⟨rfl, rfl⟩)))
  all_goals
    rename_i held
    have HH := Lib.hid held.2.2.2.2.2.2.2.2.2.2.2
    clear held KX
    go_wp2_with fail
    go_ret
    exact ⟨rfl, HH.out⟩

set_option maxRecDepth 100000 in
set_option maxHeartbeats 4000000 in
theorem incr_any (g cap p : Nat) (zs : List StarV) (w : World) (hb : zs.length ≤ 1048577) (h1 : Row w g zs) (hok : ∀ j, (h : j < zs.length) → zs[j].ok) (hp : w.cell? ⟨p, 0, none⟩ = some (.func (.func 85) #[] #[])) :
    Calls Tryz.prog 115 #[.slice (some ⟨g, 0, none⟩) zs.length cap, .int .i64 6, .func (.func 40) #[] #[], .func (.func 116) #[] #[.pointer (some ⟨p, 0, none⟩)]] w fun e w' => e = .returned (.bool (okL zs)) ∧ Below w.heap.size w w' := by
  have H1 := Lib.hid h1
  have HK := Lib.hid hok
  have KN := Lib.hid (okZ_next zs)
  have KS := Lib.hid (okZ_stop zs)
  have KE : Hid (okL zs = (okZ zs zs.length && decide (zs.length ≤ 6))) := Lib.hid rfl
  generalize okL zs = r at *
  have hpl := World.block_lt_of_cell? w ⟨p, 0, none⟩ hp
  have HP := Lib.hid hp
  clear h1 hok hp
  by_cases hmo : 6 < zs.length
  · have hr : r = false := by rw [KE.out, show decide (zs.length ≤ 6) = false by simpa using hmo, Bool.and_false]
    subst hr
    have hmo' : (6 : Int) < (zs.length : Int) := by omega
    go_enter Tryz.func115, Tryz.ntmps115
    go_wp2_with fail
    go_ret
    exact ⟨rfl, Below.refl _ _⟩
  · have hmo' : ¬ (6 : Int) < (zs.length : Int) := by omega
    have hE : r = okZ zs zs.length := by rw [KE.out, show decide (zs.length ≤ 6) = true by simpa using Nat.not_lt.1 hmo, Bool.and_true]
    have HE := Lib.hid hE
    clear hE KE
    go_enter Tryz.func115, Tryz.ntmps115
    go_wp2_with fail
    go_loopg [17] (zs.length + 1) (fun kx s17 wr => ∃ j : Nat, s17 = .int .i64 (j : Int) ∧ j ≤ zs.length ∧ kx = zs.length + 1 - j ∧ Hid (okZ zs j = true) ∧ Hid (Below w.heap.size w wr))
    case atStart => exact ⟨0, rfl, Nat.zero_le _, rfl, Lib.hid rfl, Lib.hid (Below.refl _ _)⟩
    case round =>
      obtain ⟨j, rfl, hj, rfl, HO, HB⟩ := hrel
      by_cases hlt : j < zs.length
      · have hR := H1.out.below HB.out
        obtain ⟨c0, c1, c2, c3, c4⟩ := hR.at j hlt
        have V := Lib.hid (fun w => projValid_any zs[j].s zs[j].a zs[j].b zs[j].c zs[j].d (HK.out j hlt).1 w)
        have HS := Lib.hid (KS.out j hlt)
        have HN := Lib.hid (KN.out j)
        have j0 : (0 : Int) ≤ (j : Int) := by omega
        have j1 : (j : Int) < (zs.length : Int) := by omega
        have GD := getD_at zs j hlt
        have hgd : zs[j].good = starB zs[j].s zs[j].a zs[j].b zs[j].c zs[j].d := rfl
        rw [← hgd] at V
        clear hgd
        obtain ⟨W0, hW0⟩ : ∃ W0, W0 = wr.alloc (Obj.cells #[.string zs[j].s, .int .i64 zs[j].a, .int .i64 zs[j].b, .int .i64 zs[j].c, .int .i64 zs[j].d] 37) := ⟨_, rfl⟩
        have hB0 : Below wr.heap.size wr W0 := by rw [hW0]; exact (Below.refl _ wr).alloc (Nat.le_refl _) _
        have HB0 : Below w.heap.size w W0 := HB.out.trans (hB0.mono HB.out.size)
        have e0 : W0.cell? ⟨wr.heap.size, 0, none⟩ = some (.string zs[j].s) := by rw [hW0]; simp
        have e1 : W0.cell? ⟨wr.heap.size, 1, none⟩ = some (.int .i64 zs[j].a) := by rw [hW0]; simp
        have e2 : W0.cell? ⟨wr.heap.size, 2, none⟩ = some (.int .i64 zs[j].b) := by rw [hW0]; simp
        have e3 : W0.cell? ⟨wr.heap.size, 3, none⟩ = some (.int .i64 zs[j].c) := by rw [hW0]; simp
        have e4 : W0.cell? ⟨wr.heap.size, 4, none⟩ = some (.int .i64 zs[j].d) := by rw [hW0]; simp
        have HW := Lib.hid hW0
        clear hW0
        have HQ : Hid (∀ W, Below W0.heap.size W0 W → W.cell? ⟨p, 0, none⟩ = some (.func (.func 85) #[] #[])) := Lib.hid (fun W hb => ((HB0.trans (hb.mono HB0.size)).cell (p := ⟨p, 0, none⟩) hpl).trans HP.out)
        cases hg : zs[j].good with
        | false =>
          have hst : stepB zs j = false := by unfold stepB; rw [GD, hg]; rfl
          have hr : r = false := HS.out hst
          rw [hg] at V
          subst hr
          clear hg hst GD hR HS HN KS KN hB0
          generalize zs[j] = x at *
          obtain ⟨xs, xa, xb, xc, xd⟩ := x
          simp only at c0 c1 c2 c3 c4 V e0 e1 e2 e3 e4 HW
          go_wp2_with fail
          rw [← HW.out]
          clear HW c0 c1 c2 c3 c4
          have KX : Hid (W0.cell? ⟨wr.heap.size, 0, none⟩ = some (.string xs) ∧ W0.cell? ⟨wr.heap.size, 1, none⟩ = some (.int .i64 xa) ∧ W0.cell? ⟨wr.heap.size, 2, none⟩ = some (.int .i64 xb) ∧ W0.cell? ⟨wr.heap.size, 3, none⟩ = some (.int .i64 xc) ∧ W0.cell? ⟨wr.heap.size, 4, none⟩ = some (.int .i64 xd) ∧ Below w.heap.size w W0) := Lib.hid ⟨e0, e1, e2, e3, e4, HB0⟩
          clear e0 e1 e2 e3 e4 HB0
          refine wp_region_held_drew (S := fun W => W.cell? ⟨wr.heap.size, 0, none⟩ = some (.string xs) ∧ W.cell? ⟨wr.heap.size, 1, none⟩ = some (.int .i64 xa) ∧ W.cell? ⟨wr.heap.size, 2, none⟩ = some (.int .i64 xb) ∧ W.cell? ⟨wr.heap.size, 3, none⟩ = some (.int .i64 xc) ∧ W.cell? ⟨wr.heap.size, 4, none⟩ = some (.int .i64 xd) ∧ Below w.heap.size w W) (by kernel_rfl) ?_ (fun hHeld => ?_)
          · exact keepI1 KX.out (drewS W0)
          refine wpAnyH_take (i := 0) rfl (by kernel_rfl) (by kernel_rfl) (by kernel_rfl) (fun _ _ _ h => h) (Or.inl ⟨by kernel_rfl, fun w hSw => by (try dsimp only at hSw); go_simp; (try with_reducible rfl)⟩) hHeld ?_
          try simp only [List.getElem_toArray, List.getElem_cons_zero, List.getElem_cons_succ, Act.put, List.setIfInBounds_toArray, List.set_cons_zero, List.set_cons_succ]
          refine wpAnyH_take (i := 1) rfl (by kernel_rfl) (by kernel_rfl) (by kernel_rfl) (fun _ _ _ h => h) (Or.inl ⟨by kernel_rfl, fun w hSw => by (try dsimp only at hSw); go_simp; (try with_reducible rfl)⟩) hHeld ?_
          try simp only [List.getElem_toArray, List.getElem_cons_zero, List.getElem_cons_succ, Act.put, List.setIfInBounds_toArray, List.set_cons_zero, List.set_cons_succ]
          refine wpAnyH_ready (rs := [2]) (by kernel_rfl) (by simp) ?_
          refine AllReadyH.cons rfl (fun KK hK => ?_) AllReadyH.nil
          go_simp
          first | go_at_call 40 | skip
          refine (V.out _).mono ?_
          rintro e x1 ⟨rfl, hx1⟩
          have y1 := undrewS hx1
          refine hK.out _ _ ?_ (fun hHeld2 => ?_)
          · exact keepI1 KX.out y1
          clear hK KK hHeld hx1 y1 KX
          try simp only [List.getElem_toArray, List.getElem_cons_zero, List.getElem_cons_succ, Act.put, List.setIfInBounds_toArray, List.set_cons_zero, List.set_cons_succ]
          refine wpAnyH_take (i := 3) rfl (by kernel_rfl) (by kernel_rfl) (by kernel_rfl) (fun _ _ _ h => h) (Or.inl ⟨by kernel_rfl, fun w hSw => by (try dsimp only at hSw); go_simp; (try with_reducible rfl)⟩) hHeld2 ?_
          try simp only [List.getElem_toArray, List.getElem_cons_zero, List.getElem_cons_succ, Act.put, List.setIfInBounds_toArray, List.set_cons_zero, List.set_cons_succ]
          refine wpAnyH_take (i := 4) rfl (by kernel_rfl) (by kernel_rfl) (by kernel_rfl) (fun _ _ _ h => h) (Or.inl ⟨by kernel_rfl, fun w hSw => by (try dsimp only at hSw); go_simp; (try with_reducible rfl)⟩) hHeld2 ?_
          try simp only [List.getElem_toArray, List.getElem_cons_zero, List.getElem_cons_succ, Act.put, List.setIfInBounds_toArray, List.set_cons_zero, List.set_cons_succ]
          refine wpAnyH_take (i := 5) rfl (by kernel_rfl) (by kernel_rfl) (by kernel_rfl) (fun _ _ _ h => h) (Or.inr ⟨by kernel_rfl, rfl⟩) hHeld2 ?_
          try simp only [List.getElem_toArray, List.getElem_cons_zero, List.getElem_cons_succ, Act.put, List.setIfInBounds_toArray, List.set_cons_zero, List.set_cons_succ]
          refine wpAnyH_take (i := 6) rfl (by kernel_rfl) (by kernel_rfl) (by kernel_rfl) (fun _ _ _ h => h) (Or.inr ⟨by kernel_rfl, rfl⟩) hHeld2 ?_
          try simp only [List.getElem_toArray, List.getElem_cons_zero, List.getElem_cons_succ, Act.put, List.setIfInBounds_toArray, List.set_cons_zero, List.set_cons_succ]
          refine wpAnyH_take (i := 7) rfl (by kernel_rfl) (by kernel_rfl) (by kernel_rfl) (fun _ _ _ h => h) (Or.inr ⟨by kernel_rfl, rfl⟩) hHeld2 ?_
          try simp only [List.getElem_toArray, List.getElem_cons_zero, List.getElem_cons_succ, Act.put, List.setIfInBounds_toArray, List.set_cons_zero, List.set_cons_succ]
          refine wpAnyH_take (i := 8) rfl (by kernel_rfl) (by kernel_rfl) (by kernel_rfl) (fun _ _ _ h => h) (Or.inr ⟨by kernel_rfl, rfl⟩) hHeld2 ?_
          try simp only [List.getElem_toArray, List.getElem_cons_zero, List.getElem_cons_succ, Act.put, List.setIfInBounds_toArray, List.set_cons_zero, List.set_cons_succ]
          refine wpAnyH_take (i := 9) rfl (by kernel_rfl) (by kernel_rfl) (by kernel_rfl) (fun _ _ _ h => h) (Or.inr ⟨by kernel_rfl, rfl⟩) hHeld2 ?_
          try simp only [List.getElem_toArray, List.getElem_cons_zero, List.getElem_cons_succ, Act.put, List.setIfInBounds_toArray, List.set_cons_zero, List.set_cons_succ]
          refine wpAnyH_take (i := 10) rfl (by kernel_rfl) (by kernel_rfl) (by kernel_rfl) (fun _ _ _ h => h) (Or.inr ⟨by kernel_rfl, rfl⟩) hHeld2 ?_
          try simp only [List.getElem_toArray, List.getElem_cons_zero, List.getElem_cons_succ, Act.put, List.setIfInBounds_toArray, List.set_cons_zero, List.set_cons_succ]
          refine wpAnyH_take (i := 11) rfl (by kernel_rfl) (by kernel_rfl) (by kernel_rfl) (fun _ _ _ h => h) (Or.inr ⟨by kernel_rfl, rfl⟩) hHeld2 ?_
          try simp only [List.getElem_toArray, List.getElem_cons_zero, List.getElem_cons_succ, Act.put, List.setIfInBounds_toArray, List.set_cons_zero, List.set_cons_succ]
          refine wpAnyH_take (i := 12) rfl (by kernel_rfl) (by kernel_rfl) (by kernel_rfl) (fun _ _ _ h => h) (Or.inr ⟨by kernel_rfl, rfl⟩) hHeld2 ?_
          try simp only [List.getElem_toArray, List.getElem_cons_zero, List.getElem_cons_succ, Act.put, List.setIfInBounds_toArray, List.set_cons_zero, List.set_cons_succ]
          refine wpAnyH_take (i := 13) rfl (by kernel_rfl) (by kernel_rfl) (by kernel_rfl) (fun _ _ _ h => h) (Or.inr ⟨by kernel_rfl, rfl⟩) hHeld2 ?_
          try simp only [List.getElem_toArray, List.getElem_cons_zero, List.getElem_cons_succ, Act.put, List.setIfInBounds_toArray, List.set_cons_zero, List.set_cons_succ]
          refine wpAnyH_take (i := 14) rfl (by kernel_rfl) (by kernel_rfl) (by kernel_rfl) (fun _ _ _ h => h) (Or.inr ⟨by kernel_rfl, rfl⟩) hHeld2 ?_
          try simp only [List.getElem_toArray, List.getElem_cons_zero, List.getElem_cons_succ, Act.put, List.setIfInBounds_toArray, List.set_cons_zero, List.set_cons_succ]
          refine wpAnyH_take (i := 15) rfl (by kernel_rfl) (by kernel_rfl) (by kernel_rfl) (fun _ _ _ h => h) (Or.inr ⟨by kernel_rfl, rfl⟩) hHeld2 ?_
          try simp only [List.getElem_toArray, List.getElem_cons_zero, List.getElem_cons_succ, Act.put, List.setIfInBounds_toArray, List.set_cons_zero, List.set_cons_succ]
          refine wpAnyH_take (i := 16) rfl (by kernel_rfl) (by kernel_rfl) (by kernel_rfl) (fun _ _ _ h => h) (Or.inr ⟨by kernel_rfl, rfl⟩) hHeld2 ?_
          try simp only [List.getElem_toArray, List.getElem_cons_zero, List.getElem_cons_succ, Act.put, List.setIfInBounds_toArray, List.set_cons_zero, List.set_cons_succ]
          refine wpAnyH_take (i := 17) rfl (by kernel_rfl) (by kernel_rfl) (by kernel_rfl) (fun _ _ _ h => h) (Or.inr ⟨by kernel_rfl, rfl⟩) hHeld2 ?_
          try simp only [List.getElem_toArray, List.getElem_cons_zero, List.getElem_cons_succ, Act.put, List.setIfInBounds_toArray, List.set_cons_zero, List.set_cons_succ]
          refine wpAnyH_take (i := 18) rfl (by kernel_rfl) (by kernel_rfl) (by kernel_rfl) (fun _ _ _ h => h) (Or.inl ⟨by kernel_rfl, fun w hSw => by (try dsimp only at hSw); go_simp; (try with_reducible rfl)⟩) hHeld2 ?_
          try simp only [List.getElem_toArray, List.getElem_cons_zero, List.getElem_cons_succ, Act.put, List.setIfInBounds_toArray, List.set_cons_zero, List.set_cons_succ]
          refine wpAnyH_done (by kernel_rfl) ?_ _
          have HH : Hid (Below w.heap.size w x1) := Lib.hid hHeld2.2.2.2.2.2
          clear hHeld2
          go_wp2_with fail
          go_ret
          exact ⟨rfl, HH.out⟩
        | true =>
          rw [hg] at V
          by_cases hz : j = 0
          · subst hz
            have hst : okZ zs (0 + 1) = true := by rw [HN.out, stepB_zero, GD, hg]; rfl
            have HT := Lib.hid hst
            clear hg hst GD hR HS HN KS KN hB0
            generalize zs[0] = x at *
            obtain ⟨xs, xa, xb, xc, xd⟩ := x
            simp only at c0 c1 c2 c3 c4 V e0 e1 e2 e3 e4 HW
            go_wp2_with fail
            rw [← HW.out]
            clear HW c0 c1 c2 c3 c4
            have KX : Hid (W0.cell? ⟨wr.heap.size, 0, none⟩ = some (.string xs) ∧ W0.cell? ⟨wr.heap.size, 1, none⟩ = some (.int .i64 xa) ∧ W0.cell? ⟨wr.heap.size, 2, none⟩ = some (.int .i64 xb) ∧ W0.cell? ⟨wr.heap.size, 3, none⟩ = some (.int .i64 xc) ∧ W0.cell? ⟨wr.heap.size, 4, none⟩ = some (.int .i64 xd) ∧ Below w.heap.size w W0) := Lib.hid ⟨e0, e1, e2, e3, e4, HB0⟩
            clear e0 e1 e2 e3 e4 HB0
            refine wp_region_held_drew (S := fun W => W.cell? ⟨wr.heap.size, 0, none⟩ = some (.string xs) ∧ W.cell? ⟨wr.heap.size, 1, none⟩ = some (.int .i64 xa) ∧ W.cell? ⟨wr.heap.size, 2, none⟩ = some (.int .i64 xb) ∧ W.cell? ⟨wr.heap.size, 3, none⟩ = some (.int .i64 xc) ∧ W.cell? ⟨wr.heap.size, 4, none⟩ = some (.int .i64 xd) ∧ Below w.heap.size w W) (by kernel_rfl) ?_ (fun hHeld => ?_)
            · exact keepI1 KX.out (drewS W0)
            refine wpAnyH_take (i := 0) rfl (by kernel_rfl) (by kernel_rfl) (by kernel_rfl) (fun _ _ _ h => h) (Or.inl ⟨by kernel_rfl, fun w hSw => by (try dsimp only at hSw); go_simp; (try with_reducible rfl)⟩) hHeld ?_
            try simp only [List.getElem_toArray, List.getElem_cons_zero, List.getElem_cons_succ, Act.put, List.setIfInBounds_toArray, List.set_cons_zero, List.set_cons_succ]
            refine wpAnyH_take (i := 1) rfl (by kernel_rfl) (by kernel_rfl) (by kernel_rfl) (fun _ _ _ h => h) (Or.inl ⟨by kernel_rfl, fun w hSw => by (try dsimp only at hSw); go_simp; (try with_reducible rfl)⟩) hHeld ?_
            try simp only [List.getElem_toArray, List.getElem_cons_zero, List.getElem_cons_succ, Act.put, List.setIfInBounds_toArray, List.set_cons_zero, List.set_cons_succ]
            refine wpAnyH_ready (rs := [2]) (by kernel_rfl) (by simp) ?_
            refine AllReadyH.cons rfl (fun KK hK => ?_) AllReadyH.nil
            go_simp
            first | go_at_call 40 | skip
            refine (V.out _).mono ?_
            rintro e x1 ⟨rfl, hx1⟩
            have y1 := undrewS hx1
            refine hK.out _ _ ?_ (fun hHeld2 => ?_)
            · exact keepI1 KX.out y1
            clear hK KK hHeld hx1 y1 KX
            try simp only [List.getElem_toArray, List.getElem_cons_zero, List.getElem_cons_succ, Act.put, List.setIfInBounds_toArray, List.set_cons_zero, List.set_cons_succ]
            refine wpAnyH_take (i := 3) rfl (by kernel_rfl) (by kernel_rfl) (by kernel_rfl) (fun _ _ _ h => h) (Or.inl ⟨by kernel_rfl, fun w hSw => by (try dsimp only at hSw); go_simp; (try with_reducible rfl)⟩) hHeld2 ?_
            try simp only [List.getElem_toArray, List.getElem_cons_zero, List.getElem_cons_succ, Act.put, List.setIfInBounds_toArray, List.set_cons_zero, List.set_cons_succ]
            refine wpAnyH_take (i := 4) rfl (by kernel_rfl) (by kernel_rfl) (by kernel_rfl) (fun _ _ _ h => h) (Or.inl ⟨by kernel_rfl, fun w hSw => by (try dsimp only at hSw); go_simp; (try with_reducible rfl)⟩) hHeld2 ?_
            try simp only [List.getElem_toArray, List.getElem_cons_zero, List.getElem_cons_succ, Act.put, List.setIfInBounds_toArray, List.set_cons_zero, List.set_cons_succ]
            refine wpAnyH_take (i := 5) rfl (by kernel_rfl) (by kernel_rfl) (by kernel_rfl) (fun _ _ _ h => h) (Or.inl ⟨by kernel_rfl, fun w hSw => by (try dsimp only at hSw); go_simp; (try with_reducible rfl)⟩) hHeld2 ?_
            try simp only [List.getElem_toArray, List.getElem_cons_zero, List.getElem_cons_succ, Act.put, List.setIfInBounds_toArray, List.set_cons_zero, List.set_cons_succ]
            refine wpAnyH_take (i := 6) rfl (by kernel_rfl) (by kernel_rfl) (by kernel_rfl) (fun _ _ _ h => h) (Or.inl ⟨by kernel_rfl, fun w hSw => by (try dsimp only at hSw); go_simp; (try with_reducible rfl)⟩) hHeld2 ?_
            try simp only [List.getElem_toArray, List.getElem_cons_zero, List.getElem_cons_succ, Act.put, List.setIfInBounds_toArray, List.set_cons_zero, List.set_cons_succ]
            refine wpAnyH_take (i := 7) rfl (by kernel_rfl) (by kernel_rfl) (by kernel_rfl) (fun _ _ _ h => h) (Or.inl ⟨by kernel_rfl, fun w hSw => by (try dsimp only at hSw); go_simp; (try with_reducible rfl)⟩) hHeld2 ?_
            try simp only [List.getElem_toArray, List.getElem_cons_zero, List.getElem_cons_succ, Act.put, List.setIfInBounds_toArray, List.set_cons_zero, List.set_cons_succ]
            refine wpAnyH_take (i := 8) rfl (by kernel_rfl) (by kernel_rfl) (by kernel_rfl) (fun _ _ _ h => h) (Or.inr ⟨by kernel_rfl, rfl⟩) hHeld2 ?_
            try simp only [List.getElem_toArray, List.getElem_cons_zero, List.getElem_cons_succ, Act.put, List.setIfInBounds_toArray, List.set_cons_zero, List.set_cons_succ]
            refine wpAnyH_take (i := 9) rfl (by kernel_rfl) (by kernel_rfl) (by kernel_rfl) (fun _ _ _ h => h) (Or.inr ⟨by kernel_rfl, rfl⟩) hHeld2 ?_
            try simp only [List.getElem_toArray, List.getElem_cons_zero, List.getElem_cons_succ, Act.put, List.setIfInBounds_toArray, List.set_cons_zero, List.set_cons_succ]
            refine wpAnyH_take (i := 10) rfl (by kernel_rfl) (by kernel_rfl) (by kernel_rfl) (fun _ _ _ h => h) (Or.inr ⟨by kernel_rfl, rfl⟩) hHeld2 ?_
            try simp only [List.getElem_toArray, List.getElem_cons_zero, List.getElem_cons_succ, Act.put, List.setIfInBounds_toArray, List.set_cons_zero, List.set_cons_succ]
            refine wpAnyH_take (i := 11) rfl (by kernel_rfl) (by kernel_rfl) (by kernel_rfl) (fun _ _ _ h => h) (Or.inr ⟨by kernel_rfl, rfl⟩) hHeld2 ?_
            try simp only [List.getElem_toArray, List.getElem_cons_zero, List.getElem_cons_succ, Act.put, List.setIfInBounds_toArray, List.set_cons_zero, List.set_cons_succ]
            refine wpAnyH_take (i := 12) rfl (by kernel_rfl) (by kernel_rfl) (by kernel_rfl) (fun _ _ _ h => h) (Or.inr ⟨by kernel_rfl, rfl⟩) hHeld2 ?_
            try simp only [List.getElem_toArray, List.getElem_cons_zero, List.getElem_cons_succ, Act.put, List.setIfInBounds_toArray, List.set_cons_zero, List.set_cons_succ]
            refine wpAnyH_take (i := 13) rfl (by kernel_rfl) (by kernel_rfl) (by kernel_rfl) (fun _ _ _ h => h) (Or.inr ⟨by kernel_rfl, rfl⟩) hHeld2 ?_
            try simp only [List.getElem_toArray, List.getElem_cons_zero, List.getElem_cons_succ, Act.put, List.setIfInBounds_toArray, List.set_cons_zero, List.set_cons_succ]
            refine wpAnyH_take (i := 14) rfl (by kernel_rfl) (by kernel_rfl) (by kernel_rfl) (fun _ _ _ h => h) (Or.inr ⟨by kernel_rfl, rfl⟩) hHeld2 ?_
            try simp only [List.getElem_toArray, List.getElem_cons_zero, List.getElem_cons_succ, Act.put, List.setIfInBounds_toArray, List.set_cons_zero, List.set_cons_succ]
            refine wpAnyH_take (i := 15) rfl (by kernel_rfl) (by kernel_rfl) (by kernel_rfl) (fun _ _ _ h => h) (Or.inr ⟨by kernel_rfl, rfl⟩) hHeld2 ?_
            try simp only [List.getElem_toArray, List.getElem_cons_zero, List.getElem_cons_succ, Act.put, List.setIfInBounds_toArray, List.set_cons_zero, List.set_cons_succ]
            refine wpAnyH_take (i := 16) rfl (by kernel_rfl) (by kernel_rfl) (by kernel_rfl) (fun _ _ _ h => h) (Or.inr ⟨by kernel_rfl, rfl⟩) hHeld2 ?_
            try simp only [List.getElem_toArray, List.getElem_cons_zero, List.getElem_cons_succ, Act.put, List.setIfInBounds_toArray, List.set_cons_zero, List.set_cons_succ]
            refine wpAnyH_take (i := 17) rfl (by kernel_rfl) (by kernel_rfl) (by kernel_rfl) (fun _ _ _ h => h) (Or.inl ⟨by kernel_rfl, fun w hSw => by (try dsimp only at hSw); go_simp; (try with_reducible rfl)⟩) hHeld2 ?_
            try simp only [List.getElem_toArray, List.getElem_cons_zero, List.getElem_cons_succ, Act.put, List.setIfInBounds_toArray, List.set_cons_zero, List.set_cons_succ]
            refine wpAnyH_take (i := 18) rfl (by kernel_rfl) (by kernel_rfl) (by kernel_rfl) (fun _ _ _ h => h) (Or.inl ⟨by kernel_rfl, fun w hSw => by (try dsimp only at hSw); go_simp; (try with_reducible rfl)⟩) hHeld2 ?_
            try simp only [List.getElem_toArray, List.getElem_cons_zero, List.getElem_cons_succ, Act.put, List.setIfInBounds_toArray, List.set_cons_zero, List.set_cons_succ]
            refine wpAnyH_done (by kernel_rfl) ?_ _
            have HH : Hid (Below w.heap.size w x1) := Lib.hid hHeld2.2.2.2.2.2
            clear hHeld2
            go_wp2_with fail
            go_roundg (zs.length + 1 - (0 + 1))
            case measure => omega
            case rel => exact ⟨0 + 1, by go_num, by omega, by omega, HT, HH⟩
          · obtain ⟨k, hk⟩ : ∃ k, j = k + 1 := ⟨j - 1, by omega⟩
            have hkl : k < zs.length := by omega
            obtain ⟨p0, p1, p2, p3, p4⟩ := (hR.below hB0).at k hkl
            have hst : stepB zs j = ltS (zs[k]'hkl).s zs[j].s := by rw [stepB_pos zs j k hk, GD, getD_at zs k hkl, hg, Bool.true_and]
            have ek : (j : Int) - 1 = (k : Int) := by omega
            have k0 : (0 : Int) ≤ (k : Int) := by omega
            have k1 : (k : Int) < (zs.length : Int) := by omega
            have kg : 0 < j := by omega
            have kd : decide (0 < j) = true := by simpa using kg
            have wk : IntKind.i64.wrap (k : Int) = (k : Int) := IntWalk.i64_in _ (by omega)
            rw [hst] at HS HN
            have HL : Hid (ltS (zs[k]'hkl).s zs[j].s = Op.bytesLess (zs[k]'hkl).s.toList zs[j].s.toList) := Lib.hid rfl
            clear hz hR GD hg hst hk hB0
            generalize ltS (zs[k]'hkl).s zs[j].s = lt at *
            generalize zs[k]'hkl = px at *
            generalize zs[j] = x at *
            obtain ⟨xs, xa, xb, xc, xd⟩ := x
            obtain ⟨ps, pa, pb, pc, pd⟩ := px
            simp only at c0 c1 c2 c3 c4 V e0 e1 e2 e3 e4 HW HL p0 p1 p2 p3 p4
            have C := Lib.hid (fun w hp => nameCmp_any ps xs pa pb pc pd xa xb xc xd p w hp)
            have hlt0 := cmpS_lt ps xs
            obtain ⟨q, hqe⟩ : ∃ q, q = cmpS ps xs := ⟨_, rfl⟩
            rw [← hqe] at C hlt0
            clear hqe
            have KX : Hid (W0.cell? ⟨wr.heap.size, 0, none⟩ = some (.string xs) ∧ W0.cell? ⟨wr.heap.size, 1, none⟩ = some (.int .i64 xa) ∧ W0.cell? ⟨wr.heap.size, 2, none⟩ = some (.int .i64 xb) ∧ W0.cell? ⟨wr.heap.size, 3, none⟩ = some (.int .i64 xc) ∧ W0.cell? ⟨wr.heap.size, 4, none⟩ = some (.int .i64 xd) ∧ W0.cell? ⟨g, k * 5, none⟩ = some (.string ps) ∧ W0.cell? ⟨g, k * 5 + 1, none⟩ = some (.int .i64 pa) ∧ W0.cell? ⟨g, k * 5 + 2, none⟩ = some (.int .i64 pb) ∧ W0.cell? ⟨g, k * 5 + 3, none⟩ = some (.int .i64 pc) ∧ W0.cell? ⟨g, k * 5 + 4, none⟩ = some (.int .i64 pd) ∧ Below w.heap.size w W0) := Lib.hid ⟨e0, e1, e2, e3, e4, p0, p1, p2, p3, p4, HB0⟩
            clear e0 e1 e2 e3 e4 HB0 p0 p1 p2 p3 p4
            have hl := HL.out
            cases lt with
            | true =>
              have hn1 : q < 0 := hlt0.2 hl.symm
              have hn : ¬ (0 : Int) ≤ q := by omega
              have hn' : decide ((0 : Int) ≤ q) = false := by simpa using hn1
              clear hn1 hlt0
              have HT : Hid (okZ zs (j + 1) = true) := Lib.hid (by rw [HN.out, HO.out]; rfl)
              clear hl HS HN KS KN
              go_wp2_with fail
              rw [← HW.out]
              clear HW c0 c1 c2 c3 c4
              go_region_held3 (fun W => W.cell? ⟨wr.heap.size, 0, none⟩ = some (.string xs) ∧ W.cell? ⟨wr.heap.size, 1, none⟩ = some (.int .i64 xa) ∧ W.cell? ⟨wr.heap.size, 2, none⟩ = some (.int .i64 xb) ∧ W.cell? ⟨wr.heap.size, 3, none⟩ = some (.int .i64 xc) ∧ W.cell? ⟨wr.heap.size, 4, none⟩ = some (.int .i64 xd) ∧ W.cell? ⟨g, k * 5, none⟩ = some (.string ps) ∧ W.cell? ⟨g, k * 5 + 1, none⟩ = some (.int .i64 pa) ∧ W.cell? ⟨g, k * 5 + 2, none⟩ = some (.int .i64 pb) ∧ W.cell? ⟨g, k * 5 + 3, none⟩ = some (.int .i64 pc) ∧ W.cell? ⟨g, k * 5 + 4, none⟩ = some (.int .i64 pd) ∧ Below w.heap.size w W) (first | (exact keepI2 KX.out (drewS W0)) | (exact keepI2 KX.out y2) | (exact keepI2 KX.out y1) | go_keep) ((first
                | (go_at_call 40; refine (V.out _).mono ?_; rintro e x1 ⟨rfl, hx1⟩; have y1 := undrewS hx1)
                | (go_at_call 116; refine (C.out _ (HQ.out _ y1)).mono ?_; rintro e x2 ⟨rfl, hx2⟩; have y2 := y1.trans (hx2.mono y1.size))))
              rename_i held
              have HH := Lib.hid held.2.2.2.2.2.2.2.2.2.2
              clear held KX
              go_wp2_with fail
              go_roundg (zs.length + 1 - (j + 1))
              case measure => omega
              case rel => exact ⟨j + 1, by go_num, by omega, by omega, HT, HH⟩
            | false =>
              have hn1 : ¬ q < 0 := fun h => by rw [hlt0.1 h] at hl; cases hl
              have hn : (0 : Int) ≤ q := by omega
              have hn' : decide ((0 : Int) ≤ q) = true := by simpa using hn
              clear hn1 hlt0
              have hr : r = false := HS.out rfl
              subst hr
              clear hl HS HN KS KN
              go_wp2_with fail
              rw [← HW.out]
              clear HW c0 c1 c2 c3 c4
              go_region_held3 (fun W => W.cell? ⟨wr.heap.size, 0, none⟩ = some (.string xs) ∧ W.cell? ⟨wr.heap.size, 1, none⟩ = some (.int .i64 xa) ∧ W.cell? ⟨wr.heap.size, 2, none⟩ = some (.int .i64 xb) ∧ W.cell? ⟨wr.heap.size, 3, none⟩ = some (.int .i64 xc) ∧ W.cell? ⟨wr.heap.size, 4, none⟩ = some (.int .i64 xd) ∧ W.cell? ⟨g, k * 5, none⟩ = some (.string ps) ∧ W.cell? ⟨g, k * 5 + 1, none⟩ = some (.int .i64 pa) ∧ W.cell? ⟨g, k * 5 + 2, none⟩ = some (.int .i64 pb) ∧ W.cell? ⟨g, k * 5 + 3, none⟩ = some (.int .i64 pc) ∧ W.cell? ⟨g, k * 5 + 4, none⟩ = some (.int .i64 pd) ∧ Below w.heap.size w W) (first | (exact keepI2 KX.out (drewS W0)) | (exact keepI2 KX.out y2) | (exact keepI2 KX.out y1) | go_keep) ((first
                | (go_at_call 40; refine (V.out _).mono ?_; rintro e x1 ⟨rfl, hx1⟩; have y1 := undrewS hx1)
                | (go_at_call 116; refine (C.out _ (HQ.out _ y1)).mono ?_; rintro e x2 ⟨rfl, hx2⟩; have y2 := y1.trans (hx2.mono y1.size))))
              rename_i held
              have HH := Lib.hid held.2.2.2.2.2.2.2.2.2.2
              clear held KX
              go_wp2_with fail
              go_ret
              exact ⟨rfl, HH.out⟩
      · obtain rfl : j = zs.length := by omega
        go_wp2_with fail
        go_ret
        refine ⟨ret_bool ?_, HB.out⟩
        rw [HE.out, HO.out]
set_option maxHeartbeats 400000 in
theorem named_any (g cap : Nat) (zs : List StarV) (w : World) (hb : zs.length ≤ 1048577) (h1 : Row w g zs) (hok : ∀ j, (h : j < zs.length) → zs[j].ok) :
    Calls Tryz.prog 84 #[.slice (some ⟨g, 0, none⟩) zs.length cap, .int .i64 6, .func (.func 40) #[] #[], .func (.func 85) #[] #[]] w fun e w' => e = .returned (.bool (okL zs)) ∧ Below w.heap.size w w' := by
  have hB : Below w.heap.size w (w.alloc (.cells #[.func (.func 85) #[] #[]] 114)) := (Below.refl _ w).alloc (Nat.le_refl _) _
  have O := Lib.hid (incr_any g cap w.heap.size zs _ hb (h1.below hB) hok (show (w.alloc (.cells #[.func (.func 85) #[] #[]] 114)).cell? ⟨w.heap.size, 0, none⟩ = _ by simp))
  have HB := Lib.hid hB
  clear h1 hok hB
  generalize okL zs = r at *
  go_enter Tryz.func84, Tryz.ntmps84
  go_wp2_with fail
  refine O.out.mono ?_
  rintro e w1 ⟨rfl, hb1⟩
  have HB1 := Lib.hid (HB.out.trans (hb1.mono HB.out.size))
  clear hb1
  go_wp2_with fail
  go_ret
  exact ⟨rfl, HB1.out⟩
set_option maxHeartbeats 400000 in
theorem validProjs_any (g cap : Nat) (zs : List StarV) (w : World) (hb : zs.length ≤ 1048577) (h1 : Row w g zs) (hok : ∀ j, (h : j < zs.length) → zs[j].ok) :
    Calls Tryz.prog 53 #[.slice (some ⟨g, 0, none⟩) zs.length cap] w fun e w' => e = .returned (.bool (okL zs)) ∧ Below w.heap.size w w' := by
  have O := Lib.hid (named_any g cap zs w hb h1 hok)
  clear h1 hok
  generalize okL zs = r at *
  go_enter Tryz.func53, Tryz.ntmps53
  go_wp2_with fail
  refine O.out.mono ?_
  rintro e w1 ⟨rfl, hb1⟩
  have HB := Lib.hid hb1
  clear hb1
  go_wp2_with fail
  go_ret
  exact ⟨rfl, HB.out⟩
theorem fin_ProjI : True := trivial
end

section
open Go.RowKit
set_option linter.unusedVariables false

/-- The code for a direction that is to be lit. -/
def litC (zs : List StarV) (u v : Int) : Int := if okL zs = true then (if spotB u v = true then (if sumK (rawsL zs u v) zs.length = 0 then 3 else 0) else 2) else 1
def LitPost (zs : List StarV) (u v : Int) (w : World) (e : Ending) (w' : World) : Prop :=
  ∃ lv : Value, e = .returned (.tuple #[lv, .int .i64 (litC zs u v)]) ∧ Below w.heap.size w w' ∧ (litC zs u v ≠ 0 → lv = .agg #[.int .i64 0, .int .i64 0, .slice none 0 0]) ∧
    (litC zs u v = 0 → ∃ b, lv = .agg #[.int .i64 u, .int .i64 v, .slice (some ⟨b, 0, none⟩) zs.length zs.length] ∧ BRow w' b zs.length (zs.map (·.d)) (rawsL zs u v) (wgtL (rawsL zs u v)))
theorem lit_err {zs : List StarV} {u v c : Int} {w w' : World} (h : litC zs u v = c) (hc : c ≠ 0) (hb : Below w.heap.size w w') : LitPost zs u v w (.returned (.tuple #[.agg #[.int .i64 0, .int .i64 0, .slice none 0 0], .int .i64 c])) w' :=
  ⟨_, by rw [h], hb, fun _ => rfl, fun h0 => absurd (h.symm.trans h0) hc⟩

set_option maxRecDepth 100000 in
set_option maxHeartbeats 8000000 in
theorem litDir_any (g cap : Nat) (zs : List StarV) (u v : Int) (w : World) (hb : zs.length ≤ 1048577) (h1 : Row w g zs) (hok : ∀ j, (h : j < zs.length) → zs[j].ok) (hs : SinesOK w) :
    Calls Tryz.prog 31 #[.slice (some ⟨g, 0, none⟩) zs.length cap, .agg #[.int .i64 u, .int .i64 v]] w (LitPost zs u v w) := by
  obtain ⟨W0, hW0⟩ : ∃ W0, W0 = ((w.alloc (.cells #[.int .i64 u, .int .i64 v] 58)).alloc (.cells #[.int .i64 0, .int .i64 0, .slice none 0 0] 61)) := ⟨_, rfl⟩
  have hB0 : Below w.heap.size w W0 := by rw [hW0]; exact ((Below.refl _ _).alloc (Nat.le_refl _) _).alloc (by simp) _
  have HD0 : Hid (W0.cell? ⟨w.heap.size, 0, none⟩ = some (.int .i64 u) ∧ W0.cell? ⟨w.heap.size, 1, none⟩ = some (.int .i64 v)) := Lib.hid (by rw [hW0]; exact ⟨by rw [World.cell?_alloc_lt _ _ _ (by simp)]; simp, by rw [World.cell?_alloc_lt _ _ _ (by simp)]; simp⟩)
  have HL0 : Hid (L3 W0 (w.heap.size + 1) 0 0 (.slice none 0 0)) := Lib.hid (by rw [hW0]; simpa using L3.new (w.alloc (.cells #[.int .i64 u, .int .i64 v] 58)) 61 0 0 (.slice none 0 0))
  have HB0 := Lib.hid hB0
  have HR0 := Lib.hid (h1.below hB0)
  have E0 := Lib.hid (hs.below hB0)
  have VP := Lib.hid (validProjs_any g cap zs W0 hb (h1.below hB0) hok)
  have UP := Lib.hid (fun w => isUp_any u v w)
  simp only [upB_spot] at UP
  have HW := Lib.hid hW0
  have hl1 : w.heap.size < W0.heap.size := by rw [hW0]; simp; omega
  clear hW0 hB0 h1 hs hok
  cases hk : okL zs with
  | false =>
    have HC : Hid (litC zs u v = 1) := Lib.hid (by unfold litC; rw [hk, if_neg (by simp)])
    rw [hk] at VP
    clear hk
    go_enter Tryz.func31, Tryz.ntmps31
    go_wp2_with fail
    rw [← HW.out]
    clear HW
    refine VP.out.mono ?_
    rintro e w1 ⟨rfl, hb1⟩
    have HS1 := HL0.out.on hb1
    have HB1 := Lib.hid (HB0.out.trans (hb1.mono HB0.out.size))
    clear hb1
    have PT := HS1.put 0 0 (.slice none 0 0)
    obtain ⟨r0, r1, r2, r3, r4, r5⟩ := HS1
    obtain ⟨z0, z1, z2, _, _, _⟩ := PT
    have HG : Hid (Below w.heap.size w (((w1.setCell ⟨w.heap.size + 1, 0, none⟩ (.int .i64 0)).setCell ⟨w.heap.size + 1, 1, none⟩ (.int .i64 0)).setCell ⟨w.heap.size + 1, 2, none⟩ (.slice none 0 0))) := Lib.hid (((HB1.out.setCell (show w.heap.size ≤ w.heap.size + 1 by omega) _).setCell (show w.heap.size ≤ w.heap.size + 1 by omega) _).setCell (show w.heap.size ≤ w.heap.size + 1 by omega) _)
    go_wp2_with fail
    refine bodyPost_ret (v := .tuple #[.agg #[.int .i64 0, .int .i64 0, .slice none 0 0], .int .i64 1]) (by first | (simp [results, Tryz.results31, go_sem]; done) | (simp [results, Tryz.results31, go_sem, *]; done)) rfl (lit_err HC.out (by omega) HG.out)
  | true =>
    rw [hk] at VP
    obtain ⟨hgood, h6⟩ := okL_good hk
    cases hu : spotB u v with
    | false =>
      have HC : Hid (litC zs u v = 2) := Lib.hid (by unfold litC; rw [hk, hu, if_pos rfl, if_neg (by simp)])
      rw [hu] at UP
      clear hk hu hgood h6
      go_enter Tryz.func31, Tryz.ntmps31
      go_wp2_with fail
      rw [← HW.out]
      clear HW
      refine VP.out.mono ?_
      rintro e w1 ⟨rfl, hb1⟩
      have HS1 := Lib.hid (HL0.out.on hb1)
      have HB1 := Lib.hid (HB0.out.trans (hb1.mono HB0.out.size))
      have d0 := (hb1.cell (p := ⟨w.heap.size, 0, none⟩) hl1).trans HD0.out.1
      have d1 := (hb1.cell (p := ⟨w.heap.size, 1, none⟩) hl1).trans HD0.out.2
      clear hb1
      go_wp2_with fail
      refine (UP.out _).mono ?_
      rintro e w2 ⟨rfl, hb2⟩
      have HS2 := HS1.out.on hb2
      have HB2 := Lib.hid (HB1.out.trans (hb2.mono HB1.out.size))
      clear hb2 d0 d1 HS1
      have PT := HS2.put 0 0 (.slice none 0 0)
      obtain ⟨r0, r1, r2, r3, r4, r5⟩ := HS2
      obtain ⟨z0, z1, z2, _, _, _⟩ := PT
      have HG : Hid (Below w.heap.size w (((w2.setCell ⟨w.heap.size + 1, 0, none⟩ (.int .i64 0)).setCell ⟨w.heap.size + 1, 1, none⟩ (.int .i64 0)).setCell ⟨w.heap.size + 1, 2, none⟩ (.slice none 0 0))) := Lib.hid (((HB2.out.setCell (show w.heap.size ≤ w.heap.size + 1 by omega) _).setCell (show w.heap.size ≤ w.heap.size + 1 by omega) _).setCell (show w.heap.size ≤ w.heap.size + 1 by omega) _)
      go_wp2_with fail
      refine bodyPost_ret (v := .tuple #[.agg #[.int .i64 0, .int .i64 0, .slice none 0 0], .int .i64 2]) (by first | (simp [results, Tryz.results31, go_sem]; done) | (simp [results, Tryz.results31, go_sem, *]; done)) rfl (lit_err HC.out (by omega) HG.out)
    | true =>
      obtain ⟨⟨u0, u1⟩, v0, v1⟩ := spotB_bd hu
      have HC : Hid (litC zs u v = if sumK (rawsL zs u v) zs.length = 0 then 3 else 0) := Lib.hid (by unfold litC; rw [hk, hu, if_pos rfl, if_pos rfl])
      rw [hu] at UP
      have LA := Lib.hid (fun W (hB : Below W0.heap.size W0 W) => lightAt_any g cap zs u v u0 u1 v0 v1 W h6 (HR0.out.below hB) hgood (E0.out.below hB))
      have WB : Hid (∀ i, i < zs.length → 0 ≤ (rawsL zs u v).getD i 0) := Lib.hid (fun i hi => by
        rw [List.getD, rawsL_at zs u v i hi]
        exact (rawN_bd (hgood i hi) u v).1)
      clear hk hu hgood u0 u1 v0 v1
      go_enter Tryz.func31, Tryz.ntmps31
      go_wp2_with fail
      rw [← HW.out]
      clear HW
      refine VP.out.mono ?_
      rintro e w1 ⟨rfl, hb1⟩
      have HB1 := Lib.hid hb1
      have d0 := (hb1.cell (p := ⟨w.heap.size, 0, none⟩) hl1).trans HD0.out.1
      have d1 := (hb1.cell (p := ⟨w.heap.size, 1, none⟩) hl1).trans HD0.out.2
      have hl2 : w.heap.size < w1.heap.size := Nat.lt_of_lt_of_le hl1 hb1.size
      clear hb1
      go_wp2_with fail
      refine (UP.out _).mono ?_
      rintro e w2 ⟨rfl, hb2⟩
      have HB2 := Lib.hid (HB1.out.trans (hb2.mono HB1.out.size))
      have e0 := (hb2.cell (p := ⟨w.heap.size, 0, none⟩) hl2).trans d0
      have e1 := (hb2.cell (p := ⟨w.heap.size, 1, none⟩) hl2).trans d1
      clear hb2 d0 d1
      go_wp2_with fail
      refine (LA.out w2 HB2.out).mono ?_
      rintro e w3 ⟨b, rfl, hlb, hbr, hb3⟩
      have HB3 := Lib.hid (HB2.out.trans (hb3.mono HB2.out.size))
      have HBR := Lib.hid hbr
      clear hb3 hbr e0 e1
      obtain ⟨W4, hW4⟩ : ∃ W4, W4 = w3.alloc (.cells #[.int .i64 u, .int .i64 v, .slice (some ⟨b, 0, none⟩) zs.length zs.length] 61) := ⟨_, rfl⟩
      have hb4 : Below w3.heap.size w3 W4 := by rw [hW4]; exact (Below.refl _ _).alloc (Nat.le_refl _) _
      have L4 : L3 W4 w3.heap.size u v (.slice (some ⟨b, 0, none⟩) zs.length zs.length) := by rw [hW4]; exact L3.new _ _ _ _ _
      have BR4 := HBR.out.below hb4
      have HB4 := Lib.hid (HB3.out.trans (hb4.mono HB3.out.size))
      have ID := Lib.hid (isDark_any b zs.length zs.length (zs.map (·.d)) (rawsL zs u v) _ u v W4 (by omega) WB.out BR4)
      have HL4 := Lib.hid L4
      have HBR4 := Lib.hid BR4
      have HW4 := Lib.hid hW4
      obtain ⟨l0, l1, l2, _, _, _⟩ := L4
      have h02 := HB2.out.size
      clear hW4 hb4 BR4 HBR HB3 HB2 HB1
      by_cases hz : sumK (rawsL zs u v) zs.length = 0
      · have HC2 := Lib.hid (HC.out.trans (if_pos hz))
        rw [decide_eq_true hz] at ID
        clear hz HC
        go_wp2_with fail
        rw [← HW4.out]
        clear HW4
        refine ID.out.mono ?_
        rintro e w5 ⟨rfl, hb5⟩
        have HS5 := (HL0.out.on HB4.out).on hb5
        have HB5 := Lib.hid (HB0.out.trans ((HB4.out.trans (hb5.mono HB4.out.size)).mono HB0.out.size))
        clear hb5 l0 l1 l2
        have PT := HS5.put 0 0 (.slice none 0 0)
        obtain ⟨r0, r1, r2, r3, r4, r5⟩ := HS5
        obtain ⟨z0, z1, z2, _, _, _⟩ := PT
        have HG : Hid (Below w.heap.size w (((w5.setCell ⟨w.heap.size + 1, 0, none⟩ (.int .i64 0)).setCell ⟨w.heap.size + 1, 1, none⟩ (.int .i64 0)).setCell ⟨w.heap.size + 1, 2, none⟩ (.slice none 0 0))) := Lib.hid (((HB5.out.setCell (show w.heap.size ≤ w.heap.size + 1 by omega) _).setCell (show w.heap.size ≤ w.heap.size + 1 by omega) _).setCell (show w.heap.size ≤ w.heap.size + 1 by omega) _)
        go_wp2_with fail
        refine bodyPost_ret (v := .tuple #[.agg #[.int .i64 0, .int .i64 0, .slice none 0 0], .int .i64 3]) (by first | (simp [results, Tryz.results31, go_sem]; done) | (simp [results, Tryz.results31, go_sem, *]; done)) rfl (lit_err HC2.out (by omega) HG.out)
      · have HC2 := Lib.hid (HC.out.trans (if_neg hz))
        rw [decide_eq_false hz] at ID
        have HBR5 : Hid (BRow W4 b zs.length (zs.map (·.d)) (rawsL zs u v) (wgtL (rawsL zs u v))) := Lib.hid (by
          have h := HBR4.out
          rw [if_neg hz] at h
          exact h)
        clear hz HC HBR4
        go_wp2_with fail
        rw [← HW4.out]
        clear HW4
        refine ID.out.mono ?_
        rintro e w5 ⟨rfl, hb5⟩
        have HS5 := (HL0.out.on HB4.out).on hb5
        have hws : w.heap.size + 1 < W0.heap.size := HL0.out.lt
        have L5 := HL4.out.on hb5
        have BR6 := HBR5.out.below hb5
        have HB5 := Lib.hid (HB0.out.trans ((HB4.out.trans (hb5.mono HB4.out.size)).mono HB0.out.size))
        clear hb5 l0 l1 l2
        have PT := HS5.put u v (.slice (some ⟨b, 0, none⟩) zs.length zs.length)
        obtain ⟨l0, l1, l2, _, _, _⟩ := L5
        obtain ⟨r0, r1, r2, r3, r4, r5⟩ := HS5
        obtain ⟨z0, z1, z2, _, _, _⟩ := PT
        have hbn : b ≠ w.heap.size + 1 := by omega
        have HF : Hid (BRow (((w5.setCell ⟨w.heap.size + 1, 0, none⟩ (.int .i64 u)).setCell ⟨w.heap.size + 1, 1, none⟩ (.int .i64 v)).setCell ⟨w.heap.size + 1, 2, none⟩ (.slice (some ⟨b, 0, none⟩) zs.length zs.length)) b zs.length (zs.map (·.d)) (rawsL zs u v) (wgtL (rawsL zs u v))) := Lib.hid (World.rowIs.setOther (World.rowIs.setOther (World.rowIs.setOther BR6 hbn _) hbn _) hbn _)
        have HG : Hid (Below w.heap.size w (((w5.setCell ⟨w.heap.size + 1, 0, none⟩ (.int .i64 u)).setCell ⟨w.heap.size + 1, 1, none⟩ (.int .i64 v)).setCell ⟨w.heap.size + 1, 2, none⟩ (.slice (some ⟨b, 0, none⟩) zs.length zs.length))) := Lib.hid (((HB5.out.setCell (show w.heap.size ≤ w.heap.size + 1 by omega) _).setCell (show w.heap.size ≤ w.heap.size + 1 by omega) _).setCell (show w.heap.size ≤ w.heap.size + 1 by omega) _)
        clear BR6
        go_wp2_with fail
        refine bodyPost_ret (v := .tuple #[.agg #[.int .i64 u, .int .i64 v, .slice (some ⟨b, 0, none⟩) zs.length zs.length], .int .i64 0]) (by first | (simp [results, Tryz.results31, go_sem]; done) | (simp [results, Tryz.results31, go_sem, *]; done)) rfl ⟨_, by rw [HC2.out], HG.out, fun h => absurd HC2.out h, fun _ => ⟨b, rfl, HF.out⟩⟩
theorem fin_Bm8 : True := trivial
end

section
open Go.RowKit
set_option linter.unusedVariables false

theorem wgt_none (zs : List StarV) (u v : Int) : (wgtL (rawsL zs u v)).length = 0 ↔ sumK (rawsL zs u v) zs.length = 0 := by
  have e := wgtL_len (rawsL zs u v)
  rw [rawsL_len] at e
  rw [e]
  split
  · rename_i h; simp [h]
  · rename_i h
    constructor
    · intro h2; rw [h2] at h; exact absurd rfl h
    · intro h2; exact absurd h2 h
theorem wgtR_lit (zs : List StarV) (u v : Int) : wgtR zs u v = if litC zs u v = 0 then (wgtL (rawsL zs u v), 0) else ([], litC zs u v) := by
  unfold wgtR litC
  simp only [wgt_none]
  by_cases h1 : okL zs = true
  · rw [if_pos h1, if_pos h1]
    by_cases h2 : spotB u v = true
    · rw [if_pos h2, if_pos h2]
      by_cases h3 : sumK (rawsL zs u v) zs.length = 0
      · simp [h3]
      · simp [h3]
    · rw [if_neg h2, if_neg h2]; simp
  · rw [if_neg h1, if_neg h1]; simp
theorem own_of_krow {w : World} {B g n : Nat} {L : List Int} (h : KRow w g n L) (hB : B ≤ g) (hL : L.length = n) (hz : n ≤ maxLen) : w.ownsRow B 2 1 (.slice (some ⟨g, 0, none⟩) n n) L.length (L.map (Value.int .i64)) := by
  obtain ⟨c, hb, hn, hc⟩ := h
  refine ⟨by simp, Or.inr ⟨g, n, c, by rw [hL], hB, hb, by omega, hz, by omega, ?_⟩⟩
  apply List.ext_getElem?
  intro k
  rw [Nat.mul_one, List.take_of_length_le (by rw [Array.length_toList, hn]; omega), Array.getElem?_toList]
  by_cases hk : k < n
  · rw [hc k hk, List.getElem?_map, List.getElem?_eq_getElem (by omega)]
    show some (Value.int .i64 (L.getD k 0)) = _
    rw [List.getD, List.getElem?_eq_getElem (by omega)]
    rfl
  · rw [Array.getElem?_eq_none (by omega), List.getElem?_eq_none (by rw [List.length_map]; omega)]

set_option maxRecDepth 100000 in
set_option maxHeartbeats 8000000 in
theorem implWeights_any (g cap : Nat) (zs : List StarV) (u v : Int) (w : World) (hb : zs.length ≤ 1048577) (h1 : Row w g zs) (hok : ∀ j, (h : j < zs.length) → zs[j].ok) (hs : SinesOK w) :
    Calls Tryz.prog 10 #[.slice (some ⟨g, 0, none⟩) zs.length cap, .int .i64 u, .int .i64 v] w (WgtPost (wgtR zs u v) w) := by
  have LD := Lib.hid (litDir_any g cap zs u v w hb h1 hok hs)
  have HR := Lib.hid (wgtR_lit zs u v)
  have h6 : litC zs u v = 0 → zs.length ≤ 6 := fun h => by
    unfold litC at h
    by_cases c : okL zs = true
    · exact (okL_good c).2
    · rw [if_neg c] at h; omega
  have hWl : litC zs u v = 0 → (wgtL (rawsL zs u v)).length = zs.length := fun h => by
    have e := wgtL_len (rawsL zs u v)
    rw [rawsL_len] at e
    rw [e, if_neg]
    intro h2
    unfold litC at h
    by_cases c : okL zs = true
    · rw [if_pos c] at h
      by_cases c2 : spotB u v = true
      · rw [if_pos c2, if_pos h2] at h; omega
      · rw [if_neg c2] at h; omega
    · rw [if_neg c] at h; omega
  clear h1 hok hs
  by_cases hc : litC zs u v = 0
  · have n6 := h6 hc
    have HWl := hWl hc
    have HR2 := Lib.hid (HR.out.trans (if_pos hc))
    clear h6 hWl HR
    have hmk := run_make_row' (P := Tryz.prog) 24 2 (.int .i64 0) 8 Tryz.underlying24 info_i64k rfl .i64 .i64 zs.length (by omega) (by omega)
    go_enter Tryz.func10, Tryz.ntmps10
    go_wp2_with fail
    refine LD.out.mono ?_
    rintro e w1 ⟨lv, rfl, hb1, _, hlit⟩
    obtain ⟨b, rfl, hbr⟩ := hlit hc
    rw [hc]
    have HB1 := Lib.hid hb1
    have HBR1 := Lib.hid hbr
    clear hb1 hbr hlit LD hc
    generalize hS : wgtL (rawsL zs u v) = S at *
    generalize rawsL zs u v = W at *
    generalize zs.map (·.d) = P at *
    obtain ⟨W2, hW2⟩ : ∃ W2, W2 = w1.alloc (.cells #[.int .i64 u, .int .i64 v, .slice (some ⟨b, 0, none⟩) zs.length zs.length] 61) := ⟨_, rfl⟩
    have hb2 : Below w1.heap.size w1 W2 := by rw [hW2]; exact (Below.refl _ _).alloc (Nat.le_refl _) _
    have L2 : L3 W2 w1.heap.size u v (.slice (some ⟨b, 0, none⟩) zs.length zs.length) := by rw [hW2]; exact L3.new _ _ _ _ _
    have HBR2 := Lib.hid (HBR1.out.below hb2)
    have HB2 := Lib.hid (HB1.out.trans (hb2.mono HB1.out.size))
    have MK := KRow.made W2 zs.length
    have HL2 := Lib.hid L2
    have HW2 := Lib.hid hW2
    obtain ⟨l0, l1, l2, _, _, _⟩ := L2
    have e2 : W2.heap.size = w1.heap.size + 1 := by rw [hW2]; simp
    have hb3 : Below W2.heap.size W2 (W2.alloc (.cells (madeCells #[.int .i64 0] zs.length) 2)) := (Below.refl _ _).alloc (Nat.le_refl _) _
    have l3 := (HL2.out.on hb3).c2
    have HM3 : Hid (KRow (W2.alloc (.cells (madeCells #[.int .i64 0] zs.length) 2)) W2.heap.size zs.length (fillL S zs.length 0)) := Lib.hid (by rw [fillL_zero]; exact MK)
    have HB3 := Lib.hid hb3
    clear hW2 hb2 MK HBR1 HB1 hb3
    go_wp2_with fail
    first | rw [← HW2.out] | skip
    clear hmk l0 l1 l2 l3
    go_loopg [31] (zs.length + 1) (fun kx s31 wr => ∃ k : Nat, s31 = .int .i64 (k : Int) ∧ k ≤ zs.length ∧ kx = zs.length + 1 - k ∧ Hid (KRow wr (w1.heap.size + 1) zs.length (fillL S zs.length k)) ∧ Hid (Below W2.heap.size W2 wr))
    case atStart => exact ⟨0, rfl, Nat.zero_le _, rfl, Lib.hid (by rw [← e2]; exact HM3.out), HB3⟩
    case round =>
      clear HM3 HB3
      obtain ⟨k, rfl, hk, rfl, HM, HB⟩ := hrel
      by_cases hlt : k < zs.length
      · obtain ⟨c0, c1, c2⟩ := (HBR2.out.below HB.out).at k hlt
        have m0 := HM.out.at k hlt
        have f0 := HM.out.free k
        have k0 : (0 : Int) ≤ (k : Int) := by omega
        have k1 : (k : Int) < (zs.length : Int) := by omega
        have hml := HM.out.lt
        have M6 := KRow.put HM.out k hlt (fillL_len S zs.length k HWl hk) (S.getD k 0)
        rw [fillL_set S zs.length k HWl hlt _ rfl] at M6
        have HM6 : Hid (KRow ((wr.setCell ⟨w1.heap.size + 1, k, none⟩ (.int .i64 (S.getD k 0))).alloc (.cells #[.int .i64 (P.getD k 0), .int .i64 (W.getD k 0), .int .i64 (S.getD k 0)] 65)) (w1.heap.size + 1) zs.length (fillL S zs.length (k + 1))) := Lib.hid (World.rowIs.alloc M6 _)
        have HB5 := HB.out.setCell (p := ⟨w1.heap.size + 1, k, none⟩) (show W2.heap.size ≤ w1.heap.size + 1 by omega) (.int .i64 (S.getD k 0))
        have HB6 : Hid (Below W2.heap.size W2 ((wr.setCell ⟨w1.heap.size + 1, k, none⟩ (.int .i64 (S.getD k 0))).alloc (.cells #[.int .i64 (P.getD k 0), .int .i64 (W.getD k 0), .int .i64 (S.getD k 0)] 65))) := Lib.hid (HB5.alloc HB5.size _)
        clear M6 HM HB HB5
        generalize S.getD k 0 = sk at *
        generalize P.getD k 0 = pk at *
        generalize W.getD k 0 = xk at *
        generalize (fillL S zs.length k).getD k 0 = tk at *
        go_wp2_with fail
        go_roundg (zs.length + 1 - (k + 1))
        case measure => omega
        case rel => exact ⟨k + 1, by go_num, by omega, rfl, HM6, HB6⟩
      · obtain rfl : k = zs.length := by omega
        rw [fillL_all S _ HWl] at HM
        have HBF := Lib.hid (HB2.out.trans (HB.out.mono HB2.out.size))
        have OW := Lib.hid (own_of_krow HM.out (show w.heap.size ≤ w1.heap.size + 1 by have := HB2.out.size; omega) HWl (by unfold maxLen; omega))
        go_wp2_with fail
        go_returns
        exact ⟨_, by rw [HR2.out]; rfl, by rw [HR2.out]; exact OW.out, HBF.out⟩
  · have HR2 := Lib.hid (HR.out.trans (if_neg hc))
    clear h6 hWl HR
    unfold LitPost at LD
    generalize litC zs u v = c at *
    have hc1 : (c != 0) = true := by simpa using hc
    have hc2 : (c == 0) = false := by simpa using hc
    go_enter Tryz.func10, Tryz.ntmps10
    go_wp2_with fail
    refine LD.out.mono ?_
    rintro e w1 ⟨lv, rfl, hb1, hlv, _⟩
    obtain rfl := hlv hc
    have HB1 := Lib.hid hb1
    clear hb1 LD hlv
    go_wp2_with fail
    go_returns
    exact ⟨_, by rw [HR2.out]; rfl, by rw [HR2.out]; exact World.ownsRow_nil _ _ _ _, HB1.out.alloc HB1.out.size _⟩
theorem fin_Bm9 : True := trivial
end

section
open Go.RowKit
set_option linter.unusedVariables false

set_option maxHeartbeats 400000 in
theorem bri1_any (p x s : Int) (hp : 0 ≤ p ∧ p ≤ 1000) (hs : 0 ≤ s ∧ s ≤ 1002000) (w : World) : Calls Tryz.prog 57 #[.agg #[.int .i64 p, .int .i64 x, .int .i64 s]] w fun e w' => e = .returned (.int .i64 (s * p)) ∧ Below w.heap.size w w' := by
  have h0 : 0 ≤ s * p := Int.mul_nonneg hs.1 hp.1
  have h1 : s * p ≤ 1002000 * 1000 := Int.mul_le_mul hs.2 hp.2 hp.1 (by omega)
  have e1 : IntKind.i64.wrap (s * p) = s * p := IntWalk.i64_in _ (by omega)
  have e2 : wrap64 (s * p) = s * p := IntWalk.wrap64_in _ (by omega)
  clear h0 h1 hp hs
  go_enter Tryz.func57, Tryz.ntmps57
  go_wp2_with fail
  go_ret
  refine ⟨by first | rfl | (simp [e1, e2]), ?_⟩
  repeat (first | exact Below.refl _ _ | refine Below.setCell ?_ (by first | (simp; done) | omega | (simp; omega)) _ | refine Below.alloc ?_ (by first | (simp; done) | omega | (simp; omega)) _ | refine bel_drew ?_)
set_option maxRecDepth 100000 in
set_option maxHeartbeats 1000000 in
theorem bri_any (g n cap : Nat) (P W S : List Int) (u v : Int) (w : World) (hn : n ≤ 1000) (hP : ∀ i, i < n → 0 ≤ P.getD i 0 ∧ P.getD i 0 ≤ 1000) (hS : ∀ i, i < n → 0 ≤ S.getD i 0 ∧ S.getD i 0 ≤ 1002000) (hr : BRow w g n P W S) :
    Calls Tryz.prog 34 #[.agg #[.int .i64 u, .int .i64 v, .slice (some ⟨g, 0, none⟩) n cap]] w fun e w' => e = .returned (.int .i64 (sumF (fun i => S.getD i 0 * P.getD i 0) n / 1000)) ∧ Below w.heap.size w w' := by
  obtain ⟨W0, hW0⟩ : ∃ W0, W0 = w.alloc (.cells #[.int .i64 u, .int .i64 v, .slice (some ⟨g, 0, none⟩) n cap] 61) := ⟨_, rfl⟩
  have hB0 : Below w.heap.size w W0 := by rw [hW0]; exact (Below.refl _ _).alloc (Nat.le_refl _) _
  have c2 : W0.cell? ⟨w.heap.size, 2, none⟩ = some (.slice (some ⟨g, 0, none⟩) n cap) := by rw [hW0]; simp
  have eg : ∀ args w, (callFunc 57 args).run Tryz.prog w = .ok (.enter 57 args) w := enters_of Tryz.func57 (by kernel_rfl) rfl
  have hv : ∀ i, i < n → 0 ≤ S.getD i 0 * P.getD i 0 ∧ S.getD i 0 * P.getD i 0 ≤ 2000000000 := fun i hi => by
    have h1 := hP i hi
    have h2 := hS i hi
    have h3 : 0 ≤ S.getD i 0 * P.getD i 0 := Int.mul_nonneg h2.1 h1.1
    have h4 : S.getD i 0 * P.getD i 0 ≤ 1002000 * 1000 := Int.mul_le_mul h2.2 h1.2 h1.1 (by omega)
    omega
  have C := Lib.hid (sumB_any 57 #[] g n cap P W S (fun i => S.getD i 0 * P.getD i 0) W0 eg hn (hr.below hB0) hv (fun X i _ hi => bri1_any _ _ _ (hP i hi) (hS i hi) X))
  have sb := sumF_bd (fun i => S.getD i 0 * P.getD i 0) 2000000000 n hv n (Nat.le_refl _)
  have HB0 := Lib.hid hB0
  have HW := Lib.hid hW0
  clear hr hB0 hW0 eg hv hP hS
  generalize sumF (fun i => S.getD i 0 * P.getD i 0) n = m at *
  have q0 : m.tdiv 1000 = m / 1000 := Int.tdiv_eq_ediv_of_nonneg sb.1
  have e1 : IntKind.i64.wrap (m / 1000) = m / 1000 := IntWalk.i64_in _ (by omega)
  have e2 : wrap64 (m / 1000) = m / 1000 := IntWalk.wrap64_in _ (by omega)
  clear sb
  go_enter Tryz.func34, Tryz.ntmps34
  go_wp2_with fail
  rw [← HW.out]
  clear HW
  refine C.out.mono ?_
  rintro e w2 ⟨rfl, hb2⟩
  have HB2 := Lib.hid (HB0.out.trans (hb2.mono HB0.out.size))
  clear hb2 c2
  go_wp2_with fail
  go_ret
  exact ⟨by first | rfl | (simp [q0, e1, e2]), HB2.out⟩

theorem sumP_F (zs : List StarV) (L : List Int) : ∀ n, n ≤ zs.length → sumP zs L n = sumF (fun i => L.getD i 0 * (zs.map (·.d)).getD i 0) n
  | 0, _ => rfl
  | n + 1, h => by
    have ih := sumP_F zs L n (by omega)
    have e : (zs.map (·.d)).getD n 0 = (zs.getD n star0).d := by
      rw [List.getD, List.getElem?_map, List.getElem?_eq_getElem (by omega), getD_at zs n (by omega)]
      rfl
    show sumP zs L n + L.getD n 0 * (zs.getD n star0).d = sumF _ n + L.getD n 0 * (zs.map (·.d)).getD n 0
    rw [ih, e]
theorem lit_0 {zs : List StarV} {u v : Int} (h : litC zs u v = 0) : okL zs = true ∧ spotB u v = true ∧ ¬ sumK (rawsL zs u v) zs.length = 0 := by
  unfold litC at h
  by_cases c : okL zs = true
  · rw [if_pos c] at h
    by_cases c2 : spotB u v = true
    · rw [if_pos c2] at h
      refine ⟨c, c2, fun h2 => ?_⟩
      rw [if_pos h2] at h
      omega
    · rw [if_neg c2] at h; omega
  · rw [if_neg c] at h; omega
theorem brightV_lit (zs : List StarV) (u v : Int) : brightV zs u v = if litC zs u v = 0 then (sumF (fun i => (wgtL (rawsL zs u v)).getD i 0 * (zs.map (·.d)).getD i 0) zs.length / 1000, 0) else (0, litC zs u v) := by
  unfold brightV litC
  by_cases h1 : okL zs = true
  · rw [if_pos h1, if_pos h1]
    obtain ⟨hg, h6⟩ := okL_good h1
    by_cases h2 : spotB u v = true
    · rw [if_pos h2, if_pos h2]
      unfold brightN
      by_cases h3 : sumK (rawsL zs u v) zs.length = 0
      · rw [if_pos ((wgt_none zs u v).2 h3), if_pos h3]
        simp
      · have hl : (wgtL (rawsL zs u v)).length = zs.length := by
          have e := wgtL_len (rawsL zs u v)
          rw [rawsL_len, if_neg h3] at e
          exact e
        rw [if_neg (fun h => h3 ((wgt_none zs u v).1 h)), if_neg h3, hl, sumP_F zs _ _ (Nat.le_refl _)]
        have h0 := (sumP_bd zs (wgtL (rawsL zs u v)) (wgtL_bd _ (rawsL_bd hg u v)) (fun j hj => (starB_bd (hg j hj)).2.2.2) (by omega) zs.length (by omega)).1
        rw [sumP_F zs _ _ (Nat.le_refl _)] at h0
        rw [if_neg (by have := Int.ediv_nonneg h0 (show (0 : Int) ≤ 1000 by omega); omega)]
        simp
    · rw [if_neg h2, if_neg h2]; simp
  · rw [if_neg h1, if_neg h1]; simp

set_option maxRecDepth 100000 in
set_option maxHeartbeats 8000000 in
theorem implBright_any (g cap : Nat) (zs : List StarV) (u v : Int) (w : World) (hb : zs.length ≤ 1048577) (h1 : Row w g zs) (hok : ∀ j, (h : j < zs.length) → zs[j].ok) (hs : SinesOK w) :
    Calls Tryz.prog 17 #[.slice (some ⟨g, 0, none⟩) zs.length cap, .int .i64 u, .int .i64 v] w fun e w' => e = .returned (.tuple #[.int .i64 (brightV zs u v).1, .int .i64 (brightV zs u v).2]) ∧ Below w.heap.size w w' := by
  have LD := Lib.hid (litDir_any g cap zs u v w hb h1 hok hs)
  have HR := Lib.hid (brightV_lit zs u v)
  clear h1 hok hs
  by_cases hc : litC zs u v = 0
  · rw [HR.out, if_pos hc]
    obtain ⟨k1, k2, k3⟩ := lit_0 hc
    obtain ⟨hg, h6⟩ := okL_good k1
    have hPd : ∀ i, i < zs.length → 0 ≤ (zs.map (·.d)).getD i 0 ∧ (zs.map (·.d)).getD i 0 ≤ 1000 := fun i hi => by
      rw [List.getD, List.getElem?_map, List.getElem?_eq_getElem hi]
      have := (starB_bd (hg i hi)).2.2.2
      show 0 ≤ zs[i].d ∧ zs[i].d ≤ 1000
      omega
    have hl : (wgtL (rawsL zs u v)).length = zs.length := by
      have e := wgtL_len (rawsL zs u v)
      rw [rawsL_len, if_neg k3] at e
      exact e
    have hSd : ∀ i, i < zs.length → 0 ≤ (wgtL (rawsL zs u v)).getD i 0 ∧ (wgtL (rawsL zs u v)).getD i 0 ≤ 1002000 := fun i hi => by
      rw [List.getD, List.getElem?_eq_getElem (by omega)]
      exact wgtL_bd _ (rawsL_bd hg u v) _ (List.getElem_mem _)
    have BA := Lib.hid (fun b W hr => bri_any b zs.length zs.length (zs.map (·.d)) (rawsL zs u v) (wgtL (rawsL zs u v)) u v W (by omega) hPd hSd hr)
    clear HR k1 k2 k3 hg hPd hSd hl
    generalize sumF (fun i => (wgtL (rawsL zs u v)).getD i 0 * (zs.map (·.d)).getD i 0) zs.length / 1000 = r at *
    go_enter Tryz.func17, Tryz.ntmps17
    go_wp2_with fail
    refine LD.out.mono ?_
    rintro e w1 ⟨lv, rfl, hb1, _, hlit⟩
    obtain ⟨b, rfl, hbr⟩ := hlit hc
    rw [hc]
    have HB1 := Lib.hid hb1
    have HBR1 := Lib.hid hbr
    clear hb1 hbr hlit LD hc
    have hb2 : Below w1.heap.size w1 (w1.alloc (.cells #[.int .i64 u, .int .i64 v, .slice (some ⟨b, 0, none⟩) zs.length zs.length] 61)) := (Below.refl _ _).alloc (Nat.le_refl _) _
    have BB := Lib.hid (BA.out b _ (HBR1.out.below hb2))
    have HB2 := Lib.hid (HB1.out.trans (hb2.mono HB1.out.size))
    clear hb2 BA HB1
    go_wp2_with fail
    refine BB.out.mono ?_
    rintro e w3 ⟨rfl, hb3⟩
    have HB3 := Lib.hid (HB2.out.trans (hb3.mono HB2.out.size))
    clear hb3
    go_wp2_with fail
    refine bodyPost_ret (v := .tuple #[.int .i64 r, .int .i64 0]) (by first | (simp [results, Tryz.results17, go_sem]; done) | (simp [results, Tryz.results17, go_sem, *]; done)) rfl ⟨rfl, ?_⟩
    repeat (first | exact Below.refl _ _ | exact HB3.out | refine Below.setCell ?_ (by first | (simp; done) | omega | (simp; omega)) _ | refine Below.alloc ?_ (by first | (simp; done) | omega | (simp; omega)) _ | refine bel_drew ?_)
  · rw [HR.out, if_neg hc]
    unfold LitPost at LD
    clear HR
    generalize litC zs u v = c at *
    have hc1 : (c != 0) = true := by simpa using hc
    have hc2 : (c == 0) = false := by simpa using hc
    go_enter Tryz.func17, Tryz.ntmps17
    go_wp2_with fail
    refine LD.out.mono ?_
    rintro e w1 ⟨lv, rfl, hb1, hlv, _⟩
    obtain rfl := hlv hc
    have HB1 := Lib.hid hb1
    have HB2 : Hid (Below w.heap.size w (w1.alloc (.cells #[.int .i64 0, .int .i64 0, .slice none 0 0] 61))) := Lib.hid (HB1.out.alloc HB1.out.size _)
    clear hb1 LD hlv
    go_wp2_with fail
    refine bodyPost_ret (v := .tuple #[.int .i64 0, .int .i64 c]) (by first | (simp [results, Tryz.results17, go_sem]; done) | (simp [results, Tryz.results17, go_sem, *]; done)) rfl ⟨rfl, ?_⟩
    repeat (first | exact Below.refl _ _ | exact HB2.out | refine Below.setCell ?_ (by first | (simp; done) | omega | (simp; omega)) _ | refine Below.alloc ?_ (by first | (simp; done) | omega | (simp; omega)) _ | refine bel_drew ?_)
theorem fin_Bm10 : True := trivial
end

section
open Go.RowKit
set_option linter.unusedVariables false

theorem ddM_small (u : Nat) (h : u < 10) : Lib.decDigits u = [UInt8.ofNat (48 + u)] := by rw [Lib.decDigits, dif_pos h]
theorem ddM_big (u : Nat) (h : ¬ u < 10) : Lib.decDigits u = Lib.decDigits (u / 10) ++ [UInt8.ofNat (48 + u % 10)] := by rw [Lib.decDigits, dif_neg h]
/-- The numbers k, k + 1, .. -/
def marks (k : Int) : Nat → List Int
  | 0 => []
  | n + 1 => k :: marks (k + 1) n
theorem marks_len : ∀ (n : Nat) (k : Int), (marks k n).length = n
  | 0, _ => rfl
  | n + 1, k => by rw [marks, List.length_cons, marks_len n (k + 1)]
theorem marks_get : ∀ (n : Nat) (k : Int) (j : Nat) (_h : j < n), (marks k n)[j]? = some (k + j)
  | n + 1, k, 0, _ => by rw [marks]; simp
  | n + 1, k, j + 1, _ => by
    rw [marks, List.getElem?_cons_succ, marks_get n (k + 1) j (by omega)]
    congr 1; omega

set_option maxHeartbeats 400000 in
theorem eqI_empty (a b : Option Addr) (ca cb : Nat) (w : World) :
    Calls Tryz.prog 11 #[.slice a 0 ca, .slice b 0 cb] w fun e w' => e = .returned (.bool true) ∧ ∃ q, w' = w.drewN q := by
  go_enter Tryz.func11, Tryz.ntmps11
  go_wp2_with fail
  go_loop [5] (fun i => i = .int .i64 0) (fun _ => 0)
  case atStart => rfl
  case round =>
    subst hrel
    go_wp2_with fail
    go_ret
    exact ⟨rfl, 0, rfl⟩

set_option maxHeartbeats 1000000 in
theorem eqI_full (g h ca cb : Nat) (zs : List Int) (w : World) (hb : zs.length ≤ 1048576)
    (hg : ∀ j, (hj : j < zs.length) → w.cell? ⟨g, j, none⟩ = some (.int .i64 zs[j])) (hh : ∀ j, (hj : j < zs.length) → w.cell? ⟨h, j, none⟩ = some (.int .i64 zs[j])) :
    Calls Tryz.prog 11 #[.slice (some ⟨g, 0, none⟩) zs.length ca, .slice (some ⟨h, 0, none⟩) zs.length cb] w fun e w' => e = .returned (.bool true) ∧ ∃ q, w' = w.drewN q := by
  have HG := Lib.hid hg
  have HH := Lib.hid hh
  clear hg hh
  go_enter Tryz.func11, Tryz.ntmps11
  go_wp2_with fail
  go_loopw [5] (fun i wr => ∃ (j q : Nat), i = .int .i64 (j : Int) ∧ j ≤ zs.length ∧ wr = w.drewN q) (fun i _ => zs.length - (intOf i).toNat)
  case atStart => exact ⟨0, 0, rfl, Nat.zero_le _, rfl⟩
  case round =>
    obtain ⟨j, q, rfl, hj, rfl⟩ := hrel
    by_cases hlt : j < zs.length
    · have c1 := HG.out j hlt
      have c2 := HH.out j hlt
      generalize zs[j] = z at *
      go_wp2_with fail
      go_quiet (fail)
      go_wp2_with fail
      go_roundw
      case rel => exact ⟨j + 1, _, by go_num, by omega, rfl⟩
      case measure => (simp [intOf] <;> omega)
    · go_wp2_with fail
      go_ret
      exact ⟨rfl, q, rfl⟩

theorem cells_own {w : World} {B g cap : Nat} {e : TypeId} {zs : List Int} (h : w.ownsRow B e 1 (.slice (some ⟨g, 0, none⟩) zs.length cap) zs.length (zs.map (Value.int .i64))) :
    ∀ j, (hj : j < zs.length) → w.cell? ⟨g, j, none⟩ = some (.int .i64 zs[j]) := by
  intro j hj
  rw [h.cellAt j (by omega), List.getElem?_map, List.getElem?_eq_getElem hj]
  rfl
theorem eqI_same {B C : Nat} {v u : Value} {zs : List Int} {w : World} (hb : zs.length ≤ 1048576) (h1 : w.ownsRow B 2 1 v zs.length (zs.map (Value.int .i64))) (h2 : w.ownsRow C 2 1 u zs.length (zs.map (Value.int .i64))) :
    Calls Tryz.prog 11 #[v, u] w fun e w' => e = .returned (.bool true) ∧ ∃ q, w' = w.drewN q := by
  by_cases hz : zs.length = 0
  · rw [hz] at h1 h2
    rcases Go.Joins.ownsRow_forms h1 with ⟨rfl, _⟩ | ⟨g, c, rfl⟩ <;> rcases Go.Joins.ownsRow_forms h2 with ⟨rfl, _⟩ | ⟨g', c', rfl⟩ <;> exact eqI_empty _ _ _ _ _
  · obtain ⟨g, c, rfl⟩ := Go.Joins.ownsRow_form h1 (by omega)
    obtain ⟨g', c', rfl⟩ := Go.Joins.ownsRow_form h2 (by omega)
    exact eqI_full g g' c c' zs w hb (cells_own h1) (cells_own h2)

/-- The marks so far, the old numbers behind them. -/
def marked (k : Int) (zs : List Int) (j : Nat) : List Int := marks k j ++ zs.drop j
theorem marked_len (k : Int) (zs : List Int) (j : Nat) (h : j ≤ zs.length) : (marked k zs j).length = zs.length := by
  unfold marked
  rw [List.length_append, marks_len, List.length_drop]
  omega
theorem marks_snoc : ∀ (j : Nat) (k : Int), marks k (j + 1) = marks k j ++ [k + j]
  | 0, k => by simp [marks]
  | j + 1, k => by
    rw [marks, marks_snoc j (k + 1), marks, List.cons_append]
    congr 3
    omega
theorem marked_set (k : Int) (zs : List Int) (j : Nat) (h : j < zs.length) : (marked k zs j).set j (k + j) = marked k zs (j + 1) := by
  unfold marked
  rw [marks_snoc, List.drop_eq_getElem_cons h, List.set_append_right _ _ (by rw [marks_len]; omega), marks_len, Nat.sub_self, List.set_cons_zero, List.append_assoc]
  rfl
theorem marked_done (k : Int) (zs : List Int) : marked k zs zs.length = marks k zs.length := by
  unfold marked
  rw [List.drop_length, List.append_nil]

set_option maxHeartbeats 400000 in
theorem markI_empty (a : Option Addr) (ca : Nat) (k : Int) (w : World) :
    Calls Tryz.prog 14 #[.slice a 0 ca, .int .i64 k] w fun e w' => e = .returned (.int .i64 k) ∧ w = w' := by
  go_enter Tryz.func14, Tryz.ntmps14
  go_wp2_with fail
  go_loop [1, 5] (fun t i => i = .int .i64 0 ∧ t = .int .i64 k) (fun _ _ => 0)
  case atStart => exact ⟨rfl, rfl⟩
  case round =>
    obtain ⟨rfl, rfl⟩ := hrel
    go_wp2_with fail
    go_ret
    exact ⟨rfl, rfl⟩

set_option maxHeartbeats 1000000 in
theorem markI_full (B g ca : Nat) (zs : List Int) (k : Int) (w : World) (hb : zs.length ≤ 1048576) (hk0 : 0 ≤ k) (hk1 : k ≤ 1048576)
    (hown : w.ownsRow B 2 1 (.slice (some ⟨g, 0, none⟩) zs.length ca) zs.length (zs.map (Value.int .i64))) :
    Calls Tryz.prog 14 #[.slice (some ⟨g, 0, none⟩) zs.length ca, .int .i64 k] w fun e w' => e = .returned (.int .i64 (k + zs.length)) ∧ w'.ownsRow B 2 1 (.slice (some ⟨g, 0, none⟩) zs.length ca) zs.length ((marks k zs.length).map (Value.int .i64)) ∧ Below B w w' := by
  have hBg := (hown.lt g rfl).1
  have OWN := Lib.hid hown
  clear hown
  go_enter Tryz.func14, Tryz.ntmps14
  go_wp2_with fail
  go_loopw [1, 5] (fun t i wr => ∃ j : Nat, i = .int .i64 (j : Int) ∧ t = .int .i64 (k + j) ∧ j ≤ zs.length ∧ wr.ownsRow B 2 1 (.slice (some ⟨g, 0, none⟩) zs.length ca) zs.length ((marked k zs j).map (Value.int .i64)) ∧ Below B w wr) (fun _ i _ => zs.length - (intOf i).toNat)
  case atStart => exact ⟨0, rfl, by go_num, Nat.zero_le _, OWN.out, Below.refl _ _⟩
  case round =>
    obtain ⟨j, rfl, rfl, hj, hown, hbel⟩ := hrel
    by_cases hlt : j < zs.length
    · have hml := marked_len k zs j hj
      have c1 : ∃ z, wr.cell? ⟨g, j, none⟩ = some (.int .i64 z) := by
        rw [hown.cellAt j (by omega), List.getElem?_map, List.getElem?_eq_getElem (by omega)]
        exact ⟨_, rfl⟩
      obtain ⟨z, c1⟩ := c1
      have f1 : wr.frozen? ⟨g, j, none⟩ = false := hown.frozenAt j
      have hst := (hown.stored j (.int .i64 (k + j))).1
      rw [← List.map_set, marked_set k zs j hlt] at hst
      have ST := Lib.hid hst
      have BL := Lib.hid (hbel.setCell (p := ⟨g, j, none⟩) hBg (.int .i64 (k + j)))
      clear hown hst hml hbel
      go_wp2_with fail
      go_roundw
      case rel => exact ⟨j + 1, by go_num, by go_num, by omega, ST.out, BL.out⟩
      case measure => (simp [intOf] <;> omega)
    · obtain rfl : j = zs.length := by omega
      rw [marked_done] at hown
      go_wp2_with fail
      go_ret
      exact ⟨rfl, hown, hbel⟩
theorem markI_any {B : Nat} {v : Value} {zs : List Int} {w : World} (k : Int) (hb : zs.length ≤ 1048576) (hk0 : 0 ≤ k) (hk1 : k ≤ 1048576) (h : w.ownsRow B 2 1 v zs.length (zs.map (Value.int .i64))) :
    Calls Tryz.prog 14 #[v, .int .i64 k] w fun e w' => e = .returned (.int .i64 (k + zs.length)) ∧ w'.ownsRow B 2 1 v zs.length ((marks k zs.length).map (Value.int .i64)) ∧ Below B w w' := by
  by_cases hz : zs.length = 0
  · obtain rfl : zs = [] := List.length_eq_zero_iff.1 hz
    have fin : ∀ (a : Option Addr) (c : Nat), v = .slice a 0 c → Calls Tryz.prog 14 #[v, .int .i64 k] w fun e w' => e = .returned (.int .i64 (k + (([] : List Int).length : Int))) ∧ w'.ownsRow B 2 1 v ([] : List Int).length ((marks k ([] : List Int).length).map (Value.int .i64)) ∧ Below B w w' := by
      intro a c hv
      subst hv
      refine (markI_empty a c k w).mono fun e w' ⟨he, hw⟩ => ?_
      subst hw
      exact ⟨by rw [he]; exact ret_int (by simp), h, Below.refl _ _⟩
    rcases Go.Joins.ownsRow_forms h with ⟨hv, _⟩ | ⟨g, c, hv⟩
    · exact fin _ _ hv
    · exact fin _ _ hv
  · obtain ⟨g, c, rfl⟩ := Go.Joins.ownsRow_form h (by omega)
    exact markI_full B g c zs k w hb hk0 hk1 h

set_option maxHeartbeats 400000 in
theorem heldI_empty (a : Option Addr) (ca : Nat) (k : Int) (w : World) :
    Calls Tryz.prog 15 #[.slice a 0 ca, .int .i64 k] w fun e w' => e = .returned (.int .i64 k) ∧ w = w' := by
  go_enter Tryz.func15, Tryz.ntmps15
  go_wp2_with fail
  go_loop [1, 5] (fun t i => i = .int .i64 0 ∧ t = .int .i64 k) (fun _ _ => 0)
  case atStart => exact ⟨rfl, rfl⟩
  case round =>
    obtain ⟨rfl, rfl⟩ := hrel
    go_wp2_with fail
    go_ret
    exact ⟨rfl, rfl⟩
set_option maxHeartbeats 1000000 in
theorem heldI_full (g ca n : Nat) (k : Int) (w : World) (hb : n ≤ 1048576) (hk0 : 0 ≤ k) (hk1 : k ≤ 1048576)
    (hc : ∀ j, j < n → w.cell? ⟨g, j, none⟩ = some (.int .i64 (k + j))) :
    Calls Tryz.prog 15 #[.slice (some ⟨g, 0, none⟩) n ca, .int .i64 k] w fun e w' => e = .returned (.int .i64 (k + n)) ∧ w = w' := by
  have HC := Lib.hid hc
  clear hc
  go_enter Tryz.func15, Tryz.ntmps15
  go_wp2_with fail
  go_loop [1, 5] (fun t i => ∃ j : Nat, i = .int .i64 (j : Int) ∧ t = .int .i64 (k + j) ∧ j ≤ n) (fun _ i => n - (intOf i).toNat)
  case atStart => exact ⟨0, rfl, by go_num, Nat.zero_le _⟩
  case round =>
    obtain ⟨j, rfl, rfl, hj⟩ := hrel
    by_cases hlt : j < n
    · have c1 := HC.out j hlt
      go_wp2_with fail
      go_round
      case rel => exact ⟨j + 1, by go_num, by go_num, by omega⟩
      case measure => (simp [intOf] <;> omega)
    · obtain rfl : j = n := by omega
      go_wp2_with fail
      go_ret
      exact ⟨rfl, rfl⟩
theorem heldI_any {B n : Nat} {v : Value} {w : World} (k : Int) (hb : n ≤ 1048576) (hk0 : 0 ≤ k) (hk1 : k ≤ 1048576) (h : w.ownsRow B 2 1 v n ((marks k n).map (Value.int .i64))) :
    Calls Tryz.prog 15 #[v, .int .i64 k] w fun e w' => e = .returned (.int .i64 (k + n)) ∧ w = w' := by
  by_cases hz : n = 0
  · subst hz
    rcases Go.Joins.ownsRow_forms h with ⟨rfl, _⟩ | ⟨g, c, rfl⟩
    · exact (heldI_empty _ _ k w).mono fun e w' ⟨he, hw⟩ => ⟨by rw [he]; exact ret_int (by simp), hw⟩
    · exact (heldI_empty _ _ k w).mono fun e w' ⟨he, hw⟩ => ⟨by rw [he]; exact ret_int (by simp), hw⟩
  · obtain ⟨g, c, rfl⟩ := Go.Joins.ownsRow_form h (by omega)
    refine heldI_full g c n k w hb hk0 hk1 fun j hj => ?_
    rw [h.cellAt j (by omega), List.getElem?_map, marks_get n k j hj]
    rfl
theorem owns_drewN {w : World} {B : Nat} {e : TypeId} {v : Value} {n : Nat} {xs : List Value} (h : w.ownsRow B e 1 v n xs) (q : Nat) : (w.drewN q).ownsRow B e 1 v n xs := h
/-- The digits of a number, none for 0. -/
def dd0 (m : Nat) : List UInt8 := if m = 0 then [] else Lib.decDigits m
theorem dd0_step (m : Nat) (h : m ≠ 0) : dd0 m = dd0 (m / 10) ++ [UInt8.ofNat (48 + m % 10)] := by
  unfold dd0
  rw [if_neg h]
  by_cases c : m < 10
  · rw [ddM_small m c, if_pos (by omega), Nat.mod_eq_of_lt c]; rfl
  · rw [ddM_big m c, if_neg (by omega)]
/-- The text of a number. -/
def mkT (k : Nat) : ByteArray := ⟨(109 :: dd0 k).toArray⟩

theorem bytes_inj' {a b : ByteArray} (h : a.data.toList = b.data.toList) : a = b := WideShapes.bytes_inj h

set_option maxRecDepth 100000 in
set_option maxHeartbeats 1000000 in
theorem markText_any (k : Nat) (w : World) (h0 : 1 ≤ k) (h1 : k ≤ 4503599627370496) :
    Calls Tryz.prog 32 #[.int .i64 (k : Int)] w fun e w' => e = .returned (.string (mkT k)) ∧ Below w.heap.size w w' := by
  have h0' : decide ((k : Int) ≤ 0) = false := by simp; omega
  have h0'' : (k == 0) = false := beq_eq_false_iff_ne.2 (by omega)
  have h0d : decide (k = 0) = false := by simp; omega
  go_enter Tryz.func32, Tryz.ntmps32
  go_wp2_with fail
  go_loopw [0, 3] (fun t o wr => ∃ (m : Nat) (l : List UInt8), t = .int .i64 (m : Int) ∧ o = .string ⟨l.toArray⟩ ∧ l.length + m ≤ k ∧ dd0 m ++ l = dd0 k ∧ Below w.heap.size w wr ∧ w.heap.size ≤ wr.heap.size) (fun t _ _ => (intOf t).toNat)
  case atStart => exact ⟨k, [], rfl, rfl, by simp, List.append_nil _, Below.refl _ _, Nat.le_refl _⟩
  case round =>
    obtain ⟨m, l, rfl, rfl, hm, hl, hbel, hsz⟩ := hrel
    have HL := Lib.hid hl
    clear hl
    by_cases hz : 1 ≤ m
    · have hz' : decide (0 < m) = true := by simp; omega
      have hst := dd0_step m (by omega)
      have HS := Lib.hid hst
      clear hst
      have hconv := run_convert_bytes_arg (P := Tryz.prog) (wr.alloc (.cells #[.int .u8 (48 + (m : Int) % 10)] 5)) 42 5 Tryz.underlying42 Tryz.underlying5 wr.heap.size 0 1 1 [48 + (m : Int) % 10] rfl (fun i hi => by
        obtain rfl : i = 0 := by omega
        simp) 9 Tryz.underlying9
      have hsl : ¬ 9223372036854775807 < (strOfNums [48 + (m : Int) % 10]).size + l.length := by
        rw [strOfNums_size]; simp; omega
      have hstr : strOfNums [48 + (m : Int) % 10] ++ (⟨l.toArray⟩ : ByteArray) = ⟨(UInt8.ofNat (48 + m % 10) :: l).toArray⟩ := by
        apply bytes_inj'
        rw [ByteArray.data_append, Array.toList_append, strOfNums_data]
        have : (48 + (m : Int) % 10).toNat = 48 + m % 10 := by omega
        simp [this]
      have HT := Lib.hid hstr
      clear hstr
      have hb2 := hbel.alloc hsz (.cells #[.int .u8 (48 + (m : Int) % 10)] 5)
      clear hbel
      go_wp2_with fail
      go_roundw
      case rel => exact ⟨m / 10, UInt8.ofNat (48 + m % 10) :: l, by go_num, by rw [HT.out], by rw [List.length_cons]; omega, by rw [← HL.out, HS.out, List.append_assoc]; rfl, hb2, by simp; omega⟩
      case measure => (simp [intOf] <;> omega)
    · obtain rfl : m = 0 := by omega
      have hl : l = dd0 k := by have := HL.out; simpa [dd0] using this
      have LL := Lib.hid hl
      have hsl : ¬ 9223372036854775807 < 1 + l.length := by omega
      have hsl2 : ¬ 9223372036854775807 < l.length + 1 := by omega
      clear hl
      go_wp2_with fail
      go_ret
      exact ⟨ret_str (by rw [LL.out]; rfl), hbel⟩
theorem markText_int (n : Int) (k : Nat) (hk : n = (k : Int)) (w : World) (h0 : 1 ≤ k) (h1 : k ≤ 4503599627370496) :
    Calls Tryz.prog 32 #[.int .i64 n] w fun e w' => e = .returned (.string (mkT k)) ∧ Below w.heap.size w w' := by
  subst hk
  exact markText_any k w h0 h1


theorem gb_refl (w : World) (row : Option Nat) : w.grownBy w row := ⟨rfl, rfl, rfl, Nat.le_refl _, fun _ _ _ => rfl⟩
theorem gb_trans {a b c : World} {row : Option Nat} (h : a.grownBy b row) (k : b.grownBy c row) : a.grownBy c row :=
  ⟨k.os.trans h.os, k.tape.trans h.tape, k.output.trans h.output, Nat.le_trans h.size k.size, fun i hi hne => (k.block i (Nat.lt_of_lt_of_le hi h.size) hne).trans (h.block i hi hne)⟩
theorem gb_of_below {a b : World} (row : Option Nat) (h : Below a.heap.size a b) : a.grownBy b row := ⟨h.os, h.tape, h.output, h.size, fun i hi _ => h.block i hi⟩
theorem gb_below {a b : World} {g B : Nat} (h : a.grownBy b (some g)) (hB : B ≤ g) (hw : B ≤ a.heap.size) : Below B a b :=
  ⟨h.os, h.tape, h.output, h.size, fun i hi => h.block i (by omega) (by simp; omega)⟩
theorem gb_put (w : World) (g o : Nat) (x : StarV) : w.grownBy (putAt w g o x) (some g) := by
  have hb : Below 0 w (putAt w g o x) := putAt_below (Below.refl _ _) (Nat.zero_le _)
  refine ⟨hb.os, hb.tape, hb.output, hb.size, fun k hk hne => ?_⟩
  have hne' : k ≠ g := fun e => hne (by rw [e])
  unfold putAt
  rw [heap_setCell_other _ _ _ _ hne', heap_setCell_other _ _ _ _ hne', heap_setCell_other _ _ _ _ hne', heap_setCell_other _ _ _ _ hne', heap_setCell_other _ _ _ _ hne']

theorem ownsRow_belowN {B : Nat} {w w' : World} {e : TypeId} {v : Value} {n : Nat} {xs : List Value} (h : w.ownsRow B e 1 v n xs) (hb : Below w.heap.size w w') : w'.ownsRow B e 1 v n xs :=
  h.kept (⟨hb.os, hb.tape, hb.output, hb.size, fun k hk _ => hb.block k hk⟩ : w.grownBy w' none) (by cases hv : v.ownBlock <;> simp)
theorem owns_far {w : World} {B g : Nat} {e : TypeId} {v : Value} {n : Nat} {xs : List Value} (h : w.ownsRow B e 1 v n xs) (hg : g < B) : v.ownBlock = none ∨ v.ownBlock ≠ some g := by
  cases hb : v.ownBlock with
  | none => exact Or.inl rfl
  | some b =>
    refine Or.inr (fun e => ?_)
    have h1 := (h.lt b hb).1
    have h2 : b = g := by simpa using e
    omega

set_option maxRecDepth 100000 in
set_option maxHeartbeats 1000000 in
theorem markSt_from (k0 : Nat) (hk0 : 1 ≤ k0) (hk1 : k0 ≤ 2251799813685248) (g cap : Nat) (zs : List StarV) (w : World) (hb : zs.length ≤ 1048577) (h1 : Row w g zs) :
    Calls Tryz.prog 13 #[.slice (some ⟨g, 0, none⟩) zs.length cap, .int .i64 (k0 : Int)] w fun e w' => e = .returned (.int .i64 ((k0 : Int) + 5 * (zs.length : Int))) ∧ w.grownBy w' (some g) := by
  have H1 := Lib.hid h1
  clear h1
  go_enter Tryz.func13, Tryz.ntmps13
  go_wp2_with fail
  go_loopg [1, 5] (zs.length + 1) (fun kx s1 s5 wr => ∃ (j : Nat) (ys : List StarV), s1 = .int .i64 ((k0 : Int) + 5 * (j : Int)) ∧ s5 = .int .i64 (j : Int) ∧ j ≤ zs.length ∧ kx = zs.length + 1 - j ∧ ys.length = zs.length ∧ Hid (Row wr g ys) ∧ Hid (w.grownBy wr (some g)))
  case atStart => exact ⟨0, zs, by go_num, rfl, Nat.zero_le _, rfl, rfl, H1, Lib.hid (gb_refl _ _)⟩
  case round =>
    obtain ⟨j, ys, rfl, rfl, hj, rfl, hy, HR, HG⟩ := hrel
    by_cases hlt : j < zs.length
    · have j0 : (0 : Int) ≤ (j : Int) := by omega
      have j1 : (j : Int) < (zs.length : Int) := by omega
      go_wp2_with fail
      refine (markText_int _ (k0 + 5 * j) (by omega) _ (by omega) (by omega)).mono ?_
      rintro e w2 ⟨rfl, hb2⟩
      have hR2 := HR.out.below hb2
      have HG2 := Lib.hid (gb_trans HG.out (gb_of_below _ hb2))
      obtain ⟨d0, d1, d2, d3, d4⟩ := hR2.at j (by omega)
      have f0 := hR2.free (j * 5)
      have f1 := hR2.free (j * 5 + 1)
      have f2 := hR2.free (j * 5 + 2)
      have f3 := hR2.free (j * 5 + 3)
      have f4 := hR2.free (j * 5 + 4)
      generalize ys[j]'(by omega) = y at d0 d1 d2 d3 d4
      have PU := Lib.hid (fun x => hR2.put j (by omega) x)
      clear hb2 hR2
      generalize mkT (k0 + 5 * j) = tx at *
      go_wp2_with fail
      go_roundg (zs.length + 1 - (j + 1))
      case measure => omega
      case rel => exact ⟨j + 1, _, by go_num, by go_num, by omega, by omega, by rw [List.length_set]; exact hy, Lib.hid (PU.out ⟨_, _, _, _, _⟩), Lib.hid (gb_trans HG2.out (gb_put _ _ _ ⟨_, _, _, _, _⟩))⟩
    · obtain rfl : j = zs.length := by omega
      go_wp2_with fail
      go_ret
      exact ⟨ret_int (by omega), HG.out⟩
theorem markSt_full (g cap : Nat) (zs : List StarV) (w : World) (hb : zs.length ≤ 1048577) (h1 : Row w g zs) :
    Calls Tryz.prog 13 #[.slice (some ⟨g, 0, none⟩) zs.length cap, .int .i64 1] w fun e w' => e = .returned (.int .i64 (1 + 5 * (zs.length : Int))) ∧ w.grownBy w' (some g) :=
  markSt_from 1 (by omega) (by omega) g cap zs w hb h1
theorem fin_PjMk : True := trivial
end

section
open Go.RowKit
set_option linter.unusedVariables false

theorem wgtP_mk {R : List Int × Int} {w w' : World} {e : Ending} (h : WgtPost R w e w') : ∃ v, e = .returned (.tuple #[v, .int .i64 R.2]) ∧ w'.ownsRow w.heap.size 2 1 v R.1.length (R.1.map (Value.int .i64)) ∧ Below w.heap.size w w' := h
theorem wgtR_len (zs : List StarV) (u v : Int) : (wgtR zs u v).1.length ≤ zs.length := by
  rw [wgtR_lit]
  split
  · show (wgtL (rawsL zs u v)).length ≤ _
    rw [wgtL_len, rawsL_len]
    split <;> omega
  · exact Nat.zero_le _
theorem fin_WgtL : True := trivial
end
end Go.Proofs.YtlklcpnnaolbeaaGreatDoor
