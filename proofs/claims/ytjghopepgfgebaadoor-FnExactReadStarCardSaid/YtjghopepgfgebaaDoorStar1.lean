/-
  Stars: the contracts of toStar, eqStar, szStar (package laws), ValidStar and its parts (package impl), l05Direction, l05One, ValidStar (package spec).
-/
import Derived.Test.YtjghopepgfgebaaDoorNam
import Derived.Test.YtjghopepgfgebaaDoorStar0
import Derived.Test.YtjghopepgfgebaaDoorVec0
import Derived.Test.YtjghopepgfgebaaDoorDirV
import Derived.RegionTactic
import Derived.Deep.QuietTactic
import Derived.BigQuiet
import Derived.Deep.Draws
namespace Go.Proofs.YtjghopepgfgebaaDoor
open Go.RowKit
set_option linter.unusedVariables false

def starB (s : ByteArray) (a b c d : Int) : Bool := nameB s.data.toList && (dirB a b && (inR (-200) 800 [c] && inR (-50) 250 [d]))
def StarV.good (x : StarV) : Bool := starB x.s x.a x.b x.c x.d

set_option maxHeartbeats 400000 in
theorem l03AngleS_any (a : Int) (w : World) :
    Calls Tryd.prog 115 #[.int .i64 a] w fun e w' => e = .returned (.bool (inR 0 359999 [a])) ∧ w = w' := by
  go_enter Tryd.func115, Tryd.ntmps115
  go_wp2_with fail
  refine (l00In_any _ _ _ _).mono ?_
  rintro e w' ⟨rfl, rfl⟩
  go_wp2_with fail
  go_ret
  exact ⟨rfl, rfl⟩
set_option maxHeartbeats 400000 in
theorem l05Dir_any (a b : Int) (w : World) :
    Calls Tryd.prog 90 #[.int .i64 a, .int .i64 b] w fun e w' => e = .returned (.bool (dirB a b)) ∧ w = w' := by
  unfold dirB
  have I1 := Lib.hid (fun w => l03AngleS_any a w)
  have I2 := Lib.hid (fun w => l00In_any b (-90000) 90000 w)
  generalize inR 0 359999 [a] = p1 at *
  generalize inR (-90000) 90000 [b] = p2 at *
  cases p1 with
  | false =>
    rw [Bool.false_and]
    go_enter Tryd.func90, Tryd.ntmps90
    go_wp2_with fail
    refine (I1.out _).mono ?_
    rintro e w' ⟨rfl, rfl⟩
    go_wp2_with fail
    go_ret
    refine ⟨rfl, ?_⟩
    rfl
  | true =>
    rw [Bool.true_and]
    go_enter Tryd.func90, Tryd.ntmps90
    go_wp2_with fail
    refine (I1.out _).mono ?_
    rintro e w' ⟨rfl, rfl⟩
    go_wp2_with fail
    refine (I2.out _).mono ?_
    rintro e w' ⟨rfl, rfl⟩
    go_wp2_with fail
    go_ret
    refine ⟨rfl, ?_⟩
    rfl

set_option maxHeartbeats 400000 in
theorem isMag_any (a : Int) (w : World) :
    Calls Tryd.prog 83 #[.int .i64 a] w fun e w' => e = .returned (.bool (inR (-200) 800 [a])) ∧ Below w.heap.size w w' := by
  go_enter Tryd.func83, Tryd.ntmps83
  go_wp2_with fail
  refine (within1 _ _ a _ _ _ (by simp)).mono ?_
  rintro e w' ⟨rfl, rfl⟩
  go_wp2_with fail
  go_ret
  refine ⟨rfl, ?_⟩
  repeat (first | exact Below.refl _ _ | refine Below.setCell ?_ (by first | (simp; done) | omega | (simp; omega)) _ | refine Below.alloc ?_ (by first | (simp; done) | omega | (simp; omega)) _ | refine bel_drew ?_)
set_option maxHeartbeats 400000 in
theorem isCol_any (a : Int) (w : World) :
    Calls Tryd.prog 84 #[.int .i64 a] w fun e w' => e = .returned (.bool (inR (-50) 250 [a])) ∧ Below w.heap.size w w' := by
  go_enter Tryd.func84, Tryd.ntmps84
  go_wp2_with fail
  refine (within1 _ _ a _ _ _ (by simp)).mono ?_
  rintro e w' ⟨rfl, rfl⟩
  go_wp2_with fail
  go_ret
  refine ⟨rfl, ?_⟩
  repeat (first | exact Below.refl _ _ | refine Below.setCell ?_ (by first | (simp; done) | omega | (simp; omega)) _ | refine Below.alloc ?_ (by first | (simp; done) | omega | (simp; omega)) _ | refine bel_drew ?_)
set_option maxHeartbeats 400000 in
theorem starDir_any (s : ByteArray) (a b c d : Int) (w : World) :
    Calls Tryd.prog 81 #[.agg #[.string s, .int .i64 a, .int .i64 b, .int .i64 c, .int .i64 d]] w fun e w' => e = .returned (.agg #[.int .i64 a, .int .i64 b]) ∧ Below w.heap.size w w' := by
  go_enter Tryd.func81, Tryd.ntmps81
  go_wp2_with fail
  refine bodyPost_ret (v := .agg #[.int .i64 a, .int .i64 b]) (by first | (simp [results, Tryd.results81, go_sem]; done) | (simp [results, Tryd.results81, go_sem]; done)) rfl ⟨rfl, ?_⟩
  repeat (first | exact Below.refl _ _ | refine Below.setCell ?_ (by first | (simp; done) | omega | (simp; omega)) _ | refine Below.alloc ?_ (by first | (simp; done) | omega | (simp; omega)) _ | refine bel_drew ?_)

set_option maxHeartbeats 1000000 in
theorem validStar_any (s : ByteArray) (a b c d : Int) (hmax : s.size ≤ maxLen) (w : World) :
    Calls Tryd.prog 47 #[.agg #[.string s, .int .i64 a, .int .i64 b, .int .i64 c, .int .i64 d]] w fun e w' => e = .returned (.bool (starB s a b c d)) ∧ Below w.heap.size w w' := by
  unfold starB
  have hm : s.size ≤ 9223372036854775807 := by unfold maxLen at hmax; omega
  have I1 := Lib.hid (fun w => implName_any s w hm)
  have D := Lib.hid (fun w => starDir_any s a b c d w)
  have I2 := Lib.hid (fun w => dirValid_any a b w)
  have I3 := Lib.hid (fun w => isMag_any c w)
  have I4 := Lib.hid (fun w => isCol_any d w)
  clear hm hmax
  generalize nameB s.data.toList = p1 at *
  generalize dirB a b = p2 at *
  generalize inR (-200) 800 [c] = p3 at *
  generalize inR (-50) 250 [d] = p4 at *
  cases p1 with
  | false =>
    rw [Bool.false_and]
    go_enter Tryd.func47, Tryd.ntmps47
    go_wp2_with fail
    refine (I1.out _).mono ?_
    rintro e wx0 ⟨rfl, hb⟩
    have hswx0 := hb.size
    try simp at hswx0
    obtain ⟨hcwx0, hfwx0⟩ := bcell hb
    have HBwx0 : Hid (Below w.heap.size w wx0) := by
      apply Lib.hid
      refine Below.trans ?_ (hb.mono ?_)
      · repeat (first | exact Below.refl _ _ | refine Below.setCell ?_ (by first | (simp; done) | omega | (simp; omega)) _ | refine Below.alloc ?_ (by first | (simp; done) | omega | (simp; omega)) _)
      · first | (simp; done) | omega | (simp; omega)
    have hzwx0 : w.heap.size < wx0.heap.size := by have := hb.size; (try simp at this); omega
    clear hb
    go_wp2_with fail
    go_ret
    refine ⟨rfl, ?_⟩
    repeat (first | exact Below.refl _ _ | exact HBwx0.out | refine Below.setCell ?_ (by first | (simp; done) | omega | (simp; omega)) _ | refine Below.alloc ?_ (by first | (simp; done) | omega | (simp; omega)) _ | refine bel_drew ?_)
  | true =>
    rw [Bool.true_and]
    cases p2 with
    | false =>
      rw [Bool.false_and]
      go_enter Tryd.func47, Tryd.ntmps47
      go_wp2_with fail
      refine (I1.out _).mono ?_
      rintro e wx0 ⟨rfl, hb⟩
      have hswx0 := hb.size
      try simp at hswx0
      obtain ⟨hcwx0, hfwx0⟩ := bcell hb
      have HBwx0 : Hid (Below w.heap.size w wx0) := by
        apply Lib.hid
        refine Below.trans ?_ (hb.mono ?_)
        · repeat (first | exact Below.refl _ _ | refine Below.setCell ?_ (by first | (simp; done) | omega | (simp; omega)) _ | refine Below.alloc ?_ (by first | (simp; done) | omega | (simp; omega)) _)
        · first | (simp; done) | omega | (simp; omega)
      have hzwx0 : w.heap.size < wx0.heap.size := by have := hb.size; (try simp at this); omega
      clear hb
      go_wp2_with fail
      refine (D.out _).mono ?_
      rintro e wx1 ⟨rfl, hb⟩
      have hswx1 := hb.size
      try simp at hswx1
      obtain ⟨hcwx1, hfwx1⟩ := bcell hb
      have HBwx1 : Hid (Below w.heap.size w wx1) := by
        apply Lib.hid
        refine Below.trans ?_ (hb.mono ?_)
        · repeat (first | exact Below.refl _ _ | exact HBwx0.out | refine Below.setCell ?_ (by first | (simp; done) | omega | (simp; omega)) _ | refine Below.alloc ?_ (by first | (simp; done) | omega | (simp; omega)) _)
        · first | (simp; done) | omega | (simp; omega)
      have hzwx1 : w.heap.size < wx1.heap.size := by have := hb.size; (try simp at this); omega
      clear hb
      first | (have gswx1wx0 : wx0.heap.size < wx1.heap.size := by omega) | skip
      go_wp2_with fail
      refine (I2.out _).mono ?_
      rintro e wx2 ⟨rfl, hb⟩
      have hswx2 := hb.size
      try simp at hswx2
      obtain ⟨hcwx2, hfwx2⟩ := bcell hb
      have HBwx2 : Hid (Below w.heap.size w wx2) := by
        apply Lib.hid
        refine Below.trans ?_ (hb.mono ?_)
        · repeat (first | exact Below.refl _ _ | exact HBwx1.out | refine Below.setCell ?_ (by first | (simp; done) | omega | (simp; omega)) _ | refine Below.alloc ?_ (by first | (simp; done) | omega | (simp; omega)) _)
        · first | (simp; done) | omega | (simp; omega)
      have hzwx2 : w.heap.size < wx2.heap.size := by have := hb.size; (try simp at this); omega
      clear hb
      first | (have gswx2wx0 : wx0.heap.size < wx2.heap.size := by omega) | skip
      first | (have gswx2wx1 : wx1.heap.size < wx2.heap.size := by omega) | skip
      go_wp2_with fail
      go_ret
      refine ⟨rfl, ?_⟩
      repeat (first | exact Below.refl _ _ | exact HBwx2.out | refine Below.setCell ?_ (by first | (simp; done) | omega | (simp; omega)) _ | refine Below.alloc ?_ (by first | (simp; done) | omega | (simp; omega)) _ | refine bel_drew ?_)
    | true =>
      rw [Bool.true_and]
      cases p3 with
      | false =>
        rw [Bool.false_and]
        go_enter Tryd.func47, Tryd.ntmps47
        go_wp2_with fail
        refine (I1.out _).mono ?_
        rintro e wx0 ⟨rfl, hb⟩
        have hswx0 := hb.size
        try simp at hswx0
        obtain ⟨hcwx0, hfwx0⟩ := bcell hb
        have HBwx0 : Hid (Below w.heap.size w wx0) := by
          apply Lib.hid
          refine Below.trans ?_ (hb.mono ?_)
          · repeat (first | exact Below.refl _ _ | refine Below.setCell ?_ (by first | (simp; done) | omega | (simp; omega)) _ | refine Below.alloc ?_ (by first | (simp; done) | omega | (simp; omega)) _)
          · first | (simp; done) | omega | (simp; omega)
        have hzwx0 : w.heap.size < wx0.heap.size := by have := hb.size; (try simp at this); omega
        clear hb
        go_wp2_with fail
        refine (D.out _).mono ?_
        rintro e wx1 ⟨rfl, hb⟩
        have hswx1 := hb.size
        try simp at hswx1
        obtain ⟨hcwx1, hfwx1⟩ := bcell hb
        have HBwx1 : Hid (Below w.heap.size w wx1) := by
          apply Lib.hid
          refine Below.trans ?_ (hb.mono ?_)
          · repeat (first | exact Below.refl _ _ | exact HBwx0.out | refine Below.setCell ?_ (by first | (simp; done) | omega | (simp; omega)) _ | refine Below.alloc ?_ (by first | (simp; done) | omega | (simp; omega)) _)
          · first | (simp; done) | omega | (simp; omega)
        have hzwx1 : w.heap.size < wx1.heap.size := by have := hb.size; (try simp at this); omega
        clear hb
        first | (have gswx1wx0 : wx0.heap.size < wx1.heap.size := by omega) | skip
        go_wp2_with fail
        refine (I2.out _).mono ?_
        rintro e wx2 ⟨rfl, hb⟩
        have hswx2 := hb.size
        try simp at hswx2
        obtain ⟨hcwx2, hfwx2⟩ := bcell hb
        have HBwx2 : Hid (Below w.heap.size w wx2) := by
          apply Lib.hid
          refine Below.trans ?_ (hb.mono ?_)
          · repeat (first | exact Below.refl _ _ | exact HBwx1.out | refine Below.setCell ?_ (by first | (simp; done) | omega | (simp; omega)) _ | refine Below.alloc ?_ (by first | (simp; done) | omega | (simp; omega)) _)
          · first | (simp; done) | omega | (simp; omega)
        have hzwx2 : w.heap.size < wx2.heap.size := by have := hb.size; (try simp at this); omega
        clear hb
        first | (have gswx2wx0 : wx0.heap.size < wx2.heap.size := by omega) | skip
        first | (have gswx2wx1 : wx1.heap.size < wx2.heap.size := by omega) | skip
        go_wp2_with fail
        refine (I3.out _).mono ?_
        rintro e wx3 ⟨rfl, hb⟩
        have hswx3 := hb.size
        try simp at hswx3
        obtain ⟨hcwx3, hfwx3⟩ := bcell hb
        have HBwx3 : Hid (Below w.heap.size w wx3) := by
          apply Lib.hid
          refine Below.trans ?_ (hb.mono ?_)
          · repeat (first | exact Below.refl _ _ | exact HBwx2.out | refine Below.setCell ?_ (by first | (simp; done) | omega | (simp; omega)) _ | refine Below.alloc ?_ (by first | (simp; done) | omega | (simp; omega)) _)
          · first | (simp; done) | omega | (simp; omega)
        have hzwx3 : w.heap.size < wx3.heap.size := by have := hb.size; (try simp at this); omega
        clear hb
        first | (have gswx3wx0 : wx0.heap.size < wx3.heap.size := by omega) | skip
        first | (have gswx3wx1 : wx1.heap.size < wx3.heap.size := by omega) | skip
        first | (have gswx3wx2 : wx2.heap.size < wx3.heap.size := by omega) | skip
        go_wp2_with fail
        go_ret
        refine ⟨rfl, ?_⟩
        repeat (first | exact Below.refl _ _ | exact HBwx3.out | refine Below.setCell ?_ (by first | (simp; done) | omega | (simp; omega)) _ | refine Below.alloc ?_ (by first | (simp; done) | omega | (simp; omega)) _ | refine bel_drew ?_)
      | true =>
        rw [Bool.true_and]
        go_enter Tryd.func47, Tryd.ntmps47
        go_wp2_with fail
        refine (I1.out _).mono ?_
        rintro e wx0 ⟨rfl, hb⟩
        have hswx0 := hb.size
        try simp at hswx0
        obtain ⟨hcwx0, hfwx0⟩ := bcell hb
        have HBwx0 : Hid (Below w.heap.size w wx0) := by
          apply Lib.hid
          refine Below.trans ?_ (hb.mono ?_)
          · repeat (first | exact Below.refl _ _ | refine Below.setCell ?_ (by first | (simp; done) | omega | (simp; omega)) _ | refine Below.alloc ?_ (by first | (simp; done) | omega | (simp; omega)) _)
          · first | (simp; done) | omega | (simp; omega)
        have hzwx0 : w.heap.size < wx0.heap.size := by have := hb.size; (try simp at this); omega
        clear hb
        go_wp2_with fail
        refine (D.out _).mono ?_
        rintro e wx1 ⟨rfl, hb⟩
        have hswx1 := hb.size
        try simp at hswx1
        obtain ⟨hcwx1, hfwx1⟩ := bcell hb
        have HBwx1 : Hid (Below w.heap.size w wx1) := by
          apply Lib.hid
          refine Below.trans ?_ (hb.mono ?_)
          · repeat (first | exact Below.refl _ _ | exact HBwx0.out | refine Below.setCell ?_ (by first | (simp; done) | omega | (simp; omega)) _ | refine Below.alloc ?_ (by first | (simp; done) | omega | (simp; omega)) _)
          · first | (simp; done) | omega | (simp; omega)
        have hzwx1 : w.heap.size < wx1.heap.size := by have := hb.size; (try simp at this); omega
        clear hb
        first | (have gswx1wx0 : wx0.heap.size < wx1.heap.size := by omega) | skip
        go_wp2_with fail
        refine (I2.out _).mono ?_
        rintro e wx2 ⟨rfl, hb⟩
        have hswx2 := hb.size
        try simp at hswx2
        obtain ⟨hcwx2, hfwx2⟩ := bcell hb
        have HBwx2 : Hid (Below w.heap.size w wx2) := by
          apply Lib.hid
          refine Below.trans ?_ (hb.mono ?_)
          · repeat (first | exact Below.refl _ _ | exact HBwx1.out | refine Below.setCell ?_ (by first | (simp; done) | omega | (simp; omega)) _ | refine Below.alloc ?_ (by first | (simp; done) | omega | (simp; omega)) _)
          · first | (simp; done) | omega | (simp; omega)
        have hzwx2 : w.heap.size < wx2.heap.size := by have := hb.size; (try simp at this); omega
        clear hb
        first | (have gswx2wx0 : wx0.heap.size < wx2.heap.size := by omega) | skip
        first | (have gswx2wx1 : wx1.heap.size < wx2.heap.size := by omega) | skip
        go_wp2_with fail
        refine (I3.out _).mono ?_
        rintro e wx3 ⟨rfl, hb⟩
        have hswx3 := hb.size
        try simp at hswx3
        obtain ⟨hcwx3, hfwx3⟩ := bcell hb
        have HBwx3 : Hid (Below w.heap.size w wx3) := by
          apply Lib.hid
          refine Below.trans ?_ (hb.mono ?_)
          · repeat (first | exact Below.refl _ _ | exact HBwx2.out | refine Below.setCell ?_ (by first | (simp; done) | omega | (simp; omega)) _ | refine Below.alloc ?_ (by first | (simp; done) | omega | (simp; omega)) _)
          · first | (simp; done) | omega | (simp; omega)
        have hzwx3 : w.heap.size < wx3.heap.size := by have := hb.size; (try simp at this); omega
        clear hb
        first | (have gswx3wx0 : wx0.heap.size < wx3.heap.size := by omega) | skip
        first | (have gswx3wx1 : wx1.heap.size < wx3.heap.size := by omega) | skip
        first | (have gswx3wx2 : wx2.heap.size < wx3.heap.size := by omega) | skip
        go_wp2_with fail
        refine (I4.out _).mono ?_
        rintro e wx4 ⟨rfl, hb⟩
        have hswx4 := hb.size
        try simp at hswx4
        obtain ⟨hcwx4, hfwx4⟩ := bcell hb
        have HBwx4 : Hid (Below w.heap.size w wx4) := by
          apply Lib.hid
          refine Below.trans ?_ (hb.mono ?_)
          · repeat (first | exact Below.refl _ _ | exact HBwx3.out | refine Below.setCell ?_ (by first | (simp; done) | omega | (simp; omega)) _ | refine Below.alloc ?_ (by first | (simp; done) | omega | (simp; omega)) _)
          · first | (simp; done) | omega | (simp; omega)
        have hzwx4 : w.heap.size < wx4.heap.size := by have := hb.size; (try simp at this); omega
        clear hb
        first | (have gswx4wx0 : wx0.heap.size < wx4.heap.size := by omega) | skip
        first | (have gswx4wx1 : wx1.heap.size < wx4.heap.size := by omega) | skip
        first | (have gswx4wx2 : wx2.heap.size < wx4.heap.size := by omega) | skip
        first | (have gswx4wx3 : wx3.heap.size < wx4.heap.size := by omega) | skip
        go_wp2_with fail
        go_ret
        refine ⟨rfl, ?_⟩
        repeat (first | exact Below.refl _ _ | exact HBwx4.out | refine Below.setCell ?_ (by first | (simp; done) | omega | (simp; omega)) _ | refine Below.alloc ?_ (by first | (simp; done) | omega | (simp; omega)) _ | refine bel_drew ?_)

theorem bel_drewNS {B : Nat} {a w : World} (h : Below B a w) (n : Nat) : Below B a (w.drewN n) := ⟨h.os, h.tape, h.output, h.size, h.block⟩
theorem quiet_leftS {P : Program} {f : FuncId} {args : Array Value} {w : World} {n : Nat} {v : Value}
    (h : Calls P f args (w.drewN n) fun e w' => e = .returned v ∧ w.drewN n = w') : Calls P f args (w.drewN n) fun e w'' => e = .returned v ∧ ∃ m, w'' = w.drewN m :=
  h.mono fun _ _ ⟨he, hm⟩ => ⟨he, n, hm.symm⟩

set_option maxHeartbeats 1000000 in
theorem l05One_at (g o : Nat) (x : StarV) (w : World) (h : StarAt w g o x) :
    Calls Tryd.prog 51 #[.pointer (some ⟨g, o, none⟩)] w fun e w' => e = .returned (.bool x.good) ∧ ∃ m, w' = w.drewN m := by
  unfold StarV.good starB
  obtain ⟨s, a, b, c, d⟩ := x
  obtain ⟨c0, c1, c2, c3, c4⟩ := h
  simp only at c0 c1 c2 c3 c4 ⊢
  have I1 := Lib.hid (fun w => l01Name_any s w)
  have I2 := Lib.hid (fun w => l05Dir_any a b w)
  have I3 := Lib.hid (fun w => l00In_any c (-200) 800 w)
  have I4 := Lib.hid (fun w => l00In_any d (-50) 250 w)
  generalize nameB s.data.toList = p1 at *
  generalize dirB a b = p2 at *
  generalize inR (-200) 800 [c] = p3 at *
  generalize inR (-50) 250 [d] = p4 at *
  cases p1 with
  | false =>
    rw [Bool.false_and]
    go_enter Tryd.func51, Tryd.ntmps51
    go_wp2_with fail
    go_quiet ((first | (go_at_call 36; with_reducible exact quiet_leftS (I1.out _)) | (go_at_call 90; with_reducible exact quiet_leftS (I2.out _)) | (go_at_call 66; with_reducible exact quiet_leftS (I3.out _)) | (go_at_call 66; with_reducible exact quiet_leftS (I4.out _))))
    rename Nat => q1
    go_wp2_with fail
    go_ret
    exact ⟨rfl, _, rfl⟩
  | true =>
    rw [Bool.true_and]
    cases p2 with
    | false =>
      rw [Bool.false_and]
      go_enter Tryd.func51, Tryd.ntmps51
      go_wp2_with fail
      go_quiet ((first | (go_at_call 36; with_reducible exact quiet_leftS (I1.out _)) | (go_at_call 90; with_reducible exact quiet_leftS (I2.out _)) | (go_at_call 66; with_reducible exact quiet_leftS (I3.out _)) | (go_at_call 66; with_reducible exact quiet_leftS (I4.out _))))
      rename Nat => q1
      go_wp2_with fail
      go_ret
      exact ⟨rfl, _, rfl⟩
    | true =>
      rw [Bool.true_and]
      cases p3 with
      | false =>
        rw [Bool.false_and]
        go_enter Tryd.func51, Tryd.ntmps51
        go_wp2_with fail
        go_quiet ((first | (go_at_call 36; with_reducible exact quiet_leftS (I1.out _)) | (go_at_call 90; with_reducible exact quiet_leftS (I2.out _)) | (go_at_call 66; with_reducible exact quiet_leftS (I3.out _)) | (go_at_call 66; with_reducible exact quiet_leftS (I4.out _))))
        rename Nat => q1
        go_wp2_with fail
        go_ret
        exact ⟨rfl, _, rfl⟩
      | true =>
        rw [Bool.true_and]
        go_enter Tryd.func51, Tryd.ntmps51
        go_wp2_with fail
        go_quiet ((first | (go_at_call 36; with_reducible exact quiet_leftS (I1.out _)) | (go_at_call 90; with_reducible exact quiet_leftS (I2.out _)) | (go_at_call 66; with_reducible exact quiet_leftS (I3.out _)) | (go_at_call 66; with_reducible exact quiet_leftS (I4.out _))))
        rename Nat => q1
        go_wp2_with fail
        go_ret
        exact ⟨rfl, _, rfl⟩

set_option maxHeartbeats 1000000 in
theorem toStar_any (s : ByteArray) (a b c d : Int) (w : World) :
    Calls Tryd.prog 21 #[.agg #[.string s, .int .i64 a, .int .i64 b, .int .i64 c, .int .i64 d]] w fun e w' => e = .returned (.agg #[.string s, .int .i64 a, .int .i64 b, .int .i64 c, .int .i64 d]) ∧ Below w.heap.size w w' := by
  go_enter Tryd.func21, Tryd.ntmps21
  go_wp2_with fail
  refine bodyPost_ret (v := .agg #[.string s, .int .i64 a, .int .i64 b, .int .i64 c, .int .i64 d]) (by first | (simp [results, Tryd.results21, go_sem]; done) | (simp [results, Tryd.results21, go_sem]; done)) rfl ⟨rfl, ?_⟩
  repeat (first | exact Below.refl _ _ | refine Below.setCell ?_ (by first | (simp; done) | omega | (simp; omega)) _ | refine Below.alloc ?_ (by first | (simp; done) | omega | (simp; omega)) _ | refine bel_drew ?_)
set_option maxHeartbeats 1000000 in
theorem eqStar_same (s : ByteArray) (a b c d : Int) (w : World) :
    Calls Tryd.prog 15 #[.agg #[.string s, .int .i64 a, .int .i64 b, .int .i64 c, .int .i64 d], .agg #[.string s, .int .i64 a, .int .i64 b, .int .i64 c, .int .i64 d]] w fun e w' => e = .returned (.bool true) ∧ Below w.heap.size w w' := by
  go_enter Tryd.func15, Tryd.ntmps15
  go_wp2_with fail
  go_ret
  refine ⟨rfl, ?_⟩
  repeat (first | exact Below.refl _ _ | refine Below.setCell ?_ (by first | (simp; done) | omega | (simp; omega)) _ | refine Below.alloc ?_ (by first | (simp; done) | omega | (simp; omega)) _ | refine bel_drew ?_)
set_option maxHeartbeats 1000000 in
theorem szStar_any (s : ByteArray) (a b c d l : Int) (h0 : 0 ≤ l) (h1 : l ≤ 1048576) (hmax : s.size ≤ maxLen) (w : World) :
    Calls Tryd.prog 19 #[.agg #[.string s, .int .i64 a, .int .i64 b, .int .i64 c, .int .i64 d], .int .i64 l] w fun e w' => e = .returned (.int .i64 (szN s l)) ∧ Below w.heap.size w w' := by
  have hm : s.size ≤ 9223372036854775807 := by unfold maxLen at hmax; omega
  clear hmax
  unfold szN
  by_cases h : l - (s.size : Int) < 0
  · rw [if_pos h]
    go_enter Tryd.func19, Tryd.ntmps19
    go_wp2_with fail
    go_ret
    refine ⟨rfl, ?_⟩
    repeat (first | exact Below.refl _ _ | refine Below.setCell ?_ (by first | (simp; done) | omega | (simp; omega)) _ | refine Below.alloc ?_ (by first | (simp; done) | omega | (simp; omega)) _ | refine bel_drew ?_)
  · rw [if_neg h]
    have h' : decide (l - (s.size : Int) < 0) = false := by simpa using h
    go_enter Tryd.func19, Tryd.ntmps19
    go_wp2_with fail
    go_ret
    refine ⟨rfl, ?_⟩
    repeat (first | exact Below.refl _ _ | refine Below.setCell ?_ (by first | (simp; done) | omega | (simp; omega)) _ | refine Below.alloc ?_ (by first | (simp; done) | omega | (simp; omega)) _ | refine bel_drew ?_)
end Go.Proofs.YtjghopepgfgebaaDoor
