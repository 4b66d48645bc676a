/-
  A projector's own test: the contracts of axis and isValid of a projector (package impl).
-/
import Derived.Test.YtlklcpnnaolbeaaGreatDoorProj1
import Derived.Test.YtlklcpnnaolbeaaGreatDoorDirV
namespace Go.Proofs.YtlklcpnnaolbeaaGreatDoor
open Go.RowKit
set_option linter.unusedVariables false

set_option maxHeartbeats 400000 in
theorem axis_any (s : ByteArray) (a b c d : Int) (w : World) :
    Calls Tryz.prog 68 #[.agg #[.string s, .int .i64 a, .int .i64 b, .int .i64 c, .int .i64 d]] w fun e w' => e = .returned (.agg #[.int .i64 a, .int .i64 b]) ∧ Below w.heap.size w w' := by
  go_enter Tryz.func68, Tryz.ntmps68
  go_wp2_with fail
  refine bodyPost_ret (v := .agg #[.int .i64 a, .int .i64 b]) (by first | (simp [results, Tryz.results68, go_sem]; done) | (simp [results, Tryz.results68, go_sem]; done)) rfl ⟨rfl, ?_⟩
  repeat (first | exact Below.refl _ _ | refine Below.setCell ?_ (by first | (simp; done) | omega | (simp; omega)) _ | refine Below.alloc ?_ (by first | (simp; done) | omega | (simp; omega)) _ | refine bel_drew ?_)

theorem within1B (lo hi a : Int) (cap : Nat) (W : World) :
    Calls Tryz.prog 70 #[.int .i64 lo, .int .i64 hi, .slice (some ⟨W.heap.size, 0, none⟩) 1 cap] (W.alloc (.cells #[.int .i64 a] 2)) fun e w' => e = .returned (.bool (inR lo hi [a])) ∧ Below (W.alloc (.cells #[.int .i64 a] 2)).heap.size (W.alloc (.cells #[.int .i64 a] 2)) w' :=
  (within1 lo hi a _ cap _ (by simp)).mono fun e w' ⟨h1, h2⟩ => ⟨h1, by subst h2; exact Below.refl _ _⟩
theorem starB_dir (s : ByteArray) (a b c d : Int) : starB s a b c d = (nameB s.data.toList && (dirB a b && (inR 5000 120000 [c] && inR 1 1000 [d]))) := by
  unfold starB dirB
  rw [Bool.and_assoc]

set_option maxHeartbeats 1000000 in
theorem projValid_any (s : ByteArray) (a b c d : Int) (hmax : s.size ≤ maxLen) (w : World) :
    Calls Tryz.prog 40 #[.agg #[.string s, .int .i64 a, .int .i64 b, .int .i64 c, .int .i64 d]] w fun e w' => e = .returned (.bool (starB s a b c d)) ∧ Below w.heap.size w w' := by
  rw [starB_dir]
  have hm : s.size ≤ 9223372036854775807 := by unfold maxLen at hmax; omega
  have I1 := Lib.hid (fun w => implName_any s w hm)
  have D := Lib.hid (fun w => axis_any s a b c d w)
  have I2 := Lib.hid (fun w => dirValid_any a b w)
  have I3 := Lib.hid (fun cap W => within1B 5000 120000 c cap W)
  have I4 := Lib.hid (fun cap W => within1B 1 1000 d cap W)
  clear hm hmax
  generalize nameB s.data.toList = p1 at *
  generalize dirB a b = p2 at *
  generalize inR 5000 120000 [c] = p3 at *
  generalize inR 1 1000 [d] = p4 at *
  cases p1 with
  | false =>
    rw [Bool.false_and]
    go_enter Tryz.func40, Tryz.ntmps40
    go_wp2_with fail
    refine (I1.out _).mono ?_
    rintro e wx0 ⟨rfl, hb⟩
    have hswx0 := hb.size
    try simp at hswx0
    obtain ⟨hcwx0, hfwx0⟩ := bcell hb
    have HBwx0 : Hid (Below w.heap.size w wx0) := by
      apply Lib.hid
      refine Below.trans ?_ (hb.mono ?_)
      · repeat (first | exact Below.refl _ _ | refine Below.setCell ?_ (by first | (simp; done) | omega | (simp; omega)) _ | refine Below.alloc ?_ (by first | (simp; done) | omega | (simp; omega)) _)
      · first | (simp; done) | omega | (simp; omega)
    have hzwx0 : w.heap.size < wx0.heap.size := by have := hb.size; (try simp at this); omega
    clear hb
    go_wp2_with fail
    go_ret
    refine ⟨rfl, ?_⟩
    repeat (first | exact Below.refl _ _ | exact HBwx0.out | refine Below.setCell ?_ (by first | (simp; done) | omega | (simp; omega)) _ | refine Below.alloc ?_ (by first | (simp; done) | omega | (simp; omega)) _ | refine bel_drew ?_)
  | true =>
    rw [Bool.true_and]
    cases p2 with
    | false =>
      rw [Bool.false_and]
      go_enter Tryz.func40, Tryz.ntmps40
      go_wp2_with fail
      refine (I1.out _).mono ?_
      rintro e wx0 ⟨rfl, hb⟩
      have hswx0 := hb.size
      try simp at hswx0
      obtain ⟨hcwx0, hfwx0⟩ := bcell hb
      have HBwx0 : Hid (Below w.heap.size w wx0) := by
        apply Lib.hid
        refine Below.trans ?_ (hb.mono ?_)
        · repeat (first | exact Below.refl _ _ | refine Below.setCell ?_ (by first | (simp; done) | omega | (simp; omega)) _ | refine Below.alloc ?_ (by first | (simp; done) | omega | (simp; omega)) _)
        · first | (simp; done) | omega | (simp; omega)
      have hzwx0 : w.heap.size < wx0.heap.size := by have := hb.size; (try simp at this); omega
      clear hb
      go_wp2_with fail
      refine (D.out _).mono ?_
      rintro e wx1 ⟨rfl, hb⟩
      have hswx1 := hb.size
      try simp at hswx1
      obtain ⟨hcwx1, hfwx1⟩ := bcell hb
      have HBwx1 : Hid (Below w.heap.size w wx1) := by
        apply Lib.hid
        refine Below.trans ?_ (hb.mono ?_)
        · repeat (first | exact Below.refl _ _ | exact HBwx0.out | refine Below.setCell ?_ (by first | (simp; done) | omega | (simp; omega)) _ | refine Below.alloc ?_ (by first | (simp; done) | omega | (simp; omega)) _)
        · first | (simp; done) | omega | (simp; omega)
      have hzwx1 : w.heap.size < wx1.heap.size := by have := hb.size; (try simp at this); omega
      clear hb
      first | (have gswx1wx0 : wx0.heap.size < wx1.heap.size := by omega) | skip
      go_wp2_with fail
      refine (I2.out _).mono ?_
      rintro e wx2 ⟨rfl, hb⟩
      have hswx2 := hb.size
      try simp at hswx2
      obtain ⟨hcwx2, hfwx2⟩ := bcell hb
      have HBwx2 : Hid (Below w.heap.size w wx2) := by
        apply Lib.hid
        refine Below.trans ?_ (hb.mono ?_)
        · repeat (first | exact Below.refl _ _ | exact HBwx1.out | refine Below.setCell ?_ (by first | (simp; done) | omega | (simp; omega)) _ | refine Below.alloc ?_ (by first | (simp; done) | omega | (simp; omega)) _)
        · first | (simp; done) | omega | (simp; omega)
      have hzwx2 : w.heap.size < wx2.heap.size := by have := hb.size; (try simp at this); omega
      clear hb
      first | (have gswx2wx0 : wx0.heap.size < wx2.heap.size := by omega) | skip
      first | (have gswx2wx1 : wx1.heap.size < wx2.heap.size := by omega) | skip
      go_wp2_with fail
      go_ret
      refine ⟨rfl, ?_⟩
      repeat (first | exact Below.refl _ _ | exact HBwx2.out | refine Below.setCell ?_ (by first | (simp; done) | omega | (simp; omega)) _ | refine Below.alloc ?_ (by first | (simp; done) | omega | (simp; omega)) _ | refine bel_drew ?_)
    | true =>
      rw [Bool.true_and]
      cases p3 with
      | false =>
        rw [Bool.false_and]
        go_enter Tryz.func40, Tryz.ntmps40
        go_wp2_with fail
        refine (I1.out _).mono ?_
        rintro e wx0 ⟨rfl, hb⟩
        have hswx0 := hb.size
        try simp at hswx0
        obtain ⟨hcwx0, hfwx0⟩ := bcell hb
        have HBwx0 : Hid (Below w.heap.size w wx0) := by
          apply Lib.hid
          refine Below.trans ?_ (hb.mono ?_)
          · repeat (first | exact Below.refl _ _ | refine Below.setCell ?_ (by first | (simp; done) | omega | (simp; omega)) _ | refine Below.alloc ?_ (by first | (simp; done) | omega | (simp; omega)) _)
          · first | (simp; done) | omega | (simp; omega)
        have hzwx0 : w.heap.size < wx0.heap.size := by have := hb.size; (try simp at this); omega
        clear hb
        go_wp2_with fail
        refine (D.out _).mono ?_
        rintro e wx1 ⟨rfl, hb⟩
        have hswx1 := hb.size
        try simp at hswx1
        obtain ⟨hcwx1, hfwx1⟩ := bcell hb
        have HBwx1 : Hid (Below w.heap.size w wx1) := by
          apply Lib.hid
          refine Below.trans ?_ (hb.mono ?_)
          · repeat (first | exact Below.refl _ _ | exact HBwx0.out | refine Below.setCell ?_ (by first | (simp; done) | omega | (simp; omega)) _ | refine Below.alloc ?_ (by first | (simp; done) | omega | (simp; omega)) _)
          · first | (simp; done) | omega | (simp; omega)
        have hzwx1 : w.heap.size < wx1.heap.size := by have := hb.size; (try simp at this); omega
        clear hb
        first | (have gswx1wx0 : wx0.heap.size < wx1.heap.size := by omega) | skip
        go_wp2_with fail
        refine (I2.out _).mono ?_
        rintro e wx2 ⟨rfl, hb⟩
        have hswx2 := hb.size
        try simp at hswx2
        obtain ⟨hcwx2, hfwx2⟩ := bcell hb
        have HBwx2 : Hid (Below w.heap.size w wx2) := by
          apply Lib.hid
          refine Below.trans ?_ (hb.mono ?_)
          · repeat (first | exact Below.refl _ _ | exact HBwx1.out | refine Below.setCell ?_ (by first | (simp; done) | omega | (simp; omega)) _ | refine Below.alloc ?_ (by first | (simp; done) | omega | (simp; omega)) _)
          · first | (simp; done) | omega | (simp; omega)
        have hzwx2 : w.heap.size < wx2.heap.size := by have := hb.size; (try simp at this); omega
        clear hb
        first | (have gswx2wx0 : wx0.heap.size < wx2.heap.size := by omega) | skip
        first | (have gswx2wx1 : wx1.heap.size < wx2.heap.size := by omega) | skip
        go_wp2_with fail
        refine (I3.out _ _).mono ?_
        rintro e wx3 ⟨rfl, hb⟩
        have hswx3 := hb.size
        try simp at hswx3
        obtain ⟨hcwx3, hfwx3⟩ := bcell hb
        have HBwx3 : Hid (Below w.heap.size w wx3) := by
          apply Lib.hid
          refine Below.trans ?_ (hb.mono ?_)
          · repeat (first | exact Below.refl _ _ | exact HBwx2.out | refine Below.setCell ?_ (by first | (simp; done) | omega | (simp; omega)) _ | refine Below.alloc ?_ (by first | (simp; done) | omega | (simp; omega)) _)
          · first | (simp; done) | omega | (simp; omega)
        have hzwx3 : w.heap.size < wx3.heap.size := by have := hb.size; (try simp at this); omega
        clear hb
        first | (have gswx3wx0 : wx0.heap.size < wx3.heap.size := by omega) | skip
        first | (have gswx3wx1 : wx1.heap.size < wx3.heap.size := by omega) | skip
        first | (have gswx3wx2 : wx2.heap.size < wx3.heap.size := by omega) | skip
        go_wp2_with fail
        go_ret
        refine ⟨rfl, ?_⟩
        repeat (first | exact Below.refl _ _ | exact HBwx3.out | refine Below.setCell ?_ (by first | (simp; done) | omega | (simp; omega)) _ | refine Below.alloc ?_ (by first | (simp; done) | omega | (simp; omega)) _ | refine bel_drew ?_)
      | true =>
        rw [Bool.true_and]
        go_enter Tryz.func40, Tryz.ntmps40
        go_wp2_with fail
        refine (I1.out _).mono ?_
        rintro e wx0 ⟨rfl, hb⟩
        have hswx0 := hb.size
        try simp at hswx0
        obtain ⟨hcwx0, hfwx0⟩ := bcell hb
        have HBwx0 : Hid (Below w.heap.size w wx0) := by
          apply Lib.hid
          refine Below.trans ?_ (hb.mono ?_)
          · repeat (first | exact Below.refl _ _ | refine Below.setCell ?_ (by first | (simp; done) | omega | (simp; omega)) _ | refine Below.alloc ?_ (by first | (simp; done) | omega | (simp; omega)) _)
          · first | (simp; done) | omega | (simp; omega)
        have hzwx0 : w.heap.size < wx0.heap.size := by have := hb.size; (try simp at this); omega
        clear hb
        go_wp2_with fail
        refine (D.out _).mono ?_
        rintro e wx1 ⟨rfl, hb⟩
        have hswx1 := hb.size
        try simp at hswx1
        obtain ⟨hcwx1, hfwx1⟩ := bcell hb
        have HBwx1 : Hid (Below w.heap.size w wx1) := by
          apply Lib.hid
          refine Below.trans ?_ (hb.mono ?_)
          · repeat (first | exact Below.refl _ _ | exact HBwx0.out | refine Below.setCell ?_ (by first | (simp; done) | omega | (simp; omega)) _ | refine Below.alloc ?_ (by first | (simp; done) | omega | (simp; omega)) _)
          · first | (simp; done) | omega | (simp; omega)
        have hzwx1 : w.heap.size < wx1.heap.size := by have := hb.size; (try simp at this); omega
        clear hb
        first | (have gswx1wx0 : wx0.heap.size < wx1.heap.size := by omega) | skip
        go_wp2_with fail
        refine (I2.out _).mono ?_
        rintro e wx2 ⟨rfl, hb⟩
        have hswx2 := hb.size
        try simp at hswx2
        obtain ⟨hcwx2, hfwx2⟩ := bcell hb
        have HBwx2 : Hid (Below w.heap.size w wx2) := by
          apply Lib.hid
          refine Below.trans ?_ (hb.mono ?_)
          · repeat (first | exact Below.refl _ _ | exact HBwx1.out | refine Below.setCell ?_ (by first | (simp; done) | omega | (simp; omega)) _ | refine Below.alloc ?_ (by first | (simp; done) | omega | (simp; omega)) _)
          · first | (simp; done) | omega | (simp; omega)
        have hzwx2 : w.heap.size < wx2.heap.size := by have := hb.size; (try simp at this); omega
        clear hb
        first | (have gswx2wx0 : wx0.heap.size < wx2.heap.size := by omega) | skip
        first | (have gswx2wx1 : wx1.heap.size < wx2.heap.size := by omega) | skip
        go_wp2_with fail
        refine (I3.out _ _).mono ?_
        rintro e wx3 ⟨rfl, hb⟩
        have hswx3 := hb.size
        try simp at hswx3
        obtain ⟨hcwx3, hfwx3⟩ := bcell hb
        have HBwx3 : Hid (Below w.heap.size w wx3) := by
          apply Lib.hid
          refine Below.trans ?_ (hb.mono ?_)
          · repeat (first | exact Below.refl _ _ | exact HBwx2.out | refine Below.setCell ?_ (by first | (simp; done) | omega | (simp; omega)) _ | refine Below.alloc ?_ (by first | (simp; done) | omega | (simp; omega)) _)
          · first | (simp; done) | omega | (simp; omega)
        have hzwx3 : w.heap.size < wx3.heap.size := by have := hb.size; (try simp at this); omega
        clear hb
        first | (have gswx3wx0 : wx0.heap.size < wx3.heap.size := by omega) | skip
        first | (have gswx3wx1 : wx1.heap.size < wx3.heap.size := by omega) | skip
        first | (have gswx3wx2 : wx2.heap.size < wx3.heap.size := by omega) | skip
        go_wp2_with fail
        refine (I4.out _ _).mono ?_
        rintro e wx4 ⟨rfl, hb⟩
        have hswx4 := hb.size
        try simp at hswx4
        obtain ⟨hcwx4, hfwx4⟩ := bcell hb
        have HBwx4 : Hid (Below w.heap.size w wx4) := by
          apply Lib.hid
          refine Below.trans ?_ (hb.mono ?_)
          · repeat (first | exact Below.refl _ _ | exact HBwx3.out | refine Below.setCell ?_ (by first | (simp; done) | omega | (simp; omega)) _ | refine Below.alloc ?_ (by first | (simp; done) | omega | (simp; omega)) _)
          · first | (simp; done) | omega | (simp; omega)
        have hzwx4 : w.heap.size < wx4.heap.size := by have := hb.size; (try simp at this); omega
        clear hb
        first | (have gswx4wx0 : wx0.heap.size < wx4.heap.size := by omega) | skip
        first | (have gswx4wx1 : wx1.heap.size < wx4.heap.size := by omega) | skip
        first | (have gswx4wx2 : wx2.heap.size < wx4.heap.size := by omega) | skip
        first | (have gswx4wx3 : wx3.heap.size < wx4.heap.size := by omega) | skip
        go_wp2_with fail
        go_ret
        refine ⟨rfl, ?_⟩
        repeat (first | exact Below.refl _ _ | exact HBwx4.out | refine Below.setCell ?_ (by first | (simp; done) | omega | (simp; omega)) _ | refine Below.alloc ?_ (by first | (simp; done) | omega | (simp; omega)) _ | refine bel_drew ?_)
end Go.Proofs.YtlklcpnnaolbeaaGreatDoor
