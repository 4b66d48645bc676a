/-
  The angles of a vector in package spec: the contract of AnglesOf.
-/
import Derived.Test.YtoellkbmhpekdaaDoorSAng
namespace Go.Proofs.YtoellkbmhpekdaaDoor
open Go.RowKit
set_option linter.unusedVariables false

set_option maxHeartbeats 1000000 in
theorem specAng_any (x y z : Int) (w : World) :
    Calls Tryd.prog 38 #[.agg #[.int .i64 x, .int .i64 y, .int .i64 z]] w fun e w' => e = .returned (angV x y z) ∧ Below w.heap.size w w' := by
  unfold angV
  have I := Lib.hid (fun w => l04Ok_any x y z w)
  cases ho : okV x y z with
  | false =>
    rw [if_neg (by simp)]
    rw [ho] at I
    clear ho
    go_enter Tryd.func38, Tryd.ntmps38
    go_wp2_with fail
    refine (I.out _).mono ?_
    rintro e w1 ⟨rfl, hb⟩
    have hsw1 := hb.size
    try simp at hsw1
    obtain ⟨hcw1, hfw1⟩ := bcell hb
    have HBw1 : Hid (Below w.heap.size w w1) := by
      apply Lib.hid
      refine Below.trans ?_ (hb.mono ?_)
      · repeat (first | exact Below.refl _ _ | refine Below.setCell ?_ (by first | (simp; done) | omega | (simp; omega)) _ | refine Below.alloc ?_ (by first | (simp; done) | omega | (simp; omega)) _)
      · first | (simp; done) | omega | (simp; omega)
    have hzw1 : w.heap.size < w1.heap.size := by have := hb.size; (try simp at this); omega
    clear hb
    go_wp2_with fail
    refine bodyPost_ret (v := .tuple #[.int .i64 0, .int .i64 0, .int .i64 1]) (by simp [results, Tryd.results38, go_sem]) rfl ⟨rfl, ?_⟩
    repeat (first | exact Below.refl _ _ | exact HBw1.out | refine Below.setCell ?_ (by first | (simp; done) | omega | (simp; omega)) _ | refine Below.alloc ?_ (by first | (simp; done) | omega | (simp; omega)) _ | refine bel_drew ?_)
  | true =>
    rw [if_pos rfl]
    rw [ho] at I
    by_cases hz : x = 0 ∧ y = 0 ∧ z = 0
    · rw [if_pos hz]
      obtain ⟨rfl, rfl, rfl⟩ := hz
      clear ho
      go_enter Tryd.func38, Tryd.ntmps38
      go_wp2_with fail
      refine (I.out _).mono ?_
      rintro e w1 ⟨rfl, hb⟩
      have hsw1 := hb.size
      try simp at hsw1
      obtain ⟨hcw1, hfw1⟩ := bcell hb
      have HBw1 : Hid (Below w.heap.size w w1) := by
        apply Lib.hid
        refine Below.trans ?_ (hb.mono ?_)
        · repeat (first | exact Below.refl _ _ | refine Below.setCell ?_ (by first | (simp; done) | omega | (simp; omega)) _ | refine Below.alloc ?_ (by first | (simp; done) | omega | (simp; omega)) _)
        · first | (simp; done) | omega | (simp; omega)
      have hzw1 : w.heap.size < w1.heap.size := by have := hb.size; (try simp at this); omega
      clear hb
      go_wp2_with fail
      refine bodyPost_ret (v := .tuple #[.int .i64 0, .int .i64 0, .int .i64 6]) (by simp [results, Tryd.results38, go_sem]) rfl ⟨rfl, ?_⟩
      repeat (first | exact Below.refl _ _ | exact HBw1.out | refine Below.setCell ?_ (by first | (simp; done) | omega | (simp; omega)) _ | refine Below.alloc ?_ (by first | (simp; done) | omega | (simp; omega)) _ | refine bel_drew ?_)
    · rw [if_neg hz]
      have hv := inV_ok _ _ _ ho
      have A := Lib.hid (fun w => l04Angles_any x y z hv w)
      clear ho hv
      generalize lonI x y = p at *
      generalize latI x y z = q at *
      by_cases cx : x = 0
      · by_cases cy : y = 0
        · have cz : ¬ z = 0 := fun h => hz ⟨cx, cy, h⟩
          clear hz
          subst cx cy
          go_enter Tryd.func38, Tryd.ntmps38
          go_wp2_with fail
          refine (I.out _).mono ?_
          rintro e w1 ⟨rfl, hb⟩
          have hsw1 := hb.size
          try simp at hsw1
          obtain ⟨hcw1, hfw1⟩ := bcell hb
          have HBw1 : Hid (Below w.heap.size w w1) := by
            apply Lib.hid
            refine Below.trans ?_ (hb.mono ?_)
            · repeat (first | exact Below.refl _ _ | refine Below.setCell ?_ (by first | (simp; done) | omega | (simp; omega)) _ | refine Below.alloc ?_ (by first | (simp; done) | omega | (simp; omega)) _)
            · first | (simp; done) | omega | (simp; omega)
          have hzw1 : w.heap.size < w1.heap.size := by have := hb.size; (try simp at this); omega
          clear hb
          go_wp2_with fail
          refine (A.out _).mono ?_
          rintro e w2 ⟨rfl, hb⟩
          have hsw2 := hb.size
          try simp at hsw2
          obtain ⟨hcw2, hfw2⟩ := bcell hb
          have HBw2 : Hid (Below w.heap.size w w2) := by
            apply Lib.hid
            refine Below.trans ?_ (hb.mono ?_)
            · repeat (first | exact Below.refl _ _ | exact HBw1.out | refine Below.setCell ?_ (by first | (simp; done) | omega | (simp; omega)) _ | refine Below.alloc ?_ (by first | (simp; done) | omega | (simp; omega)) _)
            · first | (simp; done) | omega | (simp; omega)
          have hzw2 : w.heap.size < w2.heap.size := by have := hb.size; (try simp at this); omega
          clear hb
          first | (have gsw2w1 : w1.heap.size < w2.heap.size := by omega) | skip
          go_wp2_with fail
          refine bodyPost_ret (v := .tuple #[.int .i64 p, .int .i64 q, .int .i64 0]) (by simp [results, Tryd.results38, go_sem]) rfl ⟨rfl, ?_⟩
          repeat (first | exact Below.refl _ _ | exact HBw2.out | refine Below.setCell ?_ (by first | (simp; done) | omega | (simp; omega)) _ | refine Below.alloc ?_ (by first | (simp; done) | omega | (simp; omega)) _ | refine bel_drew ?_)
        · clear hz
          subst cx
          go_enter Tryd.func38, Tryd.ntmps38
          go_wp2_with fail
          refine (I.out _).mono ?_
          rintro e w1 ⟨rfl, hb⟩
          have hsw1 := hb.size
          try simp at hsw1
          obtain ⟨hcw1, hfw1⟩ := bcell hb
          have HBw1 : Hid (Below w.heap.size w w1) := by
            apply Lib.hid
            refine Below.trans ?_ (hb.mono ?_)
            · repeat (first | exact Below.refl _ _ | refine Below.setCell ?_ (by first | (simp; done) | omega | (simp; omega)) _ | refine Below.alloc ?_ (by first | (simp; done) | omega | (simp; omega)) _)
            · first | (simp; done) | omega | (simp; omega)
          have hzw1 : w.heap.size < w1.heap.size := by have := hb.size; (try simp at this); omega
          clear hb
          go_wp2_with fail
          refine (A.out _).mono ?_
          rintro e w2 ⟨rfl, hb⟩
          have hsw2 := hb.size
          try simp at hsw2
          obtain ⟨hcw2, hfw2⟩ := bcell hb
          have HBw2 : Hid (Below w.heap.size w w2) := by
            apply Lib.hid
            refine Below.trans ?_ (hb.mono ?_)
            · repeat (first | exact Below.refl _ _ | exact HBw1.out | refine Below.setCell ?_ (by first | (simp; done) | omega | (simp; omega)) _ | refine Below.alloc ?_ (by first | (simp; done) | omega | (simp; omega)) _)
            · first | (simp; done) | omega | (simp; omega)
          have hzw2 : w.heap.size < w2.heap.size := by have := hb.size; (try simp at this); omega
          clear hb
          first | (have gsw2w1 : w1.heap.size < w2.heap.size := by omega) | skip
          go_wp2_with fail
          refine bodyPost_ret (v := .tuple #[.int .i64 p, .int .i64 q, .int .i64 0]) (by simp [results, Tryd.results38, go_sem]) rfl ⟨rfl, ?_⟩
          repeat (first | exact Below.refl _ _ | exact HBw2.out | refine Below.setCell ?_ (by first | (simp; done) | omega | (simp; omega)) _ | refine Below.alloc ?_ (by first | (simp; done) | omega | (simp; omega)) _ | refine bel_drew ?_)
      · clear hz
        go_enter Tryd.func38, Tryd.ntmps38
        go_wp2_with fail
        refine (I.out _).mono ?_
        rintro e w1 ⟨rfl, hb⟩
        have hsw1 := hb.size
        try simp at hsw1
        obtain ⟨hcw1, hfw1⟩ := bcell hb
        have HBw1 : Hid (Below w.heap.size w w1) := by
          apply Lib.hid
          refine Below.trans ?_ (hb.mono ?_)
          · repeat (first | exact Below.refl _ _ | refine Below.setCell ?_ (by first | (simp; done) | omega | (simp; omega)) _ | refine Below.alloc ?_ (by first | (simp; done) | omega | (simp; omega)) _)
          · first | (simp; done) | omega | (simp; omega)
        have hzw1 : w.heap.size < w1.heap.size := by have := hb.size; (try simp at this); omega
        clear hb
        go_wp2_with fail
        refine (A.out _).mono ?_
        rintro e w2 ⟨rfl, hb⟩
        have hsw2 := hb.size
        try simp at hsw2
        obtain ⟨hcw2, hfw2⟩ := bcell hb
        have HBw2 : Hid (Below w.heap.size w w2) := by
          apply Lib.hid
          refine Below.trans ?_ (hb.mono ?_)
          · repeat (first | exact Below.refl _ _ | exact HBw1.out | refine Below.setCell ?_ (by first | (simp; done) | omega | (simp; omega)) _ | refine Below.alloc ?_ (by first | (simp; done) | omega | (simp; omega)) _)
          · first | (simp; done) | omega | (simp; omega)
        have hzw2 : w.heap.size < w2.heap.size := by have := hb.size; (try simp at this); omega
        clear hb
        first | (have gsw2w1 : w1.heap.size < w2.heap.size := by omega) | skip
        go_wp2_with fail
        refine bodyPost_ret (v := .tuple #[.int .i64 p, .int .i64 q, .int .i64 0]) (by simp [results, Tryd.results38, go_sem]) rfl ⟨rfl, ?_⟩
        repeat (first | exact Below.refl _ _ | exact HBw2.out | refine Below.setCell ?_ (by first | (simp; done) | omega | (simp; omega)) _ | refine Below.alloc ?_ (by first | (simp; done) | omega | (simp; omega)) _ | refine bel_drew ?_)
end Go.Proofs.YtoellkbmhpekdaaDoor
