/-
  The turn by an angle: the contract of turnBy (package impl).
-/
import Derived.Test.YtoellkbmhpekdaaDoorSinW
import Derived.Test.YtoellkbmhpekdaaDoorVec0
import Derived.Test.YtoellkbmhpekdaaDoorArg0
namespace Go.Proofs.YtoellkbmhpekdaaDoor
open Go.RowKit
set_option linter.unusedVariables false

/-- A pair of numbers in a block of its own, that may be written. -/
structure D2 (w : World) (g : Nat) (a b : Int) : Prop where
  c0 : w.cell? ⟨g, 0, none⟩ = some (.int .i64 a)
  c1 : w.cell? ⟨g, 1, none⟩ = some (.int .i64 b)
  f0 : w.frozen? ⟨g, 0, none⟩ = false
  f1 : w.frozen? ⟨g, 1, none⟩ = false
theorem D2.inn {w : World} {g : Nat} {a b : Int} (h : D2 w g a b) : g < w.heap.size := World.block_lt_of_cell? w ⟨g, 0, none⟩ h.c0
theorem D2.on {w w' : World} {g : Nat} {a b : Int} (h : D2 w g a b) (hb : Below w.heap.size w w') : D2 w' g a b := by
  obtain ⟨k1, k2⟩ := bcell hb
  have hg := h.inn
  exact ⟨(k1 g 0 hg).trans h.c0, (k1 g 1 hg).trans h.c1, (k2 g 0 hg).trans h.f0, (k2 g 1 hg).trans h.f1⟩
theorem D2.new (w : World) (T : TypeId) (a b : Int) : D2 (w.alloc (.cells #[.int .i64 a, .int .i64 b] T)) w.heap.size a b := ⟨by simp, by simp, by simp, by simp⟩
theorem D2.alloc {w : World} {g : Nat} {a b : Int} (h : D2 w g a b) (o : Obj) : D2 (w.alloc o) g a b := h.on ((Below.refl _ _).alloc (Nat.le_refl _) o)

set_option maxHeartbeats 1000000 in
theorem turnBy_any (a : Int) (fa : fits a) (w : World) (hs : SinesOK w) :
    Calls Tryd.prog 103 #[.int .i64 a] w fun e w' => e = .returned (.agg #[.int .i64 (sinI a), .int .i64 (cosI a)]) ∧ Below w.heap.size w w' := by
  have S := Lib.hid (fun w hs => implSine_any a fa.1 fa.2 w hs)
  have C := Lib.hid (fun w hs => implCosine_any a fa.1 fa.2 w hs)
  have E := Lib.hid hs
  clear hs fa
  generalize sinI a = s at *
  generalize cosI a = c at *
  go_enter Tryd.func103, Tryd.ntmps103
  go_wp2_with fail
  refine (S.out _ (E.out.below (by repeat (first | exact Below.refl _ _ | refine Below.setCell ?_ (by first | (simp; done) | omega | (simp; omega)) _ | refine Below.alloc ?_ (by first | (simp; done) | omega | (simp; omega)) _ | refine bel_drew ?_)))).mono ?_
  rintro e w1 ⟨rfl, hb⟩
  have hsw1 := hb.size
  try simp at hsw1
  obtain ⟨hcw1, hfw1⟩ := bcell hb
  have HBw1 : Hid (Below w.heap.size w w1) := by
    apply Lib.hid
    refine Below.trans ?_ (hb.mono ?_)
    · repeat (first | exact Below.refl _ _ | refine Below.setCell ?_ (by first | (simp; done) | omega | (simp; omega)) _ | refine Below.alloc ?_ (by first | (simp; done) | omega | (simp; omega)) _)
    · first | (simp; done) | omega | (simp; omega)
  have hzw1 : w.heap.size < w1.heap.size := by have := hb.size; (try simp at this); omega
  clear hb
  go_wp2_with fail
  refine (C.out _ (E.out.below HBw1.out)).mono ?_
  rintro e w2 ⟨rfl, hb⟩
  have R : D2 w2 w.heap.size 0 0 := ⟨((bcell hb).1 _ _ hzw1).trans ((hcw1 _ _ (by simp)).trans (by simp)), ((bcell hb).1 _ _ hzw1).trans ((hcw1 _ _ (by simp)).trans (by simp)), ((bcell hb).2 _ _ hzw1).trans ((hfw1 _ _ (by simp)).trans (by simp)), ((bcell hb).2 _ _ hzw1).trans ((hfw1 _ _ (by simp)).trans (by simp))⟩
  have HB2 := Lib.hid (HBw1.out.trans (hb.mono HBw1.out.size))
  clear hb hcw1 hfw1
  obtain ⟨r0, r1, r2, r3⟩ := R
  go_wp2_with fail
  refine bodyPost_ret (v := .agg #[.int .i64 s, .int .i64 c]) (by first | (simp [results, Tryd.results103, go_sem]; done) | (simp [results, Tryd.results103, go_sem, *]; done)) rfl ⟨rfl, ?_⟩
  repeat (first | exact Below.refl _ _ | exact HB2.out | refine Below.setCell ?_ (by first | (simp; done) | omega | (simp; omega)) _ | refine Below.alloc ?_ (by first | (simp; done) | omega | (simp; omega)) _ | refine bel_drew ?_)

end Go.Proofs.YtoellkbmhpekdaaDoor
