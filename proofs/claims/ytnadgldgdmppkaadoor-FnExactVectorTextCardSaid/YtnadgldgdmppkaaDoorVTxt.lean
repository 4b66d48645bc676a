/-
  Vectors as texts: the contracts of l04Text, VectorText (package spec) and of VectorText (package impl).
-/
import Derived.Test.YtnadgldgdmppkaaDoorText
import Derived.Test.YtnadgldgdmppkaaDoorVec
namespace Go.Proofs.YtnadgldgdmppkaaDoor
open Go.RowKit
set_option linter.unusedVariables false

def vtxt (x y z : Int) : ByteArray := if okV x y z = true then ⟨(joinT [x, y, z]).toArray⟩ else ⟨#[]⟩
theorem okV_in (x y z : Int) (h : okV x y z = true) : inR (-1000000000000) 1000000000000 [x, y, z] = true := by
  obtain ⟨h1, h2, h3⟩ := (okV_bd x y z).1 h
  simp [inR]
  omega
theorem listT_3 (x y z : Int) (h : okV x y z = true) : listT [x, y, z] = joinT [x, y, z] := by
  unfold listT
  rw [if_pos ((fits_iff _).2 ⟨okV_in x y z h, by simp⟩), if_neg (by simp)]
theorem cells_V (w : World) (T T' : TypeId) (o : Obj) (x y z : Int) : ∀ j, (hj : j < [x, y, z].length) → ((w.alloc o).alloc (Obj.cells #[.int .i64 x, .int .i64 y, .int .i64 z] T)).cell? ⟨w.heap.size + 1, j, none⟩ = some (.int .i64 ([x, y, z][j])) := by
  intro j hj
  match j, hj with
  | 0, _ => simp
  | 1, _ => simp
  | 2, _ => simp
theorem cells_W (w : World) (T : TypeId) (x y z : Int) : ∀ j, (hj : j < [x, y, z].length) → (w.alloc (Obj.cells #[.int .i64 x, .int .i64 y, .int .i64 z] T)).cell? ⟨w.heap.size, j, none⟩ = some (.int .i64 ([x, y, z][j])) := by
  intro j hj
  match j, hj with
  | 0, _ => simp
  | 1, _ => simp
  | 2, _ => simp

set_option maxRecDepth 100000 in
set_option maxHeartbeats 1000000 in
theorem l04Text_any (x y z : Int) (h : okV x y z = true) (w : World) :
    Calls Tryd.prog 68 #[.agg #[.int .i64 x, .int .i64 y, .int .i64 z]] w fun e w' => e = .returned (.string ⟨(joinT [x, y, z]).toArray⟩) ∧ Below w.heap.size w w' := by
  have hin := okV_in x y z h
  have L := Lib.hid (fun g cap w hg hc => l01List_any g cap [x, y, z] w hg (by simp) hin hc)
  clear hin h
  rw [if_neg (by simp)] at L
  generalize (joinT [x, y, z]).toArray = r at *
  go_enter Tryd.func68, Tryd.ntmps68
  go_wp2_with fail
  refine (L.out _ _ _ (by simp) (cells_V _ _ 2 _ x y z)).mono ?_
  rintro e w1 ⟨rfl, hb⟩
  have HB := Lib.hid ((((Below.refl _ w).alloc (Nat.le_refl _) _).alloc (by simp) _).trans (hb.mono (by first | (simp; done) | (simp; omega))))
  clear hb
  go_wp2_with fail
  go_ret
  exact ⟨rfl, HB.out⟩

set_option maxRecDepth 100000 in
set_option maxHeartbeats 1000000 in
theorem specVText_any (x y z : Int) (w : World) :
    Calls Tryd.prog 23 #[.agg #[.int .i64 x, .int .i64 y, .int .i64 z]] w fun e w' => e = .returned (.string (vtxt x y z)) ∧ Below w.heap.size w w' := by
  unfold vtxt
  have V := Lib.hid (fun w => l04Ok_any x y z w)
  cases h : okV x y z with
  | false =>
    rw [if_neg (by simp)]
    rw [h] at V
    clear h
    go_enter Tryd.func23, Tryd.ntmps23
    go_wp2_with fail
    refine (V.out _).mono ?_
    rintro e w1 ⟨rfl, hb⟩
    have hsw1 := hb.size
    try simp at hsw1
    obtain ⟨hcw1, hfw1⟩ := bcell hb
    have HBw1 : Hid (Below w.heap.size w w1) := by
      apply Lib.hid
      refine Below.trans ?_ (hb.mono ?_)
      · repeat (first | exact Below.refl _ _ | refine Below.setCell ?_ (by first | (simp; done) | omega | (simp; omega)) _ | refine Below.alloc ?_ (by first | (simp; done) | omega | (simp; omega)) _)
      · first | (simp; done) | omega | (simp; omega)
    have hzw1 : w.heap.size < w1.heap.size := by have := hb.size; (try simp at this); omega
    clear hb
    go_wp2_with fail
    go_ret
    exact ⟨rfl, HBw1.out⟩
  | true =>
    rw [if_pos rfl]
    have T := Lib.hid (fun w => l04Text_any x y z h w)
    rw [h] at V
    clear h
    generalize (joinT [x, y, z]).toArray = r at *
    go_enter Tryd.func23, Tryd.ntmps23
    go_wp2_with fail
    refine (V.out _).mono ?_
    rintro e w1 ⟨rfl, hb⟩
    have hsw1 := hb.size
    try simp at hsw1
    obtain ⟨hcw1, hfw1⟩ := bcell hb
    have HBw1 : Hid (Below w.heap.size w w1) := by
      apply Lib.hid
      refine Below.trans ?_ (hb.mono ?_)
      · repeat (first | exact Below.refl _ _ | refine Below.setCell ?_ (by first | (simp; done) | omega | (simp; omega)) _ | refine Below.alloc ?_ (by first | (simp; done) | omega | (simp; omega)) _)
      · first | (simp; done) | omega | (simp; omega)
    have hzw1 : w.heap.size < w1.heap.size := by have := hb.size; (try simp at this); omega
    clear hb
    go_wp2_with fail
    refine (T.out _).mono ?_
    rintro e w2 ⟨rfl, hb⟩
    have hsw2 := hb.size
    try simp at hsw2
    obtain ⟨hcw2, hfw2⟩ := bcell hb
    have HBw2 : Hid (Below w.heap.size w w2) := by
      apply Lib.hid
      refine Below.trans ?_ (hb.mono ?_)
      · repeat (first | exact Below.refl _ _ | exact HBw1.out | refine Below.setCell ?_ (by first | (simp; done) | omega | (simp; omega)) _ | refine Below.alloc ?_ (by first | (simp; done) | omega | (simp; omega)) _)
      · first | (simp; done) | omega | (simp; omega)
    have hzw2 : w.heap.size < w2.heap.size := by have := hb.size; (try simp at this); omega
    clear hb
    first | (have gsw2w1 : w1.heap.size < w2.heap.size := by omega) | skip
    go_wp2_with fail
    go_ret
    exact ⟨rfl, HBw2.out⟩

set_option maxRecDepth 100000 in
set_option maxHeartbeats 1000000 in
theorem implVText_any (x y z : Int) (w : World) (ht : TabOK w) :
    Calls Tryd.prog 25 #[.agg #[.int .i64 x, .int .i64 y, .int .i64 z]] w fun e w' => e = .returned (.string (vtxt x y z)) ∧ Below w.heap.size w w' := by
  unfold vtxt
  have V := Lib.hid (fun w => validV_any x y z w)
  cases h : okV x y z with
  | false =>
    rw [if_neg (by simp)]
    rw [h] at V
    clear h ht
    go_enter Tryd.func25, Tryd.ntmps25
    go_wp2_with fail
    refine (V.out _).mono ?_
    rintro e w1 ⟨rfl, hb⟩
    have hsw1 := hb.size
    try simp at hsw1
    obtain ⟨hcw1, hfw1⟩ := bcell hb
    have HBw1 : Hid (Below w.heap.size w w1) := by
      apply Lib.hid
      refine Below.trans ?_ (hb.mono ?_)
      · repeat (first | exact Below.refl _ _ | refine Below.setCell ?_ (by first | (simp; done) | omega | (simp; omega)) _ | refine Below.alloc ?_ (by first | (simp; done) | omega | (simp; omega)) _)
      · first | (simp; done) | omega | (simp; omega)
    have hzw1 : w.heap.size < w1.heap.size := by have := hb.size; (try simp at this); omega
    clear hb
    go_wp2_with fail
    go_ret
    exact ⟨rfl, HBw1.out⟩
  | true =>
    rw [if_pos rfl]
    have L := Lib.hid (fun g cap w ht hg hc => implText_any g cap [x, y, z] w ht hg (by simp) hc)
    rw [listT_3 x y z h] at L
    rw [h] at V
    have E := Lib.hid ht
    clear h ht
    generalize (joinT [x, y, z]).toArray = r at *
    go_enter Tryd.func25, Tryd.ntmps25
    go_wp2_with fail
    refine (V.out _).mono ?_
    rintro e w1 ⟨rfl, hb⟩
    have hsw1 := hb.size
    try simp at hsw1
    obtain ⟨hcw1, hfw1⟩ := bcell hb
    have HBw1 : Hid (Below w.heap.size w w1) := by
      apply Lib.hid
      refine Below.trans ?_ (hb.mono ?_)
      · repeat (first | exact Below.refl _ _ | refine Below.setCell ?_ (by first | (simp; done) | omega | (simp; omega)) _ | refine Below.alloc ?_ (by first | (simp; done) | omega | (simp; omega)) _)
      · first | (simp; done) | omega | (simp; omega)
    have hzw1 : w.heap.size < w1.heap.size := by have := hb.size; (try simp at this); omega
    clear hb
    go_wp2_with fail
    have hB2 : Below w.heap.size w (w1.alloc (Obj.cells #[.int .i64 x, .int .i64 y, .int .i64 z] 2)) := HBw1.out.alloc HBw1.out.size _
    have HB2 := Lib.hid hB2
    clear hB2
    refine (L.out _ _ _ (E.out.below HB2.out) (by simp) (cells_W _ _ x y z)).mono ?_
    rintro e w2 ⟨rfl, hb⟩
    have HB3 := Lib.hid (HB2.out.trans (hb.mono HB2.out.size))
    clear hb
    go_wp2_with fail
    go_ret
    exact ⟨rfl, HB3.out⟩
end Go.Proofs.YtnadgldgdmppkaaDoor
