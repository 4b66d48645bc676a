/-
  The parts of the law of the basics, put together: a list through its text and back, a number through its text and back, a quotient and its opposite, a line and its ends, a root.
-/
import Derived.Test.YtjghopepgfgebaaDoorBackMath
import Derived.Test.YtjghopepgfgebaaDoorRootD
import Derived.Test.YtjghopepgfgebaaDoorHelp
import Derived.Test.YtjghopepgfgebaaDoorRead
namespace Go.Proofs.YtjghopepgfgebaaDoor
open Go.RowKit

theorem listT_len (zs : List Int) (hf : fitsB zs = true) : (listT zs).length ≤ 1400 := by
  obtain ⟨h1, h2⟩ := (fits_iff _).1 hf
  unfold listT
  rw [if_pos hf]
  split
  · simp
  · have h3 := joinTo_len zs h1 zs.length (Nat.le_refl _)
    unfold joinTo at h3
    rw [List.take_length] at h3
    omega
theorem fitsB5 (a b x y z : Int) (h0 : -1000000000000 ≤ a ∧ a ≤ 1000000000000) (h1 : -1000000000000 ≤ b ∧ b ≤ 1000000000000) (h2 : -1000000000000 ≤ x ∧ x ≤ 1000000000000) (h3 : -1000000000000 ≤ y ∧ y ≤ 1000000000000) (h4 : -1000000000000 ≤ z ∧ z ≤ 1000000000000) :
    fitsB [a, b, x, y, z] = true := by
  rw [fits_iff]
  refine ⟨?_, by simp⟩
  simp only [inR, List.all_cons, List.all_nil, Bool.and_eq_true, decide_eq_true_eq]
  exact ⟨h0, h1, h2, h3, h4, trivial⟩

theorem text_goes (g cap : Nat) (zs : List Int) (w : World) (hf : fitsB zs = true) (hne : zs ≠ []) (ht : TabOK w) (hgw : g < w.heap.size) (hc : ∀ j, (hj : j < zs.length) → w.cell? ⟨g, j, none⟩ = some (.int .i64 zs[j])) :
    Calls Tryd.prog 31 #[.slice (some ⟨g, 0, none⟩) zs.length cap] w fun e w' => ∃ s : ByteArray, e = .returned (.string s) ∧ s.size ≤ 1048576 ∧ listR s.data.toList = some zs ∧ Below w.heap.size w w' := by
  have hl := ((fits_iff _).1 hf).2
  refine (implText_any g cap zs w ht hgw (by omega) hc).mono ?_
  rintro e w' ⟨rfl, hb⟩
  refine ⟨_, rfl, ?_, ?_, hb⟩
  · have := listT_len zs hf
    show (listT zs).toArray.size ≤ _
    rw [List.size_toArray]
    omega
  · obtain ⟨z, r, rfl⟩ := List.exists_cons_of_ne_nil hne
    exact list_back z r hf
theorem text_back (s : ByteArray) (zs : List Int) (w : World) (hs : s.size ≤ 1048576) (hl : listR s.data.toList = some zs) (h5 : zs.length ≠ 0) (ht : TabOK w) (he : ErrOK w) (hlen : LenOK w) :
    Calls Tryd.prog 30 #[.string s] w fun e w' => ∃ g c, e = .returned (.tuple #[.slice (some ⟨g, 0, none⟩) zs.length c, .bool true]) ∧ (∀ j, (hj : j < zs.length) → w'.cell? ⟨g, j, none⟩ = some (.int .i64 zs[j])) ∧ g < w'.heap.size ∧ Below w.heap.size w w' := by
  refine (implList_any s w hs ht he hlen).mono ?_
  rintro e w' ⟨v, rfl, ho, hb⟩
  rw [hl] at ho ⊢
  have ho' : w'.ownsRow w.heap.size 2 1 v zs.length (zs.map (Value.int .i64)) := ho
  obtain ⟨g, c, rfl⟩ := Go.Joins.ownsRow_form ho' (by omega)
  exact ⟨g, c, rfl, cells_own ho', (ho'.lt _ rfl).2, hb⟩
theorem num_goes (n : Int) (w : World) (h0 : -1000000000000 ≤ n) (h1 : n ≤ 1000000000000) (ht : TabOK w) :
    Calls Tryd.prog 33 #[.int .i64 n] w fun e w' => ∃ s : ByteArray, e = .returned (.string s) ∧ s.size ≤ 1048576 ∧ numOk s.data.toList = true ∧ numV s.data.toList = n ∧ Below w.heap.size w w' := by
  refine (implDec_any n w (by omega) (by omega) ht).mono ?_
  rintro e w' ⟨rfl, hb⟩
  obtain ⟨n1, n2⟩ := num_back n h0 h1
  refine ⟨_, rfl, ?_, n1, n2, hb⟩
  have := itoa_len n h0 h1
  show (Lib.itoa n).toArray.size ≤ _
  rw [List.size_toArray]
  omega
theorem num_comes (s : ByteArray) (n : Int) (w : World) (hs : s.size ≤ 1048576) (h1 : numOk s.data.toList = true) (h2 : numV s.data.toList = n) (ht : TabOK w) (he : ErrOK w) :
    Calls Tryd.prog 32 #[.string s] w fun e w' => e = .returned (.tuple #[.int .i64 n, .bool true]) ∧ Below w.heap.size w w' := by
  refine (implRead_any s w hs ht he).mono ?_
  rintro e w' ⟨rfl, hb⟩
  rw [h1, h2]
  exact ⟨rfl, hb⟩

theorem div_pack (a b : Int) (ha : -100000 ≤ a) (ha' : a ≤ 3600000000) (hb : 1 ≤ b) (hb' : b ≤ 5000) :
    ∃ q : Int, (∀ w, Calls Tryd.prog 26 #[.int .i64 a, .int .i64 b] w fun e w' => e = .returned (.int .i64 q) ∧ Below w.heap.size w w') ∧
      (∀ w, Calls Tryd.prog 26 #[.int .i64 (-a), .int .i64 b] w fun e w' => e = .returned (.int .i64 (-q)) ∧ Below w.heap.size w w') ∧
      (-b ≤ 2 * (a - q * b) ∧ 2 * (a - q * b) ≤ b) ∧ (-3600005000 ≤ q * b ∧ q * b ≤ 3600005000) ∧ (-3600000001 ≤ q ∧ q ≤ 3600000001) := by
  obtain ⟨n1, n2⟩ := near_any a b hb
  obtain ⟨n3, n4⟩ := nearQ_bd a b 3600000000 (by omega) ha' hb
  refine ⟨nearQ a b, fun w => ?_, fun w => ?_, ⟨n2, n1⟩, ?_, ⟨by omega, by omega⟩⟩
  · have := implDiv_any a b w
    rw [divR_in a b (by omega) (by omega) (by omega) (by omega)] at this
    exact this
  · have := implDiv_any (-a) b w
    rw [divR_in (-a) b (by omega) (by omega) (by omega) (by omega), near_neg a b hb] at this
    exact this
  · generalize nearQ a b * b = t at *
    omega
theorem blend_pack (y z x : Int) (hy : -2500 ≤ y) (hy' : y ≤ 2500) (hz : -2500 ≤ z) (hz' : z ≤ 2500) (hx : 0 ≤ x) (hx' : x ≤ 1000) :
    ∃ v : Int, (∀ w, Calls Tryd.prog 29 #[.int .i64 0, .int .i64 y, .int .i64 1000, .int .i64 z, .int .i64 x] w fun e w' => e = .returned (.int .i64 v) ∧ Below w.heap.size w w') ∧
      (∀ w, Calls Tryd.prog 29 #[.int .i64 0, .int .i64 y, .int .i64 1000, .int .i64 z, .int .i64 0] w fun e w' => e = .returned (.int .i64 y) ∧ Below w.heap.size w w') ∧
      (∀ w, Calls Tryd.prog 29 #[.int .i64 0, .int .i64 y, .int .i64 1000, .int .i64 z, .int .i64 1000] w fun e w' => e = .returned (.int .i64 z) ∧ Below w.heap.size w w') ∧
      (y ≤ z → y ≤ v ∧ v ≤ z) ∧ (z ≤ y → z ≤ v ∧ v ≤ y) := by
  obtain ⟨m1, m2⟩ := blend_mid y z x hy hy' hz hz' hx hx'
  obtain ⟨e1, e2⟩ := blend_ends y z hy hy' hz hz'
  refine ⟨blendI 0 y 1000 z x, fun w => implBlend_any _ _ _ _ _ w, fun w => ?_, fun w => ?_, m1, m2⟩
  · have := implBlend_any 0 y 1000 z 0 w
    rw [e1] at this
    exact this
  · have := implBlend_any 0 y 1000 z 1000 w
    rw [e2] at this
    exact this
theorem root_facts (a r : Int) (h : IsRoot a r) (h0 : 0 ≤ a) (h1 : a ≤ 3600000000) : (0 ≤ r ∧ r ≤ 60000) ∧ (0 ≤ r * r ∧ r * r ≤ a) ∧ a < (r + 1) * (r + 1) ∧ (r + 1) * (r + 1) ≤ 3600120001 := by
  rcases h with ⟨h, _⟩ | ⟨_, r0, r1, r2⟩
  · omega
  · have hr : r ≤ 60000 := by
      by_cases c : r ≤ 60000
      · exact c
      · have := Int.mul_le_mul (show 60001 ≤ r by omega) (show 60001 ≤ r by omega) (by omega) r0
        omega
    have h2 := Int.mul_le_mul (show r + 1 ≤ 60001 by omega) (show r + 1 ≤ 60001 by omega) (by omega) (by omega)
    exact ⟨⟨r0, hr⟩, ⟨Int.mul_nonneg r0 r0, r1⟩, r2, by omega⟩
theorem cells_5 (w : World) (T : TypeId) (a b c d e : Int) : ∀ j, (hj : j < [a, b, c, d, e].length) →
    (w.alloc (Obj.cells #[.int .i64 a, .int .i64 b, .int .i64 c, .int .i64 d, .int .i64 e] T)).cell? ⟨w.heap.size, j, none⟩ = some (.int .i64 [a, b, c, d, e][j]) := by
  intro j hj
  match j, hj with
  | 0, _ => simp
  | 1, _ => simp
  | 2, _ => simp
  | 3, _ => simp
  | 4, _ => simp
end Go.Proofs.YtjghopepgfgebaaDoor
