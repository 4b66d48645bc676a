/-
  The law's marks on a figure: markInt64S, markInt64SS, markFigure at the rows of a copy.
-/
import Derived.Test.YtfjhlapcopjfiaaFigV
import Derived.Test.YtfjhlapcopjfiaaStMk0
namespace Go.Proofs.Ytfjhlapcopjfiaa
open Go.RowKit
set_option linter.unusedVariables false

/-- Nothing but what lies from lo on, below hi, has changed. -/
structure Spare (lo hi : Nat) (w w' : World) : Prop where
  os : w'.os = w.os
  tape : w'.tape = w.tape
  output : w'.output = w.output
  size : w.heap.size ≤ w'.heap.size
  block : ∀ k, k < w.heap.size → (k < lo ∨ hi ≤ k) → w'.heap[k]? = w.heap[k]?
theorem Spare.refl (lo hi : Nat) (w : World) : Spare lo hi w w := ⟨rfl, rfl, rfl, Nat.le_refl _, fun _ _ _ => rfl⟩
theorem Spare.trans {lo hi : Nat} {a b c : World} (h : Spare lo hi a b) (k : Spare lo hi b c) : Spare lo hi a c :=
  ⟨k.os.trans h.os, k.tape.trans h.tape, k.output.trans h.output, Nat.le_trans h.size k.size, fun i hi' hne => (k.block i (Nat.lt_of_lt_of_le hi' h.size) hne).trans (h.block i hi' hne)⟩
theorem Spare.of_gb {lo hi b : Nat} {w w' : World} (h : w.grownBy w' (some b)) (h1 : lo ≤ b) (h2 : b < hi) : Spare lo hi w w' :=
  ⟨h.os, h.tape, h.output, h.size, fun k hk hne => h.block k hk (by simp; omega)⟩
theorem Spare.below {lo hi B : Nat} {w w' : World} (h : Spare lo hi w w') (h1 : B ≤ lo) (h2 : B ≤ w.heap.size) : Below B w w' :=
  ⟨h.os, h.tape, h.output, h.size, fun k hk => h.block k (by omega) (Or.inl (by omega))⟩
theorem Spare.cell {lo hi : Nat} {w w' : World} (h : Spare lo hi w w') {p : Addr} (h1 : p.block < w.heap.size) (h2 : p.block < lo ∨ hi ≤ p.block) : w'.cell? p = w.cell? p := World.cell?_of_block (h.block _ h1 h2)
theorem Spare.row {lo hi : Nat} {w w' : World} (h : Spare lo hi w w') {g : Nat} {ys : List StarV} (hr : Row w g ys) (h2 : g < lo ∨ hi ≤ g) : Row w' g ys := World.rowIs.of_block hr (h.block g hr.lt h2)
theorem Spare.owns {lo hi : Nat} {w w' : World} (h : Spare lo hi w w') {B : Nat} {e : TypeId} {v : Value} {n : Nat} {xs : List Value} (ho : w.ownsRow B e 1 v n xs) (hB : hi ≤ B) : w'.ownsRow B e 1 v n xs := by
  rcases ho with ⟨h0, hv | ⟨g, cap, cur, hv, hg, hh, r⟩⟩
  · exact ⟨h0, Or.inl hv⟩
  · exact ⟨h0, Or.inr ⟨g, cap, cur, hv, hg, (h.block g (Array.getElem?_eq_some_iff.1 hh).1 (Or.inr (by omega))).trans hh, r⟩⟩
theorem gb_set (w : World) (g j : Nat) (v : Value) : w.grownBy (w.setCell ⟨g, j, none⟩ v) (some g) := by
  have hb : Below 0 w (w.setCell ⟨g, j, none⟩ v) := (Below.refl _ _).setCell (Nat.zero_le _) _
  refine ⟨hb.os, hb.tape, hb.output, hb.size, fun k hk hne => ?_⟩
  have hne' : k ≠ g := fun e => hne (by rw [e])
  rw [heap_setCell_other _ _ _ _ hne']

set_option maxRecDepth 100000 in
set_option maxHeartbeats 1000000 in
theorem markR_any (b n cap : Nat) (f : Nat → Value) (hf : ∀ i, i < n → ∃ z, f i = .int .i64 z) (k : Int) (w : World) (hn : n ≤ 1048577) (hk0 : 0 ≤ k) (hk : k ≤ 4503599627370496) (h : w.rowIs b 2 n f) :
    Calls Try.prog 44 #[.slice (some ⟨b, 0, none⟩) n cap, .int .i64 k] w fun e w' => e = .returned (.int .i64 (k + (n : Int))) ∧ w.grownBy w' (some b) ∧ ∃ f', (∀ i, i < n → ∃ z, f' i = .int .i64 z) ∧ w'.rowIs b 2 n f' := by
  have H0 := Lib.hid h
  have HF := Lib.hid hf
  clear h hf
  go_enter Try.func44, Try.ntmps44
  go_wp2_with fail
  go_loopg [1, 5] (n + 1) (fun kx s1 s5 wr => ∃ (j : Nat), s1 = .int .i64 (k + (j : Int)) ∧ s5 = .int .i64 (j : Int) ∧ j ≤ n ∧ kx = n + 1 - j ∧ Hid (∃ f', (∀ i, i < n → ∃ z, f' i = .int .i64 z) ∧ wr.rowIs b 2 n f') ∧ Hid (w.grownBy wr (some b)))
  case atStart => exact ⟨0, by go_num, rfl, Nat.zero_le _, rfl, Lib.hid ⟨f, HF.out, H0.out⟩, Lib.hid (gb_refl _ _)⟩
  case round =>
    obtain ⟨j, rfl, rfl, hj, rfl, HR, HG⟩ := hrel
    by_cases hlt : j < n
    · have j0 : (0 : Int) ≤ (j : Int) := by omega
      have j1 : (j : Int) < (n : Int) := by omega
      obtain ⟨f', hf', hR⟩ := HR.out
      obtain ⟨z, hz⟩ := hf' j hlt
      have c0 : wr.cell? ⟨b, j, none⟩ = some (.int .i64 z) := by rw [World.rowIs.cell hR hlt, hz]
      have f0 := World.rowIs.frozen hR j
      have NX : Hid (∃ g', (∀ i, i < n → ∃ z, g' i = .int .i64 z) ∧ (wr.setCell ⟨b, j, none⟩ (.int .i64 (k + (j : Int)))).rowIs b 2 n g') := Lib.hid ⟨_, fun i hi => by
        by_cases c : i = j
        · exact ⟨_, if_pos c⟩
        · obtain ⟨y, hy⟩ := hf' i hi
          exact ⟨y, by rw [if_neg c]; exact hy⟩, World.rowIs.set hR j _⟩
      have NG := Lib.hid (gb_trans HG.out (gb_set wr b j (.int .i64 (k + (j : Int)))))
      clear hf' hR hz HR
      go_wp2_with fail
      go_roundg (n + 1 - (j + 1))
      case measure => omega
      case rel => exact ⟨j + 1, by go_num, by go_num, by omega, by omega, NX, NG⟩
    · obtain rfl : j = n := by omega
      go_wp2_with fail
      go_ret
      exact ⟨rfl, HG.out, HR.out⟩

/-- The rows of a figure, whatever numbers they hold. -/
structure LShp (w : World) (g : Nat) (ls : List (List Int)) (bs : Nat → Nat) : Prop where
  row : w.rowIs g 59 ls.length (fun k => .slice (some ⟨bs k, 0, none⟩) (ls.getD k []).length (ls.getD k []).length)
  each : ∀ k, k < ls.length → ∃ f, (∀ i, i < (ls.getD k []).length → ∃ z, f i = .int .i64 z) ∧ w.rowIs (bs k) 2 (ls.getD k []).length f
theorem LRow.shp {w : World} {g : Nat} {ls : List (List Int)} {bs : Nat → Nat} (h : LRow w g ls bs) : LShp w g ls bs := ⟨h.row, fun k hk => ⟨_, fun i _ => ⟨_, rfl⟩, h.each k hk⟩⟩
theorem LShp.mark {w w' : World} {g : Nat} {ls : List (List Int)} {bs : Nat → Nat} (h : LShp w g ls bs) (j : Nat) (hj : j < ls.length) (hg : g ≠ bs j) (hb : w.grownBy w' (some (bs j))) (hr : ∃ f', (∀ i, i < (ls.getD j []).length → ∃ z, f' i = .int .i64 z) ∧ w'.rowIs (bs j) 2 (ls.getD j []).length f') : LShp w' g ls bs := by
  refine ⟨World.rowIs.of_block h.row (hb.block g (World.rowIs.lt h.row) (by simpa using hg)), fun k hk => ?_⟩
  by_cases c : bs k = bs j
  · obtain ⟨f, hf, hk1⟩ := h.each k hk
    obtain ⟨f0, _, hj1⟩ := h.each j hj
    obtain ⟨f', hf', hr'⟩ := hr
    have e : (ls.getD k []).length = (ls.getD j []).length := by
      obtain ⟨c1, h1, n1, _⟩ := hk1
      obtain ⟨c2, h2, n2, _⟩ := hj1
      rw [c, h2] at h1
      injection h1 with h1
      injection h1 with h1
      rw [← n1, ← n2, h1]
    rw [e, c]
    exact ⟨f', hf', hr'⟩
  · obtain ⟨f, hf, hk1⟩ := h.each k hk
    exact ⟨f, hf, World.rowIs.of_block hk1 (hb.block _ (World.rowIs.lt hk1) (by simpa using c))⟩

def totL (ls : List (List Int)) : Nat → Nat
  | 0 => 0
  | j + 1 => totL ls j + (ls.getD j []).length
theorem totL_le (ls : List (List Int)) (hl : ∀ j, (h : j < ls.length) → ls[j].length ≤ 1048576) : ∀ j, j ≤ ls.length → totL ls j ≤ 1048576 * j
  | 0, _ => Nat.le_refl _
  | j + 1, h => by
    have h1 := totL_le ls hl j (by omega)
    have h2 := hl j (by omega)
    have e : ls.getD j [] = ls[j] := by rw [List.getD, List.getElem?_eq_getElem (by omega)]; rfl
    show totL ls j + (ls.getD j []).length ≤ _
    rw [e]
    omega

set_option maxRecDepth 100000 in
set_option maxHeartbeats 1000000 in
theorem markSS_any (g cap hi : Nat) (ls : List (List Int)) (bs : Nat → Nat) (w : World) (hb : ls.length ≤ 1048576) (hl : ∀ j, (h : j < ls.length) → ls[j].length ≤ 1048576) (h : LShp w g ls bs) (hg : ∀ k, k < ls.length → g < bs k) (hhi : ∀ k, k < ls.length → bs k < hi) :
    Calls Try.prog 84 #[.slice (some ⟨g, 0, none⟩) ls.length cap, .int .i64 1] w fun e w' => e = .returned (.int .i64 (1 + (totL ls ls.length : Int))) ∧ Spare g hi w w' := by
  have H0 := Lib.hid h
  have HL := Lib.hid hl
  have HG := Lib.hid hg
  have HH := Lib.hid hhi
  have T0 : Hid (totL ls 0 = 0) := Lib.hid rfl
  have TS : Hid (∀ j, totL ls (j + 1) = totL ls j + (ls.getD j []).length) := Lib.hid (fun _ => rfl)
  have TL := Lib.hid (totL_le ls hl)
  clear h hg hhi hl
  generalize totL ls = T at *
  go_enter Try.func84, Try.ntmps84
  go_wp2_with fail
  go_loopg [1, 5] (ls.length + 1) (fun kx s1 s5 wr => ∃ (j : Nat), s1 = .int .i64 (1 + (T j : Int)) ∧ s5 = .int .i64 (j : Int) ∧ j ≤ ls.length ∧ kx = ls.length + 1 - j ∧ Hid (LShp wr g ls bs) ∧ Hid (Spare g hi w wr))
  case atStart => exact ⟨0, by rw [T0.out]; rfl, rfl, Nat.zero_le _, rfl, H0, Lib.hid (Spare.refl _ _ _)⟩
  case round =>
    obtain ⟨j, rfl, rfl, hj, rfl, HR, HS⟩ := hrel
    by_cases hlt : j < ls.length
    · have j0 : (0 : Int) ≤ (j : Int) := by omega
      have j1 : (j : Int) < (ls.length : Int) := by omega
      have c0 := World.rowIs.cell HR.out.row hlt
      have gb := HG.out j hlt
      have hb1 := HH.out j hlt
      have tl := TL.out j (by omega)
      have ll := HL.out j hlt
      have e : ls.getD j [] = ls[j] := by rw [List.getD, List.getElem?_eq_getElem hlt]; rfl
      have tj := TS.out j
      have MR := Lib.hid (fun f hf h => markR_any (bs j) (ls.getD j []).length (ls.getD j []).length f hf (1 + (T j : Int)) wr (by rw [e]; omega) (by omega) (by omega) h)
      have SM := Lib.hid (fun w' h1 h2 => HR.out.mark (w' := w') j hlt (by omega) h1 h2)
      obtain ⟨f, hf, hr⟩ := HR.out.each j hlt
      have M1 := Lib.hid (MR.out f hf hr)
      rw [e] at M1 SM tj c0
      clear hf hr MR e
      generalize ls[j].length = n at *
      generalize T j = t at *
      generalize bs j = b at *
      go_wp2_with fail
      refine M1.out.mono ?_
      rintro e w2 ⟨rfl, hg2, hr2⟩
      have HR2 := Lib.hid (SM.out w2 hg2 hr2)
      have HS2 := Lib.hid (HS.out.trans (Spare.of_gb hg2 (by omega) hb1))
      clear hg2 hr2
      go_wp2_with fail
      go_roundg (ls.length + 1 - (j + 1))
      case measure => omega
      case rel => exact ⟨j + 1, by rw [tj]; go_num, by go_num, by omega, by omega, HR2, HS2⟩
    · obtain rfl : j = ls.length := by omega
      go_wp2_with fail
      go_ret
      exact ⟨rfl, HS.out⟩

set_option maxRecDepth 100000 in
set_option maxHeartbeats 1000000 in
theorem markF_any (s : ByteArray) (g cap hi : Nat) (ls : List (List Int)) (bs : Nat → Nat) (w : World) (hb : ls.length ≤ 1048576) (hl : ∀ j, (h : j < ls.length) → ls[j].length ≤ 1048576) (h : LRow w g ls bs) (hg : ∀ k, k < ls.length → g < bs k) (hhi : ∀ k, k < ls.length → bs k < hi) (hw : hi ≤ w.heap.size) :
    Calls Try.prog 43 #[.agg #[.string s, .slice (some ⟨g, 0, none⟩) ls.length cap], .int .i64 1] w fun e w' => e = .returned (.int .i64 (1 + (totL ls ls.length : Int))) ∧ Spare g hi w w' := by
  have M := Lib.hid (fun W h => markSS_any g cap hi ls bs W hb hl h hg hhi)
  have R := Lib.hid (fun W (hB : Below w.heap.size w W) => (h.below hB).shp)
  have gl := h.lt
  clear h hg hhi hl
  generalize totL ls ls.length = t at *
  go_enter Try.func43, Try.ntmps43
  go_wp2_with fail
  refine (M.out _ (R.out _ (by repeat (first | exact Below.refl _ _ | refine Below.setCell ?_ (by first | (simp; done) | omega | (simp; omega)) _ | refine Below.alloc ?_ (by first | (simp; done) | omega | (simp; omega)) _ | refine bel_drew ?_)))).mono ?_
  rintro e w2 ⟨rfl, hs2⟩
  have HS : Hid (Spare g hi w w2) := Lib.hid ⟨hs2.os, hs2.tape, hs2.output, by have := hs2.size; simp at this; omega, fun k hk hne => (hs2.block k (by simp; omega) hne).trans (((Below.refl w.heap.size w).alloc (Nat.le_refl _) _).block k hk)⟩
  clear hs2
  go_wp2_with fail
  go_ret
  exact ⟨rfl, HS.out⟩
end Go.Proofs.Ytfjhlapcopjfiaa
