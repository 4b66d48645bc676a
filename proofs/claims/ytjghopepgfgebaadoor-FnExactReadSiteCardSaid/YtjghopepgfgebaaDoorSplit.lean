/-
  Dividing texts: the contract of l01Split (package spec), and what strings.Split comes to at one byte.
-/
import Derived.Test.YtjghopepgfgebaaDoorCore
import Derived.Test.YtjghopepgfgebaaDoorPost
import Derived.Test.YtjghopepgfgebaaDoorDec
import Derived.Test.YtjghopepgfgebaaDoorSplitMath
import Derived.Test.YtjghopepgfgebaaDoorShelfSplit
import Derived.WalkSpells
namespace Go.Proofs.YtjghopepgfgebaaDoor
open Go.RowKit

theorem info_str : (Tryd.prog.info? 9).map (fun i => (i.zero, i.size, i.bytes)) = some (some (.string ByteArray.empty), 1, 16) := by kernel_rfl
theorem one_cell_s (w : World) (T : TypeId) (c : ByteArray) : ∀ (j : Nat) u, [Value.string c][j]? = some u → (w.alloc (.cells #[.string c] T)).cell? ((⟨w.heap.size, 0, none⟩ : Addr).add j) = some u := by
  intro j u hj
  match j, hj with
  | 0, hj => simp at hj; subst hj; simp [Addr.add]
theorem one_plain_s (c : ByteArray) : ∀ u ∈ [Value.string c], u.oneCell' = true := by
  intro u hu
  simp at hu
  subst hu
  rfl

/-- The call returned a slice of its own that holds these strings. -/
def RowPost (xs : List ByteArray) (w : World) (e : Ending) (w' : World) : Prop :=
  ∃ v, e = .returned v ∧ w'.ownsRow w.heap.size 9 1 v xs.length (xs.map Value.string) ∧ Below w.heap.size w w'

theorem size_len' (s : ByteArray) : s.data.toList.length = s.size := Array.length_toList
theorem get_list (s : ByteArray) (i : Nat) (h : i < s.size) : s.data.toList[i]'(by rw [size_len']; exact h) = s[i] := rfl

set_option maxRecDepth 100000 in
set_option maxHeartbeats 2000000 in
theorem l01Split_any (s : ByteArray) (c : UInt8) (k : Int) (hk : (c.toNat : Int) = k) (w : World) (hs : s.size ≤ 1048576) :
    Calls Tryd.prog 78 #[.string s, .int .u8 k] w (RowPost (bs (spl c s.data.toList)) w) := by
  subst hk
  obtain ⟨i0, hi, hz0, hz1, hz2⟩ := info_parts info_str
  have hl := size_len' s
  go_enter Tryd.func78, Tryd.ntmps78
  go_wp2_with fail
  go_loopw [5, 6, 7] (fun v f i wr => ∃ (xs : List (List UInt8)) (fn j : Nat), f = .int .i64 (fn : Int) ∧ i = .int .i64 (j : Int) ∧ wr.ownsRow w.heap.size 9 1 v (bs xs).length ((bs xs).map Value.string) ∧ Below w.heap.size w wr ∧ w.heap.size ≤ wr.heap.size ∧ SplInv c s.data.toList xs fn j)
    (fun _ _ i _ => s.size - (intOf i).toNat)
  case atStart =>
    exact ⟨[], 0, 0, rfl, rfl, World.ownsRow_lit w #[] 0 (Nat.le_refl _) (by decide) rfl, (Below.refl _ _).alloc (Nat.le_refl _) _, by simp, SplInv.start c s.data.toList⟩
  case round =>
    obtain ⟨xs, fn, j, rfl, rfl, hown, hbel, hsz, hinv⟩ := hrel
    have g1 := hinv.le
    have g2 := hinv.len
    have g3 := hinv.many
    have g4 : (bs xs).length ≤ fn := by rw [bs_len]; exact g3
    by_cases hj : j < s.size
    · have hgl := get_list s j hj
      by_cases hc : s[j] = c
      · have hcut := hinv.cut (by omega) (by rw [hgl]; exact hc)
        have hx := ext_data s fn j
        have HC := Lib.hid hcut
        have HX := Lib.hid hx
        have hcb : ((s[j].toNat : Int) == (c.toNat : Int)) = true := by rw [hc]; simp
        have H0 := Lib.hid hc
        have HL := Lib.hid hl
        clear hcut hx hinv hgl hc hl
        go_wp2_with (at_builtin; refine wpList_append_own _ rfl _ _ 69 rfl w.heap.size 9 i0 (.string ByteArray.empty) 1 16 Tryd.underlying69 hi hz0 hz1 hz2 rfl (by decide) _ _ _ rfl (hown.alloc _) ⟨wr.heap.size, 0, none⟩ 1 1 [.string (s.extract fn j)] rfl rfl ?c1 ?c2 ?c3 ?c4 ?c5 ?_)
        case c1 => exact one_cell_s _ _ _
        case c2 => exact one_plain_s _
        case c3 => unfold maxLen; omega
        case c4 => omega
        case c5 => simp; omega
        intro v' w1 hown' hgrow _
        obtain ⟨hb1, hs1⟩ := own_below hown hbel hsz hgrow
        have ho : w1.ownsRow w.heap.size 9 1 v' (bs (xs ++ [(s.data.toList.drop fn).take (j - fn)])).length ((bs (xs ++ [(s.data.toList.drop fn).take (j - fn)])).map Value.string) := by
          have e : bs (xs ++ [(s.data.toList.drop fn).take (j - fn)]) = bs xs ++ [s.extract fn j] := by rw [HX.out]; simp [bs]
          rw [e, List.map_append, List.length_append]
          exact hown'
        clear hown hown' hgrow hbel hsz
        go_wp2_with fail
        go_roundw
        case rel => exact ⟨_, j + 1, j + 1, by go_num, by go_num, ho, hb1, hs1, HC.out⟩
        case measure => (simp [intOf] <;> omega)
      · have hps := hinv.pass (by omega) (by rw [hgl]; exact hc)
        have HC := Lib.hid hps
        have hcb : ((s[j].toNat : Int) == (c.toNat : Int)) = false := by
          rw [beq_eq_false_iff_ne]
          intro h
          exact hc (UInt8.toNat_inj.1 (by omega))
        have H0 := Lib.hid hc
        have HL := Lib.hid hl
        clear hps hinv hgl hc hl
        go_wp2_with fail
        go_roundw
        case rel => exact ⟨xs, fn, j + 1, rfl, by go_num, hown, hbel, hsz, HC.out⟩
        case measure => (simp [intOf] <;> omega)
    · obtain rfl : j = s.data.toList.length := by omega
      have hdn := hinv.done
      have hx := ext_data s fn s.size
      rw [List.take_of_length_le (by rw [List.length_drop]; omega)] at hx
      have HD := Lib.hid hdn
      have HX := Lib.hid hx
      clear hdn hx hinv
      rw [hl] at hj g1 g2 ⊢
      have HL := Lib.hid hl
      clear hl
      go_wp2_with (at_builtin; refine wpList_append_own _ rfl _ _ 69 rfl w.heap.size 9 i0 (.string ByteArray.empty) 1 16 Tryd.underlying69 hi hz0 hz1 hz2 rfl (by decide) _ _ _ rfl (hown.alloc _) ⟨wr.heap.size, 0, none⟩ 1 1 [.string (s.extract fn s.size)] rfl rfl ?c1 ?c2 ?c3 ?c4 ?c5 ?_)
      case c1 => exact one_cell_s _ _ _
      case c2 => exact one_plain_s _
      case c3 => unfold maxLen; omega
      case c4 => omega
      case c5 => simp; omega
      intro v' w1 hown' hgrow _
      obtain ⟨hb1, hs1⟩ := own_below hown hbel hsz hgrow
      have ho : w1.ownsRow w.heap.size 9 1 v' (bs (spl c s.data.toList)).length ((bs (spl c s.data.toList)).map Value.string) := by
        have e : bs (spl c s.data.toList) = bs xs ++ [s.extract fn s.size] := by rw [HX.out, ← HD.out]; simp [bs]
        rw [e, List.map_append, List.length_append]
        exact hown'
      clear hown hown' hgrow hbel hsz
      go_wp2_with fail
      go_ret
      exact ⟨v', rfl, ho, hb1⟩

/-- strings.Split at one byte. -/
def LenOK (w : World) : Prop := ∃ m, w.cell? ⟨3, 0, none⟩ = some (.int .i64 m)
theorem LenOK.below {w w' : World} (h : LenOK w) (hb : Below w.heap.size w w') : LenOK w' := by
  obtain ⟨m, hm⟩ := h
  have hlt : 3 < w.heap.size := World.block_lt_of_cell? w ⟨3, 0, none⟩ hm
  exact ⟨m, (hb.cell (p := ⟨3, 0, none⟩) hlt).trans hm⟩
theorem split_any (s : ByteArray) (c : UInt8) (w : World) (hs : s.size ≤ 1048576) (hm : LenOK w) :
    Calls Tryd.prog 45 #[.string s, .string ⟨#[c]⟩] w (RowPost (bs (spl c s.data.toList)) w) := by
  obtain ⟨m, hm⟩ := hm
  refine (Tryd.strings_Split s ⟨#[c]⟩ m w (by omega) hm (Nat.le_refl 1)).mono fun e w' h => ?_
  obtain ⟨he, hw⟩ := h
  have hl : (bs (spl c s.data.toList)).length = Lib.countB s ⟨#[c]⟩ + 1 := by
    rw [← splitB_spl]
    exact Lib.splitB_all ⟨#[c]⟩ (Nat.le_refl 1) 0 _ s rfl
  have hlen := spl_len c s.data.toList
  rw [size_len'] at hlen
  refine ⟨_, he, ?_, ?_⟩
  · rw [hw, splitB_spl, ← hl]
    have := World.ownsRow_lit (base := w.heap.size) (e := 9) (size := 1) w ((bs (spl c s.data.toList)).map Value.string).toArray (bs (spl c s.data.toList)).length (Nat.le_refl _) (by rw [bs_len]; unfold maxLen; omega) (by simp)
    simpa using this
  · rw [hw]
    exact (Below.refl _ _).alloc (Nat.le_refl _) _
end Go.Proofs.YtjghopepgfgebaaDoor
