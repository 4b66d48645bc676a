/-
  Figures: the contracts of szFigure, toFigure, eqFigure and of their parts (package laws).
-/
import Derived.Test.YtoellkbmhpekdaaFig0
import Derived.Deep.LoopGhost
import Derived.WideMake
import Derived.Deep.RegionHeld3
import Derived.Deep.QuietTactic
import Derived.BigQuiet
import Derived.Deep.Draws
namespace Go.Proofs.Ytoellkbmhpekdaa
open Go.RowKit
set_option linter.unusedVariables false

def szL (zs : List Int) (l : Int) : Int := if l - (zs.length : Int) < 0 then -1 else l - (zs.length : Int)
theorem szL_bd (zs : List Int) (l : Int) (h0 : 0 ≤ l) : -1 ≤ szL zs l ∧ szL zs l ≤ l ∧ (0 ≤ szL zs l → (zs.length : Int) ≤ l) := by unfold szL; split <;> omega
set_option maxHeartbeats 400000 in
theorem szI_any (a : Option Addr) (cap : Nat) (zs : List Int) (l : Int) (h0 : 0 ≤ l) (h1 : l ≤ 1048576) (hl : zs.length ≤ 9223372036854775807) (w : World) :
    Calls Try.prog 61 #[.slice a zs.length cap, .int .i64 l] w fun e w' => e = .returned (.int .i64 (szL zs l)) ∧ w = w' := by
  unfold szL
  by_cases h : l - (zs.length : Int) < 0
  · rw [if_pos h]
    go_enter Try.func61, Try.ntmps61
    go_wp2_with fail
    go_ret
    exact ⟨rfl, rfl⟩
  · rw [if_neg h]
    go_enter Try.func61, Try.ntmps61
    go_wp2_with fail
    go_ret
    exact ⟨rfl, rfl⟩

/-- What szInt64SS answers: below 0, or the lists are short. -/
def SzLPost (ls : List (List Int)) (l : Int) (w : World) (e : Ending) (w' : World) : Prop :=
  ∃ z : Int, e = .returned (.int .i64 z) ∧ -1 ≤ z ∧ z ≤ l ∧ (0 ≤ z → ls.length ≤ 1048576 ∧ ∀ j, (h : j < ls.length) → ls[j].length ≤ 1048576) ∧ Below w.heap.size w w'

set_option maxRecDepth 100000 in
set_option maxHeartbeats 1000000 in
theorem szSS_empty (a : Option Addr) (cap : Nat) (l : Int) (h0 : 0 ≤ l) (h1 : l ≤ 1048576) (w : World) :
    Calls Try.prog 35 #[.slice a 0 cap, .int .i64 l] w (SzLPost [] l w) := by
  go_enter Try.func35, Try.ntmps35
  go_wp2_with fail
  go_loop [1, 5] (fun s1 i => s1 = .int .i64 l ∧ i = .int .i64 0) (fun _ _ => 0)
  case atStart => exact ⟨rfl, rfl⟩
  case round =>
    obtain ⟨rfl, rfl⟩ := hrel
    go_wp2_with fail
    go_ret
    exact ⟨l, rfl, by omega, by omega, fun _ => ⟨by simp, fun j h => by simp at h⟩, Below.refl _ _⟩

set_option maxRecDepth 100000 in
set_option maxHeartbeats 1000000 in
theorem szSS_full (b off cap : Nat) (ls : List (List Int)) (l : Int) (h0 : 0 ≤ l) (h1 : l ≤ 1048576) (w : World) (hl : ls.length ≤ 9223372036854775807) (hbw : b < w.heap.size)
    (hc : ∀ j, (h : j < ls.length) → ∃ u, w.cell? ⟨b, off + j, none⟩ = some u ∧ NumsIn w u ls[j] ∧ ls[j].length ≤ 9223372036854775807) :
    Calls Try.prog 35 #[.slice (some ⟨b, off, none⟩) ls.length cap, .int .i64 l] w (SzLPost ls l w) := by
  have HC := Lib.hid hc
  clear hc
  by_cases hneg : l - (ls.length : Int) < 0
  ·
    go_enter Try.func35, Try.ntmps35
    go_wp2_with fail
    go_ret
    exact ⟨-1, rfl, by omega, by omega, fun h => by omega, Below.refl _ _⟩
  · have hlen : ls.length ≤ 1048576 := by omega
    go_enter Try.func35, Try.ntmps35
    go_wp2_with fail
    go_loopg [1, 5] (ls.length + 1) (fun kx s1 s5 wr => ∃ (i : Nat) (z : Int), i ≤ ls.length ∧ kx = ls.length + 1 - i ∧ s1 = .int .i64 z ∧ s5 = .int .i64 (i : Int) ∧ 0 ≤ z ∧ z ≤ l ∧ Hid (∀ k, (h : k < ls.length) → k < i → ls[k].length ≤ 1048576) ∧ Hid (Below w.heap.size w wr))
    case atStart => exact ⟨0, l - (ls.length : Int), Nat.zero_le _, rfl, rfl, rfl, by omega, by omega, Lib.hid (fun k _ h => absurd h (Nat.not_lt_zero k)), Lib.hid (Below.refl _ _)⟩
    case round =>
      obtain ⟨i, z, hi, rfl, rfl, rfl, hz0, hz1, HS, HR⟩ := hrel
      by_cases hlt : i < ls.length
      · obtain ⟨u, c0, hu, hn⟩ := HC.out i hlt
        obtain ⟨ua, uc, hu'⟩ := hu.len
        rw [hu'] at c0
        have c1 : wr.cell? ⟨b, off + i, none⟩ = some (.slice ua ls[i].length uc) := (HR.out.cell (p := ⟨b, off + i, none⟩) hbw).trans c0
        have SZ := Lib.hid (fun w => szI_any ua uc ls[i] z hz0 (by omega) hn w)
        obtain ⟨hs1, hs2, hs3⟩ := szL_bd ls[i] z hz0
        have HN : Hid (0 ≤ szL ls[i] z → ∀ k, (h : k < ls.length) → k < i + 1 → ls[k].length ≤ 1048576) := Lib.hid (fun hy k h hk => by
          by_cases e : k = i
          · subst e
            have := hs3 hy
            omega
          · exact HS.out k h (by omega))
        clear hs3 hu hu' c0
        generalize szL ls[i] z = y at *
        generalize ls[i].length = n at *
        have i0 : (0 : Int) ≤ (i : Int) := by omega
        have i1 : (i : Int) < (ls.length : Int) := by omega
        go_wp2_with fail
        refine (SZ.out _).mono ?_
        rintro e w1 ⟨rfl, rfl⟩
        by_cases hy : y < 0
        · go_wp2_with fail
          go_ret
          exact ⟨-1, rfl, by omega, by omega, fun h => by omega, HR.out⟩
        · have HN' := Lib.hid (HN.out (by omega))
          go_wp2_with fail
          go_roundg (ls.length + 1 - (i + 1))
          case measure => omega
          case rel => exact ⟨i + 1, y, by omega, by omega, rfl, by go_num, by omega, by omega, HN', HR⟩
      · obtain rfl : i = ls.length := by omega
        go_wp2_with fail
        go_ret
        exact ⟨z, rfl, by omega, hz1, fun _ => ⟨hlen, fun j h => HS.out j h h⟩, HR.out⟩
theorem szSS_any {v : Value} {ls : List (List Int)} (l : Int) (h0 : 0 ≤ l) (h1 : l ≤ 1048576) {w : World} (h : LinesIn w v ls) (hl : ls.length ≤ 9223372036854775807) :
    Calls Try.prog 35 #[v, .int .i64 l] w (SzLPost ls l w) := by
  rcases h with ⟨a, cap, rfl, rfl⟩ | ⟨b, off, cap, rfl, hb, hc⟩
  · exact szSS_empty a cap l h0 h1 w
  · exact szSS_full b off cap ls l h0 h1 w hl hb hc

set_option maxRecDepth 100000 in
set_option maxHeartbeats 1000000 in
theorem szFigure_any (s : ByteArray) (v : Value) (ls : List (List Int)) (l : Int) (h0 : 0 ≤ l) (h1 : l ≤ 1048576) (hmax : s.size ≤ maxLen) (w : World) (h : LinesIn w v ls) (hl : ls.length ≤ 9223372036854775807) :
    Calls Try.prog 16 #[.agg #[.string s, v], .int .i64 l] w (SzLPost ls l w) := by
  have hm : s.size ≤ 9223372036854775807 := by unfold maxLen at hmax; omega
  have HL := Lib.hid h
  clear hmax h
  by_cases h : l - (s.size : Int) < 0
  ·
    go_enter Try.func16, Try.ntmps16
    go_wp2_with fail
    go_ret
    refine ⟨-1, rfl, by omega, by omega, fun h => by omega, ?_⟩
    repeat (first | exact Below.refl _ _ | refine Below.setCell ?_ (by first | (simp; done) | omega | (simp; omega)) _ | refine Below.alloc ?_ (by first | (simp; done) | omega | (simp; omega)) _ | refine bel_drew ?_)
  · have h' : decide (l - (s.size : Int) < 0) = false := by simpa using h
    have SZ := Lib.hid (fun (W : World) (hb : Below w.heap.size w W) => szSS_any (l - (s.size : Int)) (by omega) (by omega) (HL.out.below hb) hl)
    obtain ⟨m, hm'⟩ : ∃ m, m = l - (s.size : Int) := ⟨_, rfl⟩
    rw [← hm'] at SZ
    go_enter Try.func16, Try.ntmps16
    go_wp2_with fail
    try rw [← hm']
    refine (SZ.out _ (by repeat (first | exact Below.refl _ _ | refine Below.setCell ?_ (by first | (simp; done) | omega | (simp; omega)) _ | refine Below.alloc ?_ (by first | (simp; done) | omega | (simp; omega)) _ | refine bel_drew ?_)
      )).mono ?_
    rintro e w1 ⟨z, rfl, hz0, hz1, hz2, hb1⟩
    have HB1 : Hid (Below w.heap.size w w1) := Lib.hid (by
      refine Below.trans ?_ (hb1.mono ?_)
      · repeat (first | exact Below.refl _ _ | refine Below.setCell ?_ (by first | (simp; done) | omega | (simp; omega)) _ | refine Below.alloc ?_ (by first | (simp; done) | omega | (simp; omega)) _ | refine bel_drew ?_)
      · simp)
    have HZ := Lib.hid hz2
    clear hb1 hz2
    by_cases hz : z < 0
    · go_wp2_with fail
      go_ret
      exact ⟨-1, rfl, by omega, by omega, fun h => by omega, HB1.out⟩
    · go_wp2_with fail
      go_ret
      exact ⟨z, rfl, by omega, by omega, HZ.out, HB1.out⟩

/-- The call returned a new copy. -/
def ToNPost (zs : List Int) (w : World) (e : Ending) (w' : World) : Prop :=
  e = .returned (.slice (some ⟨w.heap.size, 0, none⟩) zs.length zs.length) ∧ NRow w' w.heap.size zs ∧ Below w.heap.size w w'
set_option maxHeartbeats 400000 in
theorem toN_empty (a : Option Addr) (cap : Nat) (w : World) :
    Calls Try.prog 63 #[.slice a 0 cap] w (ToNPost [] w) := by
  have hmk : ∀ w, (Instr.makeSlice 89 (.int .i64 0) (.int .i64 0)).run Try.prog w = .ok (.slice (some ⟨w.heap.size, 0, none⟩) 0 0) (w.alloc (.cells #[] 2)) := fun _ => by kernel_rfl
  have MADE : Hid (NRow (w.alloc (.cells #[] 2)) w.heap.size []) := Lib.hid (World.rowIs_alloc w #[] 2 _ (fun k hk => by simp at hk))
  go_enter Try.func63, Try.ntmps63
  go_wp2_with fail
  clear hmk
  go_loop [4] (fun i => i = .int .i64 0) (fun _ => 0)
  case atStart => rfl
  case round =>
    subst hrel
    go_wp2_with fail
    go_ret
    exact ⟨rfl, MADE.out, (Below.refl _ _).alloc (Nat.le_refl _) _⟩
set_option maxRecDepth 100000 in
set_option maxHeartbeats 1000000 in
theorem toN_full (b off cap : Nat) (zs : List Int) (w : World) (hbw : b < w.heap.size) (hb : zs.length ≤ 1048576) (hc : ∀ j, (h : j < zs.length) → w.cell? ⟨b, off + j, none⟩ = some (.int .i64 zs[j])) :
    Calls Try.prog 63 #[.slice (some ⟨b, off, none⟩) zs.length cap] w (ToNPost zs w) := by
  have HC := Lib.hid hc
  clear hc
  have hmk := nums_make zs.length (by omega)
  have MADE := Lib.hid (numUp_made w zs)
  go_enter Try.func63, Try.ntmps63
  go_wp2_with fail
  clear hmk
  go_loopg [4] (zs.length + 1) (fun kx s4 wr => ∃ j : Nat, s4 = .int .i64 (j : Int) ∧ j ≤ zs.length ∧ kx = zs.length + 1 - j ∧ Hid (wr.rowIs w.heap.size 2 zs.length (numUp zs j)) ∧ Hid (Below w.heap.size w wr))
  case atStart => exact ⟨0, rfl, Nat.zero_le _, rfl, MADE, Lib.hid ((Below.refl _ _).alloc (Nat.le_refl _) _)⟩
  case round =>
    obtain ⟨j, rfl, hj, rfl, HR, HB⟩ := hrel
    by_cases hlt : j < zs.length
    · have c0 := (HB.out.cell (p := ⟨b, off + j, none⟩) hbw).trans (HC.out j hlt)
      have c1 := World.rowIs.cell HR.out hlt
      have f1 := World.rowIs.frozen HR.out j
      have PU := Lib.hid (numUp_set HR.out (show zs[j] = zs.getD j 0 by rw [List.getD, List.getElem?_eq_getElem hlt]; rfl))
      generalize zs[j] = z at *
      unfold numUp at c1
      have j0 : (0 : Int) ≤ (j : Int) := by omega
      have j1 : (j : Int) < (zs.length : Int) := by omega
      go_wp2_with fail
      go_roundg (zs.length + 1 - (j + 1))
      case measure => omega
      case rel => exact ⟨j + 1, by go_num, by omega, by omega, PU, Lib.hid (HB.out.setCell (Nat.le_refl _) _)⟩
    · obtain rfl : j = zs.length := by omega
      go_wp2_with fail
      go_ret
      exact ⟨rfl, numUp_done HR.out, HB.out⟩
theorem toN_any {v : Value} {zs : List Int} {w : World} (h : NumsIn w v zs) (hb : zs.length ≤ 1048576) :
    Calls Try.prog 63 #[v] w (ToNPost zs w) := by
  rcases h with ⟨a, cap, rfl, rfl⟩ | ⟨b, off, cap, rfl, hl, hc⟩
  · exact toN_empty a cap w
  · exact toN_full b off cap zs w hl hb (fun j hj => (hc j hj).1)

/-- The call returned a new copy of all lists. -/
def ToLPost (ls : List (List Int)) (w : World) (e : Ending) (w' : World) : Prop :=
  e = .returned (.slice (some ⟨w.heap.size, 0, none⟩) ls.length ls.length) ∧ (∃ bs, LRow w' w.heap.size ls bs ∧ ∀ k, k < ls.length → w.heap.size < bs k) ∧ Below w.heap.size w w'
set_option maxHeartbeats 400000 in
theorem toSS_empty (a : Option Addr) (cap : Nat) (w : World) :
    Calls Try.prog 37 #[.slice a 0 cap] w (ToLPost [] w) := by
  have hmk : ∀ w, (Instr.makeSlice 36 (.int .i64 0) (.int .i64 0)).run Try.prog w = .ok (.slice (some ⟨w.heap.size, 0, none⟩) 0 0) (w.alloc (.cells #[] 89)) := fun _ => by kernel_rfl
  have MADE : Hid (LRow (w.alloc (.cells #[] 89)) w.heap.size [] (fun _ => 0)) := Lib.hid ⟨World.rowIs_alloc w #[] 89 _ (fun k hk => by simp at hk), fun k hk => by simp at hk⟩
  go_enter Try.func37, Try.ntmps37
  go_wp2_with fail
  clear hmk
  go_loop [4] (fun i => i = .int .i64 0) (fun _ => 0)
  case atStart => rfl
  case round =>
    subst hrel
    go_wp2_with fail
    go_ret
    exact ⟨rfl, ⟨_, MADE.out, fun k hk => by simp at hk⟩, (Below.refl _ _).alloc (Nat.le_refl _) _⟩
set_option maxRecDepth 100000 in
set_option maxHeartbeats 1000000 in
theorem toSS_full (b off cap : Nat) (ls : List (List Int)) (w : World) (hbw : b < w.heap.size) (hb : ls.length ≤ 1048576) (hs : ∀ j, (h : j < ls.length) → ls[j].length ≤ 1048576)
    (hc : ∀ j, (h : j < ls.length) → ∃ u, w.cell? ⟨b, off + j, none⟩ = some u ∧ NumsIn w u ls[j] ∧ ls[j].length ≤ 9223372036854775807) :
    Calls Try.prog 37 #[.slice (some ⟨b, off, none⟩) ls.length cap] w (ToLPost ls w) := by
  have HC := Lib.hid hc
  have HS := Lib.hid hs
  clear hc hs
  have hmk := lines_make ls.length (by omega)
  have MADE := Lib.hid (LUp.made w ls (fun _ => 0))
  go_enter Try.func37, Try.ntmps37
  go_wp2_with fail
  clear hmk
  go_loopg [4] (ls.length + 1) (fun kx s4 wr => ∃ j : Nat, s4 = .int .i64 (j : Int) ∧ j ≤ ls.length ∧ kx = ls.length + 1 - j ∧ Hid (∃ bs, LUp wr w.heap.size ls bs j) ∧ Hid (Below w.heap.size w wr))
  case atStart => exact ⟨0, rfl, Nat.zero_le _, rfl, Lib.hid ⟨_, MADE.out⟩, Lib.hid ((Below.refl _ _).alloc (Nat.le_refl _) _)⟩
  case round =>
    obtain ⟨j, rfl, hj, rfl, HR, HB⟩ := hrel
    by_cases hlt : j < ls.length
    · obtain ⟨u, c0, hu, _⟩ := HC.out j hlt
      have c1 := (HB.out.cell (p := ⟨b, off + j, none⟩) hbw).trans c0
      have T := Lib.hid (toN_any (hu.below HB.out) (HS.out j hlt))
      have HG : Hid (ls.getD j [] = ls[j]) := Lib.hid (by rw [List.getD, List.getElem?_eq_getElem hlt]; rfl)
      clear hu c0
      generalize ls[j] = zs at *
      have j0 : (0 : Int) ≤ (j : Int) := by omega
      have j1 : (j : Int) < (ls.length : Int) := by omega
      go_wp2_with fail
      refine T.out.mono ?_
      rintro e w1 ⟨rfl, hn1, hb1⟩
      obtain ⟨bs, hu⟩ := HR.out
      have hu1 := hu.below hb1
      have c2 := World.rowIs.cell hu1.row hlt
      have f2 := World.rowIs.frozen hu1.row j
      have hlg : w.heap.size < wr.heap.size := World.rowIs.lt hu.row
      have PU := Lib.hid (LUp.put hu1 HG.out hn1 hlg)
      have HB1 := Lib.hid (HB.out.trans (hb1.mono HB.out.size))
      obtain ⟨v2, hv2⟩ : ∃ v2, v2 = lineUp ls bs j j := ⟨_, rfl⟩
      rw [← hv2] at c2
      clear hb1 hu hu1 hn1 hv2 c1
      go_wp2_with fail
      go_roundg (ls.length + 1 - (j + 1))
      case measure => omega
      case rel => exact ⟨j + 1, by go_num, by omega, by omega, Lib.hid ⟨_, PU.out⟩, Lib.hid (HB1.out.setCell (Nat.le_refl _) _)⟩
    · obtain rfl : j = ls.length := by omega
      go_wp2_with fail
      go_ret
      obtain ⟨bs, hu⟩ := HR.out
      exact ⟨rfl, ⟨bs, hu.done, fun k hk => (hu.each k hk).2⟩, HB.out⟩
theorem toSS_any {v : Value} {ls : List (List Int)} {w : World} (h : LinesIn w v ls) (hb : ls.length ≤ 1048576) (hs : ∀ j, (h : j < ls.length) → ls[j].length ≤ 1048576) :
    Calls Try.prog 37 #[v] w (ToLPost ls w) := by
  rcases h with ⟨a, cap, rfl, rfl⟩ | ⟨b, off, cap, rfl, hl, hc⟩
  · exact toSS_empty a cap w
  · exact toSS_full b off cap ls w hl hb hs hc

/-- The call returned a new copy of the figure. -/
def ToFPost (s : ByteArray) (ls : List (List Int)) (w : World) (e : Ending) (w' : World) : Prop :=
  ∃ g bs, e = .returned (.agg #[.string s, .slice (some ⟨g, 0, none⟩) ls.length ls.length]) ∧ LRow w' g ls bs ∧ Below w.heap.size w w'
/-- .. and where the copy lies. -/
def ToXPost (s : ByteArray) (ls : List (List Int)) (w : World) (e : Ending) (w' : World) : Prop :=
  ∃ g bs, e = .returned (.agg #[.string s, .slice (some ⟨g, 0, none⟩) ls.length ls.length]) ∧ LRow w' g ls bs ∧ Below w.heap.size w w' ∧ w.heap.size ≤ g ∧ ∀ k, k < ls.length → g < bs k
set_option maxRecDepth 100000 in
set_option maxHeartbeats 1000000 in
theorem toFigureX_any (s : ByteArray) (v : Value) (ls : List (List Int)) (w : World) (h : LinesIn w v ls) (hb : ls.length ≤ 1048576) (hs : ∀ j, (h : j < ls.length) → ls[j].length ≤ 1048576) :
    Calls Try.prog 18 #[.agg #[.string s, v]] w (ToXPost s ls w) := by
  have T := Lib.hid (fun (W : World) (hB : Below w.heap.size w W) => toSS_any (h.below hB) hb hs)
  clear h hs
  go_enter Try.func18, Try.ntmps18
  go_wp2_with fail
  refine (T.out _ (by repeat (first | exact Below.refl _ _ | refine Below.setCell ?_ (by first | (simp; done) | omega | (simp; omega)) _ | refine Below.alloc ?_ (by first | (simp; done) | omega | (simp; omega)) _ | refine bel_drew ?_)
    )).mono ?_
  rintro e w1 ⟨rfl, ⟨bs, hr, hbs⟩, hb1⟩
  obtain ⟨W3, hW3⟩ : ∃ W3, W3 = ((w.alloc (Obj.cells #[Value.string s, v] 38)).alloc (Obj.cells #[Value.string ⟨#[]⟩, Value.slice none 0 0] 41)).alloc (Obj.cells #[Value.string s, Value.slice none 0 0] 41) := ⟨_, rfl⟩
  have hsz : W3.heap.size = w.heap.size + 3 := by rw [hW3]; simp
  have e0 : W3.cell? ⟨w.heap.size + 1, 0, none⟩ = some (.string ⟨#[]⟩) := by rw [hW3, World.cell?_alloc_lt _ _ _ (by first | (simp; done) | (simp; omega))]; simp
  have e1 : W3.cell? ⟨w.heap.size + 1, 1, none⟩ = some (.slice none 0 0) := by rw [hW3, World.cell?_alloc_lt _ _ _ (by first | (simp; done) | (simp; omega))]; simp
  have d0 : W3.cell? ⟨w.heap.size + 1 + 1, 0, none⟩ = some (.string s) := by rw [hW3, World.cell?_alloc_at _ _ _ _ (by simp)]; rfl
  have d1 : W3.cell? ⟨w.heap.size + 1 + 1, 1, none⟩ = some (.slice none 0 0) := by rw [hW3, World.cell?_alloc_at _ _ _ _ (by simp)]; rfl
  have f0 : W3.frozen? ⟨w.heap.size + 1, 0, none⟩ = false := by rw [hW3]; first | (simp; done) | (rw [World.frozen?_alloc_past _ _ _ (by first | (simp; done) | (simp; omega))]; simp)
  have f1 : W3.frozen? ⟨w.heap.size + 1, 1, none⟩ = false := by rw [hW3]; first | (simp; done) | (rw [World.frozen?_alloc_past _ _ _ (by first | (simp; done) | (simp; omega))]; simp)
  have f2 : W3.frozen? ⟨w.heap.size + 1 + 1, 1, none⟩ = false := by rw [hW3]; first | (simp; done) | (rw [World.frozen?_alloc_at _ _ _ _ (by simp)])
  have hB3 : Below w.heap.size w W3 := by rw [hW3]; repeat (first | exact Below.refl _ _ | refine Below.setCell ?_ (by first | (simp; done) | omega | (simp; omega)) _ | refine Below.alloc ?_ (by first | (simp; done) | omega | (simp; omega)) _ | refine bel_drew ?_)
  have e0' : (w.alloc (Obj.cells #[Value.string s, v] 38)).heap.size = w.heap.size + 1 := by simp
  rw [← hW3] at hb1 hr hbs ⊢
  clear hW3
  rw [hsz] at hr hbs ⊢
  have Q0 := (hb1.cell (p := ⟨w.heap.size + 1, 0, none⟩) (by rw [hsz]; show w.heap.size + 1 < _; omega)).trans e0
  have Q1 := (hb1.cell (p := ⟨w.heap.size + 1, 1, none⟩) (by rw [hsz]; show w.heap.size + 1 < _; omega)).trans e1
  have R0 := (hb1.cell (p := ⟨w.heap.size + 1 + 1, 0, none⟩) (by rw [hsz]; show w.heap.size + 1 + 1 < _; omega)).trans d0
  have R1 := (hb1.cell (p := ⟨w.heap.size + 1 + 1, 1, none⟩) (by rw [hsz]; show w.heap.size + 1 + 1 < _; omega)).trans d1
  have G0 := (hb1.frozen (p := ⟨w.heap.size + 1, 0, none⟩) (by rw [hsz]; show w.heap.size + 1 < _; omega)).trans f0
  have G1 := (hb1.frozen (p := ⟨w.heap.size + 1, 1, none⟩) (by rw [hsz]; show w.heap.size + 1 < _; omega)).trans f1
  have G2 := (hb1.frozen (p := ⟨w.heap.size + 1 + 1, 1, none⟩) (by rw [hsz]; show w.heap.size + 1 + 1 < _; omega)).trans f2
  have HB1 := Lib.hid (hB3.trans (hb1.mono (by rw [hsz]; omega)))
  have HR := Lib.hid hr
  have hs1 := hr.lt
  clear hb1 hB3 hr e0 e1 d0 d1 f0 f1 f2 e0'
  obtain ⟨g, hg⟩ : ∃ g, g = w.heap.size + 3 := ⟨_, rfl⟩
  rw [← hg] at HR ⊢
  have HN : Hid ((∀ k, k < ls.length → bs k ≠ w.heap.size + 1 ∧ bs k ≠ w.heap.size + 1 + 1) ∧ g ≠ w.heap.size + 1 ∧ g ≠ w.heap.size + 1 + 1 ∧ w.heap.size ≤ g ∧ ∀ k, k < ls.length → g < bs k) := Lib.hid ⟨fun k hk => by have := hbs k hk; omega, by omega, by omega, by omega, fun k hk => by have := hbs k hk; omega⟩
  clear hbs
  have n1 : ¬ w.heap.size + 1 + 1 = w.heap.size + 1 := by omega
  have n2 : ¬ w.heap.size + 1 = w.heap.size + 1 + 1 := by omega
  clear hg hsz T
  go_wp2_with fail
  have k0 : (w1.setCell ⟨w.heap.size + 1 + 1, 1, none⟩ (.slice (some ⟨g, 0, none⟩) ls.length ls.length)).cell? ⟨w.heap.size + 1, 0, none⟩ = some (.string ⟨#[]⟩) := by rw [World.cell?_setCell_other (h := by simp)]; exact Q0
  have k1 : ((w1.setCell ⟨w.heap.size + 1 + 1, 1, none⟩ (.slice (some ⟨g, 0, none⟩) ls.length ls.length)).setCell ⟨w.heap.size + 1, 0, none⟩ (.string s)).cell? ⟨w.heap.size + 1, 1, none⟩ = some (.slice none 0 0) := by rw [World.cell?_setCell_other (h := by simp), World.cell?_setCell_other (h := by simp)]; exact Q1
  have r0 : (((w1.setCell ⟨w.heap.size + 1 + 1, 1, none⟩ (.slice (some ⟨g, 0, none⟩) ls.length ls.length)).setCell ⟨w.heap.size + 1, 0, none⟩ (.string s)).setCell ⟨w.heap.size + 1, 1, none⟩ (.slice (some ⟨g, 0, none⟩) ls.length ls.length)).cell? ⟨w.heap.size + 1, 0, none⟩ = some (.string s) := by rw [World.cell?_setCell_other (h := by simp), World.cell?_setCell_same (h := k0)]
  have r1 : (((w1.setCell ⟨w.heap.size + 1 + 1, 1, none⟩ (.slice (some ⟨g, 0, none⟩) ls.length ls.length)).setCell ⟨w.heap.size + 1, 0, none⟩ (.string s)).setCell ⟨w.heap.size + 1, 1, none⟩ (.slice (some ⟨g, 0, none⟩) ls.length ls.length)).cell? ⟨w.heap.size + 1, 1, none⟩ = some (.slice (some ⟨g, 0, none⟩) ls.length ls.length) := by rw [World.cell?_setCell_same (h := k1)]
  refine bodyPost_ret (v := .agg #[.string s, .slice (some ⟨g, 0, none⟩) ls.length ls.length]) (by simp [results, Try.results18, go_sem, r0, r1]) rfl ?_
  obtain ⟨hn, hg1, hg2, hlo, hup⟩ := HN.out
  exact ⟨g, bs, rfl, ((HR.out.setOther hg2 (fun k hk => (hn k hk).2) _).setOther hg1 (fun k hk => (hn k hk).1) _).setOther hg1 (fun k hk => (hn k hk).1) _, ((HB1.out.setCell (by simp; omega) _).setCell (by simp) _).setCell (by simp) _, hlo, hup⟩
theorem toFigure_any (s : ByteArray) (v : Value) (ls : List (List Int)) (w : World) (h : LinesIn w v ls) (hb : ls.length ≤ 1048576) (hs : ∀ j, (h : j < ls.length) → ls[j].length ≤ 1048576) :
    Calls Try.prog 18 #[.agg #[.string s, v]] w (ToFPost s ls w) :=
  (toFigureX_any s v ls w h hb hs).mono fun _ _ ⟨g, bs, h1, h2, h3, _, _⟩ => ⟨g, bs, h1, h2, h3⟩

/-- A struct of two cells that the call made stays. -/
theorem box_keep {W W' : World} {b : Nat} {v0 v1 : Value} (h : b < W.heap.size ∧ W.cell? ⟨b, 0, none⟩ = some v0 ∧ W.cell? ⟨b, 1, none⟩ = some v1) (hb : Below W.heap.size W W') :
    b < W'.heap.size ∧ W'.cell? ⟨b, 0, none⟩ = some v0 ∧ W'.cell? ⟨b, 1, none⟩ = some v1 := by
  obtain ⟨h0, h1, h2⟩ := h
  have := hb.size
  exact ⟨by omega, (hb.cell (p := ⟨b, 0, none⟩) h0).trans h1, (hb.cell (p := ⟨b, 1, none⟩) h0).trans h2⟩
theorem box_new (w : World) (v0 v1 : Value) (t : TypeId) : w.heap.size < (w.alloc (.cells #[v0, v1] t)).heap.size ∧ (w.alloc (.cells #[v0, v1] t)).cell? ⟨w.heap.size, 0, none⟩ = some v0 ∧ (w.alloc (.cells #[v0, v1] t)).cell? ⟨w.heap.size, 1, none⟩ = some v1 := by
  refine ⟨by simp, ?_, ?_⟩ <;> (rw [World.cell?_alloc_at _ _ _ _ rfl]; rfl)
theorem lines_fits {w : World} {v : Value} {ls : List (List Int)} (h : LinesIn w v ls) : ∀ j, (hj : j < ls.length) → ∀ x ∈ ls[j], fits x := by
  intro j hj x hx
  rcases h with ⟨a, cap, _, rfl⟩ | ⟨b, off, cap, _, _, hc⟩
  · cases hj
  · obtain ⟨u, _, hu, _⟩ := hc j hj
    rcases hu with ⟨a, cap, _, h0⟩ | ⟨b, off, cap, _, _, hz⟩
    · rw [h0] at hx
      cases hx
    · obtain ⟨k, hk, rfl⟩ := List.mem_iff_getElem.1 hx
      exact (hz k hk).2

theorem quiet_d2 {P : Program} {f : FuncId} {args : Array Value} {w : World} {n : Nat} {v : Value}
    (h : Calls P f args (w.drewN n) fun e w' => e = .returned v ∧ ∃ m, w' = (w.drewN n).drewN m) : Calls P f args (w.drewN n) fun e w'' => e = .returned v ∧ ∃ m, w'' = w.drewN m :=
  h.mono fun _ _ ⟨he, m, hm⟩ => ⟨he, n + m, by rw [hm, World.drewN_drewN]⟩
theorem bel_d2 {B : Nat} {a w : World} (h : Below B a w) (n : Nat) : Below B a (w.drewN n) := ⟨h.os, h.tape, h.output, h.size, h.block⟩
set_option maxRecDepth 100000 in
set_option maxHeartbeats 1000000 in
theorem eqN_any (b b' ca cb : Nat) (zs : List Int) (w : World) (hb : zs.length ≤ 1048577) (h1 : NRow w b zs) (h2 : NRow w b' zs) :
    Calls Try.prog 68 #[.slice (some ⟨b, 0, none⟩) zs.length ca, .slice (some ⟨b', 0, none⟩) zs.length cb] w fun e w' => e = .returned (.bool true) ∧ ∃ q, w' = w.drewN q := by
  have HG := Lib.hid (fun j hj => h1.at j hj)
  have HH := Lib.hid (fun j hj => h2.at j hj)
  clear h1 h2
  go_enter Try.func68, Try.ntmps68
  go_wp2_with fail
  go_loopw [5] (fun i wr => ∃ (j q : Nat), i = .int .i64 (j : Int) ∧ j ≤ zs.length ∧ wr = w.drewN q) (fun i _ => zs.length - (intOf i).toNat)
  case atStart => exact ⟨0, 0, rfl, Nat.zero_le _, rfl⟩
  case round =>
    obtain ⟨j, q, rfl, hj, rfl⟩ := hrel
    by_cases hlt : j < zs.length
    · have c1 := HG.out j hlt
      have c2 := HH.out j hlt
      generalize zs[j] = z at *
      go_wp2_with fail
      go_quiet (fail)
      go_wp2_with fail
      go_roundw
      case rel => exact ⟨j + 1, _, by go_num, by omega, rfl⟩
      case measure => (simp [intOf] <;> omega)
    · go_wp2_with fail
      go_ret
      exact ⟨rfl, q, rfl⟩
set_option maxRecDepth 100000 in
set_option maxHeartbeats 1000000 in
theorem eqSS_any (g g' ca cb : Nat) (ls : List (List Int)) (bs bs' : Nat → Nat) (w : World) (hb : ls.length ≤ 1048577) (hl : ∀ j, (h : j < ls.length) → ls[j].length ≤ 1048577) (h1 : LRow w g ls bs) (h2 : LRow w g' ls bs') :
    Calls Try.prog 39 #[.slice (some ⟨g, 0, none⟩) ls.length ca, .slice (some ⟨g', 0, none⟩) ls.length cb] w fun e w' => e = .returned (.bool true) ∧ Below w.heap.size w w' := by
  have H1 := Lib.hid h1
  have H2 := Lib.hid h2
  have HL := Lib.hid hl
  clear h1 h2 hl
  go_enter Try.func39, Try.ntmps39
  go_wp2_with fail
  go_loopg [5] (ls.length + 1) (fun kx s5 wr => ∃ j : Nat, s5 = .int .i64 (j : Int) ∧ j ≤ ls.length ∧ kx = ls.length + 1 - j ∧ Hid (Below w.heap.size w wr))
  case atStart => exact ⟨0, rfl, Nat.zero_le _, rfl, Lib.hid (Below.refl _ _)⟩
  case round =>
    obtain ⟨j, rfl, hj, rfl, HB⟩ := hrel
    by_cases hlt : j < ls.length
    · obtain ⟨c1, r1⟩ := (H1.out.below HB.out).at j hlt
      obtain ⟨c2, r2⟩ := (H2.out.below HB.out).at j hlt
      have EN := Lib.hid (fun n => eqN_any (bs j) (bs' j) ls[j].length ls[j].length ls[j] (wr.drewN n) (HL.out j hlt) r1 r2)
      have j0 : (0 : Int) ≤ (j : Int) := by omega
      have j1 : (j : Int) < (ls.length : Int) := by omega
      clear r1 r2 H1 H2 HL
      generalize ls[j].length = z at *
      go_wp2_with fail
      go_quiet ((go_at_call 68; with_reducible exact quiet_d2 (EN.out _)))
      rename Nat => q1
      go_wp2_with fail
      go_roundg (ls.length + 1 - (j + 1))
      case measure => omega
      case rel => exact ⟨j + 1, by go_num, by omega, by omega, Lib.hid (bel_d2 HB.out _)⟩
    · obtain rfl : j = ls.length := by omega
      go_wp2_with fail
      go_ret
      exact ⟨rfl, HB.out⟩
set_option maxRecDepth 100000 in
set_option maxHeartbeats 1000000 in
theorem eqFigure_any (s : ByteArray) (g g' : Nat) (ls : List (List Int)) (bs bs' : Nat → Nat) (w : World) (hb : ls.length ≤ 1048577) (hl : ∀ j, (h : j < ls.length) → ls[j].length ≤ 1048577) (h1 : LRow w g ls bs) (h2 : LRow w g' ls bs') :
    Calls Try.prog 20 #[.agg #[.string s, .slice (some ⟨g, 0, none⟩) ls.length ls.length], .agg #[.string s, .slice (some ⟨g', 0, none⟩) ls.length ls.length]] w fun e w' => e = .returned (.bool true) ∧ Below w.heap.size w w' := by
  have EQ := Lib.hid (fun (W : World) (hB : Below w.heap.size w W) => eqSS_any g g' ls.length ls.length ls bs bs' W hb hl (h1.below hB) (h2.below hB))
  have z1 : (s.toList != s.toList) = false := by simp
  have z2 : (s.toList == s.toList) = true := by simp
  clear h1 h2 hl
  go_enter Try.func20, Try.ntmps20
  go_wp2_with fail
  refine (EQ.out _ (by repeat (first | exact Below.refl _ _ | refine Below.setCell ?_ (by first | (simp; done) | omega | (simp; omega)) _ | refine Below.alloc ?_ (by first | (simp; done) | omega | (simp; omega)) _ | refine bel_drew ?_)
    )).mono ?_
  rintro e w1 ⟨rfl, hb1⟩
  have HB1 : Hid (Below w.heap.size w w1) := Lib.hid (by
    refine Below.trans ?_ (hb1.mono ?_)
    · repeat (first | exact Below.refl _ _ | refine Below.setCell ?_ (by first | (simp; done) | omega | (simp; omega)) _ | refine Below.alloc ?_ (by first | (simp; done) | omega | (simp; omega)) _ | refine bel_drew ?_)
    · simp; omega)
  clear hb1
  go_wp2_with fail
  go_ret
  exact ⟨rfl, HB1.out⟩
end Go.Proofs.Ytoellkbmhpekdaa
