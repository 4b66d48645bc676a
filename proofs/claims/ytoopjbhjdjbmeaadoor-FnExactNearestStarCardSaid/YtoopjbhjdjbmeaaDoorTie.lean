/-
  DERIVED. GIVEN WITH THE SEED: THE PROGRAM's TIES (one call each: nine closed facts by the kernel) AND EACH ROW's TIE, after the 31st guide's Derived/Test/Toyas{Tie, Card}.lean. No idea stands in it: it is a product of the set-up. Laid BY PROGRAM, IN A SANDBOX (cutbox-door.mjs). By AI agents, Wed Nov 11 2026. No macro, syntax, notation, axiom, sorry.
-/
import Derived.Test.YtoopjbhjdjbmeaaDoorRows
import Derived.LaidByTextLater
import Derived.SevenTiedAt
import Derived.LaidSub
import Derived.LaidOnce
namespace Go.Proofs.YtoopjbhjdjbmeaaDoor
open Go
set_option maxRecDepth 100000
theorem seatTie1 : Tryd.prog.laidByTextLater [("loop.example/g00955/impl.sines", Rows.laid_loop_example_g00955_impl_sines), ("loop.example/g00955/impl.stepFluxes", Rows.laid_loop_example_g00955_impl_stepFluxes), ("loop.example/g00955/impl.colourRanges", Rows.laid_loop_example_g00955_impl_colourRanges)] [.data, .data, .data] true :=
  Program.laidByTextLater_by_one 30 8 92 (by kernel_rfl) (by kernel_rfl) (by kernel_rfl) (by kernel_rfl) (by kernel_rfl) (by kernel_rfl) (fun _ _ => by kernel_rfl)
theorem noOwnUnsafe : Tryd.pinned.checked.prog.headLifts.contains "ownunsafe" = false := by kernel_rfl
theorem tie : Tryd.prog.laidByTextLater [("loop.example/g00955/impl.stepFluxes", Rows.laid_loop_example_g00955_impl_stepFluxes)] [.data] true :=
  Program.laidByTextLater.sub seatTie1 ["loop.example/g00955/impl.stepFluxes"] (by kernel_rfl) (by kernel_rfl)
theorem fnExactFluxOf_row_tie : Rows.fnExactFluxOfRow.laidByTextAt .later Tryd.pinned [.data] true :=
  OpenClaim.laidByTextAt_later rfl rfl tie noOwnUnsafe
theorem fnExactMagnitudeOf_row_tie : Rows.fnExactMagnitudeOfRow.laidByTextAt .later Tryd.pinned [.data] true :=
  OpenClaim.laidByTextAt_later rfl rfl tie noOwnUnsafe
theorem fnExactTotalMagnitude_row_tie : Rows.fnExactTotalMagnitudeRow.laidByTextAt .later Tryd.pinned [.data] true :=
  OpenClaim.laidByTextAt_later rfl rfl tie noOwnUnsafe
theorem tie2 : Tryd.prog.laidByTextLater [("loop.example/g00955/impl.colourRanges", Rows.laid_loop_example_g00955_impl_colourRanges)] [.data] true :=
  Program.laidByTextLater.sub seatTie1 ["loop.example/g00955/impl.colourRanges"] (by kernel_rfl) (by kernel_rfl)
theorem fnExactColourName_row_tie : Rows.fnExactColourNameRow.laidByTextAt .later Tryd.pinned [.data] true :=
  OpenClaim.laidByTextAt_later rfl rfl tie2 noOwnUnsafe
theorem tie3 : Tryd.prog.laidByTextLater [("loop.example/g00955/impl.stepFluxes", Rows.laid_loop_example_g00955_impl_stepFluxes), ("loop.example/g00955/impl.colourRanges", Rows.laid_loop_example_g00955_impl_colourRanges)] [.data, .data] true :=
  Program.laidByTextLater.sub seatTie1 ["loop.example/g00955/impl.stepFluxes", "loop.example/g00955/impl.colourRanges"] (by kernel_rfl) (by kernel_rfl)
theorem fnFlux_row_tie : Rows.fnFluxRow.laidByTextAt .later Tryd.pinned [.data, .data] true :=
  OpenClaim.laidByTextAt_later rfl rfl tie3 noOwnUnsafe
theorem tie4 : Tryd.prog.laidByTextLater [("loop.example/g00955/impl.sines", Rows.laid_loop_example_g00955_impl_sines)] [.data] true :=
  Program.laidByTextLater.sub seatTie1 ["loop.example/g00955/impl.sines"] (by kernel_rfl) (by kernel_rfl)
theorem fnExactStarsWithin_row_tie : Rows.fnExactStarsWithinRow.laidByTextAt .later Tryd.pinned [.data] true :=
  OpenClaim.laidByTextAt_later rfl rfl tie4 noOwnUnsafe
theorem fnExactNearestStar_row_tie : Rows.fnExactNearestStarRow.laidByTextAt .later Tryd.pinned [.data] true :=
  OpenClaim.laidByTextAt_later rfl rfl tie4 noOwnUnsafe
theorem fnExactFluxOfUpto_row_tie : Rows.fnExactFluxOfUptoRow.laidByTextAt .later Tryd.pinned [.data] true :=
  OpenClaim.laidByTextAt_later rfl rfl tie noOwnUnsafe
theorem fnExactMagnitudeOfUpto_row_tie : Rows.fnExactMagnitudeOfUptoRow.laidByTextAt .later Tryd.pinned [.data] true :=
  OpenClaim.laidByTextAt_later rfl rfl tie noOwnUnsafe
theorem fnExactColourNameUpto_row_tie : Rows.fnExactColourNameUptoRow.laidByTextAt .later Tryd.pinned [.data] true :=
  OpenClaim.laidByTextAt_later rfl rfl tie2 noOwnUnsafe
theorem fnExactTotalMagnitudeUpto_row_tie : Rows.fnExactTotalMagnitudeUptoRow.laidByTextAt .later Tryd.pinned [.data] true :=
  OpenClaim.laidByTextAt_later rfl rfl tie noOwnUnsafe
theorem fnFluxUpto_row_tie : Rows.fnFluxUptoRow.laidByTextAt .later Tryd.pinned [.data, .data] true :=
  OpenClaim.laidByTextAt_later rfl rfl tie3 noOwnUnsafe
theorem fnExactStarsWithinUpto_row_tie : Rows.fnExactStarsWithinUptoRow.laidByTextAt .later Tryd.pinned [.data] true :=
  OpenClaim.laidByTextAt_later rfl rfl tie4 noOwnUnsafe
theorem fnExactNearestStarUpto_row_tie : Rows.fnExactNearestStarUptoRow.laidByTextAt .later Tryd.pinned [.data] true :=
  OpenClaim.laidByTextAt_later rfl rfl tie4 noOwnUnsafe
end Go.Proofs.YtoopjbhjdjbmeaaDoor
