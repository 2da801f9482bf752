/- Facts on the whole program, each by a reckoning of the kernel. -/
import Derived.Test.YtbnjmkidbfmomaaGreatDoorQOq
set_option linter.unusedSimpArgs false
set_option linter.unusedVariables false
namespace Go.Proofs.YtbnjmkidbfmomaaGreatDoor
open Go.ChangeShapes Go.WideShapes Go.ChangeAt Go.RowKit Go.Sx
set_option maxRecDepth 100000
theorem pg_maps : mapsRowed Tryz.prog = true := by kernel_rfl
theorem pg_keys : Tryz.prog.plainKeys = Rows.bogReadsRow.plainKeys := by kernel_rfl
theorem pg_heard : Tryz.prog.stopsHeard = true := by kernel_rfl
theorem pg_enter : Tryz.prog.mayEnter = true := by kernel_rfl
theorem pg_lifts : Tryz.prog.liftsFinal = Rows.bogReadsRow.lifted := by kernel_rfl
theorem pg_make : Tryz.prog.make = some Rows.bogReadsRow.make := by kernel_rfl
theorem pg_looks : Tryz.prog.looks [] = true := by kernel_rfl
theorem pg_main : Tryz.prog.mainIs = some (true, "fcc777ddfb8154fadbd91790461f55cc516da33efda5b47a3ccdcee66b2ee3a4".toList) := by kernel_rfl
end Go.Proofs.YtbnjmkidbfmomaaGreatDoor
