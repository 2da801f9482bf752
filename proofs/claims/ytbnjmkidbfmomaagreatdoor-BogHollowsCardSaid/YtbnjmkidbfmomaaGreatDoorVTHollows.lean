/- The law BogHollows answers true at every site and list of orders: a company's hollow stays right and its heaps calm. Conditions: those of the statement, no other. -/
import Derived.Test.YtbnjmkidbfmomaaGreatDoorVLHollows
import Derived.Test.YtbnjmkidbfmomaaGreatDoorV31
set_option linter.unusedVariables false
set_option linter.unusedSimpArgs false
namespace Go.Proofs.YtbnjmkidbfmomaaGreatDoor
open Go.ChangeShapes Go.WideShapes Go.ChangeAt Go.RowKit Go.Sx

set_option maxRecDepth 100000 in
theorem bogHollows_core {H : Type} {enc : TypeId × Value → H} (W : World) (base : Nat) (args : Array Value) (ds gs : List (DataW H)) (before : List MemPlace)
    (hval0 : ∀ (j : Nat) t v, Tryz.f14.params[j]? = some t → args[j]? = some v → Value.okWide Tryz.prog W .any base t v)
    (hW : DataW.Whole enc Tryz.prog Tryz.f14.params.toList Rows.bogHollowsSpec.vars false W args.toList ds gs before) (hL0 : laidMetH Tryz.prog laid8 W) (hS : W.ShapedOpen Tryz.prog) :
    Calls Tryz.prog 14 args W fun e W' => ∃ v, e = .returned v ∧ Rows.bogHollowsSpec.post enc Tryz.prog Tryz.f14 false true false false W args v W' := by
  have hval : ∀ (j : Nat) t v, Tryz.f14.params[j]? = some t → args[j]? = some v → Value.okWide Tryz.prog W .any base t v := hval0
  have hw8 := w_of_laid hL0 hS
  have hW' := hW
  obtain ⟨p, q, hA0, hV, rfl, _, _⟩ := hW
  have hA : DataW.TrodAll enc Tryz.prog W 0 (fun _ => true) true Tryz.f14.params.toList args.toList ds p := hA0
  rw [Tryz.params14] at hA hval
  obtain ⟨v0, v1, d0, d1, p0, p1, rfl, rfl, rfl, h0, h1⟩ := trodAll_two hA
  obtain ⟨rfl, rfl⟩ := trodVars_none hV
  clear hA0 hval0
  simp only [List.append_nil, List.append_assoc] at hW'
  have hlt0 : ∀ x ∈ p0, x.block < W.heap.size := fun x hx => by simpa using hW'.lt x (by simp [hx])
  have hlt1 : ∀ x ∈ p1, x.block < W.heap.size := fun x hx => by simpa using hW'.lt x (by simp [hx])
  obtain ⟨qw0, cw0, ws0, qk0, ck0, ks0, qg0, cg0, gs0, nd0, rfl, hw0, hcw0, hwl0, hk0, hkl0, hg0, hnd0⟩ := site_open (hval 0 29 v0 rfl rfl) h0
  obtain ⟨a1, c1, xs1, rfl, hx1, hl1, hc1⟩ := strs_open (hval 1 43 v1 rfl rfl) h1
  have hlaw := BogHollows_ok W hw8 ⟨ws0, ks0, gs0, nd0⟩ ⟨qw0, cw0, qk0, ck0, qg0, cg0⟩ ⟨hw0, hk0, hg0, hcw0⟩ hwl0 hkl0 a1 c1 xs1 hx1 hl1 hc1
  refine hlaw.mono fun e W' ⟨_, he, _, hn⟩ => ?_
  subst he
  have hb := hn.below
  refine ⟨_, rfl, _, _, _, [], _, [], hW', trodAll_mk1 (shut_bool Tryz.underlying4 _), trodAll_mk2 (Below.trod laid_out (by kernel_rfl) (of_decide_eq_true (by kernel_rfl)) h0 hb hlt0) (Below.trod laid_out (by kernel_rfl) (of_decide_eq_true (by kernel_rfl)) h1 hb hlt1), rfl, hb.frame _, fun h => by cases h⟩

set_option maxRecDepth 100000 in
theorem bogHollows_lifted (os : Os) (started : os.Started) (H : Type) (enc : TypeId × Value → H) :
    ReturnsInHanded {} Tryz.checked os 14 .any (fun w args => (Rows.bogHollowsSpec.pre enc Tryz.prog Tryz.f14 Rows.bogHollowsRow.domain false w args ∧ laidMetH Tryz.prog laid8 w) ∧ sizedMet enc Tryz.prog Tryz.f14 (OpenSpec.ofChange Rows.bogHollowsSpec) false w args)
      (Rows.bogHollowsSpec.post enc Tryz.prog Tryz.f14 false true false false) := by
  refine returnsInHanded_of_calls (C := Tryz.checked) own_knob started (by kernel_rfl)
    (ChangeSpec.witness_shaped (enc := enc) (C := Tryz.checked) (os := os) (X := fun w _ => laidMetH Tryz.prog laid8 w) false (laidW os) #[.agg #[.slice none 0 0, .slice none 0 0, .slice none 0 0, .int .i64 0], .slice none 0 0] 8 (World.laidAll_os _ _ _)
      (laidW_shaped os) (by kernel_rfl) (by kernel_rfl) (by kernel_rfl)
      (laidW_met os _)) ?_
  intro w9 tape i9 _ hsh _ hok hpre _
  obtain ⟨_, _, _, fn', hfn', _, _, _, _, hval9⟩ := hok
  obtain rfl : fn' = Tryz.f14 := Option.some.inj (hfn'.symm.trans Tryz.func14)
  obtain ⟨⟨⟨ds, gs, before, hw9, hc9⟩, hL9⟩, hz9⟩ := hpre
  have hw8 := DataW.Whole.of_heap (w' := w9.forCall tape i9) (by rfl) hw9
  have hL8 : laidMetH Tryz.prog laid8 (w9.forCall tape i9) := hL9.of_heap (by rfl)
  refine (bogHollows_core (w9.forCall tape i9) w9.heap.size i9.args ds gs before hval9 hw8 hL8 hsh).mono fun e W' ⟨v, he, hp⟩ => ?_
  subst he
  exact ChangeSpec.post_blind hp

theorem bogHollows_k1 : Tryz.prog.inPlace 14 = Rows.bogHollowsRow.inPlace := by kernel_rfl
theorem bogHollows_k2 : Tryz.prog.unfollowed 14 = Rows.bogHollowsRow.unfollowed := by kernel_rfl
theorem bogHollows_k3 : Tryz.prog.recurses 14 = Rows.bogHollowsRow.recurses := by kernel_rfl
theorem bogHollows_k4 : Tryz.prog.varsNamed 14 = Rows.bogHollowsRow.named := by kernel_rfl
theorem bogHollows_k5 : false = Rows.bogHollowsRow.goesBy Tryz.prog := by kernel_rfl
theorem bogHollows_facts : joinedFacts Tryz.prog 14 Tryz.f14 Rows.bogHollowsSpec Rows.bogHollowsRow = true := by
  unfold joinedFacts
  rw [bogHollows_k1, bogHollows_k2, bogHollows_k3, bogHollows_k4, pg_lifts, pg_make, pg_maps, pg_keys, pg_heard, pg_enter]
  kernel_rfl
theorem bogHollows_holds : Rows.BogHollowsSaid :=
  OpenClaim.holds_of_wide 14 Tryz.f14 rfl rfl rfl rfl rfl rfl rfl ⟨rfl, rfl, rfl, rfl, rfl⟩ rfl rfl rfl rfl rfl (by kernel_rfl) Tryz.func14 bogHollows_facts
    (of_decide_eq_true (by kernel_rfl)) (by unfold Func.isWrapper; first | (rw [if_pos (by decide +kernel)]; kernel_rfl) | (rw [if_neg (by decide +kernel)]; exact ⟨rfl, rfl⟩))
    (fun os started H enc _ => bogHollows_lifted os started H enc)
theorem bogHollows_card : Rows.BogHollowsCardSaid :=
  Claim7.holds_tied_plain_at .later [] [.data, .data, .data, .data, .handle, .sentinel, .sentinel, .pinned] true (true, "fcc777ddfb8154fadbd91790461f55cc516da33efda5b47a3ccdcee66b2ee3a4") true
    bogHollows_holds (fun _ h => by cases h) (by kernel_rfl) (fun _ h => by cases h) bogHollows_row_tie rfl ⟨rfl, rfl⟩ pg_main rfl
    (fun f fn hf hfn => by
      obtain rfl : f = 14 := Option.some.inj ((show Tryz.prog.funcNamed "turbary/turbarylaw09.BogHollows" = some 14 by kernel_rfl).symm.trans hf) |>.symm
      obtain rfl : fn = Tryz.f14 := (Option.some.inj (Tryz.func14.symm.trans hfn)).symm
      exact ⟨pg_looks.symm, fun j t ht => by
        rw [Tryz.params14] at ht
        have hm : t ∈ [29, 43] := by simpa using Array.mem_of_getElem? ht
        have hall : ([29, 43].all fun u => !Tryz.prog.wantsStandIn u) = true := by kernel_rfl
        exact (show Tryz.prog.wantsStandIn t = false by simpa using List.all_eq_true.1 hall t hm)⟩)
    bogHollows_k5

end Go.Proofs.YtbnjmkidbfmomaaGreatDoor
