/- The first list that leads from a state to an end: contracts. -/
import Derived.Test.YtkkipbkkijoneaaDn
import Derived.Test.YtkkipbkkijoneaaSs
set_option linter.unusedVariables false
set_option linter.unusedSimpArgs false
namespace Go.Proofs.Ytkkipbkkijoneaa
open Go.Sx Go.RowKit

section
variable {n : Nat} {w0 : World} {E : Env} {G : Heap} {ty : TypeId} {pos : String} {aft : Array Edge} {g : Option (Nat × Bool)} {ops : Array Oper} {Q : Exit → Act → World → Prop} {l : List Oper}
/-- append([]int{v}, rest...). -/
theorem TL.cons1 {d bE : Nat} {s x : Operand} {v : Int} {h : HD} {rest : List Int} {R : Heap} (hsv : evo E s = some (.slice (some ⟨bE, 0, none⟩) 1 1)) (hx : evo E x = some (gval h rest.length))
    (hT : Take bE (.cells #[.int .i64 v] 3 (0, 0)) G R) (hm : ∀ y ∈ gbI (h, rest), y ∈ G) (ho : goI (h, rest)) (hl : rest.length ≤ 1000000) (hg : wants ops E g = some true) (hd : d < n)
    (hk : ∀ h', goI (h', v :: rest) → TL Try.prog n w0 ops Q l ((d, gval h' (v :: rest).length) :: E) (gbI (h', v :: rest) ++ R)) :
    TL Try.prog n w0 ops Q (⟨some d, .call { callee := .builtin .append, args := #[s, x], argTypes := #[25, 25] }, ty, pos, aft, g⟩ :: l) E G := by
  refine TL.perm hT.perm ?_
  have hp : ∀ w', New w0 w' ((bE, .cells #[.int .i64 v] 3 (0, 0)) :: R) → New w0 w' G := fun w' hN => hN.perm hT.perm.symm
  refine TL.append (hd0 := some (bE, 1, [])) (ys := [.int .i64 v]) (len := 1) (m := rest.length) (news := ival rest) hsv hx Tb.sl_25 Tb.zi_3 rfl (by decide) ⟨rfl, rfl, Nat.le_refl _⟩ (TakeH.here (some (bE, 1, [])) 3 [.int .i64 v] R)
    (fun a w hs => src_g (G := G) Tb.sl_25 ho hm (ival_one _) (hp w hs.new)) (fun w' hN => src_g (G := G) Tb.sl_25 ho hm (ival_one _) (hp w' hN)) (by omega) (by omega) hg hd (fun h' ho' _ => ?_)
  have h1 := hk h'
  rw [List.length_cons, Nat.add_comm] at h1
  have e : ([Value.int .i64 v] ++ ival rest) = ival (v :: rest) := rfl
  rw [e] at ho' ⊢
  refine h1 ?_
  show gok h' (v :: rest).length 1 _
  rw [List.length_cons, Nat.add_comm]
  exact ho'
end
/-- The loop over the steps, from a number on. -/
def flG {σ : Type} (nx : σ → Nat → Option σ) (F : σ → List Int × Bool) (s : σ) : Nat → Nat → List Int × Bool
  | 0, _ => ([], false)
  | r + 1, k => match nx s k with
    | some s' => if (F s').2 = true then ((k : Int) :: (F s').1, true) else flG nx F s r (k + 1)
    | none => flG nx F s r (k + 1)
/-- The first list of so many steps that leads to an end. -/
def fl {σ : Type} (nx : σ → Nat → Option σ) (en : σ → Bool) (steps : Nat) : Nat → σ → List Int × Bool
  | 0, s => ([], en s)
  | L + 1, s => flG nx (fl nx en steps L) s steps 0
section
variable {σ : Type} {nx : σ → Nat → Option σ} {en : σ → Bool} {steps : Nat}
theorem flG_none {F : σ → List Int × Bool} {s : σ} {k : Nat} (hk : k < steps) (h : nx s k = none) : flG nx F s (steps - k) k = flG nx F s (steps - (k + 1)) (k + 1) := by
  obtain ⟨r, hr⟩ : ∃ r, steps - k = r + 1 := ⟨steps - k - 1, by omega⟩
  rw [hr, show steps - (k + 1) = r by omega, flG, h]
theorem flG_no {F : σ → List Int × Bool} {s s' : σ} {k : Nat} (hk : k < steps) (h : nx s k = some s') (h2 : ¬ (F s').2 = true) : flG nx F s (steps - k) k = flG nx F s (steps - (k + 1)) (k + 1) := by
  obtain ⟨r, hr⟩ : ∃ r, steps - k = r + 1 := ⟨steps - k - 1, by omega⟩
  rw [hr, show steps - (k + 1) = r by omega, flG, h]
  exact if_neg h2
theorem flG_yes {F : σ → List Int × Bool} {s s' : σ} {k : Nat} (hk : k < steps) (h : nx s k = some s') (h2 : (F s').2 = true) : flG nx F s (steps - k) k = ((k : Int) :: (F s').1, true) := by
  obtain ⟨r, hr⟩ : ∃ r, steps - k = r + 1 := ⟨steps - k - 1, by omega⟩
  rw [hr, flG, h]
  exact if_pos h2
theorem flG_end {F : σ → List Int × Bool} {s : σ} {k : Nat} (hk : steps ≤ k) : flG nx F s (steps - k) k = ([], false) := by
  rw [show steps - k = 0 by omega, flG]
theorem flG_len {F : σ → List Int × Bool} {B : Nat} (hF : ∀ s, (F s).1.length ≤ B) (s : σ) : ∀ r k, (flG nx F s r k).1.length ≤ B + 1
  | 0, k => Nat.zero_le _
  | r + 1, k => by
    rw [flG]
    cases nx s k with
    | none => exact flG_len hF s r (k + 1)
    | some s' =>
      simp only
      split
      · rw [List.length_cons]; have := hF s'; omega
      · exact flG_len hF s r (k + 1)
theorem fl_len : ∀ (L : Nat) (s : σ), (fl nx en steps L s).1.length ≤ L
  | 0, s => Nat.le_refl _
  | L + 1, s => flG_len (fun s => fl_len L s) s steps 0
end
/-- What a function of a state and a step gives. -/
def NxC {σ : Type} (w0 : World) (fv : Value) (f : FuncId) (pre caps : List Value) (enc : σ → List Int) (Inv : σ → Prop) (nx : σ → Nat → Option σ) (sz steps : Nat) : Prop :=
  fv = .func (.func f) pre.toArray caps.toArray ∧ goFn Try.prog f = true ∧ ∀ w G, New w0 w G → ∀ s i, Inv s → i < steps → Calls Try.prog f (pre ++ [Value.agg (intsA (enc s)), Value.int .i64 i] ++ caps).toArray w
    (Post (X := List Int) (fun xs => .tuple #[.agg (intsA xs), .bool (nx s i).isSome]) (fun xs => xs.length = sz ∧ ∀ s', nx s i = some s' → xs = enc s') (fun _ => []) w)
def EnC {σ : Type} (w0 : World) (fv : Value) (f : FuncId) (pre caps : List Value) (enc : σ → List Int) (Inv : σ → Prop) (en : σ → Bool) : Prop :=
  fv = .func (.func f) pre.toArray caps.toArray ∧ goFn Try.prog f = true ∧ ∀ w G, New w0 w G → ∀ s, Inv s → Calls Try.prog f (pre ++ [Value.agg (intsA (enc s))] ++ caps).toArray w (Post (X := Unit) (fun _ => .bool (en s)) (fun _ => True) (fun _ => []) w)
theorem NxC.new {σ : Type} {w0 w : World} {G : Heap} {fv : Value} {f : FuncId} {pre caps : List Value} {enc : σ → List Int} {Inv : σ → Prop} {nx : σ → Nat → Option σ} {sz steps : Nat} (h : NxC w0 fv f pre caps enc Inv nx sz steps) (hn : New w0 w G) : NxC w fv f pre caps enc Inv nx sz steps :=
  ⟨h.1, h.2.1, fun w2 G2 hn2 => h.2.2 w2 _ (hn.trans hn2)⟩
theorem EnC.new {σ : Type} {w0 w : World} {G : Heap} {fv : Value} {f : FuncId} {pre caps : List Value} {enc : σ → List Int} {Inv : σ → Prop} {en : σ → Bool} (h : EnC w0 fv f pre caps enc Inv en) (hn : New w0 w G) : EnC w fv f pre caps enc Inv en :=
  ⟨h.1, h.2.1, fun w2 G2 hn2 => h.2.2 w2 _ (hn.trans hn2)⟩


set_option maxRecDepth 100000 in
set_option maxHeartbeats 2000000 in
theorem firstplan_step {σ : Type} (w0 : World) (fv ev : Value) (f1 f2 : FuncId) (pre1 caps1 pre2 caps2 : List Value) (enc : σ → List Int) (Inv : σ → Prop) (nx : σ → Nat → Option σ) (en : σ → Bool) (steps : Nat) (h6 : steps ≤ 6) (hI : ∀ s, Inv s → ∀ i s', i < steps → nx s i = some s' → Inv s') (hE : ∀ s, Inv s → (enc s).length = 12) (hN : NxC w0 fv f1 pre1 caps1 enc Inv nx 12 steps) (hM : EnC w0 ev f2 pre2 caps2 enc Inv en) (L : Nat) (hL : L ≤ 8) (s : σ) (hs0 : Inv s) (ih : ∀ L' : Nat, L = L' + 1 → ∀ w G, New w0 w G → ∀ s, Inv s → Calls Try.prog 81 #[.agg (intsA (enc s)), .int .i64 steps, .int .i64 L', fv, ev] w (Post (X := HD) (fun h => .tuple #[gval h (fl nx en steps L' s).1.length, .bool (fl nx en steps L' s).2]) (fun h => goI (h, (fl nx en steps L' s).1)) (fun h => gbI (h, (fl nx en steps L' s).1)) w)) :
    Calls Try.prog 81 #[.agg (intsA (enc s)), .int .i64 steps, .int .i64 L, fv, ev] w0 (Post (X := HD) (fun h => .tuple #[gval h (fl nx en steps L s).1.length, .bool (fl nx en steps L s).2]) (fun h => goI (h, (fl nx en steps L s).1)) (fun h => gbI (h, (fl nx en steps L s).1)) w0) := by
  obtain ⟨rfl, hf1, hN⟩ := hN
  obtain ⟨rfl, hf2, hM⟩ := hM
  have hel := hE s hs0
  refine calls Try.func81 rfl (n := 51) rfl (by simp) ?_
  refine TC.seq ?_
  refine TC.region ?_
  refine TL.box rfl rfl (by decide) (fun b0 hb0 => ?_)
  refine TL.pure (PV.assign rfl) rfl (by decide) ?_
  refine TL.pure (PV.assign rfl) rfl (by decide) ?_
  refine TL.nil ?_
  refine TQ.thenC ?_
  refine TC.seq ?_
  refine TC.seq ?_
  refine TC.region ?_
  refine TL.pure (PV.move rfl) rfl (by decide) ?_
  refine TL.pure (PV.eql rfl rfl) rfl (by decide) ?_
  refine TL.nil ?_
  refine TQ.thenC ?_
  first | refine TC.condD rfl (fun h0 => ?_) (fun h0 => ?_) | refine TC.cond rfl (fun h0 => ?_) (fun h0 => ?_)
  · skip
    refine TC.seq ?_
    refine TC.region ?_
    refine TL.pure (PV.move rfl) rfl (by decide) ?_
    refine TL.pure (PV.loadBox (cs := (enc s).map (Value.int .i64)) rfl Tb.agg_83 (by repeat (first | exact List.Mem.head _ | refine List.Mem.tail _ ?_ | refine List.mem_append_right _ ?_)) (map_len hel)) rfl (by decide) ?_
    refine TL.callBC (f := f2) (pre := pre2) (caps := caps2) rfl rfl hf2 (fun a w hs => hM w _ hs.new s hs0) rfl (by decide) (fun _ _ => ?_)
    refine TL.pure (PV.assign rfl) rfl (by decide) ?_
    refine TL.pure (PV.assign rfl) rfl (by decide) ?_
    refine TL.nil ?_
    refine TQ.thenC ?_
    refine TC.ret ?_
    refine TQ.thenR ?_
    refine TQ.retE2 rfl rfl rfl ?_
    obtain rfl : L = 0 := by omega
    exact ⟨none, rfl, goI_nil, List.nil_sublist _⟩
  · skip
    refine TC.skip ?_
    refine TQ.thenC ?_
    refine TC.seq ?_
    refine TC.seq ?_
    refine TC.region ?_
    refine TL.pure (PV.move rfl) rfl (by decide) ?_
    refine TL.pure (PV.move rfl) rfl (by decide) ?_
    refine TL.nil ?_
    refine TQ.thenC ?_
    refine TC.block ?_
    -- live and written in the loop, not told: [10, 11]
    refine TC.lit [(1, _), (2, _), (3, _), (4, _), (5, _), (22, _), (23, _)] (by repeat (first | exact True.intro | refine And.intro rfl ?_)) ?_
    obtain ⟨M, rfl⟩ : ∃ M, L = M + 1 := ⟨L - 1, by omega⟩
    refine TC.loopK [1, 2, 3, 4, 5, 22] (X := Nat) (fun k => k ≤ steps ∧ fl nx en steps (M + 1) s = flG nx (fl nx en steps M) s (steps - k) k) (fun k => [(23, .int .i64 k)]) (fun k => [(b0, Obj.cells (intsA (enc s)) 83 (0, 0))]) (fun k => steps - k) 0 ⟨Nat.zero_le _, rfl⟩ (by repeat (first | exact True.intro | refine And.intro rfl ?_)) (by repeat (first | exact List.Sublist.slnil | exact List.nil_sublist _ | exact List.Sublist.refl _ | refine List.Sublist.cons_cons _ ?_ | refine List.Sublist.cons _ ?_ | refine List.Sublist.trans ?_ (List.sublist_append_right _ _))) ?_
    intro k hk
    refine TC.lit [(1, _), (2, _), (3, _), (4, _), (5, _), (22, _), (23, _)] (by repeat (first | exact True.intro | refine And.intro rfl ?_)) ?_
    refine TC.seq ?_
    refine TC.region ?_
    refine TL.pure (PV.lss rfl rfl) rfl (by decide) ?_
    refine TL.nil ?_
    refine TQ.thenC ?_
    refine TC.seq ?_
    first | refine TC.condD rfl (fun hlt => ?_) (fun hlt => ?_) | refine TC.cond rfl (fun hlt => ?_) (fun hlt => ?_)
    · skip
      refine TC.skip ?_
      refine TQ.thenC ?_
      refine TC.seq ?_
      refine TC.block ?_
      refine TC.seq ?_
      refine TC.region ?_
      refine TL.pure (PV.move rfl) rfl (by decide) ?_
      refine TL.pure (PV.assign rfl) rfl (by decide) ?_
      refine TL.nil ?_
      refine TQ.thenC ?_
      refine TC.seq ?_
      refine TC.region ?_
      refine TL.pure (PV.move rfl) rfl (by decide) ?_
      refine TL.pure (PV.loadBox (cs := (enc s).map (Value.int .i64)) rfl Tb.agg_83 (by repeat (first | exact List.Mem.head _ | refine List.Mem.tail _ ?_ | refine List.mem_append_right _ ?_)) (map_len hel)) rfl (by decide) ?_
      refine TL.pure (PV.move rfl) rfl (by decide) ?_
      refine TL.callBC (f := f1) (pre := pre1) (caps := caps1) rfl rfl hf1 (fun a w hs => hN w _ hs.new s k hs0 (by omega)) rfl (by decide) (fun x9 hx9 => ?_)
      refine TL.pure (PV.move rfl) rfl (by decide) ?_
      refine TL.pure (PV.extract rfl rfl) rfl (by decide) ?_
      refine TL.pure (PV.extract rfl rfl) rfl (by decide) ?_
      refine TL.alloc Tb.zero_83 rfl (by decide) (fun bn hbn => ?_)
      refine TL.storeAgg (vs := x9.map (Value.int .i64)) rfl rfl Tb.cells_83 (by repeat (first | exact Upd.head _ | apply Upd.tail | apply Upd.appR)) (map_len hx9.1) rfl (ints_one _) rfl rfl ?_
      refine TL.pure (PV.assign rfl) rfl (by decide) ?_
      refine TL.nil ?_
      refine TQ.thenC ?_
      refine TC.seq ?_
      refine TC.seq ?_
      refine TC.region ?_
      refine TL.pure (PV.move rfl) rfl (by decide) ?_
      refine TL.pure ((by first | exact PV.notD rfl | exact PV.not rfl)) rfl (by decide) ?_
      refine TL.nil ?_
      refine TQ.thenC ?_
      first | refine TC.condD rfl (fun hno => ?_) (fun hno => ?_) | refine TC.cond rfl (fun hno => ?_) (fun hno => ?_)
      · skip
        have hnn : nx s k = none := by cases h : nx s k with
            | none => rfl
            | some z => rw [h] at hno; exact absurd hno (by simp)
        have hfl : flG nx (fl nx en steps M) s (steps - k) k = flG nx (fl nx en steps M) s (steps - (k + 1)) (k + 1) := flG_none (by omega) hnn
        refine TC.exit ?_
        refine TQ.thenE ?_
        refine TQ.blkS ?_
        refine TQ.thenC ?_
        refine TC.region ?_
        refine TL.pure (PV.add rfl rfl (by omega)) rfl (by decide) ?_
        refine TL.pure (PV.move rfl) rfl (by decide) ?_
        refine TL.nil ?_
        refine TQ.thenN ?_
        refine TQ.backK (k + 1) (by repeat (first | exact True.intro | refine And.intro rfl ?_)) (by repeat (first | exact True.intro | refine And.intro rfl ?_)) (by first | exact List.Sublist.refl _ | exact List.sublist_append_right _ _ | exact List.Sublist.trans (List.sublist_cons_self _ _) (List.Sublist.refl _) | exact List.Sublist.trans (List.sublist_cons_self _ _) (List.sublist_append_right _ _) | exact List.Sublist.trans (List.sublist_cons_self _ _) (List.sublist_append_right _ _) | (simp only [List.nil_append]; repeat (first | exact List.Sublist.refl _ | refine List.Sublist.cons _ ?_ | refine List.Sublist.trans ?_ (List.sublist_append_right _ _)))) ⟨by omega, by rw [hk.2, hfl]⟩ (by omega)
      · skip
        refine TC.skip ?_
        refine TQ.thenC ?_
        refine TC.seq ?_
        obtain ⟨s', hs'⟩ := Option.isSome_iff_exists.1 (show (nx s k).isSome = true by simpa using hno)
        have hxe := hx9.2 s' hs'
        subst hxe
        have hI2 := hI s hs0 k s' (by omega) hs'
        have hlm := fl_len (nx := nx) (en := en) (steps := steps) M s'
        refine TC.region ?_
        refine TL.pure (PV.loadBox (cs := (enc s').map (Value.int .i64)) rfl Tb.agg_83 (by repeat (first | exact List.Mem.head _ | refine List.Mem.tail _ ?_ | refine List.mem_append_right _ ?_)) (map_len hx9.1)) rfl (by decide) ?_
        refine TL.pure (PV.move rfl) rfl (by decide) ?_
        refine TL.pure (PV.move rfl) rfl (by decide) ?_
        refine TL.pure (PV.sub rfl rfl (by omega)) rfl (by decide) ?_
        refine TL.pure (PV.move rfl) rfl (by decide) ?_
        refine TL.pure (PV.move rfl) rfl (by decide) ?_
        refine TL.call rfl Tb.gofn_81 (fun a w hs => (by have h8 := ih M rfl w _ hs.new s' hI2; rw [show ((M : Nat) : Int) = ((M + 1 : Nat) : Int) - 1 by omega] at h8; exact h8)) rfl (by decide) (fun h9 hh9 => ?_)
        refine TL.pure (PV.move rfl) rfl (by decide) ?_
        refine TL.pure (PV.extract rfl rfl) rfl (by decide) ?_
        refine TL.pure (PV.extract rfl rfl) rfl (by decide) ?_
        refine TL.pure (PV.assign rfl) rfl (by decide) ?_
        refine TL.pure (PV.assign rfl) rfl (by decide) ?_
        refine TL.nil ?_
        refine TQ.thenC ?_
        refine TC.seq ?_
        refine TC.region ?_
        refine TL.pure (PV.move rfl) rfl (by decide) ?_
        refine TL.nil ?_
        refine TQ.thenC ?_
        first | refine TC.condD rfl (fun hok => ?_) (fun hok => ?_) | refine TC.cond rfl (fun hok => ?_) (fun hok => ?_)
        · skip
          refine TC.seq ?_
          refine TC.region ?_
          refine TL.pure (PV.move rfl) rfl (by decide) ?_
          refine TL.buildSlice (cs := #[.int .i64 k]) rfl Tb.sl_25 Tb.zi_3 (by decide) (fill_i _) (by decide) rfl (by decide) (fun bE hbE => ?_)
          refine TL.pure (PV.move rfl) rfl (by decide) ?_
          refine TL.cons1 (bE := bE) (v := k) (h := h9) (rest := (fl nx en steps M s').1) rfl rfl (by repeat (first | exact Take.head _ | apply Take.tail | apply Take.appR)) (fun yy hyy => by repeat (first | exact List.mem_append_left _ hyy | exact List.mem_append_left _ (List.mem_append_right _ hyy) | exact List.mem_append_left _ (List.mem_append_left _ hyy) | refine List.mem_append_right _ ?_ | refine List.Mem.tail _ ?_)) hh9 (by omega) rfl (by decide) (fun hh hho => ?_)
          refine TL.pure (PV.assign rfl) rfl (by decide) ?_
          refine TL.pure (PV.assign rfl) rfl (by decide) ?_
          refine TL.nil ?_
          refine TQ.thenC ?_
          refine TC.ret ?_
          refine TQ.blkR ?_
          refine TQ.thenR ?_
          refine TQ.thenR ?_
          refine TQ.blkR ?_
          refine TQ.thenR ?_
          refine TQ.retE2 rfl rfl rfl ?_
          have e9 : fl nx en steps (M + 1) s = ((k : Int) :: (fl nx en steps M s').1, true) := hk.2.trans (flG_yes (by omega) hs' (by simpa using hok))
          exact ⟨hh, by rw [e9], by rw [e9]; exact hho, by rw [e9]; exact List.sublist_append_left _ _⟩
        · skip
          have hfl : flG nx (fl nx en steps M) s (steps - k) k = flG nx (fl nx en steps M) s (steps - (k + 1)) (k + 1) := flG_no (by omega) hs' (by simpa using hok)
          refine TC.skip ?_
          refine TQ.blkN ?_
          refine TQ.thenC ?_
          refine TC.region ?_
          refine TL.pure (PV.add rfl rfl (by omega)) rfl (by decide) ?_
          refine TL.pure (PV.move rfl) rfl (by decide) ?_
          refine TL.nil ?_
          refine TQ.thenN ?_
          refine TQ.backK (k + 1) (by repeat (first | exact True.intro | refine And.intro rfl ?_)) (by repeat (first | exact True.intro | refine And.intro rfl ?_)) (by first | exact List.Sublist.refl _ | exact List.sublist_append_right _ _ | exact List.Sublist.trans (List.sublist_cons_self _ _) (List.Sublist.refl _) | exact List.Sublist.trans (List.sublist_cons_self _ _) (List.sublist_append_right _ _) | exact List.Sublist.trans (List.sublist_cons_self _ _) (List.sublist_append_right _ _) | (simp only [List.nil_append]; repeat (first | exact List.Sublist.refl _ | refine List.Sublist.cons _ ?_ | refine List.Sublist.trans ?_ (List.sublist_append_right _ _)))) ⟨by omega, by rw [hk.2, hfl]⟩ (by omega)
    · skip
      refine TC.exit ?_
      refine TQ.thenE ?_
      refine TQ.thenE ?_
      refine TQ.blkS ?_
      refine TQ.thenC ?_
      refine TC.seq ?_
      refine TC.region ?_
      refine TL.pure (PV.assign rfl) rfl (by decide) ?_
      refine TL.pure (PV.assign rfl) rfl (by decide) ?_
      refine TL.nil ?_
      refine TQ.thenC ?_
      refine TC.ret ?_
      refine TQ.retE2 rfl rfl rfl ?_
      have e9 : fl nx en steps (M + 1) s = ([], false) := hk.2.trans (flG_end (by omega))
      exact ⟨none, by rw [e9]; rfl, by rw [e9]; exact goI_nil, List.nil_sublist _⟩

theorem firstplan_ok {σ : Type} (fv ev : Value) (f1 f2 : FuncId) (pre1 caps1 pre2 caps2 : List Value) (enc : σ → List Int) (Inv : σ → Prop) (nx : σ → Nat → Option σ) (en : σ → Bool) (steps : Nat) (h6 : steps ≤ 6) (hI : ∀ s, Inv s → ∀ i s', i < steps → nx s i = some s' → Inv s') (hE : ∀ s, Inv s → (enc s).length = 12) : ∀ (L : Nat), L ≤ 8 → ∀ (w0 : World), NxC w0 fv f1 pre1 caps1 enc Inv nx 12 steps → EnC w0 ev f2 pre2 caps2 enc Inv en → ∀ s : σ, Inv s →
    Calls Try.prog 81 #[.agg (intsA (enc s)), .int .i64 steps, .int .i64 L, fv, ev] w0 (Post (X := HD) (fun h => .tuple #[gval h (fl nx en steps L s).1.length, .bool (fl nx en steps L s).2]) (fun h => goI (h, (fl nx en steps L s).1)) (fun h => gbI (h, (fl nx en steps L s).1)) w0)
  | 0, hL, w0, hN, hM, s, hs => firstplan_step w0 fv ev f1 f2 pre1 caps1 pre2 caps2 enc Inv nx en steps h6 hI hE hN hM 0 hL s hs (fun L' h => by omega)
  | L + 1, hL, w0, hN, hM, s, hs => firstplan_step w0 fv ev f1 f2 pre1 caps1 pre2 caps2 enc Inv nx en steps h6 hI hE hN hM (L + 1) hL s hs (fun L' h w G hn s hs => by
      obtain rfl : L = L' := by omega
      exact firstplan_ok fv ev f1 f2 pre1 caps1 pre2 caps2 enc Inv nx en steps h6 hI hE L (by omega) w (hN.new hn) (hM.new hn) s hs)

set_option maxRecDepth 100000 in
set_option maxHeartbeats 2000000 in
theorem firstfilling_step {σ : Type} (w0 : World) (fv ev : Value) (f1 f2 : FuncId) (pre1 caps1 pre2 caps2 : List Value) (enc : σ → List Int) (Inv : σ → Prop) (nx : σ → Nat → Option σ) (en : σ → Bool) (steps : Nat) (h6 : steps ≤ 6) (hI : ∀ s, Inv s → ∀ i s', i < steps → nx s i = some s' → Inv s') (hE : ∀ s, Inv s → (enc s).length = 6) (hN : NxC w0 fv f1 pre1 caps1 enc Inv nx 6 steps) (hM : EnC w0 ev f2 pre2 caps2 enc Inv en) (L : Nat) (hL : L ≤ 8) (s : σ) (hs0 : Inv s) (ih : ∀ L' : Nat, L = L' + 1 → ∀ w G, New w0 w G → ∀ s, Inv s → Calls Try.prog 87 #[.agg (intsA (enc s)), .int .i64 steps, .int .i64 L', fv, ev] w (Post (X := HD) (fun h => .tuple #[gval h (fl nx en steps L' s).1.length, .bool (fl nx en steps L' s).2]) (fun h => goI (h, (fl nx en steps L' s).1)) (fun h => gbI (h, (fl nx en steps L' s).1)) w)) :
    Calls Try.prog 87 #[.agg (intsA (enc s)), .int .i64 steps, .int .i64 L, fv, ev] w0 (Post (X := HD) (fun h => .tuple #[gval h (fl nx en steps L s).1.length, .bool (fl nx en steps L s).2]) (fun h => goI (h, (fl nx en steps L s).1)) (fun h => gbI (h, (fl nx en steps L s).1)) w0) := by
  obtain ⟨rfl, hf1, hN⟩ := hN
  obtain ⟨rfl, hf2, hM⟩ := hM
  have hel := hE s hs0
  refine calls Try.func87 rfl (n := 51) rfl (by simp) ?_
  refine TC.seq ?_
  refine TC.region ?_
  refine TL.box rfl rfl (by decide) (fun b0 hb0 => ?_)
  refine TL.pure (PV.assign rfl) rfl (by decide) ?_
  refine TL.pure (PV.assign rfl) rfl (by decide) ?_
  refine TL.nil ?_
  refine TQ.thenC ?_
  refine TC.seq ?_
  refine TC.seq ?_
  refine TC.region ?_
  refine TL.pure (PV.move rfl) rfl (by decide) ?_
  refine TL.pure (PV.eql rfl rfl) rfl (by decide) ?_
  refine TL.nil ?_
  refine TQ.thenC ?_
  first | refine TC.condD rfl (fun h0 => ?_) (fun h0 => ?_) | refine TC.cond rfl (fun h0 => ?_) (fun h0 => ?_)
  · skip
    refine TC.seq ?_
    refine TC.region ?_
    refine TL.pure (PV.move rfl) rfl (by decide) ?_
    refine TL.pure (PV.loadBox (cs := (enc s).map (Value.int .i64)) rfl Tb.agg_70 (by repeat (first | exact List.Mem.head _ | refine List.Mem.tail _ ?_ | refine List.mem_append_right _ ?_)) (map_len hel)) rfl (by decide) ?_
    refine TL.callBC (f := f2) (pre := pre2) (caps := caps2) rfl rfl hf2 (fun a w hs => hM w _ hs.new s hs0) rfl (by decide) (fun _ _ => ?_)
    refine TL.pure (PV.assign rfl) rfl (by decide) ?_
    refine TL.pure (PV.assign rfl) rfl (by decide) ?_
    refine TL.nil ?_
    refine TQ.thenC ?_
    refine TC.ret ?_
    refine TQ.thenR ?_
    refine TQ.retE2 rfl rfl rfl ?_
    obtain rfl : L = 0 := by omega
    exact ⟨none, rfl, goI_nil, List.nil_sublist _⟩
  · skip
    refine TC.skip ?_
    refine TQ.thenC ?_
    refine TC.seq ?_
    refine TC.seq ?_
    refine TC.region ?_
    refine TL.pure (PV.move rfl) rfl (by decide) ?_
    refine TL.pure (PV.move rfl) rfl (by decide) ?_
    refine TL.nil ?_
    refine TQ.thenC ?_
    refine TC.block ?_
    -- live and written in the loop, not told: [10, 11]
    refine TC.lit [(1, _), (2, _), (3, _), (4, _), (5, _), (22, _), (23, _)] (by repeat (first | exact True.intro | refine And.intro rfl ?_)) ?_
    obtain ⟨M, rfl⟩ : ∃ M, L = M + 1 := ⟨L - 1, by omega⟩
    refine TC.loopK [1, 2, 3, 4, 5, 22] (X := Nat) (fun k => k ≤ steps ∧ fl nx en steps (M + 1) s = flG nx (fl nx en steps M) s (steps - k) k) (fun k => [(23, .int .i64 k)]) (fun k => [(b0, Obj.cells (intsA (enc s)) 70 (0, 0))]) (fun k => steps - k) 0 ⟨Nat.zero_le _, rfl⟩ (by repeat (first | exact True.intro | refine And.intro rfl ?_)) (by repeat (first | exact List.Sublist.slnil | exact List.nil_sublist _ | exact List.Sublist.refl _ | refine List.Sublist.cons_cons _ ?_ | refine List.Sublist.cons _ ?_ | refine List.Sublist.trans ?_ (List.sublist_append_right _ _))) ?_
    intro k hk
    refine TC.lit [(1, _), (2, _), (3, _), (4, _), (5, _), (22, _), (23, _)] (by repeat (first | exact True.intro | refine And.intro rfl ?_)) ?_
    refine TC.seq ?_
    refine TC.region ?_
    refine TL.pure (PV.lss rfl rfl) rfl (by decide) ?_
    refine TL.nil ?_
    refine TQ.thenC ?_
    refine TC.seq ?_
    first | refine TC.condD rfl (fun hlt => ?_) (fun hlt => ?_) | refine TC.cond rfl (fun hlt => ?_) (fun hlt => ?_)
    · skip
      refine TC.skip ?_
      refine TQ.thenC ?_
      refine TC.seq ?_
      refine TC.block ?_
      refine TC.seq ?_
      refine TC.region ?_
      refine TL.pure (PV.move rfl) rfl (by decide) ?_
      refine TL.pure (PV.assign rfl) rfl (by decide) ?_
      refine TL.nil ?_
      refine TQ.thenC ?_
      refine TC.seq ?_
      refine TC.region ?_
      refine TL.pure (PV.move rfl) rfl (by decide) ?_
      refine TL.pure (PV.loadBox (cs := (enc s).map (Value.int .i64)) rfl Tb.agg_70 (by repeat (first | exact List.Mem.head _ | refine List.Mem.tail _ ?_ | refine List.mem_append_right _ ?_)) (map_len hel)) rfl (by decide) ?_
      refine TL.pure (PV.move rfl) rfl (by decide) ?_
      refine TL.callBC (f := f1) (pre := pre1) (caps := caps1) rfl rfl hf1 (fun a w hs => hN w _ hs.new s k hs0 (by omega)) rfl (by decide) (fun x9 hx9 => ?_)
      refine TL.pure (PV.move rfl) rfl (by decide) ?_
      refine TL.pure (PV.extract rfl rfl) rfl (by decide) ?_
      refine TL.pure (PV.extract rfl rfl) rfl (by decide) ?_
      refine TL.alloc Tb.zero_70 rfl (by decide) (fun bn hbn => ?_)
      refine TL.storeAgg (vs := x9.map (Value.int .i64)) rfl rfl Tb.cells_70 (by repeat (first | exact Upd.head _ | apply Upd.tail | apply Upd.appR)) (map_len hx9.1) rfl (ints_one _) rfl rfl ?_
      refine TL.pure (PV.assign rfl) rfl (by decide) ?_
      refine TL.nil ?_
      refine TQ.thenC ?_
      refine TC.seq ?_
      refine TC.seq ?_
      refine TC.region ?_
      refine TL.pure (PV.move rfl) rfl (by decide) ?_
      refine TL.pure ((by first | exact PV.notD rfl | exact PV.not rfl)) rfl (by decide) ?_
      refine TL.nil ?_
      refine TQ.thenC ?_
      first | refine TC.condD rfl (fun hno => ?_) (fun hno => ?_) | refine TC.cond rfl (fun hno => ?_) (fun hno => ?_)
      · skip
        have hnn : nx s k = none := by cases h : nx s k with
            | none => rfl
            | some z => rw [h] at hno; exact absurd hno (by simp)
        have hfl : flG nx (fl nx en steps M) s (steps - k) k = flG nx (fl nx en steps M) s (steps - (k + 1)) (k + 1) := flG_none (by omega) hnn
        refine TC.exit ?_
        refine TQ.thenE ?_
        refine TQ.blkS ?_
        refine TQ.thenC ?_
        refine TC.region ?_
        refine TL.pure (PV.add rfl rfl (by omega)) rfl (by decide) ?_
        refine TL.pure (PV.move rfl) rfl (by decide) ?_
        refine TL.nil ?_
        refine TQ.thenN ?_
        refine TQ.backK (k + 1) (by repeat (first | exact True.intro | refine And.intro rfl ?_)) (by repeat (first | exact True.intro | refine And.intro rfl ?_)) (by first | exact List.Sublist.refl _ | exact List.sublist_append_right _ _ | exact List.Sublist.trans (List.sublist_cons_self _ _) (List.Sublist.refl _) | exact List.Sublist.trans (List.sublist_cons_self _ _) (List.sublist_append_right _ _) | exact List.Sublist.trans (List.sublist_cons_self _ _) (List.sublist_append_right _ _) | (simp only [List.nil_append]; repeat (first | exact List.Sublist.refl _ | refine List.Sublist.cons _ ?_ | refine List.Sublist.trans ?_ (List.sublist_append_right _ _)))) ⟨by omega, by rw [hk.2, hfl]⟩ (by omega)
      · skip
        refine TC.skip ?_
        refine TQ.thenC ?_
        refine TC.seq ?_
        obtain ⟨s', hs'⟩ := Option.isSome_iff_exists.1 (show (nx s k).isSome = true by simpa using hno)
        have hxe := hx9.2 s' hs'
        subst hxe
        have hI2 := hI s hs0 k s' (by omega) hs'
        have hlm := fl_len (nx := nx) (en := en) (steps := steps) M s'
        refine TC.region ?_
        refine TL.pure (PV.loadBox (cs := (enc s').map (Value.int .i64)) rfl Tb.agg_70 (by repeat (first | exact List.Mem.head _ | refine List.Mem.tail _ ?_ | refine List.mem_append_right _ ?_)) (map_len hx9.1)) rfl (by decide) ?_
        refine TL.pure (PV.move rfl) rfl (by decide) ?_
        refine TL.pure (PV.move rfl) rfl (by decide) ?_
        refine TL.pure (PV.sub rfl rfl (by omega)) rfl (by decide) ?_
        refine TL.pure (PV.move rfl) rfl (by decide) ?_
        refine TL.pure (PV.move rfl) rfl (by decide) ?_
        refine TL.call rfl Tb.gofn_87 (fun a w hs => (by have h8 := ih M rfl w _ hs.new s' hI2; rw [show ((M : Nat) : Int) = ((M + 1 : Nat) : Int) - 1 by omega] at h8; exact h8)) rfl (by decide) (fun h9 hh9 => ?_)
        refine TL.pure (PV.move rfl) rfl (by decide) ?_
        refine TL.pure (PV.extract rfl rfl) rfl (by decide) ?_
        refine TL.pure (PV.extract rfl rfl) rfl (by decide) ?_
        refine TL.pure (PV.assign rfl) rfl (by decide) ?_
        refine TL.pure (PV.assign rfl) rfl (by decide) ?_
        refine TL.nil ?_
        refine TQ.thenC ?_
        refine TC.seq ?_
        refine TC.region ?_
        refine TL.pure (PV.move rfl) rfl (by decide) ?_
        refine TL.nil ?_
        refine TQ.thenC ?_
        first | refine TC.condD rfl (fun hok => ?_) (fun hok => ?_) | refine TC.cond rfl (fun hok => ?_) (fun hok => ?_)
        · skip
          refine TC.seq ?_
          refine TC.region ?_
          refine TL.pure (PV.move rfl) rfl (by decide) ?_
          refine TL.buildSlice (cs := #[.int .i64 k]) rfl Tb.sl_25 Tb.zi_3 (by decide) (fill_i _) (by decide) rfl (by decide) (fun bE hbE => ?_)
          refine TL.pure (PV.move rfl) rfl (by decide) ?_
          refine TL.cons1 (bE := bE) (v := k) (h := h9) (rest := (fl nx en steps M s').1) rfl rfl (by repeat (first | exact Take.head _ | apply Take.tail | apply Take.appR)) (fun yy hyy => by repeat (first | exact List.mem_append_left _ hyy | exact List.mem_append_left _ (List.mem_append_right _ hyy) | exact List.mem_append_left _ (List.mem_append_left _ hyy) | refine List.mem_append_right _ ?_ | refine List.Mem.tail _ ?_)) hh9 (by omega) rfl (by decide) (fun hh hho => ?_)
          refine TL.pure (PV.assign rfl) rfl (by decide) ?_
          refine TL.pure (PV.assign rfl) rfl (by decide) ?_
          refine TL.nil ?_
          refine TQ.thenC ?_
          refine TC.ret ?_
          refine TQ.blkR ?_
          refine TQ.thenR ?_
          refine TQ.thenR ?_
          refine TQ.blkR ?_
          refine TQ.thenR ?_
          refine TQ.retE2 rfl rfl rfl ?_
          have e9 : fl nx en steps (M + 1) s = ((k : Int) :: (fl nx en steps M s').1, true) := hk.2.trans (flG_yes (by omega) hs' (by simpa using hok))
          exact ⟨hh, by rw [e9], by rw [e9]; exact hho, by rw [e9]; exact List.sublist_append_left _ _⟩
        · skip
          have hfl : flG nx (fl nx en steps M) s (steps - k) k = flG nx (fl nx en steps M) s (steps - (k + 1)) (k + 1) := flG_no (by omega) hs' (by simpa using hok)
          refine TC.skip ?_
          refine TQ.blkN ?_
          refine TQ.thenC ?_
          refine TC.region ?_
          refine TL.pure (PV.add rfl rfl (by omega)) rfl (by decide) ?_
          refine TL.pure (PV.move rfl) rfl (by decide) ?_
          refine TL.nil ?_
          refine TQ.thenN ?_
          refine TQ.backK (k + 1) (by repeat (first | exact True.intro | refine And.intro rfl ?_)) (by repeat (first | exact True.intro | refine And.intro rfl ?_)) (by first | exact List.Sublist.refl _ | exact List.sublist_append_right _ _ | exact List.Sublist.trans (List.sublist_cons_self _ _) (List.Sublist.refl _) | exact List.Sublist.trans (List.sublist_cons_self _ _) (List.sublist_append_right _ _) | exact List.Sublist.trans (List.sublist_cons_self _ _) (List.sublist_append_right _ _) | (simp only [List.nil_append]; repeat (first | exact List.Sublist.refl _ | refine List.Sublist.cons _ ?_ | refine List.Sublist.trans ?_ (List.sublist_append_right _ _)))) ⟨by omega, by rw [hk.2, hfl]⟩ (by omega)
    · skip
      refine TC.exit ?_
      refine TQ.thenE ?_
      refine TQ.thenE ?_
      refine TQ.blkS ?_
      refine TQ.thenC ?_
      refine TC.seq ?_
      refine TC.region ?_
      refine TL.pure (PV.assign rfl) rfl (by decide) ?_
      refine TL.pure (PV.assign rfl) rfl (by decide) ?_
      refine TL.nil ?_
      refine TQ.thenC ?_
      refine TC.ret ?_
      refine TQ.retE2 rfl rfl rfl ?_
      have e9 : fl nx en steps (M + 1) s = ([], false) := hk.2.trans (flG_end (by omega))
      exact ⟨none, by rw [e9]; rfl, by rw [e9]; exact goI_nil, List.nil_sublist _⟩

theorem firstfilling_ok {σ : Type} (fv ev : Value) (f1 f2 : FuncId) (pre1 caps1 pre2 caps2 : List Value) (enc : σ → List Int) (Inv : σ → Prop) (nx : σ → Nat → Option σ) (en : σ → Bool) (steps : Nat) (h6 : steps ≤ 6) (hI : ∀ s, Inv s → ∀ i s', i < steps → nx s i = some s' → Inv s') (hE : ∀ s, Inv s → (enc s).length = 6) : ∀ (L : Nat), L ≤ 8 → ∀ (w0 : World), NxC w0 fv f1 pre1 caps1 enc Inv nx 6 steps → EnC w0 ev f2 pre2 caps2 enc Inv en → ∀ s : σ, Inv s →
    Calls Try.prog 87 #[.agg (intsA (enc s)), .int .i64 steps, .int .i64 L, fv, ev] w0 (Post (X := HD) (fun h => .tuple #[gval h (fl nx en steps L s).1.length, .bool (fl nx en steps L s).2]) (fun h => goI (h, (fl nx en steps L s).1)) (fun h => gbI (h, (fl nx en steps L s).1)) w0)
  | 0, hL, w0, hN, hM, s, hs => firstfilling_step w0 fv ev f1 f2 pre1 caps1 pre2 caps2 enc Inv nx en steps h6 hI hE hN hM 0 hL s hs (fun L' h => by omega)
  | L + 1, hL, w0, hN, hM, s, hs => firstfilling_step w0 fv ev f1 f2 pre1 caps1 pre2 caps2 enc Inv nx en steps h6 hI hE hN hM (L + 1) hL s hs (fun L' h w G hn s hs => by
      obtain rfl : L = L' := by omega
      exact firstfilling_ok fv ev f1 f2 pre1 caps1 pre2 caps2 enc Inv nx en steps h6 hI hE L (by omega) w (hN.new hn) (hM.new hn) s hs)

end Go.Proofs.Ytkkipbkkijoneaa
