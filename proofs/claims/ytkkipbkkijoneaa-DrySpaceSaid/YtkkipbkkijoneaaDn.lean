/- The greatest siphons and traps in a set: mathematics, contracts. -/
import Derived.Test.YtkkipbkkijoneaaDm
set_option linter.unusedVariables false
set_option linter.unusedSimpArgs false
namespace Go.Proofs.Ytkkipbkkijoneaa
open Go.Sx Go.RowKit

open Classical in
/-- The greatest siphon that lies in a set. -/
noncomputable def gsL (ss : List St) (S : List Int) : List Int := S.filter fun p => decide (∃ T : List Int, (∀ q ∈ T, q ∈ S) ∧ Sip ss T ∧ p ∈ T)
/-- What is left of a set holds all siphons that lie in it. -/
structure GrI (ss : List St) (S left : List Int) : Prop where
  flt : ∃ f : Int → Bool, left = S.filter f
  all : ∀ T : List Int, (∀ q ∈ T, q ∈ S) → Sip ss T → ∀ q ∈ T, q ∈ left
theorem GrI.zero (ss : List St) (S : List Int) : GrI ss S S := ⟨⟨fun _ => true, (List.filter_eq_self.2 fun _ _ => rfl).symm⟩, fun T h _ => h⟩
theorem GrI.sub {ss : List St} {S left : List Int} (h : GrI ss S left) : ∀ q ∈ left, q ∈ S := fun q hq => by
  obtain ⟨f, e⟩ := h.flt
  rw [e] at hq
  exact (List.mem_filter.1 hq).1
theorem tou_iff {l T : List Int} : touB l T = true ↔ ∃ q ∈ T, 0 < l.getD q.toNat 0 := by
  unfold touB
  rw [List.any_eq_true]
  simp only [decide_eq_true_eq]
theorem GrI.step {ss : List St} {S left : List Int} (h : GrI ss S left) {s : St} (hs : s ∈ ss) (hb : brk s left = true) : GrI ss S (left.filter fun x => !decide (0 < s.g.getD x.toNat 0)) where
  flt := by
    obtain ⟨f, e⟩ := h.flt
    exact ⟨_, by rw [e, List.filter_filter]⟩
  all := fun T hT hsip q hq => by
    have hl := h.all T hT hsip
    rw [List.mem_filter]
    refine ⟨hl q hq, ?_⟩
    rw [Bool.not_eq_true', decide_eq_false_iff_not]
    intro hg
    unfold brk at hb
    rw [Bool.and_eq_true, Bool.not_eq_true'] at hb
    have h1 := hsip s hs (tou_iff.2 ⟨q, hq, hg⟩)
    obtain ⟨r, hr, hr2⟩ := tou_iff.1 h1
    have h2 : touB s.t left = true := tou_iff.2 ⟨r, hl r hr, hr2⟩
    rw [h2] at hb
    exact absurd hb.2 (by decide)
theorem flt_lt {s : St} {left : List Int} (hb : brk s left = true) : (left.filter fun x => !decide (0 < s.g.getD x.toNat 0)).length < left.length := by
  unfold brk at hb
  rw [Bool.and_eq_true] at hb
  obtain ⟨q, hq, hg⟩ := tou_iff.1 hb.1
  have h1 := List.length_filter_lt_length_iff_exists (p := fun x : Int => !decide (0 < s.g.getD x.toNat 0)) (l := left)
  exact h1.2 ⟨q, hq, by rw [decide_eq_true hg]; decide⟩
open Classical in
theorem GrI.fin {ss : List St} {S left : List Int} (h : GrI ss S left) (hs : Sip ss left) : left = gsL ss S := by
  obtain ⟨f, e⟩ := h.flt
  unfold gsL
  rw [e]
  refine List.filter_congr fun q hq => ?_
  rw [Bool.eq_iff_iff, decide_eq_true_eq]
  constructor
  · intro hf
    exact ⟨left, h.sub, hs, by rw [e]; exact List.mem_filter.2 ⟨hq, hf⟩⟩
  · rintro ⟨T, hT, hTs, hqT⟩
    have := h.all T hT hTs q hqT
    rw [e] at this
    exact (List.mem_filter.1 this).2
theorem GrI.inp {ss : List St} {S left : List Int} (h : GrI ss S left) {n : Int} (hi : InP n S) : InP n left := fun x hx => hi x (h.sub x hx)
theorem GrI.le {ss : List St} {S left : List Int} (h : GrI ss S left) : left.length ≤ S.length := by
  obtain ⟨f, e⟩ := h.flt
  rw [e]
  exact List.length_filter_le _ _
theorem no_brk {kd : Nat} {ss : List St} {T : List Int} {i : Int} (h : Fst (fun s => brk (kS kd s) T) ss i) (hi : ¬ 0 ≤ i) : Sip (ss.map (kS kd)) T := by
  rw [← sip_iff, sip_map, fst_neg h, decide_eq_true (by omega)]
theorem a_brk {kd : Nat} {ss : List St} {T : List Int} {i : Int} (h : Fst (fun s => brk (kS kd s) T) ss i) (hi : 0 ≤ i) : ∃ k : Nat, i = k ∧ k < ss.length ∧ brk (kS kd (ss.getD k default)) T = true ∧ kS kd (ss.getD k default) ∈ ss.map (kS kd) := by
  rcases h with ⟨rfl, _⟩ | ⟨k, h1, h2, h3, _⟩
  · exact absurd hi (by decide)
  · exact ⟨k, h1, h2, h3, List.mem_map_of_mem (by simp [List.getD, h2])⟩
theorem brk_nil {s : St} : ¬ brk s [] = true := by show ¬ (false && _) = true; rw [Bool.false_and]; decide
noncomputable def grR (kd : Nat) (n : Int) (ss : List St) (xs : List Int) : List Int × Int := if setI n ss xs ≠ 0 then ([], setI n ss xs) else (gsL (ss.map (kS kd)) xs, 0)
theorem gr_1 {kd : Nat} {n : Int} {ss : List St} {xs : List Int} (h : setI n ss xs ≠ 0) : grR kd n ss xs = ([], setI n ss xs) := if_pos h
theorem gr_0 {kd : Nat} {n : Int} {ss : List St} {xs : List Int} (h : ¬ setI n ss xs ≠ 0) : grR kd n ss xs = (gsL (ss.map (kS kd)) xs, 0) := if_neg h
theorem gs_len (ss : List St) (S : List Int) : (gsL ss S).length ≤ S.length := List.length_filter_le _ _
theorem grR_l {kd : Nat} {n : Int} {ss : List St} {xs : List Int} (h : xs.length ≤ 1000000) : (grR kd n ss xs).1.length ≤ 1000000 := by
  unfold grR
  split
  · exact Nat.zero_le _
  · exact Nat.le_trans (gs_len _ _) h
theorem plc_len {n : Int} {xs : List Int} (h : Plc n xs) : ∀ j, j < xs.length → (j : Int) ≤ xs.getD j 0
  | 0, hj => (h 0 hj).1.1
  | j + 1, hj => by
    have h1 := plc_len h j (by omega)
    have h2 := (h (j + 1) hj).2 (by omega)
    rw [Nat.add_sub_cancel] at h2
    omega
theorem plc_small {n : Int} {xs : List Int} (h : Plc n xs) : (xs.length : Int) ≤ n ∨ xs.length = 0 := by
  by_cases h0 : xs.length = 0
  · exact .inr h0
  · have h1 := plc_len h (xs.length - 1) (by omega)
    have h2 := (h (xs.length - 1) (by omega)).1
    exact .inl (by omega)
theorem goI_some {h : HD} {xs : List Int} (ho : goI (h, xs)) (hx : xs ≠ []) : ∃ b c sp, h = some (b, c, sp) := by
  cases h with
  | none => exact absurd (List.length_eq_zero_iff.1 ho.2) hx
  | some x => exact ⟨x.1, x.2.1, x.2.2, rfl⟩
theorem TL.callBC {P : Program} {n : Nat} {w0 : World} {E : Env} {G : Heap} {ty : TypeId} {pos : String} {aft : Array Edge} {g : Option (Nat × Bool)} {ops : Array Oper} {Q : Exit → Act → World → Prop} {l : List Oper} {d : Nat} {X : Type} {f k : Nat} {xs : List Operand} {ats : Array TypeId} {vs pre caps : List Value} {val : X → Value} {F : X → Prop} {D : X → Heap} (hf : Sx.look k E = some (.func (.func f) pre.toArray caps.toArray)) (hx : evs E xs = some vs) (hfn : goFn P f = true)
    (hc : ∀ a w, S n w0 E G a w → Calls P f (pre ++ vs ++ caps).toArray w (Post val F D w)) (hg : wants ops E g = some true) (hd : d < n)
    (h : ∀ x, F x → TL P n w0 ops Q l ((d, val x) :: E) (D x ++ G)) :
    TL P n w0 ops Q (⟨some d, .call { callee := .value (.tmp k), args := xs.toArray, argTypes := ats }, ty, pos, aft, g⟩ :: l) E G :=
  TL.callB val F (fun x => D x ++ G) hf hx hfn (fun a w hs => (hc a w hs).mono fun e w' ⟨x, h1, h2, h3⟩ => ⟨x, h1, h2, hs.new.trans h3⟩) hg hd h
theorem kS_fill (a b : Value) (c d : Value) : True := trivial
theorem fill_k (a b : Value) (ha : a.cells = #[a]) (hb : b.cells = #[b]) (u v : Value) : Instr.fill ([(0, 1), (1, 1)][·]?) #[u, v] [(0, a), (1, b)] = some #[a, b] := by
  simp [Instr.fill, ha, hb]


set_option maxRecDepth 100000 in
set_option maxHeartbeats 1000000 in
theorem kinds_ok (w0 : World) :
    Calls Try.prog 110 #[] w0 (Post (X := Unit) (fun _ => .agg #[.func (.func 118) #[] #[], .func (.func 117) #[] #[], .func (.func 117) #[] #[], .func (.func 118) #[] #[]]) (fun _ => True) (fun _ => []) w0) := by
  refine calls Try.func110 rfl (n := 10) rfl (by simp) ?_
  refine TC.seq ?_
  refine TC.region ?_
  refine TL.alloc Tb.zero_112 rfl (by decide) (fun b0 hb0 => ?_)
  refine TL.nil ?_
  refine TQ.thenC ?_
  refine TC.seq ?_
  refine TC.region ?_
  refine TL.pure (PV.assign rfl) rfl (by decide) ?_
  refine TL.nil ?_
  refine TQ.thenC ?_
  refine TC.seq ?_
  refine TC.region ?_
  refine TL.pure (PV.assign rfl) rfl (by decide) ?_
  refine TL.nil ?_
  refine TQ.thenC ?_
  refine TC.seq ?_
  refine TC.region ?_
  refine TL.pure (PV.move rfl) rfl (by decide) ?_
  refine TL.pure (PV.move rfl) rfl (by decide) ?_
  refine TL.pure (PV.build (cs := #[.func (.func 118) #[] #[], .func (.func 117) #[] #[]]) rfl Tb.zero_111 Tb.pl_111 rfl) rfl (by decide) ?_
  refine TL.pure (PV.move rfl) rfl (by decide) ?_
  refine TL.pure (PV.move rfl) rfl (by decide) ?_
  refine TL.pure (PV.build (cs := #[.func (.func 117) #[] #[], .func (.func 118) #[] #[]]) rfl Tb.zero_111 Tb.pl_111 rfl) rfl (by decide) ?_
  refine TL.pure (PV.buildA (cs := #[.func (.func 118) #[] #[], .func (.func 117) #[] #[], .func (.func 117) #[] #[], .func (.func 118) #[] #[]]) rfl Tb.zero_112 arr_112 rfl) rfl (by decide) ?_
  refine TL.storeAgg (vs := [.func (.func 118) #[] #[], .func (.func 117) #[] #[], .func (.func 117) #[] #[], .func (.func 118) #[] #[]]) rfl rfl Tb.cells_112 (by repeat (first | exact Upd.head _ | apply Upd.tail | apply Upd.appR)) rfl rfl rfl rfl rfl ?_
  refine TL.nil ?_
  refine TQ.thenC ?_
  refine TC.ret ?_
  refine TQ.retR rfl (Res.agg rfl Tb.agg_112 (by repeat (first | exact List.Mem.head _ | refine List.Mem.tail _ ?_ | refine List.mem_append_right _ ?_)) rfl Res.nil) ?_
  simp only [tup]
  first | exact ⟨(), trivial, trivial, List.nil_sublist _⟩ | exact ⟨(), rfl, trivial, List.nil_sublist _⟩

theorem part0 (w : World) : (part 111 #[.func (.func 118) #[] #[], .func (.func 117) #[] #[], .func (.func 117) #[] #[], .func (.func 118) #[] #[]] (0 * 2)).run Try.prog w = .ok (.agg #[.func (.func 118) #[] #[], .func (.func 117) #[] #[]]) w := by
  have h : Try.prog.underlying 111 = some (.struct (Try.prog.fieldsOf 111)) := by kernel_rfl
  have h2 : (Try.prog.info? 111).map (·.size) = some 2 := by kernel_rfl
  cases hi : Try.prog.info? 111 with
  | none => simp [hi] at h2
  | some inf =>
    simp [hi] at h2
    simp [part, isAgg, run_underlying h, sizeOf, typeInfo, hi, h2]

set_option maxRecDepth 100000 in
set_option maxHeartbeats 1000000 in
theorem isOfKind0_ok (w0 : World) (n : Int) (p : Option Addr) (cp : Nat) (ss : List St) (hr : StsAt w0 p ss) (hS : SmS ss) (vx : Value) (xs : List Int) (hv : IsI w0 vx xs) (hl : xs.length ≤ 1000000) :
    Calls Try.prog 98 #[yv n p ss.length cp, vx, .int .i64 0] w0 (Post (X := Unit) (fun _ => .tuple #[.bool (kindR 0 n ss xs).1, .int .i64 (kindR 0 n ss xs).2]) (fun _ => True) (fun _ => []) w0) := by
  obtain ⟨pl, cl, rfl, hx⟩ := hv
  refine calls Try.func98 rfl (n := 22) rfl (by simp) ?_
  refine TC.seq ?_
  refine TC.region ?_
  refine TL.box rfl rfl (by decide) (fun b0 hb0 => ?_)
  refine TL.pure (PV.assign rfl) rfl (by decide) ?_
  refine TL.pure (PV.assign rfl) rfl (by decide) ?_
  refine TL.nil ?_
  refine TQ.thenC ?_
  refine TC.seq ?_
  refine TC.seq ?_
  refine TC.region ?_
  refine TL.pure (PV.loadBox rfl Tb.agg_24 (by repeat (first | exact List.Mem.head _ | refine List.Mem.tail _ ?_ | refine List.mem_append_right _ ?_)) rfl) rfl (by decide) ?_
  refine TL.pure (PV.move rfl) rfl (by decide) ?_
  refine TL.call rfl Tb.gofn_109 (fun a w hs => valSet_ok w _ _ _ _ (hr.new hs.new) hS _ _ (IsI.of (hx.new hs.new)) hl) rfl (by decide) (fun _ _ => ?_)
  refine TL.pure (PV.assign rfl) rfl (by decide) ?_
  refine TL.nil ?_
  refine TQ.thenC ?_
  refine TC.seq ?_
  refine TC.region ?_
  refine TL.pure (PV.move rfl) rfl (by decide) ?_
  refine TL.pure (PV.neq rfl rfl) rfl (by decide) ?_
  refine TL.nil ?_
  refine TQ.thenC ?_
  first | refine TC.condD rfl (fun a1 => ?_) (fun a1 => ?_) | refine TC.cond rfl (fun a1 => ?_) (fun a1 => ?_)
  · skip
    refine TC.seq ?_
    refine TC.region ?_
    refine TL.pure (PV.move rfl) rfl (by decide) ?_
    refine TL.pure (PV.assign rfl) rfl (by decide) ?_
    refine TL.pure (PV.assign rfl) rfl (by decide) ?_
    refine TL.nil ?_
    refine TQ.thenC ?_
    refine TC.ret ?_
    refine TQ.thenR ?_
    refine TQ.retE2 rfl rfl rfl ?_
    exact ⟨(), by rw [kind_1 a1], trivial, List.nil_sublist _⟩
  · skip
    refine TC.skip ?_
    refine TQ.thenC ?_
    refine TC.seq ?_
    have hVP := set_of a1
    refine TC.mixV [false, true, true, true, true, false, true, true, true] [(b0, Obj.cells #[.int .i64 n, .slice p ss.length cp] 24 (0, 0))] 9 Tb.mixed rfl (by kernel_rfl) (by kernel_rfl) (by kernel_rfl) (by kernel_rfl) (by repeat (first | exact List.Sublist.slnil | exact List.nil_sublist _ | exact List.Sublist.refl _ | refine List.Sublist.cons_cons _ ?_ | refine List.Sublist.cons _ ?_ | refine List.Sublist.trans ?_ (List.sublist_append_right _ _))) ?_
    refine TV.virt 1 rfl rfl (by decide) rfl (by kernel_rfl) (SOK.pure (PV.move rfl) rfl) ?_
    refine TV.virt 3 rfl rfl (by decide) rfl (by kernel_rfl) (SOK.pure (PV.loadBox rfl Tb.agg_24 (by repeat (first | exact List.Mem.head _ | refine List.Mem.tail _ ?_ | refine List.mem_append_right _ ?_)) rfl) rfl) ?_
    refine TV.virt 4 rfl rfl (by decide) rfl (by kernel_rfl) (SOK.pure (PV.move rfl) rfl) ?_
    refine TV.step [0] (by kernel_rfl) (by decide) rfl ⟨⟨_, rfl, ?_⟩, trivial⟩
    refine TL.call rfl Tb.gofn_110 (fun a w hs => kinds_ok w) rfl (by decide) (fun _ _ => ?_)
    refine TL.nil ?_
    refine TV.next (.inl (by repeat (first | exact List.Sublist.slnil | exact List.nil_sublist _ | exact List.Sublist.refl _ | refine List.Sublist.cons_cons _ ?_ | refine List.Sublist.cons _ ?_ | refine List.Sublist.trans ?_ (List.sublist_append_right _ _)))) ?_
    refine TV.virt 2 rfl rfl (by decide) rfl (by kernel_rfl) (SOK.pure (PV.indexV (j := 0) (v := .agg #[.func (.func 118) #[] #[], .func (.func 117) #[] #[]]) rfl rfl arr_112 rfl (by decide) (fun w => part0 w)) rfl) ?_
    refine TV.step [5] (by kernel_rfl) (by decide) rfl ⟨⟨_, rfl, ?_⟩, trivial⟩
    refine TL.call rfl Tb.gofn_111 (fun a w hs => breaker0_ok w _ _ _ _ (hr.new hs.new) hS hVP.1 _ _ (IsI.of (hx.new hs.new)) hl hVP.2.inp) rfl (by decide) (fun i9 hi9 => ?_)
    refine TL.nil ?_
    refine TV.next (.inl (by repeat (first | exact List.Sublist.slnil | exact List.nil_sublist _ | exact List.Sublist.refl _ | refine List.Sublist.cons_cons _ ?_ | refine List.Sublist.cons _ ?_ | refine List.Sublist.trans ?_ (List.sublist_append_right _ _)))) ?_
    refine TV.virt 6 rfl rfl (by decide) rfl (by kernel_rfl) (SOK.pure (PV.lss rfl rfl) rfl) ?_
    refine TV.virt 7 rfl rfl (by decide) rfl (by kernel_rfl) (SOK.pure (PV.assign rfl) rfl) ?_
    refine TV.virt 8 rfl rfl (by decide) rfl (by kernel_rfl) (SOK.pure (PV.assign rfl) rfl) ?_
    refine TV.done (by kernel_rfl) ?_
    refine TQ.thenC ?_
    refine TC.ret ?_
    refine TQ.retE2 rfl rfl rfl ?_
    exact ⟨(), by rw [kind_0 a1, sip_map, fst_neg hi9], trivial, List.nil_sublist _⟩

set_option maxRecDepth 100000 in
theorem IsSiphon_ok (w0 : World) (n : Int) (p : Option Addr) (cp : Nat) (ss : List St) (hr : StsAt w0 p ss) (hS : SmS ss) (vx : Value) (xs : List Int) (hv : IsI w0 vx xs) (hl : xs.length ≤ 1000000) :
    Calls Try.prog 48 #[yv n p ss.length cp, vx] w0 (Post (X := Unit) (fun _ => .tuple #[.bool (kindR 0 n ss xs).1, .int .i64 (kindR 0 n ss xs).2]) (fun _ => True) (fun _ => []) w0) := by
  refine calls Try.func48 rfl (n := 11) rfl (by simp) ?_
  refine TC.seq ?_
  refine TC.region ?_
  refine TL.box rfl rfl (by decide) (fun b0 hb0 => ?_)
  refine TL.pure (PV.assign rfl) rfl (by decide) ?_
  refine TL.pure (PV.assign rfl) rfl (by decide) ?_
  refine TL.nil ?_
  refine TQ.thenC ?_
  refine TC.seq ?_
  refine TC.region ?_
  refine TL.pure (PV.loadBox rfl Tb.agg_24 (by repeat (first | exact List.Mem.head _ | refine List.Mem.tail _ ?_ | refine List.mem_append_right _ ?_)) rfl) rfl (by decide) ?_
  refine TL.pure (PV.move rfl) rfl (by decide) ?_
  refine TL.call rfl Tb.gofn_98 (fun a w hs => isOfKind0_ok w _ _ _ _ (hr.new hs.new) hS _ _ (hv.new hs.new) hl) rfl (by decide) (fun _ _ => ?_)
  refine TL.pure (PV.extract rfl rfl) rfl (by decide) ?_
  refine TL.pure (PV.extract rfl rfl) rfl (by decide) ?_
  refine TL.pure (PV.assign rfl) rfl (by decide) ?_
  refine TL.pure (PV.assign rfl) rfl (by decide) ?_
  refine TL.nil ?_
  refine TQ.thenC ?_
  refine TC.ret ?_
  refine TQ.retE2 rfl rfl rfl ?_
  exact ⟨(), rfl, trivial, List.nil_sublist _⟩

set_option maxRecDepth 100000 in
set_option maxHeartbeats 4000000 in
theorem greatest0_ok (w0 : World) (n : Int) (p : Option Addr) (cp : Nat) (ss : List St) (hr : StsAt w0 p ss) (hS : SmS ss) (vx : Value) (xs : List Int) (hv : IsI w0 vx xs) (hl : xs.length ≤ 1000000) :
    Calls Try.prog 102 #[yv n p ss.length cp, vx, .int .i64 0] w0 (Post (X := HD) (fun h => .tuple #[gval h (grR 0 n ss xs).1.length, .int .i64 (grR 0 n ss xs).2]) (fun h => goI (h, (grR 0 n ss xs).1)) (fun h => gbI (h, (grR 0 n ss xs).1)) w0) := by
  obtain ⟨pl, cl, rfl, hx⟩ := hv
  refine calls Try.func102 rfl (n := 46) rfl (by simp) ?_
  refine TC.seq ?_
  refine TC.region ?_
  refine TL.box rfl rfl (by decide) (fun b0 hb0 => ?_)
  refine TL.pure (PV.assign rfl) rfl (by decide) ?_
  refine TL.pure (PV.assign rfl) rfl (by decide) ?_
  refine TL.nil ?_
  refine TQ.thenC ?_
  refine TC.seq ?_
  refine TC.seq ?_
  refine TC.region ?_
  refine TL.pure (PV.loadBox rfl Tb.agg_24 (by repeat (first | exact List.Mem.head _ | refine List.Mem.tail _ ?_ | refine List.mem_append_right _ ?_)) rfl) rfl (by decide) ?_
  refine TL.pure (PV.move rfl) rfl (by decide) ?_
  refine TL.call rfl Tb.gofn_109 (fun a w hs => valSet_ok w _ _ _ _ (hr.new hs.new) hS _ _ (IsI.of (hx.new hs.new)) hl) rfl (by decide) (fun _ _ => ?_)
  refine TL.pure (PV.assign rfl) rfl (by decide) ?_
  refine TL.nil ?_
  refine TQ.thenC ?_
  refine TC.seq ?_
  refine TC.region ?_
  refine TL.pure (PV.move rfl) rfl (by decide) ?_
  refine TL.pure (PV.neq rfl rfl) rfl (by decide) ?_
  refine TL.nil ?_
  refine TQ.thenC ?_
  first | refine TC.condD rfl (fun a1 => ?_) (fun a1 => ?_) | refine TC.cond rfl (fun a1 => ?_) (fun a1 => ?_)
  · skip
    refine TC.seq ?_
    refine TC.region ?_
    refine TL.pure (PV.move rfl) rfl (by decide) ?_
    refine TL.pure (PV.assign rfl) rfl (by decide) ?_
    refine TL.pure (PV.assign rfl) rfl (by decide) ?_
    refine TL.nil ?_
    refine TQ.thenC ?_
    refine TC.ret ?_
    refine TQ.thenR ?_
    refine TQ.retE2 rfl rfl rfl ?_
    have e9 := gr_1 (kd := 0) a1
    exact ⟨none, by rw [e9]; rfl, by rw [e9]; exact goI_nil, List.nil_sublist _⟩
  · skip
    refine TC.skip ?_
    refine TQ.thenC ?_
    refine TC.seq ?_
    have hVP := set_of a1
    refine TC.mixV [false, true, true, true, false, false, false, true] [(b0, Obj.cells #[.int .i64 n, .slice p ss.length cp] 24 (0, 0))] 8 Tb.mixed rfl (by kernel_rfl) (by kernel_rfl) (by kernel_rfl) (by kernel_rfl) (by repeat (first | exact List.Sublist.slnil | exact List.nil_sublist _ | exact List.Sublist.refl _ | refine List.Sublist.cons_cons _ ?_ | refine List.Sublist.cons _ ?_ | refine List.Sublist.trans ?_ (List.sublist_append_right _ _))) ?_
    refine TV.virt 1 rfl rfl (by decide) rfl (by kernel_rfl) (SOK.pure (PV.move rfl) rfl) ?_
    refine TV.virt 3 rfl rfl (by decide) rfl (by kernel_rfl) (SOK.pure (PV.move rfl) rfl) ?_
    refine TV.step [0, 5] (by kernel_rfl) (by decide) rfl ⟨⟨_, rfl, ?_⟩, ⟨_, rfl, ?_⟩, trivial⟩
    · skip
      refine TL.call rfl Tb.gofn_110 (fun a w hs => kinds_ok w) rfl (by decide) (fun _ _ => ?_)
      refine TL.nil ?_
      refine TV.next (.inl (by repeat (first | exact List.Sublist.slnil | exact List.nil_sublist _ | exact List.Sublist.refl _ | refine List.Sublist.cons_cons _ ?_ | refine List.Sublist.cons _ ?_ | refine List.Sublist.trans ?_ (List.sublist_append_right _ _)))) ?_
      refine TV.virt 2 rfl rfl (by decide) rfl (by kernel_rfl) (SOK.pure (PV.indexV (j := 0) (v := .agg #[.func (.func 118) #[] #[], .func (.func 117) #[] #[]]) rfl rfl arr_112 rfl (by decide) (fun w => part0 w)) rfl) ?_
      refine TV.step [4, 5] (by kernel_rfl) (by decide) rfl ⟨⟨_, rfl, ?_⟩, ⟨_, rfl, ?_⟩, trivial⟩
      · skip
        refine TL.call rfl Tb.gofn_97 (fun a w hs => clone_ok w _ _ _ (hx.new hs.new) hl) rfl (by decide) (fun h9 hh9 => ?_)
        refine TL.nil ?_
        refine TV.next (.inl (by repeat (first | exact List.Sublist.slnil | exact List.nil_sublist _ | exact List.Sublist.refl _ | refine List.Sublist.cons_cons _ ?_ | refine List.Sublist.cons _ ?_ | refine List.Sublist.trans ?_ (List.sublist_append_right _ _)))) ?_
        refine TV.step [5] (by kernel_rfl) (by decide) rfl ⟨⟨_, rfl, ?_⟩, trivial⟩
        refine TL.alloc Tb.zero_111 rfl (by decide) (fun bk hbk => ?_)
        refine TL.nil ?_
        refine TV.next (.inl (by repeat (first | exact List.Sublist.slnil | exact List.nil_sublist _ | exact List.Sublist.refl _ | refine List.Sublist.cons_cons _ ?_ | refine List.Sublist.cons _ ?_ | refine List.Sublist.trans ?_ (List.sublist_append_right _ _)))) ?_
        refine TV.step [6] (by kernel_rfl) (by decide) rfl ⟨⟨_, rfl, ?_⟩, trivial⟩
        refine TL.storeAgg (vs := [.func (.func 118) #[] #[], .func (.func 117) #[] #[]]) rfl rfl Tb.cells_111 (by repeat (first | exact Upd.head _ | apply Upd.tail | apply Upd.appR)) rfl rfl rfl rfl rfl ?_
        refine TL.nil ?_
        refine TV.next (.inl (by repeat (first | exact List.Sublist.slnil | exact List.nil_sublist _ | exact List.Sublist.refl _ | refine List.Sublist.cons_cons _ ?_ | refine List.Sublist.cons _ ?_ | refine List.Sublist.trans ?_ (List.sublist_append_right _ _)))) ?_
        refine TV.virt 7 rfl rfl (by decide) rfl (by kernel_rfl) (SOK.pure (PV.assign rfl) rfl) ?_
        refine TV.done (by kernel_rfl) ?_
        refine TQ.thenC ?_
        refine TC.seq ?_
        refine TC.seq ?_
        first | refine TC.perm (G' := gbI (h9, xs) ++ [(bk, Obj.cells #[.func (.func 118) #[] #[], .func (.func 117) #[] #[]] 111 (0, 0)), (b0, Obj.cells #[.int .i64 n, .slice p ss.length cp] 24 (0, 0))]) (List.Perm.refl _) ?_ | refine TC.perm (G' := gbI (h9, xs) ++ [(bk, Obj.cells #[.func (.func 118) #[] #[], .func (.func 117) #[] #[]] 111 (0, 0)), (b0, Obj.cells #[.int .i64 n, .slice p ss.length cp] 24 (0, 0))]) List.perm_middle ?_
        refine TC.region ?_
        refine TL.pure (PV.loadBox (cs := [.func (.func 118) #[] #[], .func (.func 117) #[] #[]]) rfl Tb.agg_111 (by repeat (first | exact List.Mem.head _ | refine List.Mem.tail _ ?_ | refine List.mem_append_right _ ?_)) rfl) rfl (by decide) ?_
        refine TL.pure (PV.loadBox rfl Tb.agg_24 (by repeat (first | exact List.Mem.head _ | refine List.Mem.tail _ ?_ | refine List.mem_append_right _ ?_)) rfl) rfl (by decide) ?_
        refine TL.pure (PV.move rfl) rfl (by decide) ?_
        refine TL.call rfl Tb.gofn_111 (fun a w hs => breaker0_ok w _ _ _ _ (hr.new hs.new) hS hVP.1 _ xs (IsI.g hs.new (fun yy hyy => by repeat (first | exact List.mem_append_left _ hyy | exact List.mem_append_left _ (List.mem_append_right _ hyy) | exact List.mem_append_left _ (List.mem_append_left _ hyy) | refine List.mem_append_right _ ?_ | refine List.Mem.tail _ ?_)) hh9) hl hVP.2.inp) rfl (by decide) (fun i9 hi9 => ?_)
        refine TL.pure (PV.assign rfl) rfl (by decide) ?_
        refine TL.nil ?_
        refine TQ.thenC ?_
        refine TC.block ?_
        refine TC.lit [(3, _), (6, _), (7, _), (9, _), (10, _), (11, _)] (by repeat (first | exact True.intro | refine And.intro rfl ?_)) ?_
        refine TC.loopK [3, 6, 7, 9] (X := HD × List Int × Int) (fun x => GrI (ss.map (kS 0)) xs x.2.1 ∧ goI (x.1, x.2.1) ∧ Fst (fun s => brk (kS 0 s) x.2.1) ss x.2.2) (fun x => [(10, gval x.1 x.2.1.length), (11, .int .i64 x.2.2)]) (fun x => gbI (x.1, x.2.1) ++ [(bk, Obj.cells #[.func (.func 118) #[] #[], .func (.func 117) #[] #[]] 111 (0, 0)), (b0, Obj.cells #[.int .i64 n, .slice p ss.length cp] 24 (0, 0))]) (fun x => x.2.1.length) (h9, xs, i9) ⟨GrI.zero _ _, hh9, hi9⟩ (by repeat (first | exact True.intro | refine And.intro rfl ?_)) (by repeat (first | exact List.Sublist.slnil | exact List.nil_sublist _ | exact List.Sublist.refl _ | refine List.Sublist.cons_cons _ ?_ | refine List.Sublist.cons _ ?_ | refine List.Sublist.trans ?_ (List.sublist_append_right _ _))) ?_
        intro x hx9
        refine TC.lit [(3, _), (6, _), (7, _), (9, _), (10, _), (11, _)] (by repeat (first | exact True.intro | refine And.intro rfl ?_)) ?_
        refine TC.seq ?_
        refine TC.seq ?_
        refine TC.region ?_
        refine TL.pure (PV.move rfl) rfl (by decide) ?_
        refine TL.pure (PV.geq rfl rfl) rfl (by decide) ?_
        refine TL.nil ?_
        refine TQ.thenC ?_
        first | refine TC.condD rfl (fun hge => ?_) (fun hge => ?_) | refine TC.cond rfl (fun hge => ?_) (fun hge => ?_)
        · skip
          refine TC.skip ?_
          refine TQ.thenC ?_
          refine TC.seq ?_
          refine TC.block ?_
          refine TC.seq ?_
          obtain ⟨k, hke, hkl, hkb, hkm⟩ := a_brk hx9.2.2 hge
          obtain ⟨q1, hq1p, pa, pb, ca, cb, hq10, hq11, hta, htb⟩ := hr k (by omega)
          have hne : x.2.1 ≠ [] := fun h => by rw [h] at hkb; exact brk_nil hkb
          obtain ⟨b9, c9, p9, hh⟩ := goI_some hx9.2.1 hne
          have hgo := hx9.2.1
          have hlen := hx9.1.le
          rw [hh] at hgo ⊢
          have hfl := flt_lt hkb
          have htl := hVP.1.tl hkl
          refine TC.mixV [true, true, true, true, true, true, true, false, false, false] _ 10 Tb.mixed rfl (by kernel_rfl) (by kernel_rfl) (by kernel_rfl) (by kernel_rfl) (List.Sublist.refl _) ?_
          refine TV.virt 0 rfl rfl (by decide) rfl (by kernel_rfl) (SOK.pure (PV.fieldAddr rfl Tb.fo_111_0) rfl) ?_
          refine TV.virt 1 rfl rfl (by decide) rfl (by kernel_rfl) (SOK.pure (PV.load rfl Tb.one_81 (by repeat (first | exact List.Mem.head _ | refine List.Mem.tail _ ?_ | refine List.mem_append_right _ ?_)) rfl) rfl) ?_
          refine TV.virt 2 rfl rfl (by decide) rfl (by kernel_rfl) (SOK.pure (PV.fieldAddr rfl Tb.fo_24_1) rfl) ?_
          refine TV.virt 3 rfl rfl (by decide) rfl (by kernel_rfl) (SOK.pure (PV.load rfl Tb.one_22 (by repeat (first | exact List.Mem.head _ | refine List.Mem.tail _ ?_ | refine List.mem_append_right _ ?_)) rfl) rfl) ?_
          refine TV.virt 4 rfl rfl (by decide) rfl (by kernel_rfl) (SOK.pure (PV.move rfl) rfl) ?_
          refine TV.virt 5 rfl rfl (by decide) rfl (by kernel_rfl) (SOK.pure (PV.indexA (j := k) rfl hq1p rfl Tb.elm_22 hke (by omega)) rfl) ?_
          refine TV.virt 6 rfl rfl (by decide) rfl (by kernel_rfl) (SOK.pure (PV.loadAggA rfl Tb.agg_63 rfl (two_cells hq10 hq11)) rfl) ?_
          refine TV.step [7, 8] (by kernel_rfl) (by decide) rfl ⟨⟨_, rfl, ?_⟩, ⟨_, rfl, ?_⟩, trivial⟩
          · skip
            refine TL.callBC (f := 118) (pre := []) (caps := []) rfl rfl Tb.gofn_118 (fun a w hs => kinds118_ok w pa pb ca cb (ss.getD k default)) rfl (by decide) (fun _ _ => ?_)
            refine TL.nil ?_
            refine TV.next (.inl (by repeat (first | exact List.Sublist.slnil | exact List.nil_sublist _ | exact List.Sublist.refl _ | refine List.Sublist.cons_cons _ ?_ | refine List.Sublist.cons _ ?_ | refine List.Sublist.trans ?_ (List.sublist_append_right _ _)))) ?_
            refine TV.step [8] (by kernel_rfl) (by decide) rfl ⟨⟨_, rfl, ?_⟩, trivial⟩
            refine TL.alloc Tb.zero_25 rfl (by decide) (fun bq hbq => ?_)
            refine TL.nil ?_
            refine TV.next (.inl (by repeat (first | exact List.Sublist.slnil | exact List.nil_sublist _ | exact List.Sublist.refl _ | refine List.Sublist.cons_cons _ ?_ | refine List.Sublist.cons _ ?_ | refine List.Sublist.trans ?_ (List.sublist_append_right _ _)))) ?_
            refine TV.step [9] (by kernel_rfl) (by decide) rfl ⟨⟨_, rfl, ?_⟩, trivial⟩
            refine TL.store rfl rfl Tb.cells_25 rfl (by repeat (first | exact Upd.head _ | apply Upd.tail | apply Upd.appR)) (by first | decide | (simp; done) | (simp; omega) | omega) rfl rfl ?_
            refine TL.nil ?_
            refine TV.next (.inr (by kernel_rfl)) ?_
            refine TV.done (by kernel_rfl) ?_
            refine TQ.thenC ?_
            refine TC.region ?_
            refine TL.pure (PV.move rfl) rfl (by decide) ?_
            refine TL.pure (PV.makeFuncB (pre := []) (caps := [_]) rfl rfl) rfl (by decide) ?_
            refine TL.perm (G' := gbI (some (b9, c9, p9), x.2.1) ++ ((bq, Obj.cells #[.slice pb (ss.getD k default).g.length cb] 25 (0, 0)) :: [(bk, Obj.cells #[.func (.func 118) #[] #[], .func (.func 117) #[] #[]] 111 (0, 0)), (b0, Obj.cells #[.int .i64 n, .slice p ss.length cp] 24 (0, 0))])) List.perm_middle ?_
            refine TL.callW (X := List Value) (fun _ => .slice (some ⟨b9, 0, none⟩) (x.2.1.filter (fun x => !decide (0 < (kS 0 (ss.getD k default)).g.getD x.toNat 0))).length c9) (fun s => goI (some (b9, c9, s), x.2.1.filter (fun x => !decide (0 < (kS 0 (ss.getD k default)).g.getD x.toNat 0)))) (fun s => gbI (some (b9, c9, s), x.2.1.filter (fun x => !decide (0 < (kS 0 (ss.getD k default)).g.getD x.toNat 0))) ++ ((bq, Obj.cells #[.slice pb (ss.getD k default).g.length cb] 25 (0, 0)) :: [(bk, Obj.cells #[.func (.func 118) #[] #[], .func (.func 117) #[] #[]] 111 (0, 0)), (b0, Obj.cells #[.int .i64 n, .slice p ss.length cp] 24 (0, 0))])) rfl Tb.gofn_113 (fun a w hs => delete_ok (sp := p9) hs.new (by omega) hgo 114 [.pointer (some ⟨bq, 0, none⟩)] (fun x => !decide (0 < (kS 0 (ss.getD k default)).g.getD x.toNat 0)) Tb.gofn_114 (fun w1 ys hn1 z hm => (by simp only [Bool.not_not]; exact greatestF_ok w1 z ⟨bq, 0, none⟩ pb cb (ss.getD k default).g (htb.new hn1) (hn1.cell (by repeat (first | exact List.Mem.head _ | refine List.Mem.tail _ ?_ | refine List.mem_append_right _ ?_)) rfl) (by have h8 := hx9.1.inp hVP.2.inp z hm; omega)))) rfl (by decide) (fun s9 hs9 => ?_)
            refine TL.pure (PV.assign rfl) rfl (by decide) ?_
            refine TL.nil ?_
            refine TQ.blkN ?_
            refine TQ.thenC ?_
            refine TC.region ?_
            refine TL.pure (PV.loadBox (cs := [.func (.func 118) #[] #[], .func (.func 117) #[] #[]]) rfl Tb.agg_111 (by repeat (first | exact List.Mem.head _ | refine List.Mem.tail _ ?_ | refine List.mem_append_right _ ?_)) rfl) rfl (by decide) ?_
            refine TL.pure (PV.loadBox rfl Tb.agg_24 (by repeat (first | exact List.Mem.head _ | refine List.Mem.tail _ ?_ | refine List.mem_append_right _ ?_)) rfl) rfl (by decide) ?_
            refine TL.pure (PV.move rfl) rfl (by decide) ?_
            refine TL.call rfl Tb.gofn_111 (fun a w hs => breaker0_ok w _ _ _ _ (hr.new hs.new) hS hVP.1 _ (x.2.1.filter fun x => !decide (0 < (kS 0 (ss.getD k default)).g.getD x.toNat 0)) (IsI.g (h := some (b9, c9, s9)) hs.new (fun yy hyy => by repeat (first | exact List.mem_append_left _ hyy | exact List.mem_append_left _ (List.mem_append_right _ hyy) | exact List.mem_append_left _ (List.mem_append_left _ hyy) | refine List.mem_append_right _ ?_ | refine List.Mem.tail _ ?_)) hs9) (by omega) ((hx9.1.step hkm hkb).inp hVP.2.inp)) rfl (by decide) (fun i8 hi8 => ?_)
            refine TL.pure (PV.assign rfl) rfl (by decide) ?_
            refine TL.nil ?_
            refine TQ.thenN ?_
            refine TQ.backK (some (b9, c9, s9), x.2.1.filter (fun x => !decide (0 < (kS 0 (ss.getD k default)).g.getD x.toNat 0)), i8) (by repeat (first | exact True.intro | refine And.intro rfl ?_)) (by repeat (first | exact True.intro | refine And.intro rfl ?_)) (List.Sublist.append_left (List.sublist_cons_self _ _) _) ⟨hx9.1.step hkm hkb, hs9, hi8⟩ (by simp only; exact hfl)
          · skip
            refine TL.alloc Tb.zero_25 rfl (by decide) (fun bq hbq => ?_)
            refine TL.nil ?_
            refine TV.next (.inl (by repeat (first | exact List.Sublist.slnil | exact List.nil_sublist _ | exact List.Sublist.refl _ | refine List.Sublist.cons_cons _ ?_ | refine List.Sublist.cons _ ?_ | refine List.Sublist.trans ?_ (List.sublist_append_right _ _)))) ?_
            refine TV.step [7] (by kernel_rfl) (by decide) rfl ⟨⟨_, rfl, ?_⟩, trivial⟩
            refine TL.callBC (f := 118) (pre := []) (caps := []) rfl rfl Tb.gofn_118 (fun a w hs => kinds118_ok w pa pb ca cb (ss.getD k default)) rfl (by decide) (fun _ _ => ?_)
            refine TL.nil ?_
            refine TV.next (.inl (by repeat (first | exact List.Sublist.slnil | exact List.nil_sublist _ | exact List.Sublist.refl _ | refine List.Sublist.cons_cons _ ?_ | refine List.Sublist.cons _ ?_ | refine List.Sublist.trans ?_ (List.sublist_append_right _ _)))) ?_
            refine TV.step [9] (by kernel_rfl) (by decide) rfl ⟨⟨_, rfl, ?_⟩, trivial⟩
            refine TL.store rfl rfl Tb.cells_25 rfl (by repeat (first | exact Upd.head _ | apply Upd.tail | apply Upd.appR)) (by first | decide | (simp; done) | (simp; omega) | omega) rfl rfl ?_
            refine TL.nil ?_
            refine TV.next (.inr (by kernel_rfl)) ?_
            refine TV.done (by kernel_rfl) ?_
            refine TQ.thenC ?_
            refine TC.region ?_
            refine TL.pure (PV.move rfl) rfl (by decide) ?_
            refine TL.pure (PV.makeFuncB (pre := []) (caps := [_]) rfl rfl) rfl (by decide) ?_
            refine TL.perm (G' := gbI (some (b9, c9, p9), x.2.1) ++ ((bq, Obj.cells #[.slice pb (ss.getD k default).g.length cb] 25 (0, 0)) :: [(bk, Obj.cells #[.func (.func 118) #[] #[], .func (.func 117) #[] #[]] 111 (0, 0)), (b0, Obj.cells #[.int .i64 n, .slice p ss.length cp] 24 (0, 0))])) List.perm_middle ?_
            refine TL.callW (X := List Value) (fun _ => .slice (some ⟨b9, 0, none⟩) (x.2.1.filter (fun x => !decide (0 < (kS 0 (ss.getD k default)).g.getD x.toNat 0))).length c9) (fun s => goI (some (b9, c9, s), x.2.1.filter (fun x => !decide (0 < (kS 0 (ss.getD k default)).g.getD x.toNat 0)))) (fun s => gbI (some (b9, c9, s), x.2.1.filter (fun x => !decide (0 < (kS 0 (ss.getD k default)).g.getD x.toNat 0))) ++ ((bq, Obj.cells #[.slice pb (ss.getD k default).g.length cb] 25 (0, 0)) :: [(bk, Obj.cells #[.func (.func 118) #[] #[], .func (.func 117) #[] #[]] 111 (0, 0)), (b0, Obj.cells #[.int .i64 n, .slice p ss.length cp] 24 (0, 0))])) rfl Tb.gofn_113 (fun a w hs => delete_ok (sp := p9) hs.new (by omega) hgo 114 [.pointer (some ⟨bq, 0, none⟩)] (fun x => !decide (0 < (kS 0 (ss.getD k default)).g.getD x.toNat 0)) Tb.gofn_114 (fun w1 ys hn1 z hm => (by simp only [Bool.not_not]; exact greatestF_ok w1 z ⟨bq, 0, none⟩ pb cb (ss.getD k default).g (htb.new hn1) (hn1.cell (by repeat (first | exact List.Mem.head _ | refine List.Mem.tail _ ?_ | refine List.mem_append_right _ ?_)) rfl) (by have h8 := hx9.1.inp hVP.2.inp z hm; omega)))) rfl (by decide) (fun s9 hs9 => ?_)
            refine TL.pure (PV.assign rfl) rfl (by decide) ?_
            refine TL.nil ?_
            refine TQ.blkN ?_
            refine TQ.thenC ?_
            refine TC.region ?_
            refine TL.pure (PV.loadBox (cs := [.func (.func 118) #[] #[], .func (.func 117) #[] #[]]) rfl Tb.agg_111 (by repeat (first | exact List.Mem.head _ | refine List.Mem.tail _ ?_ | refine List.mem_append_right _ ?_)) rfl) rfl (by decide) ?_
            refine TL.pure (PV.loadBox rfl Tb.agg_24 (by repeat (first | exact List.Mem.head _ | refine List.Mem.tail _ ?_ | refine List.mem_append_right _ ?_)) rfl) rfl (by decide) ?_
            refine TL.pure (PV.move rfl) rfl (by decide) ?_
            refine TL.call rfl Tb.gofn_111 (fun a w hs => breaker0_ok w _ _ _ _ (hr.new hs.new) hS hVP.1 _ (x.2.1.filter fun x => !decide (0 < (kS 0 (ss.getD k default)).g.getD x.toNat 0)) (IsI.g (h := some (b9, c9, s9)) hs.new (fun yy hyy => by repeat (first | exact List.mem_append_left _ hyy | exact List.mem_append_left _ (List.mem_append_right _ hyy) | exact List.mem_append_left _ (List.mem_append_left _ hyy) | refine List.mem_append_right _ ?_ | refine List.Mem.tail _ ?_)) hs9) (by omega) ((hx9.1.step hkm hkb).inp hVP.2.inp)) rfl (by decide) (fun i8 hi8 => ?_)
            refine TL.pure (PV.assign rfl) rfl (by decide) ?_
            refine TL.nil ?_
            refine TQ.thenN ?_
            refine TQ.backK (some (b9, c9, s9), x.2.1.filter (fun x => !decide (0 < (kS 0 (ss.getD k default)).g.getD x.toNat 0)), i8) (by repeat (first | exact True.intro | refine And.intro rfl ?_)) (by repeat (first | exact True.intro | refine And.intro rfl ?_)) (List.Sublist.append_left (List.sublist_cons_self _ _) _) ⟨hx9.1.step hkm hkb, hs9, hi8⟩ (by simp only; exact hfl)
        · skip
          refine TC.exit ?_
          refine TQ.thenE ?_
          refine TQ.thenE ?_
          refine TQ.blkS ?_
          refine TQ.thenC ?_
          refine TC.seq ?_
          refine TC.region ?_
          refine TL.pure (PV.move rfl) rfl (by decide) ?_
          refine TL.pure (PV.assign rfl) rfl (by decide) ?_
          refine TL.pure (PV.assign rfl) rfl (by decide) ?_
          refine TL.nil ?_
          refine TQ.thenC ?_
          refine TC.ret ?_
          refine TQ.retE2 rfl rfl rfl ?_
          have e9 := gr_0 (kd := 0) a1
          have e8 := hx9.1.fin (no_brk hx9.2.2 hge)
          exact ⟨x.1, by rw [e9, ← e8], by rw [e9, ← e8]; exact hx9.2.1, by rw [e9, ← e8]; exact List.sublist_append_left _ _⟩
      · skip
        refine TL.alloc Tb.zero_111 rfl (by decide) (fun bk hbk => ?_)
        refine TL.nil ?_
        refine TV.next (.inl (by repeat (first | exact List.Sublist.slnil | exact List.nil_sublist _ | exact List.Sublist.refl _ | refine List.Sublist.cons_cons _ ?_ | refine List.Sublist.cons _ ?_ | refine List.Sublist.trans ?_ (List.sublist_append_right _ _)))) ?_
        refine TV.step [4] (by kernel_rfl) (by decide) rfl ⟨⟨_, rfl, ?_⟩, trivial⟩
        refine TL.call rfl Tb.gofn_97 (fun a w hs => clone_ok w _ _ _ (hx.new hs.new) hl) rfl (by decide) (fun h9 hh9 => ?_)
        refine TL.nil ?_
        refine TV.next (.inl (by repeat (first | exact List.Sublist.slnil | exact List.nil_sublist _ | exact List.Sublist.refl _ | refine List.Sublist.cons_cons _ ?_ | refine List.Sublist.cons _ ?_ | refine List.Sublist.trans ?_ (List.sublist_append_right _ _)))) ?_
        refine TV.step [6] (by kernel_rfl) (by decide) rfl ⟨⟨_, rfl, ?_⟩, trivial⟩
        refine TL.storeAgg (vs := [.func (.func 118) #[] #[], .func (.func 117) #[] #[]]) rfl rfl Tb.cells_111 (by repeat (first | exact Upd.head _ | apply Upd.tail | apply Upd.appR)) rfl rfl rfl rfl rfl ?_
        refine TL.nil ?_
        refine TV.next (.inl (by repeat (first | exact List.Sublist.slnil | exact List.nil_sublist _ | exact List.Sublist.refl _ | refine List.Sublist.cons_cons _ ?_ | refine List.Sublist.cons _ ?_ | refine List.Sublist.trans ?_ (List.sublist_append_right _ _)))) ?_
        refine TV.virt 7 rfl rfl (by decide) rfl (by kernel_rfl) (SOK.pure (PV.assign rfl) rfl) ?_
        refine TV.done (by kernel_rfl) ?_
        refine TQ.thenC ?_
        refine TC.seq ?_
        refine TC.seq ?_
        first | refine TC.perm (G' := gbI (h9, xs) ++ [(bk, Obj.cells #[.func (.func 118) #[] #[], .func (.func 117) #[] #[]] 111 (0, 0)), (b0, Obj.cells #[.int .i64 n, .slice p ss.length cp] 24 (0, 0))]) (List.Perm.refl _) ?_ | refine TC.perm (G' := gbI (h9, xs) ++ [(bk, Obj.cells #[.func (.func 118) #[] #[], .func (.func 117) #[] #[]] 111 (0, 0)), (b0, Obj.cells #[.int .i64 n, .slice p ss.length cp] 24 (0, 0))]) List.perm_middle ?_
        refine TC.region ?_
        refine TL.pure (PV.loadBox (cs := [.func (.func 118) #[] #[], .func (.func 117) #[] #[]]) rfl Tb.agg_111 (by repeat (first | exact List.Mem.head _ | refine List.Mem.tail _ ?_ | refine List.mem_append_right _ ?_)) rfl) rfl (by decide) ?_
        refine TL.pure (PV.loadBox rfl Tb.agg_24 (by repeat (first | exact List.Mem.head _ | refine List.Mem.tail _ ?_ | refine List.mem_append_right _ ?_)) rfl) rfl (by decide) ?_
        refine TL.pure (PV.move rfl) rfl (by decide) ?_
        refine TL.call rfl Tb.gofn_111 (fun a w hs => breaker0_ok w _ _ _ _ (hr.new hs.new) hS hVP.1 _ xs (IsI.g hs.new (fun yy hyy => by repeat (first | exact List.mem_append_left _ hyy | exact List.mem_append_left _ (List.mem_append_right _ hyy) | exact List.mem_append_left _ (List.mem_append_left _ hyy) | refine List.mem_append_right _ ?_ | refine List.Mem.tail _ ?_)) hh9) hl hVP.2.inp) rfl (by decide) (fun i9 hi9 => ?_)
        refine TL.pure (PV.assign rfl) rfl (by decide) ?_
        refine TL.nil ?_
        refine TQ.thenC ?_
        refine TC.block ?_
        refine TC.lit [(3, _), (6, _), (7, _), (9, _), (10, _), (11, _)] (by repeat (first | exact True.intro | refine And.intro rfl ?_)) ?_
        refine TC.loopK [3, 6, 7, 9] (X := HD × List Int × Int) (fun x => GrI (ss.map (kS 0)) xs x.2.1 ∧ goI (x.1, x.2.1) ∧ Fst (fun s => brk (kS 0 s) x.2.1) ss x.2.2) (fun x => [(10, gval x.1 x.2.1.length), (11, .int .i64 x.2.2)]) (fun x => gbI (x.1, x.2.1) ++ [(bk, Obj.cells #[.func (.func 118) #[] #[], .func (.func 117) #[] #[]] 111 (0, 0)), (b0, Obj.cells #[.int .i64 n, .slice p ss.length cp] 24 (0, 0))]) (fun x => x.2.1.length) (h9, xs, i9) ⟨GrI.zero _ _, hh9, hi9⟩ (by repeat (first | exact True.intro | refine And.intro rfl ?_)) (by repeat (first | exact List.Sublist.slnil | exact List.nil_sublist _ | exact List.Sublist.refl _ | refine List.Sublist.cons_cons _ ?_ | refine List.Sublist.cons _ ?_ | refine List.Sublist.trans ?_ (List.sublist_append_right _ _))) ?_
        intro x hx9
        refine TC.lit [(3, _), (6, _), (7, _), (9, _), (10, _), (11, _)] (by repeat (first | exact True.intro | refine And.intro rfl ?_)) ?_
        refine TC.seq ?_
        refine TC.seq ?_
        refine TC.region ?_
        refine TL.pure (PV.move rfl) rfl (by decide) ?_
        refine TL.pure (PV.geq rfl rfl) rfl (by decide) ?_
        refine TL.nil ?_
        refine TQ.thenC ?_
        first | refine TC.condD rfl (fun hge => ?_) (fun hge => ?_) | refine TC.cond rfl (fun hge => ?_) (fun hge => ?_)
        · skip
          refine TC.skip ?_
          refine TQ.thenC ?_
          refine TC.seq ?_
          refine TC.block ?_
          refine TC.seq ?_
          obtain ⟨k, hke, hkl, hkb, hkm⟩ := a_brk hx9.2.2 hge
          obtain ⟨q1, hq1p, pa, pb, ca, cb, hq10, hq11, hta, htb⟩ := hr k (by omega)
          have hne : x.2.1 ≠ [] := fun h => by rw [h] at hkb; exact brk_nil hkb
          obtain ⟨b9, c9, p9, hh⟩ := goI_some hx9.2.1 hne
          have hgo := hx9.2.1
          have hlen := hx9.1.le
          rw [hh] at hgo ⊢
          have hfl := flt_lt hkb
          have htl := hVP.1.tl hkl
          refine TC.mixV [true, true, true, true, true, true, true, false, false, false] _ 10 Tb.mixed rfl (by kernel_rfl) (by kernel_rfl) (by kernel_rfl) (by kernel_rfl) (List.Sublist.refl _) ?_
          refine TV.virt 0 rfl rfl (by decide) rfl (by kernel_rfl) (SOK.pure (PV.fieldAddr rfl Tb.fo_111_0) rfl) ?_
          refine TV.virt 1 rfl rfl (by decide) rfl (by kernel_rfl) (SOK.pure (PV.load rfl Tb.one_81 (by repeat (first | exact List.Mem.head _ | refine List.Mem.tail _ ?_ | refine List.mem_append_right _ ?_)) rfl) rfl) ?_
          refine TV.virt 2 rfl rfl (by decide) rfl (by kernel_rfl) (SOK.pure (PV.fieldAddr rfl Tb.fo_24_1) rfl) ?_
          refine TV.virt 3 rfl rfl (by decide) rfl (by kernel_rfl) (SOK.pure (PV.load rfl Tb.one_22 (by repeat (first | exact List.Mem.head _ | refine List.Mem.tail _ ?_ | refine List.mem_append_right _ ?_)) rfl) rfl) ?_
          refine TV.virt 4 rfl rfl (by decide) rfl (by kernel_rfl) (SOK.pure (PV.move rfl) rfl) ?_
          refine TV.virt 5 rfl rfl (by decide) rfl (by kernel_rfl) (SOK.pure (PV.indexA (j := k) rfl hq1p rfl Tb.elm_22 hke (by omega)) rfl) ?_
          refine TV.virt 6 rfl rfl (by decide) rfl (by kernel_rfl) (SOK.pure (PV.loadAggA rfl Tb.agg_63 rfl (two_cells hq10 hq11)) rfl) ?_
          refine TV.step [7, 8] (by kernel_rfl) (by decide) rfl ⟨⟨_, rfl, ?_⟩, ⟨_, rfl, ?_⟩, trivial⟩
          · skip
            refine TL.callBC (f := 118) (pre := []) (caps := []) rfl rfl Tb.gofn_118 (fun a w hs => kinds118_ok w pa pb ca cb (ss.getD k default)) rfl (by decide) (fun _ _ => ?_)
            refine TL.nil ?_
            refine TV.next (.inl (by repeat (first | exact List.Sublist.slnil | exact List.nil_sublist _ | exact List.Sublist.refl _ | refine List.Sublist.cons_cons _ ?_ | refine List.Sublist.cons _ ?_ | refine List.Sublist.trans ?_ (List.sublist_append_right _ _)))) ?_
            refine TV.step [8] (by kernel_rfl) (by decide) rfl ⟨⟨_, rfl, ?_⟩, trivial⟩
            refine TL.alloc Tb.zero_25 rfl (by decide) (fun bq hbq => ?_)
            refine TL.nil ?_
            refine TV.next (.inl (by repeat (first | exact List.Sublist.slnil | exact List.nil_sublist _ | exact List.Sublist.refl _ | refine List.Sublist.cons_cons _ ?_ | refine List.Sublist.cons _ ?_ | refine List.Sublist.trans ?_ (List.sublist_append_right _ _)))) ?_
            refine TV.step [9] (by kernel_rfl) (by decide) rfl ⟨⟨_, rfl, ?_⟩, trivial⟩
            refine TL.store rfl rfl Tb.cells_25 rfl (by repeat (first | exact Upd.head _ | apply Upd.tail | apply Upd.appR)) (by first | decide | (simp; done) | (simp; omega) | omega) rfl rfl ?_
            refine TL.nil ?_
            refine TV.next (.inr (by kernel_rfl)) ?_
            refine TV.done (by kernel_rfl) ?_
            refine TQ.thenC ?_
            refine TC.region ?_
            refine TL.pure (PV.move rfl) rfl (by decide) ?_
            refine TL.pure (PV.makeFuncB (pre := []) (caps := [_]) rfl rfl) rfl (by decide) ?_
            refine TL.perm (G' := gbI (some (b9, c9, p9), x.2.1) ++ ((bq, Obj.cells #[.slice pb (ss.getD k default).g.length cb] 25 (0, 0)) :: [(bk, Obj.cells #[.func (.func 118) #[] #[], .func (.func 117) #[] #[]] 111 (0, 0)), (b0, Obj.cells #[.int .i64 n, .slice p ss.length cp] 24 (0, 0))])) List.perm_middle ?_
            refine TL.callW (X := List Value) (fun _ => .slice (some ⟨b9, 0, none⟩) (x.2.1.filter (fun x => !decide (0 < (kS 0 (ss.getD k default)).g.getD x.toNat 0))).length c9) (fun s => goI (some (b9, c9, s), x.2.1.filter (fun x => !decide (0 < (kS 0 (ss.getD k default)).g.getD x.toNat 0)))) (fun s => gbI (some (b9, c9, s), x.2.1.filter (fun x => !decide (0 < (kS 0 (ss.getD k default)).g.getD x.toNat 0))) ++ ((bq, Obj.cells #[.slice pb (ss.getD k default).g.length cb] 25 (0, 0)) :: [(bk, Obj.cells #[.func (.func 118) #[] #[], .func (.func 117) #[] #[]] 111 (0, 0)), (b0, Obj.cells #[.int .i64 n, .slice p ss.length cp] 24 (0, 0))])) rfl Tb.gofn_113 (fun a w hs => delete_ok (sp := p9) hs.new (by omega) hgo 114 [.pointer (some ⟨bq, 0, none⟩)] (fun x => !decide (0 < (kS 0 (ss.getD k default)).g.getD x.toNat 0)) Tb.gofn_114 (fun w1 ys hn1 z hm => (by simp only [Bool.not_not]; exact greatestF_ok w1 z ⟨bq, 0, none⟩ pb cb (ss.getD k default).g (htb.new hn1) (hn1.cell (by repeat (first | exact List.Mem.head _ | refine List.Mem.tail _ ?_ | refine List.mem_append_right _ ?_)) rfl) (by have h8 := hx9.1.inp hVP.2.inp z hm; omega)))) rfl (by decide) (fun s9 hs9 => ?_)
            refine TL.pure (PV.assign rfl) rfl (by decide) ?_
            refine TL.nil ?_
            refine TQ.blkN ?_
            refine TQ.thenC ?_
            refine TC.region ?_
            refine TL.pure (PV.loadBox (cs := [.func (.func 118) #[] #[], .func (.func 117) #[] #[]]) rfl Tb.agg_111 (by repeat (first | exact List.Mem.head _ | refine List.Mem.tail _ ?_ | refine List.mem_append_right _ ?_)) rfl) rfl (by decide) ?_
            refine TL.pure (PV.loadBox rfl Tb.agg_24 (by repeat (first | exact List.Mem.head _ | refine List.Mem.tail _ ?_ | refine List.mem_append_right _ ?_)) rfl) rfl (by decide) ?_
            refine TL.pure (PV.move rfl) rfl (by decide) ?_
            refine TL.call rfl Tb.gofn_111 (fun a w hs => breaker0_ok w _ _ _ _ (hr.new hs.new) hS hVP.1 _ (x.2.1.filter fun x => !decide (0 < (kS 0 (ss.getD k default)).g.getD x.toNat 0)) (IsI.g (h := some (b9, c9, s9)) hs.new (fun yy hyy => by repeat (first | exact List.mem_append_left _ hyy | exact List.mem_append_left _ (List.mem_append_right _ hyy) | exact List.mem_append_left _ (List.mem_append_left _ hyy) | refine List.mem_append_right _ ?_ | refine List.Mem.tail _ ?_)) hs9) (by omega) ((hx9.1.step hkm hkb).inp hVP.2.inp)) rfl (by decide) (fun i8 hi8 => ?_)
            refine TL.pure (PV.assign rfl) rfl (by decide) ?_
            refine TL.nil ?_
            refine TQ.thenN ?_
            refine TQ.backK (some (b9, c9, s9), x.2.1.filter (fun x => !decide (0 < (kS 0 (ss.getD k default)).g.getD x.toNat 0)), i8) (by repeat (first | exact True.intro | refine And.intro rfl ?_)) (by repeat (first | exact True.intro | refine And.intro rfl ?_)) (List.Sublist.append_left (List.sublist_cons_self _ _) _) ⟨hx9.1.step hkm hkb, hs9, hi8⟩ (by simp only; exact hfl)
          · skip
            refine TL.alloc Tb.zero_25 rfl (by decide) (fun bq hbq => ?_)
            refine TL.nil ?_
            refine TV.next (.inl (by repeat (first | exact List.Sublist.slnil | exact List.nil_sublist _ | exact List.Sublist.refl _ | refine List.Sublist.cons_cons _ ?_ | refine List.Sublist.cons _ ?_ | refine List.Sublist.trans ?_ (List.sublist_append_right _ _)))) ?_
            refine TV.step [7] (by kernel_rfl) (by decide) rfl ⟨⟨_, rfl, ?_⟩, trivial⟩
            refine TL.callBC (f := 118) (pre := []) (caps := []) rfl rfl Tb.gofn_118 (fun a w hs => kinds118_ok w pa pb ca cb (ss.getD k default)) rfl (by decide) (fun _ _ => ?_)
            refine TL.nil ?_
            refine TV.next (.inl (by repeat (first | exact List.Sublist.slnil | exact List.nil_sublist _ | exact List.Sublist.refl _ | refine List.Sublist.cons_cons _ ?_ | refine List.Sublist.cons _ ?_ | refine List.Sublist.trans ?_ (List.sublist_append_right _ _)))) ?_
            refine TV.step [9] (by kernel_rfl) (by decide) rfl ⟨⟨_, rfl, ?_⟩, trivial⟩
            refine TL.store rfl rfl Tb.cells_25 rfl (by repeat (first | exact Upd.head _ | apply Upd.tail | apply Upd.appR)) (by first | decide | (simp; done) | (simp; omega) | omega) rfl rfl ?_
            refine TL.nil ?_
            refine TV.next (.inr (by kernel_rfl)) ?_
            refine TV.done (by kernel_rfl) ?_
            refine TQ.thenC ?_
            refine TC.region ?_
            refine TL.pure (PV.move rfl) rfl (by decide) ?_
            refine TL.pure (PV.makeFuncB (pre := []) (caps := [_]) rfl rfl) rfl (by decide) ?_
            refine TL.perm (G' := gbI (some (b9, c9, p9), x.2.1) ++ ((bq, Obj.cells #[.slice pb (ss.getD k default).g.length cb] 25 (0, 0)) :: [(bk, Obj.cells #[.func (.func 118) #[] #[], .func (.func 117) #[] #[]] 111 (0, 0)), (b0, Obj.cells #[.int .i64 n, .slice p ss.length cp] 24 (0, 0))])) List.perm_middle ?_
            refine TL.callW (X := List Value) (fun _ => .slice (some ⟨b9, 0, none⟩) (x.2.1.filter (fun x => !decide (0 < (kS 0 (ss.getD k default)).g.getD x.toNat 0))).length c9) (fun s => goI (some (b9, c9, s), x.2.1.filter (fun x => !decide (0 < (kS 0 (ss.getD k default)).g.getD x.toNat 0)))) (fun s => gbI (some (b9, c9, s), x.2.1.filter (fun x => !decide (0 < (kS 0 (ss.getD k default)).g.getD x.toNat 0))) ++ ((bq, Obj.cells #[.slice pb (ss.getD k default).g.length cb] 25 (0, 0)) :: [(bk, Obj.cells #[.func (.func 118) #[] #[], .func (.func 117) #[] #[]] 111 (0, 0)), (b0, Obj.cells #[.int .i64 n, .slice p ss.length cp] 24 (0, 0))])) rfl Tb.gofn_113 (fun a w hs => delete_ok (sp := p9) hs.new (by omega) hgo 114 [.pointer (some ⟨bq, 0, none⟩)] (fun x => !decide (0 < (kS 0 (ss.getD k default)).g.getD x.toNat 0)) Tb.gofn_114 (fun w1 ys hn1 z hm => (by simp only [Bool.not_not]; exact greatestF_ok w1 z ⟨bq, 0, none⟩ pb cb (ss.getD k default).g (htb.new hn1) (hn1.cell (by repeat (first | exact List.Mem.head _ | refine List.Mem.tail _ ?_ | refine List.mem_append_right _ ?_)) rfl) (by have h8 := hx9.1.inp hVP.2.inp z hm; omega)))) rfl (by decide) (fun s9 hs9 => ?_)
            refine TL.pure (PV.assign rfl) rfl (by decide) ?_
            refine TL.nil ?_
            refine TQ.blkN ?_
            refine TQ.thenC ?_
            refine TC.region ?_
            refine TL.pure (PV.loadBox (cs := [.func (.func 118) #[] #[], .func (.func 117) #[] #[]]) rfl Tb.agg_111 (by repeat (first | exact List.Mem.head _ | refine List.Mem.tail _ ?_ | refine List.mem_append_right _ ?_)) rfl) rfl (by decide) ?_
            refine TL.pure (PV.loadBox rfl Tb.agg_24 (by repeat (first | exact List.Mem.head _ | refine List.Mem.tail _ ?_ | refine List.mem_append_right _ ?_)) rfl) rfl (by decide) ?_
            refine TL.pure (PV.move rfl) rfl (by decide) ?_
            refine TL.call rfl Tb.gofn_111 (fun a w hs => breaker0_ok w _ _ _ _ (hr.new hs.new) hS hVP.1 _ (x.2.1.filter fun x => !decide (0 < (kS 0 (ss.getD k default)).g.getD x.toNat 0)) (IsI.g (h := some (b9, c9, s9)) hs.new (fun yy hyy => by repeat (first | exact List.mem_append_left _ hyy | exact List.mem_append_left _ (List.mem_append_right _ hyy) | exact List.mem_append_left _ (List.mem_append_left _ hyy) | refine List.mem_append_right _ ?_ | refine List.Mem.tail _ ?_)) hs9) (by omega) ((hx9.1.step hkm hkb).inp hVP.2.inp)) rfl (by decide) (fun i8 hi8 => ?_)
            refine TL.pure (PV.assign rfl) rfl (by decide) ?_
            refine TL.nil ?_
            refine TQ.thenN ?_
            refine TQ.backK (some (b9, c9, s9), x.2.1.filter (fun x => !decide (0 < (kS 0 (ss.getD k default)).g.getD x.toNat 0)), i8) (by repeat (first | exact True.intro | refine And.intro rfl ?_)) (by repeat (first | exact True.intro | refine And.intro rfl ?_)) (List.Sublist.append_left (List.sublist_cons_self _ _) _) ⟨hx9.1.step hkm hkb, hs9, hi8⟩ (by simp only; exact hfl)
        · skip
          refine TC.exit ?_
          refine TQ.thenE ?_
          refine TQ.thenE ?_
          refine TQ.blkS ?_
          refine TQ.thenC ?_
          refine TC.seq ?_
          refine TC.region ?_
          refine TL.pure (PV.move rfl) rfl (by decide) ?_
          refine TL.pure (PV.assign rfl) rfl (by decide) ?_
          refine TL.pure (PV.assign rfl) rfl (by decide) ?_
          refine TL.nil ?_
          refine TQ.thenC ?_
          refine TC.ret ?_
          refine TQ.retE2 rfl rfl rfl ?_
          have e9 := gr_0 (kd := 0) a1
          have e8 := hx9.1.fin (no_brk hx9.2.2 hge)
          exact ⟨x.1, by rw [e9, ← e8], by rw [e9, ← e8]; exact hx9.2.1, by rw [e9, ← e8]; exact List.sublist_append_left _ _⟩
    · skip
      refine TL.alloc Tb.zero_111 rfl (by decide) (fun bk hbk => ?_)
      refine TL.nil ?_
      refine TV.next (.inl (by repeat (first | exact List.Sublist.slnil | exact List.nil_sublist _ | exact List.Sublist.refl _ | refine List.Sublist.cons_cons _ ?_ | refine List.Sublist.cons _ ?_ | refine List.Sublist.trans ?_ (List.sublist_append_right _ _)))) ?_
      refine TV.step [0] (by kernel_rfl) (by decide) rfl ⟨⟨_, rfl, ?_⟩, trivial⟩
      refine TL.call rfl Tb.gofn_110 (fun a w hs => kinds_ok w) rfl (by decide) (fun _ _ => ?_)
      refine TL.nil ?_
      refine TV.next (.inl (by repeat (first | exact List.Sublist.slnil | exact List.nil_sublist _ | exact List.Sublist.refl _ | refine List.Sublist.cons_cons _ ?_ | refine List.Sublist.cons _ ?_ | refine List.Sublist.trans ?_ (List.sublist_append_right _ _)))) ?_
      refine TV.virt 2 rfl rfl (by decide) rfl (by kernel_rfl) (SOK.pure (PV.indexV (j := 0) (v := .agg #[.func (.func 118) #[] #[], .func (.func 117) #[] #[]]) rfl rfl arr_112 rfl (by decide) (fun w => part0 w)) rfl) ?_
      refine TV.step [4] (by kernel_rfl) (by decide) rfl ⟨⟨_, rfl, ?_⟩, trivial⟩
      refine TL.call rfl Tb.gofn_97 (fun a w hs => clone_ok w _ _ _ (hx.new hs.new) hl) rfl (by decide) (fun h9 hh9 => ?_)
      refine TL.nil ?_
      refine TV.next (.inl (by repeat (first | exact List.Sublist.slnil | exact List.nil_sublist _ | exact List.Sublist.refl _ | refine List.Sublist.cons_cons _ ?_ | refine List.Sublist.cons _ ?_ | refine List.Sublist.trans ?_ (List.sublist_append_right _ _)))) ?_
      refine TV.step [6] (by kernel_rfl) (by decide) rfl ⟨⟨_, rfl, ?_⟩, trivial⟩
      refine TL.storeAgg (vs := [.func (.func 118) #[] #[], .func (.func 117) #[] #[]]) rfl rfl Tb.cells_111 (by repeat (first | exact Upd.head _ | apply Upd.tail | apply Upd.appR)) rfl rfl rfl rfl rfl ?_
      refine TL.nil ?_
      refine TV.next (.inl (by repeat (first | exact List.Sublist.slnil | exact List.nil_sublist _ | exact List.Sublist.refl _ | refine List.Sublist.cons_cons _ ?_ | refine List.Sublist.cons _ ?_ | refine List.Sublist.trans ?_ (List.sublist_append_right _ _)))) ?_
      refine TV.virt 7 rfl rfl (by decide) rfl (by kernel_rfl) (SOK.pure (PV.assign rfl) rfl) ?_
      refine TV.done (by kernel_rfl) ?_
      refine TQ.thenC ?_
      refine TC.seq ?_
      refine TC.seq ?_
      first | refine TC.perm (G' := gbI (h9, xs) ++ [(bk, Obj.cells #[.func (.func 118) #[] #[], .func (.func 117) #[] #[]] 111 (0, 0)), (b0, Obj.cells #[.int .i64 n, .slice p ss.length cp] 24 (0, 0))]) (List.Perm.refl _) ?_ | refine TC.perm (G' := gbI (h9, xs) ++ [(bk, Obj.cells #[.func (.func 118) #[] #[], .func (.func 117) #[] #[]] 111 (0, 0)), (b0, Obj.cells #[.int .i64 n, .slice p ss.length cp] 24 (0, 0))]) List.perm_middle ?_
      refine TC.region ?_
      refine TL.pure (PV.loadBox (cs := [.func (.func 118) #[] #[], .func (.func 117) #[] #[]]) rfl Tb.agg_111 (by repeat (first | exact List.Mem.head _ | refine List.Mem.tail _ ?_ | refine List.mem_append_right _ ?_)) rfl) rfl (by decide) ?_
      refine TL.pure (PV.loadBox rfl Tb.agg_24 (by repeat (first | exact List.Mem.head _ | refine List.Mem.tail _ ?_ | refine List.mem_append_right _ ?_)) rfl) rfl (by decide) ?_
      refine TL.pure (PV.move rfl) rfl (by decide) ?_
      refine TL.call rfl Tb.gofn_111 (fun a w hs => breaker0_ok w _ _ _ _ (hr.new hs.new) hS hVP.1 _ xs (IsI.g hs.new (fun yy hyy => by repeat (first | exact List.mem_append_left _ hyy | exact List.mem_append_left _ (List.mem_append_right _ hyy) | exact List.mem_append_left _ (List.mem_append_left _ hyy) | refine List.mem_append_right _ ?_ | refine List.Mem.tail _ ?_)) hh9) hl hVP.2.inp) rfl (by decide) (fun i9 hi9 => ?_)
      refine TL.pure (PV.assign rfl) rfl (by decide) ?_
      refine TL.nil ?_
      refine TQ.thenC ?_
      refine TC.block ?_
      refine TC.lit [(3, _), (6, _), (7, _), (9, _), (10, _), (11, _)] (by repeat (first | exact True.intro | refine And.intro rfl ?_)) ?_
      refine TC.loopK [3, 6, 7, 9] (X := HD × List Int × Int) (fun x => GrI (ss.map (kS 0)) xs x.2.1 ∧ goI (x.1, x.2.1) ∧ Fst (fun s => brk (kS 0 s) x.2.1) ss x.2.2) (fun x => [(10, gval x.1 x.2.1.length), (11, .int .i64 x.2.2)]) (fun x => gbI (x.1, x.2.1) ++ [(bk, Obj.cells #[.func (.func 118) #[] #[], .func (.func 117) #[] #[]] 111 (0, 0)), (b0, Obj.cells #[.int .i64 n, .slice p ss.length cp] 24 (0, 0))]) (fun x => x.2.1.length) (h9, xs, i9) ⟨GrI.zero _ _, hh9, hi9⟩ (by repeat (first | exact True.intro | refine And.intro rfl ?_)) (by repeat (first | exact List.Sublist.slnil | exact List.nil_sublist _ | exact List.Sublist.refl _ | refine List.Sublist.cons_cons _ ?_ | refine List.Sublist.cons _ ?_ | refine List.Sublist.trans ?_ (List.sublist_append_right _ _))) ?_
      intro x hx9
      refine TC.lit [(3, _), (6, _), (7, _), (9, _), (10, _), (11, _)] (by repeat (first | exact True.intro | refine And.intro rfl ?_)) ?_
      refine TC.seq ?_
      refine TC.seq ?_
      refine TC.region ?_
      refine TL.pure (PV.move rfl) rfl (by decide) ?_
      refine TL.pure (PV.geq rfl rfl) rfl (by decide) ?_
      refine TL.nil ?_
      refine TQ.thenC ?_
      first | refine TC.condD rfl (fun hge => ?_) (fun hge => ?_) | refine TC.cond rfl (fun hge => ?_) (fun hge => ?_)
      · skip
        refine TC.skip ?_
        refine TQ.thenC ?_
        refine TC.seq ?_
        refine TC.block ?_
        refine TC.seq ?_
        obtain ⟨k, hke, hkl, hkb, hkm⟩ := a_brk hx9.2.2 hge
        obtain ⟨q1, hq1p, pa, pb, ca, cb, hq10, hq11, hta, htb⟩ := hr k (by omega)
        have hne : x.2.1 ≠ [] := fun h => by rw [h] at hkb; exact brk_nil hkb
        obtain ⟨b9, c9, p9, hh⟩ := goI_some hx9.2.1 hne
        have hgo := hx9.2.1
        have hlen := hx9.1.le
        rw [hh] at hgo ⊢
        have hfl := flt_lt hkb
        have htl := hVP.1.tl hkl
        refine TC.mixV [true, true, true, true, true, true, true, false, false, false] _ 10 Tb.mixed rfl (by kernel_rfl) (by kernel_rfl) (by kernel_rfl) (by kernel_rfl) (List.Sublist.refl _) ?_
        refine TV.virt 0 rfl rfl (by decide) rfl (by kernel_rfl) (SOK.pure (PV.fieldAddr rfl Tb.fo_111_0) rfl) ?_
        refine TV.virt 1 rfl rfl (by decide) rfl (by kernel_rfl) (SOK.pure (PV.load rfl Tb.one_81 (by repeat (first | exact List.Mem.head _ | refine List.Mem.tail _ ?_ | refine List.mem_append_right _ ?_)) rfl) rfl) ?_
        refine TV.virt 2 rfl rfl (by decide) rfl (by kernel_rfl) (SOK.pure (PV.fieldAddr rfl Tb.fo_24_1) rfl) ?_
        refine TV.virt 3 rfl rfl (by decide) rfl (by kernel_rfl) (SOK.pure (PV.load rfl Tb.one_22 (by repeat (first | exact List.Mem.head _ | refine List.Mem.tail _ ?_ | refine List.mem_append_right _ ?_)) rfl) rfl) ?_
        refine TV.virt 4 rfl rfl (by decide) rfl (by kernel_rfl) (SOK.pure (PV.move rfl) rfl) ?_
        refine TV.virt 5 rfl rfl (by decide) rfl (by kernel_rfl) (SOK.pure (PV.indexA (j := k) rfl hq1p rfl Tb.elm_22 hke (by omega)) rfl) ?_
        refine TV.virt 6 rfl rfl (by decide) rfl (by kernel_rfl) (SOK.pure (PV.loadAggA rfl Tb.agg_63 rfl (two_cells hq10 hq11)) rfl) ?_
        refine TV.step [7, 8] (by kernel_rfl) (by decide) rfl ⟨⟨_, rfl, ?_⟩, ⟨_, rfl, ?_⟩, trivial⟩
        · skip
          refine TL.callBC (f := 118) (pre := []) (caps := []) rfl rfl Tb.gofn_118 (fun a w hs => kinds118_ok w pa pb ca cb (ss.getD k default)) rfl (by decide) (fun _ _ => ?_)
          refine TL.nil ?_
          refine TV.next (.inl (by repeat (first | exact List.Sublist.slnil | exact List.nil_sublist _ | exact List.Sublist.refl _ | refine List.Sublist.cons_cons _ ?_ | refine List.Sublist.cons _ ?_ | refine List.Sublist.trans ?_ (List.sublist_append_right _ _)))) ?_
          refine TV.step [8] (by kernel_rfl) (by decide) rfl ⟨⟨_, rfl, ?_⟩, trivial⟩
          refine TL.alloc Tb.zero_25 rfl (by decide) (fun bq hbq => ?_)
          refine TL.nil ?_
          refine TV.next (.inl (by repeat (first | exact List.Sublist.slnil | exact List.nil_sublist _ | exact List.Sublist.refl _ | refine List.Sublist.cons_cons _ ?_ | refine List.Sublist.cons _ ?_ | refine List.Sublist.trans ?_ (List.sublist_append_right _ _)))) ?_
          refine TV.step [9] (by kernel_rfl) (by decide) rfl ⟨⟨_, rfl, ?_⟩, trivial⟩
          refine TL.store rfl rfl Tb.cells_25 rfl (by repeat (first | exact Upd.head _ | apply Upd.tail | apply Upd.appR)) (by first | decide | (simp; done) | (simp; omega) | omega) rfl rfl ?_
          refine TL.nil ?_
          refine TV.next (.inr (by kernel_rfl)) ?_
          refine TV.done (by kernel_rfl) ?_
          refine TQ.thenC ?_
          refine TC.region ?_
          refine TL.pure (PV.move rfl) rfl (by decide) ?_
          refine TL.pure (PV.makeFuncB (pre := []) (caps := [_]) rfl rfl) rfl (by decide) ?_
          refine TL.perm (G' := gbI (some (b9, c9, p9), x.2.1) ++ ((bq, Obj.cells #[.slice pb (ss.getD k default).g.length cb] 25 (0, 0)) :: [(bk, Obj.cells #[.func (.func 118) #[] #[], .func (.func 117) #[] #[]] 111 (0, 0)), (b0, Obj.cells #[.int .i64 n, .slice p ss.length cp] 24 (0, 0))])) List.perm_middle ?_
          refine TL.callW (X := List Value) (fun _ => .slice (some ⟨b9, 0, none⟩) (x.2.1.filter (fun x => !decide (0 < (kS 0 (ss.getD k default)).g.getD x.toNat 0))).length c9) (fun s => goI (some (b9, c9, s), x.2.1.filter (fun x => !decide (0 < (kS 0 (ss.getD k default)).g.getD x.toNat 0)))) (fun s => gbI (some (b9, c9, s), x.2.1.filter (fun x => !decide (0 < (kS 0 (ss.getD k default)).g.getD x.toNat 0))) ++ ((bq, Obj.cells #[.slice pb (ss.getD k default).g.length cb] 25 (0, 0)) :: [(bk, Obj.cells #[.func (.func 118) #[] #[], .func (.func 117) #[] #[]] 111 (0, 0)), (b0, Obj.cells #[.int .i64 n, .slice p ss.length cp] 24 (0, 0))])) rfl Tb.gofn_113 (fun a w hs => delete_ok (sp := p9) hs.new (by omega) hgo 114 [.pointer (some ⟨bq, 0, none⟩)] (fun x => !decide (0 < (kS 0 (ss.getD k default)).g.getD x.toNat 0)) Tb.gofn_114 (fun w1 ys hn1 z hm => (by simp only [Bool.not_not]; exact greatestF_ok w1 z ⟨bq, 0, none⟩ pb cb (ss.getD k default).g (htb.new hn1) (hn1.cell (by repeat (first | exact List.Mem.head _ | refine List.Mem.tail _ ?_ | refine List.mem_append_right _ ?_)) rfl) (by have h8 := hx9.1.inp hVP.2.inp z hm; omega)))) rfl (by decide) (fun s9 hs9 => ?_)
          refine TL.pure (PV.assign rfl) rfl (by decide) ?_
          refine TL.nil ?_
          refine TQ.blkN ?_
          refine TQ.thenC ?_
          refine TC.region ?_
          refine TL.pure (PV.loadBox (cs := [.func (.func 118) #[] #[], .func (.func 117) #[] #[]]) rfl Tb.agg_111 (by repeat (first | exact List.Mem.head _ | refine List.Mem.tail _ ?_ | refine List.mem_append_right _ ?_)) rfl) rfl (by decide) ?_
          refine TL.pure (PV.loadBox rfl Tb.agg_24 (by repeat (first | exact List.Mem.head _ | refine List.Mem.tail _ ?_ | refine List.mem_append_right _ ?_)) rfl) rfl (by decide) ?_
          refine TL.pure (PV.move rfl) rfl (by decide) ?_
          refine TL.call rfl Tb.gofn_111 (fun a w hs => breaker0_ok w _ _ _ _ (hr.new hs.new) hS hVP.1 _ (x.2.1.filter fun x => !decide (0 < (kS 0 (ss.getD k default)).g.getD x.toNat 0)) (IsI.g (h := some (b9, c9, s9)) hs.new (fun yy hyy => by repeat (first | exact List.mem_append_left _ hyy | exact List.mem_append_left _ (List.mem_append_right _ hyy) | exact List.mem_append_left _ (List.mem_append_left _ hyy) | refine List.mem_append_right _ ?_ | refine List.Mem.tail _ ?_)) hs9) (by omega) ((hx9.1.step hkm hkb).inp hVP.2.inp)) rfl (by decide) (fun i8 hi8 => ?_)
          refine TL.pure (PV.assign rfl) rfl (by decide) ?_
          refine TL.nil ?_
          refine TQ.thenN ?_
          refine TQ.backK (some (b9, c9, s9), x.2.1.filter (fun x => !decide (0 < (kS 0 (ss.getD k default)).g.getD x.toNat 0)), i8) (by repeat (first | exact True.intro | refine And.intro rfl ?_)) (by repeat (first | exact True.intro | refine And.intro rfl ?_)) (List.Sublist.append_left (List.sublist_cons_self _ _) _) ⟨hx9.1.step hkm hkb, hs9, hi8⟩ (by simp only; exact hfl)
        · skip
          refine TL.alloc Tb.zero_25 rfl (by decide) (fun bq hbq => ?_)
          refine TL.nil ?_
          refine TV.next (.inl (by repeat (first | exact List.Sublist.slnil | exact List.nil_sublist _ | exact List.Sublist.refl _ | refine List.Sublist.cons_cons _ ?_ | refine List.Sublist.cons _ ?_ | refine List.Sublist.trans ?_ (List.sublist_append_right _ _)))) ?_
          refine TV.step [7] (by kernel_rfl) (by decide) rfl ⟨⟨_, rfl, ?_⟩, trivial⟩
          refine TL.callBC (f := 118) (pre := []) (caps := []) rfl rfl Tb.gofn_118 (fun a w hs => kinds118_ok w pa pb ca cb (ss.getD k default)) rfl (by decide) (fun _ _ => ?_)
          refine TL.nil ?_
          refine TV.next (.inl (by repeat (first | exact List.Sublist.slnil | exact List.nil_sublist _ | exact List.Sublist.refl _ | refine List.Sublist.cons_cons _ ?_ | refine List.Sublist.cons _ ?_ | refine List.Sublist.trans ?_ (List.sublist_append_right _ _)))) ?_
          refine TV.step [9] (by kernel_rfl) (by decide) rfl ⟨⟨_, rfl, ?_⟩, trivial⟩
          refine TL.store rfl rfl Tb.cells_25 rfl (by repeat (first | exact Upd.head _ | apply Upd.tail | apply Upd.appR)) (by first | decide | (simp; done) | (simp; omega) | omega) rfl rfl ?_
          refine TL.nil ?_
          refine TV.next (.inr (by kernel_rfl)) ?_
          refine TV.done (by kernel_rfl) ?_
          refine TQ.thenC ?_
          refine TC.region ?_
          refine TL.pure (PV.move rfl) rfl (by decide) ?_
          refine TL.pure (PV.makeFuncB (pre := []) (caps := [_]) rfl rfl) rfl (by decide) ?_
          refine TL.perm (G' := gbI (some (b9, c9, p9), x.2.1) ++ ((bq, Obj.cells #[.slice pb (ss.getD k default).g.length cb] 25 (0, 0)) :: [(bk, Obj.cells #[.func (.func 118) #[] #[], .func (.func 117) #[] #[]] 111 (0, 0)), (b0, Obj.cells #[.int .i64 n, .slice p ss.length cp] 24 (0, 0))])) List.perm_middle ?_
          refine TL.callW (X := List Value) (fun _ => .slice (some ⟨b9, 0, none⟩) (x.2.1.filter (fun x => !decide (0 < (kS 0 (ss.getD k default)).g.getD x.toNat 0))).length c9) (fun s => goI (some (b9, c9, s), x.2.1.filter (fun x => !decide (0 < (kS 0 (ss.getD k default)).g.getD x.toNat 0)))) (fun s => gbI (some (b9, c9, s), x.2.1.filter (fun x => !decide (0 < (kS 0 (ss.getD k default)).g.getD x.toNat 0))) ++ ((bq, Obj.cells #[.slice pb (ss.getD k default).g.length cb] 25 (0, 0)) :: [(bk, Obj.cells #[.func (.func 118) #[] #[], .func (.func 117) #[] #[]] 111 (0, 0)), (b0, Obj.cells #[.int .i64 n, .slice p ss.length cp] 24 (0, 0))])) rfl Tb.gofn_113 (fun a w hs => delete_ok (sp := p9) hs.new (by omega) hgo 114 [.pointer (some ⟨bq, 0, none⟩)] (fun x => !decide (0 < (kS 0 (ss.getD k default)).g.getD x.toNat 0)) Tb.gofn_114 (fun w1 ys hn1 z hm => (by simp only [Bool.not_not]; exact greatestF_ok w1 z ⟨bq, 0, none⟩ pb cb (ss.getD k default).g (htb.new hn1) (hn1.cell (by repeat (first | exact List.Mem.head _ | refine List.Mem.tail _ ?_ | refine List.mem_append_right _ ?_)) rfl) (by have h8 := hx9.1.inp hVP.2.inp z hm; omega)))) rfl (by decide) (fun s9 hs9 => ?_)
          refine TL.pure (PV.assign rfl) rfl (by decide) ?_
          refine TL.nil ?_
          refine TQ.blkN ?_
          refine TQ.thenC ?_
          refine TC.region ?_
          refine TL.pure (PV.loadBox (cs := [.func (.func 118) #[] #[], .func (.func 117) #[] #[]]) rfl Tb.agg_111 (by repeat (first | exact List.Mem.head _ | refine List.Mem.tail _ ?_ | refine List.mem_append_right _ ?_)) rfl) rfl (by decide) ?_
          refine TL.pure (PV.loadBox rfl Tb.agg_24 (by repeat (first | exact List.Mem.head _ | refine List.Mem.tail _ ?_ | refine List.mem_append_right _ ?_)) rfl) rfl (by decide) ?_
          refine TL.pure (PV.move rfl) rfl (by decide) ?_
          refine TL.call rfl Tb.gofn_111 (fun a w hs => breaker0_ok w _ _ _ _ (hr.new hs.new) hS hVP.1 _ (x.2.1.filter fun x => !decide (0 < (kS 0 (ss.getD k default)).g.getD x.toNat 0)) (IsI.g (h := some (b9, c9, s9)) hs.new (fun yy hyy => by repeat (first | exact List.mem_append_left _ hyy | exact List.mem_append_left _ (List.mem_append_right _ hyy) | exact List.mem_append_left _ (List.mem_append_left _ hyy) | refine List.mem_append_right _ ?_ | refine List.Mem.tail _ ?_)) hs9) (by omega) ((hx9.1.step hkm hkb).inp hVP.2.inp)) rfl (by decide) (fun i8 hi8 => ?_)
          refine TL.pure (PV.assign rfl) rfl (by decide) ?_
          refine TL.nil ?_
          refine TQ.thenN ?_
          refine TQ.backK (some (b9, c9, s9), x.2.1.filter (fun x => !decide (0 < (kS 0 (ss.getD k default)).g.getD x.toNat 0)), i8) (by repeat (first | exact True.intro | refine And.intro rfl ?_)) (by repeat (first | exact True.intro | refine And.intro rfl ?_)) (List.Sublist.append_left (List.sublist_cons_self _ _) _) ⟨hx9.1.step hkm hkb, hs9, hi8⟩ (by simp only; exact hfl)
      · skip
        refine TC.exit ?_
        refine TQ.thenE ?_
        refine TQ.thenE ?_
        refine TQ.blkS ?_
        refine TQ.thenC ?_
        refine TC.seq ?_
        refine TC.region ?_
        refine TL.pure (PV.move rfl) rfl (by decide) ?_
        refine TL.pure (PV.assign rfl) rfl (by decide) ?_
        refine TL.pure (PV.assign rfl) rfl (by decide) ?_
        refine TL.nil ?_
        refine TQ.thenC ?_
        refine TC.ret ?_
        refine TQ.retE2 rfl rfl rfl ?_
        have e9 := gr_0 (kd := 0) a1
        have e8 := hx9.1.fin (no_brk hx9.2.2 hge)
        exact ⟨x.1, by rw [e9, ← e8], by rw [e9, ← e8]; exact hx9.2.1, by rw [e9, ← e8]; exact List.sublist_append_left _ _⟩

theorem part1 (w : World) : (part 111 #[.func (.func 118) #[] #[], .func (.func 117) #[] #[], .func (.func 117) #[] #[], .func (.func 118) #[] #[]] (1 * 2)).run Try.prog w = .ok (.agg #[.func (.func 117) #[] #[], .func (.func 118) #[] #[]]) w := by
  have h : Try.prog.underlying 111 = some (.struct (Try.prog.fieldsOf 111)) := by kernel_rfl
  have h2 : (Try.prog.info? 111).map (·.size) = some 2 := by kernel_rfl
  cases hi : Try.prog.info? 111 with
  | none => simp [hi] at h2
  | some inf =>
    simp [hi] at h2
    simp [part, isAgg, run_underlying h, sizeOf, typeInfo, hi, h2]

set_option maxRecDepth 100000 in
set_option maxHeartbeats 1000000 in
theorem isOfKind1_ok (w0 : World) (n : Int) (p : Option Addr) (cp : Nat) (ss : List St) (hr : StsAt w0 p ss) (hS : SmS ss) (vx : Value) (xs : List Int) (hv : IsI w0 vx xs) (hl : xs.length ≤ 1000000) :
    Calls Try.prog 98 #[yv n p ss.length cp, vx, .int .i64 1] w0 (Post (X := Unit) (fun _ => .tuple #[.bool (kindR 1 n ss xs).1, .int .i64 (kindR 1 n ss xs).2]) (fun _ => True) (fun _ => []) w0) := by
  obtain ⟨pl, cl, rfl, hx⟩ := hv
  refine calls Try.func98 rfl (n := 22) rfl (by simp) ?_
  refine TC.seq ?_
  refine TC.region ?_
  refine TL.box rfl rfl (by decide) (fun b0 hb0 => ?_)
  refine TL.pure (PV.assign rfl) rfl (by decide) ?_
  refine TL.pure (PV.assign rfl) rfl (by decide) ?_
  refine TL.nil ?_
  refine TQ.thenC ?_
  refine TC.seq ?_
  refine TC.seq ?_
  refine TC.region ?_
  refine TL.pure (PV.loadBox rfl Tb.agg_24 (by repeat (first | exact List.Mem.head _ | refine List.Mem.tail _ ?_ | refine List.mem_append_right _ ?_)) rfl) rfl (by decide) ?_
  refine TL.pure (PV.move rfl) rfl (by decide) ?_
  refine TL.call rfl Tb.gofn_109 (fun a w hs => valSet_ok w _ _ _ _ (hr.new hs.new) hS _ _ (IsI.of (hx.new hs.new)) hl) rfl (by decide) (fun _ _ => ?_)
  refine TL.pure (PV.assign rfl) rfl (by decide) ?_
  refine TL.nil ?_
  refine TQ.thenC ?_
  refine TC.seq ?_
  refine TC.region ?_
  refine TL.pure (PV.move rfl) rfl (by decide) ?_
  refine TL.pure (PV.neq rfl rfl) rfl (by decide) ?_
  refine TL.nil ?_
  refine TQ.thenC ?_
  first | refine TC.condD rfl (fun a1 => ?_) (fun a1 => ?_) | refine TC.cond rfl (fun a1 => ?_) (fun a1 => ?_)
  · skip
    refine TC.seq ?_
    refine TC.region ?_
    refine TL.pure (PV.move rfl) rfl (by decide) ?_
    refine TL.pure (PV.assign rfl) rfl (by decide) ?_
    refine TL.pure (PV.assign rfl) rfl (by decide) ?_
    refine TL.nil ?_
    refine TQ.thenC ?_
    refine TC.ret ?_
    refine TQ.thenR ?_
    refine TQ.retE2 rfl rfl rfl ?_
    exact ⟨(), by rw [kind_1 a1], trivial, List.nil_sublist _⟩
  · skip
    refine TC.skip ?_
    refine TQ.thenC ?_
    refine TC.seq ?_
    have hVP := set_of a1
    refine TC.mixV [false, true, true, true, true, false, true, true, true] [(b0, Obj.cells #[.int .i64 n, .slice p ss.length cp] 24 (0, 0))] 9 Tb.mixed rfl (by kernel_rfl) (by kernel_rfl) (by kernel_rfl) (by kernel_rfl) (by repeat (first | exact List.Sublist.slnil | exact List.nil_sublist _ | exact List.Sublist.refl _ | refine List.Sublist.cons_cons _ ?_ | refine List.Sublist.cons _ ?_ | refine List.Sublist.trans ?_ (List.sublist_append_right _ _))) ?_
    refine TV.virt 1 rfl rfl (by decide) rfl (by kernel_rfl) (SOK.pure (PV.move rfl) rfl) ?_
    refine TV.virt 3 rfl rfl (by decide) rfl (by kernel_rfl) (SOK.pure (PV.loadBox rfl Tb.agg_24 (by repeat (first | exact List.Mem.head _ | refine List.Mem.tail _ ?_ | refine List.mem_append_right _ ?_)) rfl) rfl) ?_
    refine TV.virt 4 rfl rfl (by decide) rfl (by kernel_rfl) (SOK.pure (PV.move rfl) rfl) ?_
    refine TV.step [0] (by kernel_rfl) (by decide) rfl ⟨⟨_, rfl, ?_⟩, trivial⟩
    refine TL.call rfl Tb.gofn_110 (fun a w hs => kinds_ok w) rfl (by decide) (fun _ _ => ?_)
    refine TL.nil ?_
    refine TV.next (.inl (by repeat (first | exact List.Sublist.slnil | exact List.nil_sublist _ | exact List.Sublist.refl _ | refine List.Sublist.cons_cons _ ?_ | refine List.Sublist.cons _ ?_ | refine List.Sublist.trans ?_ (List.sublist_append_right _ _)))) ?_
    refine TV.virt 2 rfl rfl (by decide) rfl (by kernel_rfl) (SOK.pure (PV.indexV (j := 1) (v := .agg #[.func (.func 117) #[] #[], .func (.func 118) #[] #[]]) rfl rfl arr_112 rfl (by decide) (fun w => part1 w)) rfl) ?_
    refine TV.step [5] (by kernel_rfl) (by decide) rfl ⟨⟨_, rfl, ?_⟩, trivial⟩
    refine TL.call rfl Tb.gofn_111 (fun a w hs => breaker1_ok w _ _ _ _ (hr.new hs.new) hS hVP.1 _ _ (IsI.of (hx.new hs.new)) hl hVP.2.inp) rfl (by decide) (fun i9 hi9 => ?_)
    refine TL.nil ?_
    refine TV.next (.inl (by repeat (first | exact List.Sublist.slnil | exact List.nil_sublist _ | exact List.Sublist.refl _ | refine List.Sublist.cons_cons _ ?_ | refine List.Sublist.cons _ ?_ | refine List.Sublist.trans ?_ (List.sublist_append_right _ _)))) ?_
    refine TV.virt 6 rfl rfl (by decide) rfl (by kernel_rfl) (SOK.pure (PV.lss rfl rfl) rfl) ?_
    refine TV.virt 7 rfl rfl (by decide) rfl (by kernel_rfl) (SOK.pure (PV.assign rfl) rfl) ?_
    refine TV.virt 8 rfl rfl (by decide) rfl (by kernel_rfl) (SOK.pure (PV.assign rfl) rfl) ?_
    refine TV.done (by kernel_rfl) ?_
    refine TQ.thenC ?_
    refine TC.ret ?_
    refine TQ.retE2 rfl rfl rfl ?_
    exact ⟨(), by rw [kind_0 a1, sip_map, fst_neg hi9], trivial, List.nil_sublist _⟩

set_option maxRecDepth 100000 in
theorem IsTrap_ok (w0 : World) (n : Int) (p : Option Addr) (cp : Nat) (ss : List St) (hr : StsAt w0 p ss) (hS : SmS ss) (vx : Value) (xs : List Int) (hv : IsI w0 vx xs) (hl : xs.length ≤ 1000000) :
    Calls Try.prog 50 #[yv n p ss.length cp, vx] w0 (Post (X := Unit) (fun _ => .tuple #[.bool (kindR 1 n ss xs).1, .int .i64 (kindR 1 n ss xs).2]) (fun _ => True) (fun _ => []) w0) := by
  refine calls Try.func50 rfl (n := 11) rfl (by simp) ?_
  refine TC.seq ?_
  refine TC.region ?_
  refine TL.box rfl rfl (by decide) (fun b0 hb0 => ?_)
  refine TL.pure (PV.assign rfl) rfl (by decide) ?_
  refine TL.pure (PV.assign rfl) rfl (by decide) ?_
  refine TL.nil ?_
  refine TQ.thenC ?_
  refine TC.seq ?_
  refine TC.region ?_
  refine TL.pure (PV.loadBox rfl Tb.agg_24 (by repeat (first | exact List.Mem.head _ | refine List.Mem.tail _ ?_ | refine List.mem_append_right _ ?_)) rfl) rfl (by decide) ?_
  refine TL.pure (PV.move rfl) rfl (by decide) ?_
  refine TL.call rfl Tb.gofn_98 (fun a w hs => isOfKind1_ok w _ _ _ _ (hr.new hs.new) hS _ _ (hv.new hs.new) hl) rfl (by decide) (fun _ _ => ?_)
  refine TL.pure (PV.extract rfl rfl) rfl (by decide) ?_
  refine TL.pure (PV.extract rfl rfl) rfl (by decide) ?_
  refine TL.pure (PV.assign rfl) rfl (by decide) ?_
  refine TL.pure (PV.assign rfl) rfl (by decide) ?_
  refine TL.nil ?_
  refine TQ.thenC ?_
  refine TC.ret ?_
  refine TQ.retE2 rfl rfl rfl ?_
  exact ⟨(), rfl, trivial, List.nil_sublist _⟩

set_option maxRecDepth 100000 in
set_option maxHeartbeats 4000000 in
theorem greatest1_ok (w0 : World) (n : Int) (p : Option Addr) (cp : Nat) (ss : List St) (hr : StsAt w0 p ss) (hS : SmS ss) (vx : Value) (xs : List Int) (hv : IsI w0 vx xs) (hl : xs.length ≤ 1000000) :
    Calls Try.prog 102 #[yv n p ss.length cp, vx, .int .i64 1] w0 (Post (X := HD) (fun h => .tuple #[gval h (grR 1 n ss xs).1.length, .int .i64 (grR 1 n ss xs).2]) (fun h => goI (h, (grR 1 n ss xs).1)) (fun h => gbI (h, (grR 1 n ss xs).1)) w0) := by
  obtain ⟨pl, cl, rfl, hx⟩ := hv
  refine calls Try.func102 rfl (n := 46) rfl (by simp) ?_
  refine TC.seq ?_
  refine TC.region ?_
  refine TL.box rfl rfl (by decide) (fun b0 hb0 => ?_)
  refine TL.pure (PV.assign rfl) rfl (by decide) ?_
  refine TL.pure (PV.assign rfl) rfl (by decide) ?_
  refine TL.nil ?_
  refine TQ.thenC ?_
  refine TC.seq ?_
  refine TC.seq ?_
  refine TC.region ?_
  refine TL.pure (PV.loadBox rfl Tb.agg_24 (by repeat (first | exact List.Mem.head _ | refine List.Mem.tail _ ?_ | refine List.mem_append_right _ ?_)) rfl) rfl (by decide) ?_
  refine TL.pure (PV.move rfl) rfl (by decide) ?_
  refine TL.call rfl Tb.gofn_109 (fun a w hs => valSet_ok w _ _ _ _ (hr.new hs.new) hS _ _ (IsI.of (hx.new hs.new)) hl) rfl (by decide) (fun _ _ => ?_)
  refine TL.pure (PV.assign rfl) rfl (by decide) ?_
  refine TL.nil ?_
  refine TQ.thenC ?_
  refine TC.seq ?_
  refine TC.region ?_
  refine TL.pure (PV.move rfl) rfl (by decide) ?_
  refine TL.pure (PV.neq rfl rfl) rfl (by decide) ?_
  refine TL.nil ?_
  refine TQ.thenC ?_
  first | refine TC.condD rfl (fun a1 => ?_) (fun a1 => ?_) | refine TC.cond rfl (fun a1 => ?_) (fun a1 => ?_)
  · skip
    refine TC.seq ?_
    refine TC.region ?_
    refine TL.pure (PV.move rfl) rfl (by decide) ?_
    refine TL.pure (PV.assign rfl) rfl (by decide) ?_
    refine TL.pure (PV.assign rfl) rfl (by decide) ?_
    refine TL.nil ?_
    refine TQ.thenC ?_
    refine TC.ret ?_
    refine TQ.thenR ?_
    refine TQ.retE2 rfl rfl rfl ?_
    have e9 := gr_1 (kd := 1) a1
    exact ⟨none, by rw [e9]; rfl, by rw [e9]; exact goI_nil, List.nil_sublist _⟩
  · skip
    refine TC.skip ?_
    refine TQ.thenC ?_
    refine TC.seq ?_
    have hVP := set_of a1
    refine TC.mixV [false, true, true, true, false, false, false, true] [(b0, Obj.cells #[.int .i64 n, .slice p ss.length cp] 24 (0, 0))] 8 Tb.mixed rfl (by kernel_rfl) (by kernel_rfl) (by kernel_rfl) (by kernel_rfl) (by repeat (first | exact List.Sublist.slnil | exact List.nil_sublist _ | exact List.Sublist.refl _ | refine List.Sublist.cons_cons _ ?_ | refine List.Sublist.cons _ ?_ | refine List.Sublist.trans ?_ (List.sublist_append_right _ _))) ?_
    refine TV.virt 1 rfl rfl (by decide) rfl (by kernel_rfl) (SOK.pure (PV.move rfl) rfl) ?_
    refine TV.virt 3 rfl rfl (by decide) rfl (by kernel_rfl) (SOK.pure (PV.move rfl) rfl) ?_
    refine TV.step [0, 5] (by kernel_rfl) (by decide) rfl ⟨⟨_, rfl, ?_⟩, ⟨_, rfl, ?_⟩, trivial⟩
    · skip
      refine TL.call rfl Tb.gofn_110 (fun a w hs => kinds_ok w) rfl (by decide) (fun _ _ => ?_)
      refine TL.nil ?_
      refine TV.next (.inl (by repeat (first | exact List.Sublist.slnil | exact List.nil_sublist _ | exact List.Sublist.refl _ | refine List.Sublist.cons_cons _ ?_ | refine List.Sublist.cons _ ?_ | refine List.Sublist.trans ?_ (List.sublist_append_right _ _)))) ?_
      refine TV.virt 2 rfl rfl (by decide) rfl (by kernel_rfl) (SOK.pure (PV.indexV (j := 1) (v := .agg #[.func (.func 117) #[] #[], .func (.func 118) #[] #[]]) rfl rfl arr_112 rfl (by decide) (fun w => part1 w)) rfl) ?_
      refine TV.step [4, 5] (by kernel_rfl) (by decide) rfl ⟨⟨_, rfl, ?_⟩, ⟨_, rfl, ?_⟩, trivial⟩
      · skip
        refine TL.call rfl Tb.gofn_97 (fun a w hs => clone_ok w _ _ _ (hx.new hs.new) hl) rfl (by decide) (fun h9 hh9 => ?_)
        refine TL.nil ?_
        refine TV.next (.inl (by repeat (first | exact List.Sublist.slnil | exact List.nil_sublist _ | exact List.Sublist.refl _ | refine List.Sublist.cons_cons _ ?_ | refine List.Sublist.cons _ ?_ | refine List.Sublist.trans ?_ (List.sublist_append_right _ _)))) ?_
        refine TV.step [5] (by kernel_rfl) (by decide) rfl ⟨⟨_, rfl, ?_⟩, trivial⟩
        refine TL.alloc Tb.zero_111 rfl (by decide) (fun bk hbk => ?_)
        refine TL.nil ?_
        refine TV.next (.inl (by repeat (first | exact List.Sublist.slnil | exact List.nil_sublist _ | exact List.Sublist.refl _ | refine List.Sublist.cons_cons _ ?_ | refine List.Sublist.cons _ ?_ | refine List.Sublist.trans ?_ (List.sublist_append_right _ _)))) ?_
        refine TV.step [6] (by kernel_rfl) (by decide) rfl ⟨⟨_, rfl, ?_⟩, trivial⟩
        refine TL.storeAgg (vs := [.func (.func 117) #[] #[], .func (.func 118) #[] #[]]) rfl rfl Tb.cells_111 (by repeat (first | exact Upd.head _ | apply Upd.tail | apply Upd.appR)) rfl rfl rfl rfl rfl ?_
        refine TL.nil ?_
        refine TV.next (.inl (by repeat (first | exact List.Sublist.slnil | exact List.nil_sublist _ | exact List.Sublist.refl _ | refine List.Sublist.cons_cons _ ?_ | refine List.Sublist.cons _ ?_ | refine List.Sublist.trans ?_ (List.sublist_append_right _ _)))) ?_
        refine TV.virt 7 rfl rfl (by decide) rfl (by kernel_rfl) (SOK.pure (PV.assign rfl) rfl) ?_
        refine TV.done (by kernel_rfl) ?_
        refine TQ.thenC ?_
        refine TC.seq ?_
        refine TC.seq ?_
        first | refine TC.perm (G' := gbI (h9, xs) ++ [(bk, Obj.cells #[.func (.func 117) #[] #[], .func (.func 118) #[] #[]] 111 (0, 0)), (b0, Obj.cells #[.int .i64 n, .slice p ss.length cp] 24 (0, 0))]) (List.Perm.refl _) ?_ | refine TC.perm (G' := gbI (h9, xs) ++ [(bk, Obj.cells #[.func (.func 117) #[] #[], .func (.func 118) #[] #[]] 111 (0, 0)), (b0, Obj.cells #[.int .i64 n, .slice p ss.length cp] 24 (0, 0))]) List.perm_middle ?_
        refine TC.region ?_
        refine TL.pure (PV.loadBox (cs := [.func (.func 117) #[] #[], .func (.func 118) #[] #[]]) rfl Tb.agg_111 (by repeat (first | exact List.Mem.head _ | refine List.Mem.tail _ ?_ | refine List.mem_append_right _ ?_)) rfl) rfl (by decide) ?_
        refine TL.pure (PV.loadBox rfl Tb.agg_24 (by repeat (first | exact List.Mem.head _ | refine List.Mem.tail _ ?_ | refine List.mem_append_right _ ?_)) rfl) rfl (by decide) ?_
        refine TL.pure (PV.move rfl) rfl (by decide) ?_
        refine TL.call rfl Tb.gofn_111 (fun a w hs => breaker1_ok w _ _ _ _ (hr.new hs.new) hS hVP.1 _ xs (IsI.g hs.new (fun yy hyy => by repeat (first | exact List.mem_append_left _ hyy | exact List.mem_append_left _ (List.mem_append_right _ hyy) | exact List.mem_append_left _ (List.mem_append_left _ hyy) | refine List.mem_append_right _ ?_ | refine List.Mem.tail _ ?_)) hh9) hl hVP.2.inp) rfl (by decide) (fun i9 hi9 => ?_)
        refine TL.pure (PV.assign rfl) rfl (by decide) ?_
        refine TL.nil ?_
        refine TQ.thenC ?_
        refine TC.block ?_
        refine TC.lit [(3, _), (6, _), (7, _), (9, _), (10, _), (11, _)] (by repeat (first | exact True.intro | refine And.intro rfl ?_)) ?_
        refine TC.loopK [3, 6, 7, 9] (X := HD × List Int × Int) (fun x => GrI (ss.map (kS 1)) xs x.2.1 ∧ goI (x.1, x.2.1) ∧ Fst (fun s => brk (kS 1 s) x.2.1) ss x.2.2) (fun x => [(10, gval x.1 x.2.1.length), (11, .int .i64 x.2.2)]) (fun x => gbI (x.1, x.2.1) ++ [(bk, Obj.cells #[.func (.func 117) #[] #[], .func (.func 118) #[] #[]] 111 (0, 0)), (b0, Obj.cells #[.int .i64 n, .slice p ss.length cp] 24 (0, 0))]) (fun x => x.2.1.length) (h9, xs, i9) ⟨GrI.zero _ _, hh9, hi9⟩ (by repeat (first | exact True.intro | refine And.intro rfl ?_)) (by repeat (first | exact List.Sublist.slnil | exact List.nil_sublist _ | exact List.Sublist.refl _ | refine List.Sublist.cons_cons _ ?_ | refine List.Sublist.cons _ ?_ | refine List.Sublist.trans ?_ (List.sublist_append_right _ _))) ?_
        intro x hx9
        refine TC.lit [(3, _), (6, _), (7, _), (9, _), (10, _), (11, _)] (by repeat (first | exact True.intro | refine And.intro rfl ?_)) ?_
        refine TC.seq ?_
        refine TC.seq ?_
        refine TC.region ?_
        refine TL.pure (PV.move rfl) rfl (by decide) ?_
        refine TL.pure (PV.geq rfl rfl) rfl (by decide) ?_
        refine TL.nil ?_
        refine TQ.thenC ?_
        first | refine TC.condD rfl (fun hge => ?_) (fun hge => ?_) | refine TC.cond rfl (fun hge => ?_) (fun hge => ?_)
        · skip
          refine TC.skip ?_
          refine TQ.thenC ?_
          refine TC.seq ?_
          refine TC.block ?_
          refine TC.seq ?_
          obtain ⟨k, hke, hkl, hkb, hkm⟩ := a_brk hx9.2.2 hge
          obtain ⟨q1, hq1p, pa, pb, ca, cb, hq10, hq11, hta, htb⟩ := hr k (by omega)
          have hne : x.2.1 ≠ [] := fun h => by rw [h] at hkb; exact brk_nil hkb
          obtain ⟨b9, c9, p9, hh⟩ := goI_some hx9.2.1 hne
          have hgo := hx9.2.1
          have hlen := hx9.1.le
          rw [hh] at hgo ⊢
          have hfl := flt_lt hkb
          have htl := hVP.1.tl hkl
          refine TC.mixV [true, true, true, true, true, true, true, false, false, false] _ 10 Tb.mixed rfl (by kernel_rfl) (by kernel_rfl) (by kernel_rfl) (by kernel_rfl) (List.Sublist.refl _) ?_
          refine TV.virt 0 rfl rfl (by decide) rfl (by kernel_rfl) (SOK.pure (PV.fieldAddr rfl Tb.fo_111_0) rfl) ?_
          refine TV.virt 1 rfl rfl (by decide) rfl (by kernel_rfl) (SOK.pure (PV.load rfl Tb.one_81 (by repeat (first | exact List.Mem.head _ | refine List.Mem.tail _ ?_ | refine List.mem_append_right _ ?_)) rfl) rfl) ?_
          refine TV.virt 2 rfl rfl (by decide) rfl (by kernel_rfl) (SOK.pure (PV.fieldAddr rfl Tb.fo_24_1) rfl) ?_
          refine TV.virt 3 rfl rfl (by decide) rfl (by kernel_rfl) (SOK.pure (PV.load rfl Tb.one_22 (by repeat (first | exact List.Mem.head _ | refine List.Mem.tail _ ?_ | refine List.mem_append_right _ ?_)) rfl) rfl) ?_
          refine TV.virt 4 rfl rfl (by decide) rfl (by kernel_rfl) (SOK.pure (PV.move rfl) rfl) ?_
          refine TV.virt 5 rfl rfl (by decide) rfl (by kernel_rfl) (SOK.pure (PV.indexA (j := k) rfl hq1p rfl Tb.elm_22 hke (by omega)) rfl) ?_
          refine TV.virt 6 rfl rfl (by decide) rfl (by kernel_rfl) (SOK.pure (PV.loadAggA rfl Tb.agg_63 rfl (two_cells hq10 hq11)) rfl) ?_
          refine TV.step [7, 8] (by kernel_rfl) (by decide) rfl ⟨⟨_, rfl, ?_⟩, ⟨_, rfl, ?_⟩, trivial⟩
          · skip
            refine TL.callBC (f := 117) (pre := []) (caps := []) rfl rfl Tb.gofn_117 (fun a w hs => kinds117_ok w pa pb ca cb (ss.getD k default)) rfl (by decide) (fun _ _ => ?_)
            refine TL.nil ?_
            refine TV.next (.inl (by repeat (first | exact List.Sublist.slnil | exact List.nil_sublist _ | exact List.Sublist.refl _ | refine List.Sublist.cons_cons _ ?_ | refine List.Sublist.cons _ ?_ | refine List.Sublist.trans ?_ (List.sublist_append_right _ _)))) ?_
            refine TV.step [8] (by kernel_rfl) (by decide) rfl ⟨⟨_, rfl, ?_⟩, trivial⟩
            refine TL.alloc Tb.zero_25 rfl (by decide) (fun bq hbq => ?_)
            refine TL.nil ?_
            refine TV.next (.inl (by repeat (first | exact List.Sublist.slnil | exact List.nil_sublist _ | exact List.Sublist.refl _ | refine List.Sublist.cons_cons _ ?_ | refine List.Sublist.cons _ ?_ | refine List.Sublist.trans ?_ (List.sublist_append_right _ _)))) ?_
            refine TV.step [9] (by kernel_rfl) (by decide) rfl ⟨⟨_, rfl, ?_⟩, trivial⟩
            refine TL.store rfl rfl Tb.cells_25 rfl (by repeat (first | exact Upd.head _ | apply Upd.tail | apply Upd.appR)) (by first | decide | (simp; done) | (simp; omega) | omega) rfl rfl ?_
            refine TL.nil ?_
            refine TV.next (.inr (by kernel_rfl)) ?_
            refine TV.done (by kernel_rfl) ?_
            refine TQ.thenC ?_
            refine TC.region ?_
            refine TL.pure (PV.move rfl) rfl (by decide) ?_
            refine TL.pure (PV.makeFuncB (pre := []) (caps := [_]) rfl rfl) rfl (by decide) ?_
            refine TL.perm (G' := gbI (some (b9, c9, p9), x.2.1) ++ ((bq, Obj.cells #[.slice pa (ss.getD k default).t.length ca] 25 (0, 0)) :: [(bk, Obj.cells #[.func (.func 117) #[] #[], .func (.func 118) #[] #[]] 111 (0, 0)), (b0, Obj.cells #[.int .i64 n, .slice p ss.length cp] 24 (0, 0))])) List.perm_middle ?_
            refine TL.callW (X := List Value) (fun _ => .slice (some ⟨b9, 0, none⟩) (x.2.1.filter (fun x => !decide (0 < (kS 1 (ss.getD k default)).g.getD x.toNat 0))).length c9) (fun s => goI (some (b9, c9, s), x.2.1.filter (fun x => !decide (0 < (kS 1 (ss.getD k default)).g.getD x.toNat 0)))) (fun s => gbI (some (b9, c9, s), x.2.1.filter (fun x => !decide (0 < (kS 1 (ss.getD k default)).g.getD x.toNat 0))) ++ ((bq, Obj.cells #[.slice pa (ss.getD k default).t.length ca] 25 (0, 0)) :: [(bk, Obj.cells #[.func (.func 117) #[] #[], .func (.func 118) #[] #[]] 111 (0, 0)), (b0, Obj.cells #[.int .i64 n, .slice p ss.length cp] 24 (0, 0))])) rfl Tb.gofn_113 (fun a w hs => delete_ok (sp := p9) hs.new (by omega) hgo 114 [.pointer (some ⟨bq, 0, none⟩)] (fun x => !decide (0 < (kS 1 (ss.getD k default)).g.getD x.toNat 0)) Tb.gofn_114 (fun w1 ys hn1 z hm => (by simp only [Bool.not_not]; exact greatestF_ok w1 z ⟨bq, 0, none⟩ pa ca (ss.getD k default).t (hta.new hn1) (hn1.cell (by repeat (first | exact List.Mem.head _ | refine List.Mem.tail _ ?_ | refine List.mem_append_right _ ?_)) rfl) (by have h8 := hx9.1.inp hVP.2.inp z hm; omega)))) rfl (by decide) (fun s9 hs9 => ?_)
            refine TL.pure (PV.assign rfl) rfl (by decide) ?_
            refine TL.nil ?_
            refine TQ.blkN ?_
            refine TQ.thenC ?_
            refine TC.region ?_
            refine TL.pure (PV.loadBox (cs := [.func (.func 117) #[] #[], .func (.func 118) #[] #[]]) rfl Tb.agg_111 (by repeat (first | exact List.Mem.head _ | refine List.Mem.tail _ ?_ | refine List.mem_append_right _ ?_)) rfl) rfl (by decide) ?_
            refine TL.pure (PV.loadBox rfl Tb.agg_24 (by repeat (first | exact List.Mem.head _ | refine List.Mem.tail _ ?_ | refine List.mem_append_right _ ?_)) rfl) rfl (by decide) ?_
            refine TL.pure (PV.move rfl) rfl (by decide) ?_
            refine TL.call rfl Tb.gofn_111 (fun a w hs => breaker1_ok w _ _ _ _ (hr.new hs.new) hS hVP.1 _ (x.2.1.filter fun x => !decide (0 < (kS 1 (ss.getD k default)).g.getD x.toNat 0)) (IsI.g (h := some (b9, c9, s9)) hs.new (fun yy hyy => by repeat (first | exact List.mem_append_left _ hyy | exact List.mem_append_left _ (List.mem_append_right _ hyy) | exact List.mem_append_left _ (List.mem_append_left _ hyy) | refine List.mem_append_right _ ?_ | refine List.Mem.tail _ ?_)) hs9) (by omega) ((hx9.1.step hkm hkb).inp hVP.2.inp)) rfl (by decide) (fun i8 hi8 => ?_)
            refine TL.pure (PV.assign rfl) rfl (by decide) ?_
            refine TL.nil ?_
            refine TQ.thenN ?_
            refine TQ.backK (some (b9, c9, s9), x.2.1.filter (fun x => !decide (0 < (kS 1 (ss.getD k default)).g.getD x.toNat 0)), i8) (by repeat (first | exact True.intro | refine And.intro rfl ?_)) (by repeat (first | exact True.intro | refine And.intro rfl ?_)) (List.Sublist.append_left (List.sublist_cons_self _ _) _) ⟨hx9.1.step hkm hkb, hs9, hi8⟩ (by simp only; exact hfl)
          · skip
            refine TL.alloc Tb.zero_25 rfl (by decide) (fun bq hbq => ?_)
            refine TL.nil ?_
            refine TV.next (.inl (by repeat (first | exact List.Sublist.slnil | exact List.nil_sublist _ | exact List.Sublist.refl _ | refine List.Sublist.cons_cons _ ?_ | refine List.Sublist.cons _ ?_ | refine List.Sublist.trans ?_ (List.sublist_append_right _ _)))) ?_
            refine TV.step [7] (by kernel_rfl) (by decide) rfl ⟨⟨_, rfl, ?_⟩, trivial⟩
            refine TL.callBC (f := 117) (pre := []) (caps := []) rfl rfl Tb.gofn_117 (fun a w hs => kinds117_ok w pa pb ca cb (ss.getD k default)) rfl (by decide) (fun _ _ => ?_)
            refine TL.nil ?_
            refine TV.next (.inl (by repeat (first | exact List.Sublist.slnil | exact List.nil_sublist _ | exact List.Sublist.refl _ | refine List.Sublist.cons_cons _ ?_ | refine List.Sublist.cons _ ?_ | refine List.Sublist.trans ?_ (List.sublist_append_right _ _)))) ?_
            refine TV.step [9] (by kernel_rfl) (by decide) rfl ⟨⟨_, rfl, ?_⟩, trivial⟩
            refine TL.store rfl rfl Tb.cells_25 rfl (by repeat (first | exact Upd.head _ | apply Upd.tail | apply Upd.appR)) (by first | decide | (simp; done) | (simp; omega) | omega) rfl rfl ?_
            refine TL.nil ?_
            refine TV.next (.inr (by kernel_rfl)) ?_
            refine TV.done (by kernel_rfl) ?_
            refine TQ.thenC ?_
            refine TC.region ?_
            refine TL.pure (PV.move rfl) rfl (by decide) ?_
            refine TL.pure (PV.makeFuncB (pre := []) (caps := [_]) rfl rfl) rfl (by decide) ?_
            refine TL.perm (G' := gbI (some (b9, c9, p9), x.2.1) ++ ((bq, Obj.cells #[.slice pa (ss.getD k default).t.length ca] 25 (0, 0)) :: [(bk, Obj.cells #[.func (.func 117) #[] #[], .func (.func 118) #[] #[]] 111 (0, 0)), (b0, Obj.cells #[.int .i64 n, .slice p ss.length cp] 24 (0, 0))])) List.perm_middle ?_
            refine TL.callW (X := List Value) (fun _ => .slice (some ⟨b9, 0, none⟩) (x.2.1.filter (fun x => !decide (0 < (kS 1 (ss.getD k default)).g.getD x.toNat 0))).length c9) (fun s => goI (some (b9, c9, s), x.2.1.filter (fun x => !decide (0 < (kS 1 (ss.getD k default)).g.getD x.toNat 0)))) (fun s => gbI (some (b9, c9, s), x.2.1.filter (fun x => !decide (0 < (kS 1 (ss.getD k default)).g.getD x.toNat 0))) ++ ((bq, Obj.cells #[.slice pa (ss.getD k default).t.length ca] 25 (0, 0)) :: [(bk, Obj.cells #[.func (.func 117) #[] #[], .func (.func 118) #[] #[]] 111 (0, 0)), (b0, Obj.cells #[.int .i64 n, .slice p ss.length cp] 24 (0, 0))])) rfl Tb.gofn_113 (fun a w hs => delete_ok (sp := p9) hs.new (by omega) hgo 114 [.pointer (some ⟨bq, 0, none⟩)] (fun x => !decide (0 < (kS 1 (ss.getD k default)).g.getD x.toNat 0)) Tb.gofn_114 (fun w1 ys hn1 z hm => (by simp only [Bool.not_not]; exact greatestF_ok w1 z ⟨bq, 0, none⟩ pa ca (ss.getD k default).t (hta.new hn1) (hn1.cell (by repeat (first | exact List.Mem.head _ | refine List.Mem.tail _ ?_ | refine List.mem_append_right _ ?_)) rfl) (by have h8 := hx9.1.inp hVP.2.inp z hm; omega)))) rfl (by decide) (fun s9 hs9 => ?_)
            refine TL.pure (PV.assign rfl) rfl (by decide) ?_
            refine TL.nil ?_
            refine TQ.blkN ?_
            refine TQ.thenC ?_
            refine TC.region ?_
            refine TL.pure (PV.loadBox (cs := [.func (.func 117) #[] #[], .func (.func 118) #[] #[]]) rfl Tb.agg_111 (by repeat (first | exact List.Mem.head _ | refine List.Mem.tail _ ?_ | refine List.mem_append_right _ ?_)) rfl) rfl (by decide) ?_
            refine TL.pure (PV.loadBox rfl Tb.agg_24 (by repeat (first | exact List.Mem.head _ | refine List.Mem.tail _ ?_ | refine List.mem_append_right _ ?_)) rfl) rfl (by decide) ?_
            refine TL.pure (PV.move rfl) rfl (by decide) ?_
            refine TL.call rfl Tb.gofn_111 (fun a w hs => breaker1_ok w _ _ _ _ (hr.new hs.new) hS hVP.1 _ (x.2.1.filter fun x => !decide (0 < (kS 1 (ss.getD k default)).g.getD x.toNat 0)) (IsI.g (h := some (b9, c9, s9)) hs.new (fun yy hyy => by repeat (first | exact List.mem_append_left _ hyy | exact List.mem_append_left _ (List.mem_append_right _ hyy) | exact List.mem_append_left _ (List.mem_append_left _ hyy) | refine List.mem_append_right _ ?_ | refine List.Mem.tail _ ?_)) hs9) (by omega) ((hx9.1.step hkm hkb).inp hVP.2.inp)) rfl (by decide) (fun i8 hi8 => ?_)
            refine TL.pure (PV.assign rfl) rfl (by decide) ?_
            refine TL.nil ?_
            refine TQ.thenN ?_
            refine TQ.backK (some (b9, c9, s9), x.2.1.filter (fun x => !decide (0 < (kS 1 (ss.getD k default)).g.getD x.toNat 0)), i8) (by repeat (first | exact True.intro | refine And.intro rfl ?_)) (by repeat (first | exact True.intro | refine And.intro rfl ?_)) (List.Sublist.append_left (List.sublist_cons_self _ _) _) ⟨hx9.1.step hkm hkb, hs9, hi8⟩ (by simp only; exact hfl)
        · skip
          refine TC.exit ?_
          refine TQ.thenE ?_
          refine TQ.thenE ?_
          refine TQ.blkS ?_
          refine TQ.thenC ?_
          refine TC.seq ?_
          refine TC.region ?_
          refine TL.pure (PV.move rfl) rfl (by decide) ?_
          refine TL.pure (PV.assign rfl) rfl (by decide) ?_
          refine TL.pure (PV.assign rfl) rfl (by decide) ?_
          refine TL.nil ?_
          refine TQ.thenC ?_
          refine TC.ret ?_
          refine TQ.retE2 rfl rfl rfl ?_
          have e9 := gr_0 (kd := 1) a1
          have e8 := hx9.1.fin (no_brk hx9.2.2 hge)
          exact ⟨x.1, by rw [e9, ← e8], by rw [e9, ← e8]; exact hx9.2.1, by rw [e9, ← e8]; exact List.sublist_append_left _ _⟩
      · skip
        refine TL.alloc Tb.zero_111 rfl (by decide) (fun bk hbk => ?_)
        refine TL.nil ?_
        refine TV.next (.inl (by repeat (first | exact List.Sublist.slnil | exact List.nil_sublist _ | exact List.Sublist.refl _ | refine List.Sublist.cons_cons _ ?_ | refine List.Sublist.cons _ ?_ | refine List.Sublist.trans ?_ (List.sublist_append_right _ _)))) ?_
        refine TV.step [4] (by kernel_rfl) (by decide) rfl ⟨⟨_, rfl, ?_⟩, trivial⟩
        refine TL.call rfl Tb.gofn_97 (fun a w hs => clone_ok w _ _ _ (hx.new hs.new) hl) rfl (by decide) (fun h9 hh9 => ?_)
        refine TL.nil ?_
        refine TV.next (.inl (by repeat (first | exact List.Sublist.slnil | exact List.nil_sublist _ | exact List.Sublist.refl _ | refine List.Sublist.cons_cons _ ?_ | refine List.Sublist.cons _ ?_ | refine List.Sublist.trans ?_ (List.sublist_append_right _ _)))) ?_
        refine TV.step [6] (by kernel_rfl) (by decide) rfl ⟨⟨_, rfl, ?_⟩, trivial⟩
        refine TL.storeAgg (vs := [.func (.func 117) #[] #[], .func (.func 118) #[] #[]]) rfl rfl Tb.cells_111 (by repeat (first | exact Upd.head _ | apply Upd.tail | apply Upd.appR)) rfl rfl rfl rfl rfl ?_
        refine TL.nil ?_
        refine TV.next (.inl (by repeat (first | exact List.Sublist.slnil | exact List.nil_sublist _ | exact List.Sublist.refl _ | refine List.Sublist.cons_cons _ ?_ | refine List.Sublist.cons _ ?_ | refine List.Sublist.trans ?_ (List.sublist_append_right _ _)))) ?_
        refine TV.virt 7 rfl rfl (by decide) rfl (by kernel_rfl) (SOK.pure (PV.assign rfl) rfl) ?_
        refine TV.done (by kernel_rfl) ?_
        refine TQ.thenC ?_
        refine TC.seq ?_
        refine TC.seq ?_
        first | refine TC.perm (G' := gbI (h9, xs) ++ [(bk, Obj.cells #[.func (.func 117) #[] #[], .func (.func 118) #[] #[]] 111 (0, 0)), (b0, Obj.cells #[.int .i64 n, .slice p ss.length cp] 24 (0, 0))]) (List.Perm.refl _) ?_ | refine TC.perm (G' := gbI (h9, xs) ++ [(bk, Obj.cells #[.func (.func 117) #[] #[], .func (.func 118) #[] #[]] 111 (0, 0)), (b0, Obj.cells #[.int .i64 n, .slice p ss.length cp] 24 (0, 0))]) List.perm_middle ?_
        refine TC.region ?_
        refine TL.pure (PV.loadBox (cs := [.func (.func 117) #[] #[], .func (.func 118) #[] #[]]) rfl Tb.agg_111 (by repeat (first | exact List.Mem.head _ | refine List.Mem.tail _ ?_ | refine List.mem_append_right _ ?_)) rfl) rfl (by decide) ?_
        refine TL.pure (PV.loadBox rfl Tb.agg_24 (by repeat (first | exact List.Mem.head _ | refine List.Mem.tail _ ?_ | refine List.mem_append_right _ ?_)) rfl) rfl (by decide) ?_
        refine TL.pure (PV.move rfl) rfl (by decide) ?_
        refine TL.call rfl Tb.gofn_111 (fun a w hs => breaker1_ok w _ _ _ _ (hr.new hs.new) hS hVP.1 _ xs (IsI.g hs.new (fun yy hyy => by repeat (first | exact List.mem_append_left _ hyy | exact List.mem_append_left _ (List.mem_append_right _ hyy) | exact List.mem_append_left _ (List.mem_append_left _ hyy) | refine List.mem_append_right _ ?_ | refine List.Mem.tail _ ?_)) hh9) hl hVP.2.inp) rfl (by decide) (fun i9 hi9 => ?_)
        refine TL.pure (PV.assign rfl) rfl (by decide) ?_
        refine TL.nil ?_
        refine TQ.thenC ?_
        refine TC.block ?_
        refine TC.lit [(3, _), (6, _), (7, _), (9, _), (10, _), (11, _)] (by repeat (first | exact True.intro | refine And.intro rfl ?_)) ?_
        refine TC.loopK [3, 6, 7, 9] (X := HD × List Int × Int) (fun x => GrI (ss.map (kS 1)) xs x.2.1 ∧ goI (x.1, x.2.1) ∧ Fst (fun s => brk (kS 1 s) x.2.1) ss x.2.2) (fun x => [(10, gval x.1 x.2.1.length), (11, .int .i64 x.2.2)]) (fun x => gbI (x.1, x.2.1) ++ [(bk, Obj.cells #[.func (.func 117) #[] #[], .func (.func 118) #[] #[]] 111 (0, 0)), (b0, Obj.cells #[.int .i64 n, .slice p ss.length cp] 24 (0, 0))]) (fun x => x.2.1.length) (h9, xs, i9) ⟨GrI.zero _ _, hh9, hi9⟩ (by repeat (first | exact True.intro | refine And.intro rfl ?_)) (by repeat (first | exact List.Sublist.slnil | exact List.nil_sublist _ | exact List.Sublist.refl _ | refine List.Sublist.cons_cons _ ?_ | refine List.Sublist.cons _ ?_ | refine List.Sublist.trans ?_ (List.sublist_append_right _ _))) ?_
        intro x hx9
        refine TC.lit [(3, _), (6, _), (7, _), (9, _), (10, _), (11, _)] (by repeat (first | exact True.intro | refine And.intro rfl ?_)) ?_
        refine TC.seq ?_
        refine TC.seq ?_
        refine TC.region ?_
        refine TL.pure (PV.move rfl) rfl (by decide) ?_
        refine TL.pure (PV.geq rfl rfl) rfl (by decide) ?_
        refine TL.nil ?_
        refine TQ.thenC ?_
        first | refine TC.condD rfl (fun hge => ?_) (fun hge => ?_) | refine TC.cond rfl (fun hge => ?_) (fun hge => ?_)
        · skip
          refine TC.skip ?_
          refine TQ.thenC ?_
          refine TC.seq ?_
          refine TC.block ?_
          refine TC.seq ?_
          obtain ⟨k, hke, hkl, hkb, hkm⟩ := a_brk hx9.2.2 hge
          obtain ⟨q1, hq1p, pa, pb, ca, cb, hq10, hq11, hta, htb⟩ := hr k (by omega)
          have hne : x.2.1 ≠ [] := fun h => by rw [h] at hkb; exact brk_nil hkb
          obtain ⟨b9, c9, p9, hh⟩ := goI_some hx9.2.1 hne
          have hgo := hx9.2.1
          have hlen := hx9.1.le
          rw [hh] at hgo ⊢
          have hfl := flt_lt hkb
          have htl := hVP.1.tl hkl
          refine TC.mixV [true, true, true, true, true, true, true, false, false, false] _ 10 Tb.mixed rfl (by kernel_rfl) (by kernel_rfl) (by kernel_rfl) (by kernel_rfl) (List.Sublist.refl _) ?_
          refine TV.virt 0 rfl rfl (by decide) rfl (by kernel_rfl) (SOK.pure (PV.fieldAddr rfl Tb.fo_111_0) rfl) ?_
          refine TV.virt 1 rfl rfl (by decide) rfl (by kernel_rfl) (SOK.pure (PV.load rfl Tb.one_81 (by repeat (first | exact List.Mem.head _ | refine List.Mem.tail _ ?_ | refine List.mem_append_right _ ?_)) rfl) rfl) ?_
          refine TV.virt 2 rfl rfl (by decide) rfl (by kernel_rfl) (SOK.pure (PV.fieldAddr rfl Tb.fo_24_1) rfl) ?_
          refine TV.virt 3 rfl rfl (by decide) rfl (by kernel_rfl) (SOK.pure (PV.load rfl Tb.one_22 (by repeat (first | exact List.Mem.head _ | refine List.Mem.tail _ ?_ | refine List.mem_append_right _ ?_)) rfl) rfl) ?_
          refine TV.virt 4 rfl rfl (by decide) rfl (by kernel_rfl) (SOK.pure (PV.move rfl) rfl) ?_
          refine TV.virt 5 rfl rfl (by decide) rfl (by kernel_rfl) (SOK.pure (PV.indexA (j := k) rfl hq1p rfl Tb.elm_22 hke (by omega)) rfl) ?_
          refine TV.virt 6 rfl rfl (by decide) rfl (by kernel_rfl) (SOK.pure (PV.loadAggA rfl Tb.agg_63 rfl (two_cells hq10 hq11)) rfl) ?_
          refine TV.step [7, 8] (by kernel_rfl) (by decide) rfl ⟨⟨_, rfl, ?_⟩, ⟨_, rfl, ?_⟩, trivial⟩
          · skip
            refine TL.callBC (f := 117) (pre := []) (caps := []) rfl rfl Tb.gofn_117 (fun a w hs => kinds117_ok w pa pb ca cb (ss.getD k default)) rfl (by decide) (fun _ _ => ?_)
            refine TL.nil ?_
            refine TV.next (.inl (by repeat (first | exact List.Sublist.slnil | exact List.nil_sublist _ | exact List.Sublist.refl _ | refine List.Sublist.cons_cons _ ?_ | refine List.Sublist.cons _ ?_ | refine List.Sublist.trans ?_ (List.sublist_append_right _ _)))) ?_
            refine TV.step [8] (by kernel_rfl) (by decide) rfl ⟨⟨_, rfl, ?_⟩, trivial⟩
            refine TL.alloc Tb.zero_25 rfl (by decide) (fun bq hbq => ?_)
            refine TL.nil ?_
            refine TV.next (.inl (by repeat (first | exact List.Sublist.slnil | exact List.nil_sublist _ | exact List.Sublist.refl _ | refine List.Sublist.cons_cons _ ?_ | refine List.Sublist.cons _ ?_ | refine List.Sublist.trans ?_ (List.sublist_append_right _ _)))) ?_
            refine TV.step [9] (by kernel_rfl) (by decide) rfl ⟨⟨_, rfl, ?_⟩, trivial⟩
            refine TL.store rfl rfl Tb.cells_25 rfl (by repeat (first | exact Upd.head _ | apply Upd.tail | apply Upd.appR)) (by first | decide | (simp; done) | (simp; omega) | omega) rfl rfl ?_
            refine TL.nil ?_
            refine TV.next (.inr (by kernel_rfl)) ?_
            refine TV.done (by kernel_rfl) ?_
            refine TQ.thenC ?_
            refine TC.region ?_
            refine TL.pure (PV.move rfl) rfl (by decide) ?_
            refine TL.pure (PV.makeFuncB (pre := []) (caps := [_]) rfl rfl) rfl (by decide) ?_
            refine TL.perm (G' := gbI (some (b9, c9, p9), x.2.1) ++ ((bq, Obj.cells #[.slice pa (ss.getD k default).t.length ca] 25 (0, 0)) :: [(bk, Obj.cells #[.func (.func 117) #[] #[], .func (.func 118) #[] #[]] 111 (0, 0)), (b0, Obj.cells #[.int .i64 n, .slice p ss.length cp] 24 (0, 0))])) List.perm_middle ?_
            refine TL.callW (X := List Value) (fun _ => .slice (some ⟨b9, 0, none⟩) (x.2.1.filter (fun x => !decide (0 < (kS 1 (ss.getD k default)).g.getD x.toNat 0))).length c9) (fun s => goI (some (b9, c9, s), x.2.1.filter (fun x => !decide (0 < (kS 1 (ss.getD k default)).g.getD x.toNat 0)))) (fun s => gbI (some (b9, c9, s), x.2.1.filter (fun x => !decide (0 < (kS 1 (ss.getD k default)).g.getD x.toNat 0))) ++ ((bq, Obj.cells #[.slice pa (ss.getD k default).t.length ca] 25 (0, 0)) :: [(bk, Obj.cells #[.func (.func 117) #[] #[], .func (.func 118) #[] #[]] 111 (0, 0)), (b0, Obj.cells #[.int .i64 n, .slice p ss.length cp] 24 (0, 0))])) rfl Tb.gofn_113 (fun a w hs => delete_ok (sp := p9) hs.new (by omega) hgo 114 [.pointer (some ⟨bq, 0, none⟩)] (fun x => !decide (0 < (kS 1 (ss.getD k default)).g.getD x.toNat 0)) Tb.gofn_114 (fun w1 ys hn1 z hm => (by simp only [Bool.not_not]; exact greatestF_ok w1 z ⟨bq, 0, none⟩ pa ca (ss.getD k default).t (hta.new hn1) (hn1.cell (by repeat (first | exact List.Mem.head _ | refine List.Mem.tail _ ?_ | refine List.mem_append_right _ ?_)) rfl) (by have h8 := hx9.1.inp hVP.2.inp z hm; omega)))) rfl (by decide) (fun s9 hs9 => ?_)
            refine TL.pure (PV.assign rfl) rfl (by decide) ?_
            refine TL.nil ?_
            refine TQ.blkN ?_
            refine TQ.thenC ?_
            refine TC.region ?_
            refine TL.pure (PV.loadBox (cs := [.func (.func 117) #[] #[], .func (.func 118) #[] #[]]) rfl Tb.agg_111 (by repeat (first | exact List.Mem.head _ | refine List.Mem.tail _ ?_ | refine List.mem_append_right _ ?_)) rfl) rfl (by decide) ?_
            refine TL.pure (PV.loadBox rfl Tb.agg_24 (by repeat (first | exact List.Mem.head _ | refine List.Mem.tail _ ?_ | refine List.mem_append_right _ ?_)) rfl) rfl (by decide) ?_
            refine TL.pure (PV.move rfl) rfl (by decide) ?_
            refine TL.call rfl Tb.gofn_111 (fun a w hs => breaker1_ok w _ _ _ _ (hr.new hs.new) hS hVP.1 _ (x.2.1.filter fun x => !decide (0 < (kS 1 (ss.getD k default)).g.getD x.toNat 0)) (IsI.g (h := some (b9, c9, s9)) hs.new (fun yy hyy => by repeat (first | exact List.mem_append_left _ hyy | exact List.mem_append_left _ (List.mem_append_right _ hyy) | exact List.mem_append_left _ (List.mem_append_left _ hyy) | refine List.mem_append_right _ ?_ | refine List.Mem.tail _ ?_)) hs9) (by omega) ((hx9.1.step hkm hkb).inp hVP.2.inp)) rfl (by decide) (fun i8 hi8 => ?_)
            refine TL.pure (PV.assign rfl) rfl (by decide) ?_
            refine TL.nil ?_
            refine TQ.thenN ?_
            refine TQ.backK (some (b9, c9, s9), x.2.1.filter (fun x => !decide (0 < (kS 1 (ss.getD k default)).g.getD x.toNat 0)), i8) (by repeat (first | exact True.intro | refine And.intro rfl ?_)) (by repeat (first | exact True.intro | refine And.intro rfl ?_)) (List.Sublist.append_left (List.sublist_cons_self _ _) _) ⟨hx9.1.step hkm hkb, hs9, hi8⟩ (by simp only; exact hfl)
          · skip
            refine TL.alloc Tb.zero_25 rfl (by decide) (fun bq hbq => ?_)
            refine TL.nil ?_
            refine TV.next (.inl (by repeat (first | exact List.Sublist.slnil | exact List.nil_sublist _ | exact List.Sublist.refl _ | refine List.Sublist.cons_cons _ ?_ | refine List.Sublist.cons _ ?_ | refine List.Sublist.trans ?_ (List.sublist_append_right _ _)))) ?_
            refine TV.step [7] (by kernel_rfl) (by decide) rfl ⟨⟨_, rfl, ?_⟩, trivial⟩
            refine TL.callBC (f := 117) (pre := []) (caps := []) rfl rfl Tb.gofn_117 (fun a w hs => kinds117_ok w pa pb ca cb (ss.getD k default)) rfl (by decide) (fun _ _ => ?_)
            refine TL.nil ?_
            refine TV.next (.inl (by repeat (first | exact List.Sublist.slnil | exact List.nil_sublist _ | exact List.Sublist.refl _ | refine List.Sublist.cons_cons _ ?_ | refine List.Sublist.cons _ ?_ | refine List.Sublist.trans ?_ (List.sublist_append_right _ _)))) ?_
            refine TV.step [9] (by kernel_rfl) (by decide) rfl ⟨⟨_, rfl, ?_⟩, trivial⟩
            refine TL.store rfl rfl Tb.cells_25 rfl (by repeat (first | exact Upd.head _ | apply Upd.tail | apply Upd.appR)) (by first | decide | (simp; done) | (simp; omega) | omega) rfl rfl ?_
            refine TL.nil ?_
            refine TV.next (.inr (by kernel_rfl)) ?_
            refine TV.done (by kernel_rfl) ?_
            refine TQ.thenC ?_
            refine TC.region ?_
            refine TL.pure (PV.move rfl) rfl (by decide) ?_
            refine TL.pure (PV.makeFuncB (pre := []) (caps := [_]) rfl rfl) rfl (by decide) ?_
            refine TL.perm (G' := gbI (some (b9, c9, p9), x.2.1) ++ ((bq, Obj.cells #[.slice pa (ss.getD k default).t.length ca] 25 (0, 0)) :: [(bk, Obj.cells #[.func (.func 117) #[] #[], .func (.func 118) #[] #[]] 111 (0, 0)), (b0, Obj.cells #[.int .i64 n, .slice p ss.length cp] 24 (0, 0))])) List.perm_middle ?_
            refine TL.callW (X := List Value) (fun _ => .slice (some ⟨b9, 0, none⟩) (x.2.1.filter (fun x => !decide (0 < (kS 1 (ss.getD k default)).g.getD x.toNat 0))).length c9) (fun s => goI (some (b9, c9, s), x.2.1.filter (fun x => !decide (0 < (kS 1 (ss.getD k default)).g.getD x.toNat 0)))) (fun s => gbI (some (b9, c9, s), x.2.1.filter (fun x => !decide (0 < (kS 1 (ss.getD k default)).g.getD x.toNat 0))) ++ ((bq, Obj.cells #[.slice pa (ss.getD k default).t.length ca] 25 (0, 0)) :: [(bk, Obj.cells #[.func (.func 117) #[] #[], .func (.func 118) #[] #[]] 111 (0, 0)), (b0, Obj.cells #[.int .i64 n, .slice p ss.length cp] 24 (0, 0))])) rfl Tb.gofn_113 (fun a w hs => delete_ok (sp := p9) hs.new (by omega) hgo 114 [.pointer (some ⟨bq, 0, none⟩)] (fun x => !decide (0 < (kS 1 (ss.getD k default)).g.getD x.toNat 0)) Tb.gofn_114 (fun w1 ys hn1 z hm => (by simp only [Bool.not_not]; exact greatestF_ok w1 z ⟨bq, 0, none⟩ pa ca (ss.getD k default).t (hta.new hn1) (hn1.cell (by repeat (first | exact List.Mem.head _ | refine List.Mem.tail _ ?_ | refine List.mem_append_right _ ?_)) rfl) (by have h8 := hx9.1.inp hVP.2.inp z hm; omega)))) rfl (by decide) (fun s9 hs9 => ?_)
            refine TL.pure (PV.assign rfl) rfl (by decide) ?_
            refine TL.nil ?_
            refine TQ.blkN ?_
            refine TQ.thenC ?_
            refine TC.region ?_
            refine TL.pure (PV.loadBox (cs := [.func (.func 117) #[] #[], .func (.func 118) #[] #[]]) rfl Tb.agg_111 (by repeat (first | exact List.Mem.head _ | refine List.Mem.tail _ ?_ | refine List.mem_append_right _ ?_)) rfl) rfl (by decide) ?_
            refine TL.pure (PV.loadBox rfl Tb.agg_24 (by repeat (first | exact List.Mem.head _ | refine List.Mem.tail _ ?_ | refine List.mem_append_right _ ?_)) rfl) rfl (by decide) ?_
            refine TL.pure (PV.move rfl) rfl (by decide) ?_
            refine TL.call rfl Tb.gofn_111 (fun a w hs => breaker1_ok w _ _ _ _ (hr.new hs.new) hS hVP.1 _ (x.2.1.filter fun x => !decide (0 < (kS 1 (ss.getD k default)).g.getD x.toNat 0)) (IsI.g (h := some (b9, c9, s9)) hs.new (fun yy hyy => by repeat (first | exact List.mem_append_left _ hyy | exact List.mem_append_left _ (List.mem_append_right _ hyy) | exact List.mem_append_left _ (List.mem_append_left _ hyy) | refine List.mem_append_right _ ?_ | refine List.Mem.tail _ ?_)) hs9) (by omega) ((hx9.1.step hkm hkb).inp hVP.2.inp)) rfl (by decide) (fun i8 hi8 => ?_)
            refine TL.pure (PV.assign rfl) rfl (by decide) ?_
            refine TL.nil ?_
            refine TQ.thenN ?_
            refine TQ.backK (some (b9, c9, s9), x.2.1.filter (fun x => !decide (0 < (kS 1 (ss.getD k default)).g.getD x.toNat 0)), i8) (by repeat (first | exact True.intro | refine And.intro rfl ?_)) (by repeat (first | exact True.intro | refine And.intro rfl ?_)) (List.Sublist.append_left (List.sublist_cons_self _ _) _) ⟨hx9.1.step hkm hkb, hs9, hi8⟩ (by simp only; exact hfl)
        · skip
          refine TC.exit ?_
          refine TQ.thenE ?_
          refine TQ.thenE ?_
          refine TQ.blkS ?_
          refine TQ.thenC ?_
          refine TC.seq ?_
          refine TC.region ?_
          refine TL.pure (PV.move rfl) rfl (by decide) ?_
          refine TL.pure (PV.assign rfl) rfl (by decide) ?_
          refine TL.pure (PV.assign rfl) rfl (by decide) ?_
          refine TL.nil ?_
          refine TQ.thenC ?_
          refine TC.ret ?_
          refine TQ.retE2 rfl rfl rfl ?_
          have e9 := gr_0 (kd := 1) a1
          have e8 := hx9.1.fin (no_brk hx9.2.2 hge)
          exact ⟨x.1, by rw [e9, ← e8], by rw [e9, ← e8]; exact hx9.2.1, by rw [e9, ← e8]; exact List.sublist_append_left _ _⟩
    · skip
      refine TL.alloc Tb.zero_111 rfl (by decide) (fun bk hbk => ?_)
      refine TL.nil ?_
      refine TV.next (.inl (by repeat (first | exact List.Sublist.slnil | exact List.nil_sublist _ | exact List.Sublist.refl _ | refine List.Sublist.cons_cons _ ?_ | refine List.Sublist.cons _ ?_ | refine List.Sublist.trans ?_ (List.sublist_append_right _ _)))) ?_
      refine TV.step [0] (by kernel_rfl) (by decide) rfl ⟨⟨_, rfl, ?_⟩, trivial⟩
      refine TL.call rfl Tb.gofn_110 (fun a w hs => kinds_ok w) rfl (by decide) (fun _ _ => ?_)
      refine TL.nil ?_
      refine TV.next (.inl (by repeat (first | exact List.Sublist.slnil | exact List.nil_sublist _ | exact List.Sublist.refl _ | refine List.Sublist.cons_cons _ ?_ | refine List.Sublist.cons _ ?_ | refine List.Sublist.trans ?_ (List.sublist_append_right _ _)))) ?_
      refine TV.virt 2 rfl rfl (by decide) rfl (by kernel_rfl) (SOK.pure (PV.indexV (j := 1) (v := .agg #[.func (.func 117) #[] #[], .func (.func 118) #[] #[]]) rfl rfl arr_112 rfl (by decide) (fun w => part1 w)) rfl) ?_
      refine TV.step [4] (by kernel_rfl) (by decide) rfl ⟨⟨_, rfl, ?_⟩, trivial⟩
      refine TL.call rfl Tb.gofn_97 (fun a w hs => clone_ok w _ _ _ (hx.new hs.new) hl) rfl (by decide) (fun h9 hh9 => ?_)
      refine TL.nil ?_
      refine TV.next (.inl (by repeat (first | exact List.Sublist.slnil | exact List.nil_sublist _ | exact List.Sublist.refl _ | refine List.Sublist.cons_cons _ ?_ | refine List.Sublist.cons _ ?_ | refine List.Sublist.trans ?_ (List.sublist_append_right _ _)))) ?_
      refine TV.step [6] (by kernel_rfl) (by decide) rfl ⟨⟨_, rfl, ?_⟩, trivial⟩
      refine TL.storeAgg (vs := [.func (.func 117) #[] #[], .func (.func 118) #[] #[]]) rfl rfl Tb.cells_111 (by repeat (first | exact Upd.head _ | apply Upd.tail | apply Upd.appR)) rfl rfl rfl rfl rfl ?_
      refine TL.nil ?_
      refine TV.next (.inl (by repeat (first | exact List.Sublist.slnil | exact List.nil_sublist _ | exact List.Sublist.refl _ | refine List.Sublist.cons_cons _ ?_ | refine List.Sublist.cons _ ?_ | refine List.Sublist.trans ?_ (List.sublist_append_right _ _)))) ?_
      refine TV.virt 7 rfl rfl (by decide) rfl (by kernel_rfl) (SOK.pure (PV.assign rfl) rfl) ?_
      refine TV.done (by kernel_rfl) ?_
      refine TQ.thenC ?_
      refine TC.seq ?_
      refine TC.seq ?_
      first | refine TC.perm (G' := gbI (h9, xs) ++ [(bk, Obj.cells #[.func (.func 117) #[] #[], .func (.func 118) #[] #[]] 111 (0, 0)), (b0, Obj.cells #[.int .i64 n, .slice p ss.length cp] 24 (0, 0))]) (List.Perm.refl _) ?_ | refine TC.perm (G' := gbI (h9, xs) ++ [(bk, Obj.cells #[.func (.func 117) #[] #[], .func (.func 118) #[] #[]] 111 (0, 0)), (b0, Obj.cells #[.int .i64 n, .slice p ss.length cp] 24 (0, 0))]) List.perm_middle ?_
      refine TC.region ?_
      refine TL.pure (PV.loadBox (cs := [.func (.func 117) #[] #[], .func (.func 118) #[] #[]]) rfl Tb.agg_111 (by repeat (first | exact List.Mem.head _ | refine List.Mem.tail _ ?_ | refine List.mem_append_right _ ?_)) rfl) rfl (by decide) ?_
      refine TL.pure (PV.loadBox rfl Tb.agg_24 (by repeat (first | exact List.Mem.head _ | refine List.Mem.tail _ ?_ | refine List.mem_append_right _ ?_)) rfl) rfl (by decide) ?_
      refine TL.pure (PV.move rfl) rfl (by decide) ?_
      refine TL.call rfl Tb.gofn_111 (fun a w hs => breaker1_ok w _ _ _ _ (hr.new hs.new) hS hVP.1 _ xs (IsI.g hs.new (fun yy hyy => by repeat (first | exact List.mem_append_left _ hyy | exact List.mem_append_left _ (List.mem_append_right _ hyy) | exact List.mem_append_left _ (List.mem_append_left _ hyy) | refine List.mem_append_right _ ?_ | refine List.Mem.tail _ ?_)) hh9) hl hVP.2.inp) rfl (by decide) (fun i9 hi9 => ?_)
      refine TL.pure (PV.assign rfl) rfl (by decide) ?_
      refine TL.nil ?_
      refine TQ.thenC ?_
      refine TC.block ?_
      refine TC.lit [(3, _), (6, _), (7, _), (9, _), (10, _), (11, _)] (by repeat (first | exact True.intro | refine And.intro rfl ?_)) ?_
      refine TC.loopK [3, 6, 7, 9] (X := HD × List Int × Int) (fun x => GrI (ss.map (kS 1)) xs x.2.1 ∧ goI (x.1, x.2.1) ∧ Fst (fun s => brk (kS 1 s) x.2.1) ss x.2.2) (fun x => [(10, gval x.1 x.2.1.length), (11, .int .i64 x.2.2)]) (fun x => gbI (x.1, x.2.1) ++ [(bk, Obj.cells #[.func (.func 117) #[] #[], .func (.func 118) #[] #[]] 111 (0, 0)), (b0, Obj.cells #[.int .i64 n, .slice p ss.length cp] 24 (0, 0))]) (fun x => x.2.1.length) (h9, xs, i9) ⟨GrI.zero _ _, hh9, hi9⟩ (by repeat (first | exact True.intro | refine And.intro rfl ?_)) (by repeat (first | exact List.Sublist.slnil | exact List.nil_sublist _ | exact List.Sublist.refl _ | refine List.Sublist.cons_cons _ ?_ | refine List.Sublist.cons _ ?_ | refine List.Sublist.trans ?_ (List.sublist_append_right _ _))) ?_
      intro x hx9
      refine TC.lit [(3, _), (6, _), (7, _), (9, _), (10, _), (11, _)] (by repeat (first | exact True.intro | refine And.intro rfl ?_)) ?_
      refine TC.seq ?_
      refine TC.seq ?_
      refine TC.region ?_
      refine TL.pure (PV.move rfl) rfl (by decide) ?_
      refine TL.pure (PV.geq rfl rfl) rfl (by decide) ?_
      refine TL.nil ?_
      refine TQ.thenC ?_
      first | refine TC.condD rfl (fun hge => ?_) (fun hge => ?_) | refine TC.cond rfl (fun hge => ?_) (fun hge => ?_)
      · skip
        refine TC.skip ?_
        refine TQ.thenC ?_
        refine TC.seq ?_
        refine TC.block ?_
        refine TC.seq ?_
        obtain ⟨k, hke, hkl, hkb, hkm⟩ := a_brk hx9.2.2 hge
        obtain ⟨q1, hq1p, pa, pb, ca, cb, hq10, hq11, hta, htb⟩ := hr k (by omega)
        have hne : x.2.1 ≠ [] := fun h => by rw [h] at hkb; exact brk_nil hkb
        obtain ⟨b9, c9, p9, hh⟩ := goI_some hx9.2.1 hne
        have hgo := hx9.2.1
        have hlen := hx9.1.le
        rw [hh] at hgo ⊢
        have hfl := flt_lt hkb
        have htl := hVP.1.tl hkl
        refine TC.mixV [true, true, true, true, true, true, true, false, false, false] _ 10 Tb.mixed rfl (by kernel_rfl) (by kernel_rfl) (by kernel_rfl) (by kernel_rfl) (List.Sublist.refl _) ?_
        refine TV.virt 0 rfl rfl (by decide) rfl (by kernel_rfl) (SOK.pure (PV.fieldAddr rfl Tb.fo_111_0) rfl) ?_
        refine TV.virt 1 rfl rfl (by decide) rfl (by kernel_rfl) (SOK.pure (PV.load rfl Tb.one_81 (by repeat (first | exact List.Mem.head _ | refine List.Mem.tail _ ?_ | refine List.mem_append_right _ ?_)) rfl) rfl) ?_
        refine TV.virt 2 rfl rfl (by decide) rfl (by kernel_rfl) (SOK.pure (PV.fieldAddr rfl Tb.fo_24_1) rfl) ?_
        refine TV.virt 3 rfl rfl (by decide) rfl (by kernel_rfl) (SOK.pure (PV.load rfl Tb.one_22 (by repeat (first | exact List.Mem.head _ | refine List.Mem.tail _ ?_ | refine List.mem_append_right _ ?_)) rfl) rfl) ?_
        refine TV.virt 4 rfl rfl (by decide) rfl (by kernel_rfl) (SOK.pure (PV.move rfl) rfl) ?_
        refine TV.virt 5 rfl rfl (by decide) rfl (by kernel_rfl) (SOK.pure (PV.indexA (j := k) rfl hq1p rfl Tb.elm_22 hke (by omega)) rfl) ?_
        refine TV.virt 6 rfl rfl (by decide) rfl (by kernel_rfl) (SOK.pure (PV.loadAggA rfl Tb.agg_63 rfl (two_cells hq10 hq11)) rfl) ?_
        refine TV.step [7, 8] (by kernel_rfl) (by decide) rfl ⟨⟨_, rfl, ?_⟩, ⟨_, rfl, ?_⟩, trivial⟩
        · skip
          refine TL.callBC (f := 117) (pre := []) (caps := []) rfl rfl Tb.gofn_117 (fun a w hs => kinds117_ok w pa pb ca cb (ss.getD k default)) rfl (by decide) (fun _ _ => ?_)
          refine TL.nil ?_
          refine TV.next (.inl (by repeat (first | exact List.Sublist.slnil | exact List.nil_sublist _ | exact List.Sublist.refl _ | refine List.Sublist.cons_cons _ ?_ | refine List.Sublist.cons _ ?_ | refine List.Sublist.trans ?_ (List.sublist_append_right _ _)))) ?_
          refine TV.step [8] (by kernel_rfl) (by decide) rfl ⟨⟨_, rfl, ?_⟩, trivial⟩
          refine TL.alloc Tb.zero_25 rfl (by decide) (fun bq hbq => ?_)
          refine TL.nil ?_
          refine TV.next (.inl (by repeat (first | exact List.Sublist.slnil | exact List.nil_sublist _ | exact List.Sublist.refl _ | refine List.Sublist.cons_cons _ ?_ | refine List.Sublist.cons _ ?_ | refine List.Sublist.trans ?_ (List.sublist_append_right _ _)))) ?_
          refine TV.step [9] (by kernel_rfl) (by decide) rfl ⟨⟨_, rfl, ?_⟩, trivial⟩
          refine TL.store rfl rfl Tb.cells_25 rfl (by repeat (first | exact Upd.head _ | apply Upd.tail | apply Upd.appR)) (by first | decide | (simp; done) | (simp; omega) | omega) rfl rfl ?_
          refine TL.nil ?_
          refine TV.next (.inr (by kernel_rfl)) ?_
          refine TV.done (by kernel_rfl) ?_
          refine TQ.thenC ?_
          refine TC.region ?_
          refine TL.pure (PV.move rfl) rfl (by decide) ?_
          refine TL.pure (PV.makeFuncB (pre := []) (caps := [_]) rfl rfl) rfl (by decide) ?_
          refine TL.perm (G' := gbI (some (b9, c9, p9), x.2.1) ++ ((bq, Obj.cells #[.slice pa (ss.getD k default).t.length ca] 25 (0, 0)) :: [(bk, Obj.cells #[.func (.func 117) #[] #[], .func (.func 118) #[] #[]] 111 (0, 0)), (b0, Obj.cells #[.int .i64 n, .slice p ss.length cp] 24 (0, 0))])) List.perm_middle ?_
          refine TL.callW (X := List Value) (fun _ => .slice (some ⟨b9, 0, none⟩) (x.2.1.filter (fun x => !decide (0 < (kS 1 (ss.getD k default)).g.getD x.toNat 0))).length c9) (fun s => goI (some (b9, c9, s), x.2.1.filter (fun x => !decide (0 < (kS 1 (ss.getD k default)).g.getD x.toNat 0)))) (fun s => gbI (some (b9, c9, s), x.2.1.filter (fun x => !decide (0 < (kS 1 (ss.getD k default)).g.getD x.toNat 0))) ++ ((bq, Obj.cells #[.slice pa (ss.getD k default).t.length ca] 25 (0, 0)) :: [(bk, Obj.cells #[.func (.func 117) #[] #[], .func (.func 118) #[] #[]] 111 (0, 0)), (b0, Obj.cells #[.int .i64 n, .slice p ss.length cp] 24 (0, 0))])) rfl Tb.gofn_113 (fun a w hs => delete_ok (sp := p9) hs.new (by omega) hgo 114 [.pointer (some ⟨bq, 0, none⟩)] (fun x => !decide (0 < (kS 1 (ss.getD k default)).g.getD x.toNat 0)) Tb.gofn_114 (fun w1 ys hn1 z hm => (by simp only [Bool.not_not]; exact greatestF_ok w1 z ⟨bq, 0, none⟩ pa ca (ss.getD k default).t (hta.new hn1) (hn1.cell (by repeat (first | exact List.Mem.head _ | refine List.Mem.tail _ ?_ | refine List.mem_append_right _ ?_)) rfl) (by have h8 := hx9.1.inp hVP.2.inp z hm; omega)))) rfl (by decide) (fun s9 hs9 => ?_)
          refine TL.pure (PV.assign rfl) rfl (by decide) ?_
          refine TL.nil ?_
          refine TQ.blkN ?_
          refine TQ.thenC ?_
          refine TC.region ?_
          refine TL.pure (PV.loadBox (cs := [.func (.func 117) #[] #[], .func (.func 118) #[] #[]]) rfl Tb.agg_111 (by repeat (first | exact List.Mem.head _ | refine List.Mem.tail _ ?_ | refine List.mem_append_right _ ?_)) rfl) rfl (by decide) ?_
          refine TL.pure (PV.loadBox rfl Tb.agg_24 (by repeat (first | exact List.Mem.head _ | refine List.Mem.tail _ ?_ | refine List.mem_append_right _ ?_)) rfl) rfl (by decide) ?_
          refine TL.pure (PV.move rfl) rfl (by decide) ?_
          refine TL.call rfl Tb.gofn_111 (fun a w hs => breaker1_ok w _ _ _ _ (hr.new hs.new) hS hVP.1 _ (x.2.1.filter fun x => !decide (0 < (kS 1 (ss.getD k default)).g.getD x.toNat 0)) (IsI.g (h := some (b9, c9, s9)) hs.new (fun yy hyy => by repeat (first | exact List.mem_append_left _ hyy | exact List.mem_append_left _ (List.mem_append_right _ hyy) | exact List.mem_append_left _ (List.mem_append_left _ hyy) | refine List.mem_append_right _ ?_ | refine List.Mem.tail _ ?_)) hs9) (by omega) ((hx9.1.step hkm hkb).inp hVP.2.inp)) rfl (by decide) (fun i8 hi8 => ?_)
          refine TL.pure (PV.assign rfl) rfl (by decide) ?_
          refine TL.nil ?_
          refine TQ.thenN ?_
          refine TQ.backK (some (b9, c9, s9), x.2.1.filter (fun x => !decide (0 < (kS 1 (ss.getD k default)).g.getD x.toNat 0)), i8) (by repeat (first | exact True.intro | refine And.intro rfl ?_)) (by repeat (first | exact True.intro | refine And.intro rfl ?_)) (List.Sublist.append_left (List.sublist_cons_self _ _) _) ⟨hx9.1.step hkm hkb, hs9, hi8⟩ (by simp only; exact hfl)
        · skip
          refine TL.alloc Tb.zero_25 rfl (by decide) (fun bq hbq => ?_)
          refine TL.nil ?_
          refine TV.next (.inl (by repeat (first | exact List.Sublist.slnil | exact List.nil_sublist _ | exact List.Sublist.refl _ | refine List.Sublist.cons_cons _ ?_ | refine List.Sublist.cons _ ?_ | refine List.Sublist.trans ?_ (List.sublist_append_right _ _)))) ?_
          refine TV.step [7] (by kernel_rfl) (by decide) rfl ⟨⟨_, rfl, ?_⟩, trivial⟩
          refine TL.callBC (f := 117) (pre := []) (caps := []) rfl rfl Tb.gofn_117 (fun a w hs => kinds117_ok w pa pb ca cb (ss.getD k default)) rfl (by decide) (fun _ _ => ?_)
          refine TL.nil ?_
          refine TV.next (.inl (by repeat (first | exact List.Sublist.slnil | exact List.nil_sublist _ | exact List.Sublist.refl _ | refine List.Sublist.cons_cons _ ?_ | refine List.Sublist.cons _ ?_ | refine List.Sublist.trans ?_ (List.sublist_append_right _ _)))) ?_
          refine TV.step [9] (by kernel_rfl) (by decide) rfl ⟨⟨_, rfl, ?_⟩, trivial⟩
          refine TL.store rfl rfl Tb.cells_25 rfl (by repeat (first | exact Upd.head _ | apply Upd.tail | apply Upd.appR)) (by first | decide | (simp; done) | (simp; omega) | omega) rfl rfl ?_
          refine TL.nil ?_
          refine TV.next (.inr (by kernel_rfl)) ?_
          refine TV.done (by kernel_rfl) ?_
          refine TQ.thenC ?_
          refine TC.region ?_
          refine TL.pure (PV.move rfl) rfl (by decide) ?_
          refine TL.pure (PV.makeFuncB (pre := []) (caps := [_]) rfl rfl) rfl (by decide) ?_
          refine TL.perm (G' := gbI (some (b9, c9, p9), x.2.1) ++ ((bq, Obj.cells #[.slice pa (ss.getD k default).t.length ca] 25 (0, 0)) :: [(bk, Obj.cells #[.func (.func 117) #[] #[], .func (.func 118) #[] #[]] 111 (0, 0)), (b0, Obj.cells #[.int .i64 n, .slice p ss.length cp] 24 (0, 0))])) List.perm_middle ?_
          refine TL.callW (X := List Value) (fun _ => .slice (some ⟨b9, 0, none⟩) (x.2.1.filter (fun x => !decide (0 < (kS 1 (ss.getD k default)).g.getD x.toNat 0))).length c9) (fun s => goI (some (b9, c9, s), x.2.1.filter (fun x => !decide (0 < (kS 1 (ss.getD k default)).g.getD x.toNat 0)))) (fun s => gbI (some (b9, c9, s), x.2.1.filter (fun x => !decide (0 < (kS 1 (ss.getD k default)).g.getD x.toNat 0))) ++ ((bq, Obj.cells #[.slice pa (ss.getD k default).t.length ca] 25 (0, 0)) :: [(bk, Obj.cells #[.func (.func 117) #[] #[], .func (.func 118) #[] #[]] 111 (0, 0)), (b0, Obj.cells #[.int .i64 n, .slice p ss.length cp] 24 (0, 0))])) rfl Tb.gofn_113 (fun a w hs => delete_ok (sp := p9) hs.new (by omega) hgo 114 [.pointer (some ⟨bq, 0, none⟩)] (fun x => !decide (0 < (kS 1 (ss.getD k default)).g.getD x.toNat 0)) Tb.gofn_114 (fun w1 ys hn1 z hm => (by simp only [Bool.not_not]; exact greatestF_ok w1 z ⟨bq, 0, none⟩ pa ca (ss.getD k default).t (hta.new hn1) (hn1.cell (by repeat (first | exact List.Mem.head _ | refine List.Mem.tail _ ?_ | refine List.mem_append_right _ ?_)) rfl) (by have h8 := hx9.1.inp hVP.2.inp z hm; omega)))) rfl (by decide) (fun s9 hs9 => ?_)
          refine TL.pure (PV.assign rfl) rfl (by decide) ?_
          refine TL.nil ?_
          refine TQ.blkN ?_
          refine TQ.thenC ?_
          refine TC.region ?_
          refine TL.pure (PV.loadBox (cs := [.func (.func 117) #[] #[], .func (.func 118) #[] #[]]) rfl Tb.agg_111 (by repeat (first | exact List.Mem.head _ | refine List.Mem.tail _ ?_ | refine List.mem_append_right _ ?_)) rfl) rfl (by decide) ?_
          refine TL.pure (PV.loadBox rfl Tb.agg_24 (by repeat (first | exact List.Mem.head _ | refine List.Mem.tail _ ?_ | refine List.mem_append_right _ ?_)) rfl) rfl (by decide) ?_
          refine TL.pure (PV.move rfl) rfl (by decide) ?_
          refine TL.call rfl Tb.gofn_111 (fun a w hs => breaker1_ok w _ _ _ _ (hr.new hs.new) hS hVP.1 _ (x.2.1.filter fun x => !decide (0 < (kS 1 (ss.getD k default)).g.getD x.toNat 0)) (IsI.g (h := some (b9, c9, s9)) hs.new (fun yy hyy => by repeat (first | exact List.mem_append_left _ hyy | exact List.mem_append_left _ (List.mem_append_right _ hyy) | exact List.mem_append_left _ (List.mem_append_left _ hyy) | refine List.mem_append_right _ ?_ | refine List.Mem.tail _ ?_)) hs9) (by omega) ((hx9.1.step hkm hkb).inp hVP.2.inp)) rfl (by decide) (fun i8 hi8 => ?_)
          refine TL.pure (PV.assign rfl) rfl (by decide) ?_
          refine TL.nil ?_
          refine TQ.thenN ?_
          refine TQ.backK (some (b9, c9, s9), x.2.1.filter (fun x => !decide (0 < (kS 1 (ss.getD k default)).g.getD x.toNat 0)), i8) (by repeat (first | exact True.intro | refine And.intro rfl ?_)) (by repeat (first | exact True.intro | refine And.intro rfl ?_)) (List.Sublist.append_left (List.sublist_cons_self _ _) _) ⟨hx9.1.step hkm hkb, hs9, hi8⟩ (by simp only; exact hfl)
      · skip
        refine TC.exit ?_
        refine TQ.thenE ?_
        refine TQ.thenE ?_
        refine TQ.blkS ?_
        refine TQ.thenC ?_
        refine TC.seq ?_
        refine TC.region ?_
        refine TL.pure (PV.move rfl) rfl (by decide) ?_
        refine TL.pure (PV.assign rfl) rfl (by decide) ?_
        refine TL.pure (PV.assign rfl) rfl (by decide) ?_
        refine TL.nil ?_
        refine TQ.thenC ?_
        refine TC.ret ?_
        refine TQ.retE2 rfl rfl rfl ?_
        have e9 := gr_0 (kd := 1) a1
        have e8 := hx9.1.fin (no_brk hx9.2.2 hge)
        exact ⟨x.1, by rw [e9, ← e8], by rw [e9, ← e8]; exact hx9.2.1, by rw [e9, ← e8]; exact List.sublist_append_left _ _⟩

end Go.Proofs.Ytkkipbkkijoneaa
