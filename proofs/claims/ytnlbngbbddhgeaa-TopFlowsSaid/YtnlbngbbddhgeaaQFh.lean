/- The closure that finds a way: its contract. -/
import Derived.Test.YtnlbngbbddhgeaaQFg
set_option linter.unusedVariables false
set_option linter.unusedSimpArgs false
namespace Go.Proofs.Ytnlbngbbddhgeaa
open Go.Sx Go.RowKit

theorem perm_f (x a1 a2 a3 a4 : Nat × Obj) (T : Heap) : List.Perm (x :: a1 :: a2 :: a3 :: a4 :: T) (a1 :: a2 :: a3 :: a4 :: x :: T) := (List.perm_middle (a := x) (l₁ := [a1, a2, a3, a4]) (l₂ := T)).symm
/-- Nothing more leads to t: a set that nothing can leave. -/
def Shut (L : List Fl.E) (n s t : Nat) : Prop := ∃ seen : List Bool, seen.length = n ∧ sn seen s = true ∧ sn seen t = false ∧ ∀ v, sn seen v = true → ∀ j, j < L.length → 0 < (Fl.onw (L.getD j default) v).2 → sn seen (Fl.onw (L.getD j default) v).1 = true
def fV : Option WV → Value
  | none => .agg #[.slice none 0 0, .int .i64 0]
  | some y => .agg #[.slice (some ⟨y.bh, 0, none⟩) y.ks.length y.ch, .int .i64 y.am]
def fF (L : List Fl.E) (n s t : Nat) : Option WV → Prop
  | none => Shut L n s t
  | some y => FY L s t y
def fD (x : Nat × Obj) (R : Heap) : Option WV → Heap
  | none => x :: R
  | some y => x :: (y.bh, Obj.cells (kcs y.ks y.sp) 3 (0, 0)) :: R
theorem perm_g (x y z : Nat × Obj) (A T : Heap) : List.Perm (x :: y :: z :: (A ++ T)) (y :: z :: (A ++ (x :: T))) := by
  refine List.Perm.trans (List.Perm.swap y x _) (List.Perm.cons y ?_)
  refine List.Perm.trans (List.Perm.swap z x _) (List.Perm.cons z ?_)
  exact (List.perm_middle (a := x) (l₁ := A) (l₂ := T)).symm
theorem Shut.of {L : List Fl.E} {n s t : Nat} {x : List Bool × HD} (hs : s < n) (h : FX L t s (List.replicate n false) none [] x) : Shut L n s t :=
  ⟨x.1, h.1.len.trans (List.length_replicate), h.1.at_, h.1.goal, fun v hv j hj hr => h.1.new v hv (sn_rep n v) j hj hr⟩
set_option maxRecDepth 100000 in
theorem find_ok {w0 w : World} {bn br b cl n s t ln cap : Nat} {p : Option Addr} {L : List Fl.E} {T : Heap} (hnt : Nt L n) (hs9 : s < n) (ht9 : t < n) (hst : s ≠ t)
    (hN : New w0 w ((bn, Obj.cells #[.int .i64 (n : Nat), .int .i64 (s : Nat), .int .i64 (t : Nat), .slice p ln cap] 24 (0, 0)) :: (br, Obj.cells #[.slice (some ⟨b, 0, none⟩) L.length cl] 65 (0, 0)) :: (b, rsO L) :: T)) :
    Calls Try.prog 62 #[.pointer (some ⟨bn, 0, none⟩), .pointer (some ⟨br, 0, none⟩)] w (Post (X := Option WV) fV (fF L n s t) (fD (b, rsO L) ((bn, Obj.cells #[.int .i64 (n : Nat), .int .i64 (s : Nat), .int .i64 (t : Nat), .slice p ln cap] 24 (0, 0)) :: (br, Obj.cells #[.slice (some ⟨b, 0, none⟩) L.length cl] 65 (0, 0)) :: T)) w0) := by
  have lo9 : ∀ K, ¬ LetsOut (Exit.then K (bodyPostD Try.prog Try.f62 (Post (X := Option WV) fV (fF L n s t) (fD (b, rsO L) ((bn, Obj.cells #[.int .i64 (n : Nat), .int .i64 (s : Nat), .int .i64 (t : Nat), .slice p ln cap] 24 (0, 0)) :: (br, Obj.cells #[.slice (some ⟨b, 0, none⟩) L.length cl] 65 (0, 0)) :: T)) w0))) := fun K => lo_then bodyD_lo
  refine callsDfM hN Try.func62 rfl (n := 14) rfl (by simp) ?_
  refine TG.seq ?_
  refine TG.region (lo9 _) (by kernel_rfl) ?_
  refine TL.alloc Tb.zero_68 rfl (by decide) (fun b0 hb0 => ?_)
  refine TL.nil ?_
  refine TQ.thenG ?_
  refine TG.seq ?_
  refine TG.regionL ?_
  refine TGL.pre 1 (lo9 _) (by kernel_rfl) ?_
  simp only [List.take_succ_cons, List.take_zero, List.drop_succ_cons, List.drop_zero]
  refine TL.pure (PV.makeFunc rfl) rfl (by decide) ?_
  refine TL.nil ?_
  refine TQ.thenL ?_
  refine TGL.defer (fun a w hs => resolve_clo (f := 63) (k := 3) (caps := [.pointer (some ⟨b0, 0, none⟩)]) (xs := []) (vs := []) rfl hs rfl rfl) ?_
  refine TGL.opsAll (lo9 _) (by kernel_rfl) ?_
  refine TL.nil ?_
  refine TQ.thenG ?_
  refine TG.seq ?_
  refine TG.mixV [true, true, true, true, false, true, true, true, false] [(bn, Obj.cells #[.int .i64 (n : Nat), .int .i64 (s : Nat), .int .i64 (t : Nat), .slice p ln cap] 24 (0, 0)), (br, Obj.cells #[.slice (some ⟨b, 0, none⟩) L.length cl] 65 (0, 0))] 9 (lo9 _) Tb.mixed rfl (by kernel_rfl) (by kernel_rfl) (by kernel_rfl) (by kernel_rfl) (by repeat (first | exact List.Sublist.slnil | exact List.nil_sublist _ | exact List.Sublist.refl _ | refine List.Sublist.cons_cons _ ?_ | refine List.Sublist.cons _ ?_ | refine List.Sublist.trans ?_ (List.sublist_append_right _ _))) ?_
  refine TV.virt 0 rfl rfl (by decide) rfl (by kernel_rfl) (SOK.pure (PV.loadBox rfl Tb.agg_24 (by repeat (first | exact List.Mem.head _ | refine List.Mem.tail _ ?_ | refine List.mem_append_right _ ?_)) rfl) rfl) ?_
  refine TV.virt 1 rfl rfl (by decide) rfl (by kernel_rfl) (SOK.pure (PV.load rfl Tb.one_65 (by repeat (first | exact List.Mem.head _ | refine List.Mem.tail _ ?_ | refine List.mem_append_right _ ?_)) rfl) rfl) ?_
  refine TV.virt 2 rfl rfl (by decide) rfl (by kernel_rfl) (SOK.pure (PV.fieldAddr rfl Tb.fo_24_2) rfl) ?_
  refine TV.virt 3 rfl rfl (by decide) rfl (by kernel_rfl) (SOK.pure (PV.load rfl Tb.one_3 (by repeat (first | exact List.Mem.head _ | refine List.Mem.tail _ ?_ | refine List.mem_append_right _ ?_)) rfl) rfl) ?_
  refine TV.virt 5 rfl rfl (by decide) rfl (by kernel_rfl) (SOK.pure (PV.fieldAddr rfl Tb.fo_24_1) rfl) ?_
  refine TV.virt 6 rfl rfl (by decide) rfl (by kernel_rfl) (SOK.pure (PV.load rfl Tb.one_3 (by repeat (first | exact List.Mem.head _ | refine List.Mem.tail _ ?_ | refine List.mem_append_right _ ?_)) rfl) rfl) ?_
  refine TV.virt 7 rfl rfl (by decide) rfl (by kernel_rfl) (SOK.pure (PV.build rfl Tb.zero_68 Tb.pl_68 rfl) rfl) ?_
  refine TV.step [4] (by kernel_rfl) (by decide) rfl ⟨⟨_, rfl, ?_⟩, trivial⟩
  refine TL.call rfl Tb.gofn_64 (fun a w hs => newSearch_ok w n _ _ _ _ _ _ _ (by have := hnt.n8; omega)) rfl (by decide) (fun bS _ => ?_)
  refine TL.nil ?_
  refine TV.next (.inl (by repeat (first | exact List.Sublist.slnil | exact List.nil_sublist _ | exact List.Sublist.refl _ | refine List.Sublist.cons_cons _ ?_ | refine List.Sublist.cons _ ?_ | refine List.Sublist.trans ?_ (List.sublist_append_right _ _)))) ?_
  refine TV.step [8] (by kernel_rfl) (by decide) rfl ⟨⟨_, rfl, ?_⟩, trivial⟩
  refine TL.callPan (X := List Bool × HD) (Y := WV) (fun _ => .tuple #[]) (FX L t s (List.replicate n false) none []) (GX b bS L [] ((b0, Obj.cells #[.slice none 0 0, .int .i64 0] 68 (0, 0)) :: (bn, Obj.cells #[.int .i64 (n : Nat), .int .i64 (s : Nat), .int .i64 (t : Nat), .slice p ln cap] 24 (0, 0)) :: (br, Obj.cells #[.slice (some ⟨b, 0, none⟩) L.length cl] 65 (0, 0)) :: T)) WV.val (FY L s t) (GY b L ((b0, Obj.cells #[.slice none 0 0, .int .i64 0] 68 (0, 0)) :: (bn, Obj.cells #[.int .i64 (n : Nat), .int .i64 (s : Nat), .int .i64 (t : Nat), .slice p ln cap] 24 (0, 0)) :: (br, Obj.cells #[.slice (some ⟨b, 0, none⟩) L.length cl] 65 (0, 0)) :: T)) rfl Tb.gofn_65 (fun a w hs => visit_all _ w0 w b cl bS n L (List.replicate n false) t s s none [] 20 ((b0, Obj.cells #[.slice none 0 0, .int .i64 0] 68 (0, 0)) :: (bn, Obj.cells #[.int .i64 (n : Nat), .int .i64 (s : Nat), .int .i64 (t : Nat), .slice p ln cap] 24 (0, 0)) :: (br, Obj.cells #[.slice (some ⟨b, 0, none⟩) L.length cl] 65 (0, 0)) :: T) t hnt (by simp) hs9 (fun v _ => Int.ofNat_inj) hst (sn_rep n s) (sn_rep n t) Pth.start (Nat.le_refl _) ⟨rfl, rfl⟩ (hs.new.perm (perm_f _ _ _ _ _ _))) rfl (by decide) (fun x9 hx9 => ?_) (fun y9 hy9 => ?_)
  refine TL.nil ?_
  refine TV.next (.inl (by repeat (first | exact List.Sublist.slnil | exact List.nil_sublist _ | exact List.Sublist.refl _ | refine List.Sublist.cons_cons _ ?_ | refine List.Sublist.cons _ ?_ | refine List.Sublist.trans ?_ (List.sublist_append_right _ _)))) ?_
  refine TV.done (by kernel_rfl) ?_
  · skip
    refine TQ.thenG ?_
    refine TG.seq ?_
    refine TG.region (lo9 _) (by kernel_rfl) ?_
    refine TL.pure (PV.build rfl Tb.zero_68 Tb.pl_68 rfl) rfl (by decide) ?_
    refine TL.storeAgg rfl rfl Tb.cells_68 (by repeat (first | exact Upd.head _ | apply Upd.tail | apply Upd.appR)) rfl rfl rfl rfl rfl ?_
    refine TL.nil ?_
    refine TQ.thenG ?_
    refine TG.ret ?_
    refine TQ.retD (G' := (b0, Obj.cells #[.slice none 0 0, .int .i64 0] 68 (0, 0)) :: (b, rsO L) :: (bS, Obj.cells (boolsA x9.1) 4 (0, 0)) :: (gblk x9.2 3 (vals []) ++ ((bn, Obj.cells #[.int .i64 (n : Nat), .int .i64 (s : Nat), .int .i64 (t : Nat), .slice p ln cap] 24 (0, 0)) :: (br, Obj.cells #[.slice (some ⟨b, 0, none⟩) L.length cl] 65 (0, 0)) :: T))) (by kernel_rfl) (fun w hw => (caught (rv := .nilIface) .returning (fun c₀ cs hc => .inr ⟨by simp [recoverD, hc], rfl, rfl⟩) assert_nil rfl (hw.perm (perm_g _ _ _ _ _))).mono fun e u' w' ⟨h1, h2, h3⟩ => ⟨h1, h2, h3⟩) ?_
    refine TQ.retR rfl (Res.agg rfl Tb.agg_68 (.head _) rfl Res.nil) ?_
    simp only [tup]
    exact ⟨none, rfl, Shut.of hs9 hx9, List.Sublist.cons _ (List.Sublist.cons_cons _ (List.Sublist.cons _ (List.sublist_append_right _ _)))⟩
  · skip
    refine TQ.panT ?_
    refine TQ.panM ?_
    refine TQ.gpanT ?_
    refine TQ.panD (G' := (b0, Obj.cells #[.slice (some ⟨y9.bh, 0, none⟩) y9.ks.length y9.ch, .int .i64 y9.am] 68 (0, 0)) :: (b, rsO L) :: (y9.bh, Obj.cells (kcs y9.ks y9.sp) 3 (0, 0)) :: ([] ++ ((bn, Obj.cells #[.int .i64 (n : Nat), .int .i64 (s : Nat), .int .i64 (t : Nat), .slice p ln cap] 24 (0, 0)) :: (br, Obj.cells #[.slice (some ⟨b, 0, none⟩) L.length cl] 65 (0, 0)) :: T))) (by kernel_rfl) (fun w hw => (caught (rv := y9.val) (took y9) (fun c₀ cs hc => .inl (by simp [recoverD, hc, took])) (assert_way y9) rfl (hw.perm (perm_g _ _ _ [] _))).mono fun e u' w' ⟨h1, h2, h3⟩ => ⟨by rw [h1]; exact settle_took y9, h2, h3⟩) ?_
    refine TQ.retR rfl (Res.agg rfl Tb.agg_68 (.head _) rfl Res.nil) ?_
    simp only [tup]
    exact ⟨some y9, rfl, hy9, List.Sublist.cons _ (List.Sublist.refl _)⟩
end Go.Proofs.Ytnlbngbbddhgeaa
