/- A flow that is as great as can be: its contract. -/
import Derived.Test.YtnlbngbbddhgeaaQFi
set_option linter.unusedVariables false
set_option linter.unusedSimpArgs false
namespace Go.Proofs.Ytnlbngbbddhgeaa
open Go.Sx Go.RowKit

structure Mx (n s t : Nat) (rs : List Bd) (L : List Fl.E) : Prop where
  fl : Fl.Flow n s t L
  len : L.length = rs.length
  same : ∀ k, k < rs.length → Fl.same (L.getD k default) (mkE (rs.getD k default) 0)
  w20 : ∀ e ∈ L, e.w ≤ 20
  ne : ∀ e ∈ L, e.f ≠ e.t
theorem Mx.nt {n s t : Nat} {rs : List Bd} {L : List Fl.E} (h : Mx n s t rs L) (hv : Vd n s t rs) : Nt L n :=
  ⟨by have := h.len; have := hv.len; omega, by have := hv.n8; omega, fun e he => ⟨(h.fl.bd e he).1, (h.fl.bd e he).2, h.w20 e he⟩, h.ne, h.fl.nodes⟩
theorem out_zero {u : Nat} : ∀ {L : List Fl.E}, (∀ e ∈ L, e.r = 0) → Fl.out u L = 0
  | [], _ => rfl
  | e :: l, h => by
    have h1 := h e List.mem_cons_self
    have h2 := out_zero (u := u) (L := l) fun x hx => h x (List.mem_cons_of_mem _ hx)
    simp only [Fl.out, h1, h2]; split <;> split <;> rfl
theorem mkL_mem {rs : List Bd} {f : Nat → Int} {e : Fl.E} (h : e ∈ mkL rs f) : ∃ k, k < rs.length ∧ e = mkE (rs.getD k default) (f k) := by
  obtain ⟨k, hk, rfl⟩ := List.mem_map.1 h
  exact ⟨k, List.mem_range.1 hk, rfl⟩
theorem mkL_getD {rs : List Bd} {f : Nat → Int} {k : Nat} (h : k < rs.length) : (mkL rs f).getD k default = mkE (rs.getD k default) (f k) := by
  simp [mkL, List.getD, h]
theorem Mx.start {n s t : Nat} {rs : List Bd} (hv : Vd n s t rs) {f : Nat → Int} (hf : ∀ k, f k = 0) : Mx n s t rs (mkL rs f) := by
  have hz : ∀ e ∈ mkL rs f, e.r = 0 := fun e he => by
    obtain ⟨k, _, rfl⟩ := mkL_mem he; exact hf k
  have hb : ∀ e ∈ mkL rs f, (e.f < n ∧ e.t < n) ∧ (0 ≤ e.w ∧ e.w ≤ 20) ∧ e.f ≠ e.t := fun e he => by
    obtain ⟨k, hk, rfl⟩ := mkL_mem he
    have := hv.at hk
    simp only [mkE]
    omega
  exact ⟨⟨by have := hv.s0; omega, by have := hv.t0; omega, fun e he => (hb e he).1, fun e he => by have := hz e he; have := (hb e he).2.1; omega, fun u _ _ _ => out_zero hz⟩, mkL_len _ _, fun k hk => by rw [mkL_getD hk]; exact ⟨rfl, rfl, rfl⟩, fun e he => (hb e he).2.1.2, fun e he => (hb e he).2.2⟩
theorem Mx.fs {n s t : Nat} {rs : List Bd} {L : List Fl.E} (h : Mx n s t rs L) {y : WV} (hy : FY L s t y) : FS y.am L s y.ks t :=
  ⟨hy.1, fun e he => ⟨(h.fl.bd e he).1, (h.fl.bd e he).2, h.w20 e he⟩, h.ne⟩
theorem Mx.fill {n s t : Nat} {rs : List Bd} {L : List Fl.E} (h : Mx n s t rs L) (hst : s ≠ t) {y : WV} (hy : FY L s t y) : Mx n s t rs (Fl.fil y.am L s y.ks) ∧ Fl.out s (Fl.fil y.am L s y.ks) = Fl.out s L + y.am := by
  have hk := fun x => Fl.fil_ok (a := y.am) (by have := hy.2.1; omega) (x := x) h.ne h.fl.bd hy.1
  have hl := (hk 0).2.2.1
  have hsm := (hk 0).2.2.2
  have hmem : ∀ e ∈ Fl.fil y.am L s y.ks, ∃ e' ∈ L, Fl.same e e' := fun e he => by
    obtain ⟨k, hk9, rfl⟩ := List.getElem_of_mem he
    exact ⟨L[k]'(by omega), List.getElem_mem _, hsm k (by omega) hk9⟩
  refine ⟨⟨⟨h.fl.sn, h.fl.tn, fun e he => ?_, (hk 0).2.1, fun u h1 h2 h3 => ?_⟩, hl.trans h.len, fun k hk9 => ?_, fun e he => ?_, fun e he => ?_⟩, ?_⟩
  · obtain ⟨e', h1, h2⟩ := hmem e he
    rw [h2.1, h2.2.1]; exact h.fl.nodes e' h1
  · rw [(hk u).1, h.fl.kp u h1 h2 h3, if_neg h2, if_neg h3]; rfl
  · have h1 : k < L.length := by have := h.len; omega
    rw [getD_get (by omega : k < (Fl.fil y.am L s y.ks).length)]
    have h2 := hsm k h1 (by omega)
    have h3 := h.same k hk9
    rw [getD_get h1] at h3
    exact ⟨h2.1.trans h3.1, h2.2.1.trans h3.2.1, h2.2.2.trans h3.2.2⟩
  · obtain ⟨e', h1, h2⟩ := hmem e he
    rw [h2.2.2]; exact h.w20 e' h1
  · obtain ⟨e', h1, h2⟩ := hmem e he
    rw [h2.1, h2.2.1]; exact h.ne e' h1
  · rw [(hk s).1, if_pos rfl, if_neg hst]; omega
theorem cutW_320 {S : Nat → Bool} : ∀ {L : List Fl.E}, (∀ e ∈ L, 0 ≤ e.w ∧ e.w ≤ 20) → Fl.cutW S L ≤ 20 * L.length
  | [], _ => by simp [Fl.cutW]
  | e :: l, h => by
    have h1 := h e List.mem_cons_self
    have h2 := cutW_320 (S := S) (L := l) fun x hx => h x (List.mem_cons_of_mem _ hx)
    simp only [Fl.cutW, List.length_cons]
    split <;> omega
theorem Mx.le {n s t : Nat} {rs : List Bd} {L : List Fl.E} (h : Mx n s t rs L) (hst : s ≠ t) (hv : Vd n s t rs) : Fl.out s L ≤ 320 := by
  have h1 := h.fl.le (S := fun v => decide (v = s)) (by simp) (by simp; exact fun e => hst e.symm)
  have h2 := cutW_320 (S := fun v => decide (v = s)) (L := L) fun e he => ⟨by have := h.fl.bd e he; omega, h.w20 e he⟩
  have h3 := h.len; have h4 := hv.len
  omega
def fS : Option WV → Value
  | none => .slice none 0 0
  | some y => .slice (some ⟨y.bh, 0, none⟩) y.ks.length y.ch
def fR : Option WV → Int
  | none => 0
  | some y => y.am
theorem fS_one (o : Option WV) : [fS o, Value.int .i64 (fR o)].all Value.oneCell' = true := by cases o <;> rfl
theorem fV_eq (o : Option WV) : fV o = .agg #[fS o, .int .i64 (fR o)] := by cases o <;> rfl
theorem find_m {w0 w : World} {bn br b n s t ln cap m : Nat} {p : Option Addr} {L : List Fl.E} {T : Heap} (hm : L.length = m) (hnt : Nt L n) (hs9 : s < n) (ht9 : t < n) (hst : s ≠ t)
    (hN : New w0 w ((bn, Obj.cells #[.int .i64 (n : Nat), .int .i64 (s : Nat), .int .i64 (t : Nat), .slice p ln cap] 24 (0, 0)) :: (br, Obj.cells #[.slice (some ⟨b, 0, none⟩) m m] 65 (0, 0)) :: (b, rsO L) :: T)) :
    Calls Try.prog 62 #[.pointer (some ⟨bn, 0, none⟩), .pointer (some ⟨br, 0, none⟩)] w (Post (X := Option WV) (fun o => .agg #[fS o, .int .i64 (fR o)]) (fF L n s t) (fD (b, rsO L) ((bn, Obj.cells #[.int .i64 (n : Nat), .int .i64 (s : Nat), .int .i64 (t : Nat), .slice p ln cap] 24 (0, 0)) :: (br, Obj.cells #[.slice (some ⟨b, 0, none⟩) m m] 65 (0, 0)) :: T)) w0) := by
  subst hm
  have h := find_ok hnt hs9 ht9 hst hN
  exact h.mono fun e w' ⟨x, h1, h2, h3⟩ => ⟨x, by rw [h1, fV_eq], h2, h3⟩
theorem restsOf_z (w0 : World) (n s t : Int) (p : Option Addr) (cap : Nat) (rs : List Bd) (hr : BdsAt w0 p rs) (hv : Vd n s t rs) (pf : Option Addr) (cf m : Nat) (hm : m = rs.length) (hf : IntsAt w0 pf (List.replicate m 0)) :
    Calls Try.prog 61 #[dnV n s t p rs.length cap, .slice pf m cf] w0 (Post (X := Nat) (fun b => .slice (some ⟨b, 0, none⟩) rs.length rs.length) (fun _ => True) (fun b => [(b, rsO (mkL rs fun j => (List.replicate m (0 : Int)).getD j 0))]) w0) := by
  have := restsOf_ok w0 n s t p cap rs hr hv pf cf (List.replicate m 0) hf (by rw [List.length_replicate, hm])
  rw [List.length_replicate] at this
  exact this
theorem rep_0 (m j : Nat) : (List.replicate m (0 : Int)).getD j 0 = 0 := by
  rw [List.getD_eq_getElem?_getD, List.getElem?_replicate]; split <;> rfl
theorem fill_m {w0 w : World} {b m : Nat} {L : List Fl.E} {u v : Nat} {am : Int} {ks : List Nat} {bh ch : Nat} {sp : List Value} {R : Heap} (hm : L.length = m) (ha : 0 < am ∧ am ≤ 20) (hks : ks.length ≤ 100) (hs0 : FS am L u ks v) (hN : New w0 w ((b, rsO L) :: (bh, Obj.cells (kcs ks sp) 3 (0, 0)) :: R)) :
    Calls Try.prog 66 #[.slice (some ⟨b, 0, none⟩) m m, .int .i64 u, .agg #[.slice (some ⟨bh, 0, none⟩) ks.length ch, .int .i64 am]] w (Post (X := Unit) (fun _ => .tuple #[]) (fun _ => True) (fun _ => (b, rsO (Fl.fil am L u ks)) :: (bh, Obj.cells (kcs ks sp) 3 (0, 0)) :: R) w0) := by
  subst hm; exact fill_ok w0 w b _ L u v am ks bh ch sp R ha hks hs0 hN
theorem amounts_m {w0 : World} {b m : Nat} {L : List Fl.E} (hm : L.length = m) (hq : RsAt w0 b L) (hl : L.length ≤ 100) :
    Calls Try.prog 67 #[.slice (some ⟨b, 0, none⟩) m m] w0 (Post (X := Nat) (fun x => .slice (some ⟨x, 0, none⟩) m m) (fun _ => True) (fun x => [(x, Obj.cells (intsA (L.map (·.r))) 3 (0, 0))]) w0) := by
  subst hm; exact amounts_ok w0 b _ L hq hl
theorem fD_front {w0 w : World} {x a1 a2 z c : Nat × Obj} {R : Heap} {o : Option WV} (h : New w0 w (fD x (a1 :: a2 :: z :: c :: R) o)) : New w0 w (c :: fD x (a1 :: a2 :: [z]) o) := by
  cases o with
  | none =>
    have h1 : New w0 w [x, a1, a2, z, c] := h.sub (List.Sublist.cons_cons _ (List.Sublist.cons_cons _ (List.Sublist.cons_cons _ (List.Sublist.cons_cons _ (List.Sublist.cons_cons _ (List.nil_sublist _))))))
    exact h1.perm (List.perm_append_comm (l₁ := [c]) (l₂ := [x, a1, a2, z]))
  | some y =>
    have h1 : New w0 w [x, (y.bh, Obj.cells (kcs y.ks y.sp) 3 (0, 0)), a1, a2, z, c] := h.sub (List.Sublist.cons_cons _ (List.Sublist.cons_cons _ (List.Sublist.cons_cons _ (List.Sublist.cons_cons _ (List.Sublist.cons_cons _ (List.Sublist.cons_cons _ (List.nil_sublist _)))))))
    exact h1.perm (List.perm_append_comm (l₁ := [c]) (l₂ := [x, _, a1, a2, z]))
theorem perm_h (c x y a1 a2 z : Nat × Obj) : List.Perm (x :: y :: a1 :: a2 :: z :: [c]) (c :: x :: y :: a1 :: a2 :: [z]) := List.perm_append_comm (l₁ := [x, y, a1, a2, z]) (l₂ := [c])
theorem perm_i (c x y a1 a2 z q : Nat × Obj) : List.Perm (a1 :: a2 :: x :: z :: c :: [y, q]) (c :: x :: y :: a1 :: a2 :: z :: [q]) := by
  refine (List.perm_middle (a := c) (l₁ := [a1, a2, x, z]) (l₂ := [y, q])).trans (List.Perm.cons c ?_)
  refine (List.perm_middle (a := x) (l₁ := [a1, a2]) (l₂ := [z, y, q])).trans (List.Perm.cons x ?_)
  exact (List.perm_middle (a := y) (l₁ := [a1, a2, z]) (l₂ := [q]))
theorem perm_j (x y z q : Nat × Obj) : List.Perm [x, y, z, q] [z, y, q, x] := by
  refine (List.perm_append_comm (l₁ := [x]) (l₂ := [y, z, q])).trans ?_
  exact List.Perm.swap z y _
theorem perm_k (x y z q : Nat × Obj) : List.Perm [x, y, z, q] [z, q, y, x] := by
  refine (perm_j x y z q).trans (List.Perm.cons z ?_)
  exact List.Perm.swap q y _


set_option maxRecDepth 100000 in
set_option maxHeartbeats 2000000 in
theorem Flow_v (w0 : World) (n s t : Nat) (p : Option Addr) (cap : Nat) (rs : List Bd) (hr : BdsAt w0 p rs) (hv : Vd n s t rs) (hd0 : dI n s t rs = 0) :
    Calls Try.prog 24 #[dnV n s t p rs.length cap] w0 (Post (X := Nat × List Fl.E) (fun x => .tuple #[.slice (some ⟨x.1, 0, none⟩) rs.length rs.length, .int .i64 0]) (fun x => Mx n s t rs x.2 ∧ Shut x.2 n s t) (fun x => [(x.1, Obj.cells (intsA (x.2.map (·.r))) 3 (0, 0))]) w0) := by
  have hlen := hv.len
  have hsn : s < n := by have := hv.s0; omega
  have htn : t < n := by have := hv.t0; omega
  have hst : s ≠ t := by have := hv.st; omega
  have hM0 : Mx n s t rs (mkL rs fun j => (List.replicate rs.length (0 : Int)).getD j 0) := Mx.start hv (rep_0 _)
  refine calls Try.func24 rfl (n := 35) rfl (by simp) ?_
  refine TC.seq ?_
  refine TC.region ?_
  refine TL.box rfl rfl (by decide) (fun b0 hb0 => ?_)
  refine TL.pure (PV.assign rfl) rfl (by decide) ?_
  refine TL.pure (PV.assign rfl) rfl (by decide) ?_
  refine TL.nil ?_
  refine TQ.thenC ?_
  refine TC.seq ?_
  refine TC.seq ?_
  refine TC.region ?_
  refine TL.pure (PV.loadBox rfl Tb.agg_24 (by repeat (first | exact List.Mem.head _ | refine List.Mem.tail _ ?_ | refine List.mem_append_right _ ?_)) rfl) rfl (by decide) ?_
  refine TL.call rfl Tb.gofn_20 (fun a w hs => validate_ok w n s t p cap rs (hr.new hs.new)) rfl (by decide) (fun _ _ => ?_)
  refine TL.pure (PV.assign rfl) rfl (by decide) ?_
  refine TL.nil ?_
  refine TQ.thenC ?_
  refine TC.seq ?_
  refine TC.region ?_
  refine TL.pure (PV.move rfl) rfl (by decide) ?_
  refine TL.pure (PV.neq rfl rfl) rfl (by decide) ?_
  refine TL.nil ?_
  refine TQ.thenC ?_
  first | refine TC.condD rfl (fun hv9 => ?_) (fun hv9 => ?_) | refine TC.cond rfl (fun hv9 => ?_) (fun hv9 => ?_)
  · skip
    refine TC.seq ?_
    refine TC.region ?_
    refine TL.pure (PV.move rfl) rfl (by decide) ?_
    refine TL.pure (PV.assign rfl) rfl (by decide) ?_
    refine TL.pure (PV.assign rfl) rfl (by decide) ?_
    refine TL.nil ?_
    refine TQ.thenC ?_
    refine TC.ret ?_
    refine TQ.thenR ?_
    refine TQ.retE2 rfl rfl rfl ?_
    exact absurd hd0 hv9
  · skip
    refine TC.skip ?_
    refine TQ.thenC ?_
    refine TC.seq ?_
    refine TC.mixV [true, true, true, true, false, false, false, false] [(b0, Obj.cells #[.int .i64 (n : Nat), .int .i64 (s : Nat), .int .i64 (t : Nat), .slice p rs.length cap] 24 (0, 0))] 8 Tb.mixed rfl (by kernel_rfl) (by kernel_rfl) (by kernel_rfl) (by kernel_rfl) (by repeat (first | exact List.Sublist.slnil | exact List.nil_sublist _ | exact List.Sublist.refl _ | refine List.Sublist.cons_cons _ ?_ | refine List.Sublist.cons _ ?_ | refine List.Sublist.trans ?_ (List.sublist_append_right _ _))) ?_
    refine TV.virt 0 rfl rfl (by decide) rfl (by kernel_rfl) (SOK.pure (PV.loadBox rfl Tb.agg_24 (by repeat (first | exact List.Mem.head _ | refine List.Mem.tail _ ?_ | refine List.mem_append_right _ ?_)) rfl) rfl) ?_
    refine TV.virt 1 rfl rfl (by decide) rfl (by kernel_rfl) (SOK.pure (PV.fieldAddr rfl Tb.fo_24_3) rfl) ?_
    refine TV.virt 2 rfl rfl (by decide) rfl (by kernel_rfl) (SOK.pure (PV.load rfl Tb.one_22 (by repeat (first | exact List.Mem.head _ | refine List.Mem.tail _ ?_ | refine List.mem_append_right _ ?_)) rfl) rfl) ?_
    refine TV.virt 3 rfl rfl (by decide) rfl (by kernel_rfl) (SOK.pure (PV.len rfl Tb.sl_22) rfl) ?_
    refine TV.step [4, 6] (by kernel_rfl) (by decide) rfl ⟨⟨_, rfl, ?_⟩, ⟨_, rfl, ?_⟩, trivial⟩
    · skip
      refine TL.makeI (k := rs.length) rfl rfl Tb.sl_25 Tb.zi_3 rfl (by omega) (by omega) rfl (by decide) (fun bZ hbZ => ?_)
      refine TL.nil ?_
      refine TV.next (.inl (by repeat (first | exact List.Sublist.slnil | exact List.nil_sublist _ | exact List.Sublist.refl _ | refine List.Sublist.cons_cons _ ?_ | refine List.Sublist.cons _ ?_ | refine List.Sublist.trans ?_ (List.sublist_append_right _ _)))) ?_
      refine TV.step [5, 6] (by kernel_rfl) (by decide) rfl ⟨⟨_, rfl, ?_⟩, ⟨_, rfl, ?_⟩, trivial⟩
      · skip
        refine TL.call rfl Tb.gofn_61 (fun a w hs => restsOf_z w n s t p cap rs (hr.new hs.new) hv (some ⟨bZ, 0, none⟩) rs.length rs.length rfl (IntsAt.arr hs.new (by repeat (first | exact List.Mem.head _ | refine List.Mem.tail _ ?_ | refine List.mem_append_right _ ?_)))) rfl (by decide) (fun b _ => ?_)
        refine TL.nil ?_
        refine TV.next (.inl (by repeat (first | exact List.Sublist.slnil | exact List.nil_sublist _ | exact List.Sublist.refl _ | refine List.Sublist.cons_cons _ ?_ | refine List.Sublist.cons _ ?_ | refine List.Sublist.trans ?_ (List.sublist_append_right _ _)))) ?_
        refine TV.step [6] (by kernel_rfl) (by decide) rfl ⟨⟨_, rfl, ?_⟩, trivial⟩
        refine TL.alloc Tb.zero_65 rfl (by decide) (fun b1 hb1 => ?_)
        refine TL.nil ?_
        refine TV.next (.inl (by repeat (first | exact List.Sublist.slnil | exact List.nil_sublist _ | exact List.Sublist.refl _ | refine List.Sublist.cons_cons _ ?_ | refine List.Sublist.cons _ ?_ | refine List.Sublist.trans ?_ (List.sublist_append_right _ _)))) ?_
        refine TV.step [7] (by kernel_rfl) (by decide) rfl ⟨⟨_, rfl, ?_⟩, trivial⟩
        refine TL.store rfl rfl Tb.cells_65 rfl (by repeat (first | exact Upd.head _ | apply Upd.tail | apply Upd.appR)) (by first | decide | (simp; done) | (simp; omega) | omega) rfl rfl ?_
        refine TL.nil ?_
        refine TV.next (.inr (by kernel_rfl)) ?_
        refine TV.done (by kernel_rfl) ?_
        refine TQ.thenC ?_
        refine TC.seq ?_
        refine TC.region ?_
        refine TL.pure (PV.makeFunc rfl) rfl (by decide) ?_
        refine TL.pure (PV.assign rfl) rfl (by decide) ?_
        refine TL.nil ?_
        refine TQ.thenC ?_
        refine TC.seq ?_
        refine TC.seq ?_
        refine TC.region ?_
        refine TL.pure (PV.move rfl) rfl (by decide) ?_
        refine TL.callF (X := Option WV) (f := 62) (k := 20) (vs := []) (caps := [.pointer (some ⟨b0, 0, none⟩), .pointer (some ⟨b1, 0, none⟩)]) (fun o => .agg #[fS o, .int .i64 (fR o)]) (fF (mkL rs fun j => (List.replicate rs.length (0 : Int)).getD j 0) n s t) (fD (b, rsO (mkL rs fun j => (List.replicate rs.length (0 : Int)).getD j 0)) ((b0, Obj.cells #[.int .i64 (n : Nat), .int .i64 (s : Nat), .int .i64 (t : Nat), .slice p rs.length cap] 24 (0, 0)) :: (b1, Obj.cells #[.slice (some ⟨b, 0, none⟩) rs.length rs.length] 65 (0, 0)) :: [(bZ, Obj.cells (intsA (List.replicate rs.length 0)) 3 (0, 0))])) rfl rfl Tb.gofn_62 (fun a w hs => find_m (mkL_len _ _) (hM0.nt hv) hsn htn hst (hs.new.perm (by first | exact List.perm_append_comm (l₁ := [_]) (l₂ := [_, _, _]) | exact perm_j _ _ _ _ | exact perm_k _ _ _ _))) rfl (by decide) (fun o ho => ?_)
        refine TL.alloc Tb.zero_68 rfl (by decide) (fun b2 hb2 => ?_)
        refine TL.storeAgg (vs := [fS o, .int .i64 (fR o)]) rfl rfl Tb.cells_68 (Upd.head _) rfl rfl (fS_one o) rfl rfl ?_
        refine TL.nil ?_
        refine TQ.thenC ?_
        refine TC.block ?_
        refine TC.loopK [1, 2, 3, 5, 6] (X := List Fl.E × Option WV × Nat) (fun x => Mx n s t rs x.1 ∧ fF x.1 n s t x.2.1) (fun x => [(7, .pointer (some ⟨x.2.2, 0, none⟩))]) (fun x => (x.2.2, Obj.cells #[fS x.2.1, .int .i64 (fR x.2.1)] 68 (0, 0)) :: fD (b, rsO x.1) ((b0, Obj.cells #[.int .i64 (n : Nat), .int .i64 (s : Nat), .int .i64 (t : Nat), .slice p rs.length cap] 24 (0, 0)) :: (b1, Obj.cells #[.slice (some ⟨b, 0, none⟩) rs.length rs.length] 65 (0, 0)) :: [(bZ, Obj.cells (intsA (List.replicate rs.length 0)) 3 (0, 0))]) x.2.1) (fun x => (321 - Fl.out s x.1).toNat) ((mkL rs fun j => (List.replicate rs.length (0 : Int)).getD j 0), o, b2) ⟨hM0, ho⟩ (by repeat (first | exact True.intro | refine And.intro rfl ?_)) (List.Sublist.refl _) ?_
        intro x hx
        refine TC.seq ?_
        refine TC.seq ?_
        refine TC.region ?_
        refine TL.pure (PV.fieldAddr rfl Tb.fo_68_1) rfl (by decide) ?_
        refine TL.pure (PV.load rfl Tb.one_3 (by repeat (first | exact List.Mem.head _ | refine List.Mem.tail _ ?_ | refine List.mem_append_right _ ?_)) rfl) rfl (by decide) ?_
        refine TL.pure (PV.gtr rfl rfl) rfl (by decide) ?_
        refine TL.nil ?_
        refine TQ.thenC ?_
        first | refine TC.condD rfl (fun hgo => ?_) (fun hgo => ?_) | refine TC.cond rfl (fun hgo => ?_) (fun hgo => ?_)
        · skip
          obtain ⟨y, hy9⟩ : ∃ y, x.2.1 = some y := by
            cases hh : x.2.1 with
            | none => rw [hh] at hgo; exact absurd hgo (by decide)
            | some y => exact ⟨y, rfl⟩
          obtain ⟨L, o9, b7⟩ := x
          simp only at hy9
          subst hy9
          have hy : FY L s t y := hx.2
          have hx2 := hx.1.fill hst hy
          refine TC.congrG (G' := (b7, Obj.cells #[fS (some y), .int .i64 (fR (some y))] 68 (0, 0)) :: (b, rsO L) :: (y.bh, Obj.cells (kcs y.ks y.sp) 3 (0, 0)) :: ((b0, Obj.cells #[.int .i64 (n : Nat), .int .i64 (s : Nat), .int .i64 (t : Nat), .slice p rs.length cap] 24 (0, 0)) :: (b1, Obj.cells #[.slice (some ⟨b, 0, none⟩) rs.length rs.length] 65 (0, 0)) :: [(bZ, Obj.cells (intsA (List.replicate rs.length 0)) 3 (0, 0))])) rfl ?_
          refine TC.skip ?_
          refine TQ.thenC ?_
          refine TC.seq ?_
          refine TC.block ?_
          refine TC.region ?_
          refine TL.pure (PV.load rfl Tb.one_65 (by repeat (first | exact List.Mem.head _ | refine List.Mem.tail _ ?_ | refine List.mem_append_right _ ?_)) rfl) rfl (by decide) ?_
          refine TL.pure (PV.fieldAddr rfl Tb.fo_24_1) rfl (by decide) ?_
          refine TL.pure (PV.load rfl Tb.one_3 (by repeat (first | exact List.Mem.head _ | refine List.Mem.tail _ ?_ | refine List.mem_append_right _ ?_)) rfl) rfl (by decide) ?_
          refine TL.pure (PV.loadBox rfl Tb.agg_68 (by repeat (first | exact List.Mem.head _ | refine List.Mem.tail _ ?_ | refine List.mem_append_right _ ?_)) rfl) rfl (by decide) ?_
          refine TL.callW (fun _ : Unit => .tuple #[]) (fun _ => True) (fun _ => (b, rsO (Fl.fil y.am L s y.ks)) :: (y.bh, Obj.cells (kcs y.ks y.sp) 3 (0, 0)) :: (b0, Obj.cells #[.int .i64 (n : Nat), .int .i64 (s : Nat), .int .i64 (t : Nat), .slice p rs.length cap] 24 (0, 0)) :: (b1, Obj.cells #[.slice (some ⟨b, 0, none⟩) rs.length rs.length] 65 (0, 0)) :: (bZ, Obj.cells (intsA (List.replicate rs.length 0)) 3 (0, 0)) :: [(b7, Obj.cells #[fS (some y), .int .i64 (fR (some y))] 68 (0, 0))]) rfl Tb.gofn_66 (fun a w hs => fill_m hx.1.len ⟨by have := hy.2.1; omega, hy.2.1.2⟩ (by have := hy.2.2; omega) (hx.1.fs hy) (hs.new.perm (perm_h _ _ _ _ _ _))) rfl (by decide) (fun _ _ => ?_)
          refine TL.nil ?_
          refine TQ.blkN ?_
          refine TQ.thenC ?_
          refine TC.seq ?_
          refine TC.seq ?_
          refine TC.region ?_
          refine TL.pure (PV.loadBox rfl Tb.agg_68 (by repeat (first | exact List.Mem.head _ | refine List.Mem.tail _ ?_ | refine List.mem_append_right _ ?_)) rfl) rfl (by decide) ?_
          refine TL.nil ?_
          refine TQ.thenC ?_
          refine TC.region ?_
          refine TL.alloc Tb.zero_68 rfl (by decide) (fun b3 hb3 => ?_)
          refine TL.storeAgg (vs := [fS (some y), .int .i64 (fR (some y))]) rfl rfl Tb.cells_68 (Upd.head _) rfl rfl (fS_one _) rfl rfl ?_
          refine TL.nil ?_
          refine TQ.thenC ?_
          refine TC.region ?_
          refine TL.pure (PV.move rfl) rfl (by decide) ?_
          refine TL.callF (X := Option WV) (f := 62) (k := 25) (vs := []) (caps := [.pointer (some ⟨b0, 0, none⟩), .pointer (some ⟨b1, 0, none⟩)]) (fun o => .agg #[fS o, .int .i64 (fR o)]) (fF (Fl.fil y.am L s y.ks) n s t) (fun o => (b3, Obj.cells #[fS (some y), .int .i64 (fR (some y))] 68 (0, 0)) :: fD (b, rsO (Fl.fil y.am L s y.ks)) ((b0, Obj.cells #[.int .i64 (n : Nat), .int .i64 (s : Nat), .int .i64 (t : Nat), .slice p rs.length cap] 24 (0, 0)) :: (b1, Obj.cells #[.slice (some ⟨b, 0, none⟩) rs.length rs.length] 65 (0, 0)) :: [(bZ, Obj.cells (intsA (List.replicate rs.length 0)) 3 (0, 0))]) o) rfl rfl Tb.gofn_62 (fun a w hs => (find_m (hx2.1.len) (hx2.1.nt hv) hsn htn hst (hs.new.perm (perm_i _ _ _ _ _ _ _))).mono fun e w9 ⟨x9, h1, h2, h3⟩ => ⟨x9, h1, h2, fD_front h3⟩) rfl (by decide) (fun o2 ho2 => ?_)
          refine TL.storeAgg (vs := [fS o2, .int .i64 (fR o2)]) rfl rfl Tb.cells_68 (Upd.head _) rfl rfl (fS_one _) rfl rfl ?_
          refine TL.nil ?_
          refine TQ.thenN ?_
          refine TQ.backK ((Fl.fil y.am L s y.ks), o2, b3) (by repeat (first | exact True.intro | refine And.intro rfl ?_)) (by repeat (first | exact True.intro | refine And.intro rfl ?_)) (List.Sublist.refl _) ⟨hx2.1, ho2⟩ (by have h1 : Fl.out s L ≤ 320 := hx.1.le hst hv; have h2 : Fl.out s (Fl.fil y.am L s y.ks) = Fl.out s L + y.am := hx2.2; have h3 := hy.2.1; show (321 - Fl.out s (Fl.fil y.am L s y.ks)).toNat < (321 - Fl.out s L).toNat; omega)
        · skip
          have hn9 : x.2.1 = none := by
            cases hh : x.2.1 with
            | none => rfl
            | some y => exfalso; have h1 := hx.2; rw [hh] at h1 hgo; exact hgo (by have := h1.2.1; show 0 < y.am; omega)
          obtain ⟨L, o9, b7⟩ := x
          simp only at hn9
          subst hn9
          refine TC.congrG (G' := (b7, Obj.cells #[fS none, .int .i64 (fR none)] 68 (0, 0)) :: (b, rsO L) :: ((b0, Obj.cells #[.int .i64 (n : Nat), .int .i64 (s : Nat), .int .i64 (t : Nat), .slice p rs.length cap] 24 (0, 0)) :: (b1, Obj.cells #[.slice (some ⟨b, 0, none⟩) rs.length rs.length] 65 (0, 0)) :: [(bZ, Obj.cells (intsA (List.replicate rs.length 0)) 3 (0, 0))])) rfl ?_
          refine TC.exit ?_
          refine TQ.thenE ?_
          refine TQ.thenE ?_
          refine TQ.blkS ?_
          refine TQ.thenC ?_
          refine TC.seq ?_
          refine TC.region ?_
          refine TL.pure (PV.load rfl Tb.one_65 (by repeat (first | exact List.Mem.head _ | refine List.Mem.tail _ ?_ | refine List.mem_append_right _ ?_)) rfl) rfl (by decide) ?_
          refine TL.call rfl Tb.gofn_67 (fun a w hs => amounts_m hx.1.len (RsAt.own hs.new (.tail _ (.head _))) (by have := hx.1.len; omega)) rfl (by decide) (fun bx _ => ?_)
          refine TL.pure (PV.assign rfl) rfl (by decide) ?_
          refine TL.pure (PV.assign rfl) rfl (by decide) ?_
          refine TL.nil ?_
          refine TQ.thenC ?_
          refine TC.ret ?_
          refine TQ.retE2 rfl rfl rfl ?_
          exact ⟨(bx, L), rfl, ⟨hx.1, hx.2⟩, (by repeat (first | exact List.Sublist.slnil | exact List.nil_sublist _ | exact List.Sublist.refl _ | refine List.Sublist.cons_cons _ ?_ | refine List.Sublist.cons _ ?_ | refine List.Sublist.trans ?_ (List.sublist_append_right _ _)))⟩
      · skip
        refine TL.alloc Tb.zero_65 rfl (by decide) (fun b1 hb1 => ?_)
        refine TL.nil ?_
        refine TV.next (.inl (by repeat (first | exact List.Sublist.slnil | exact List.nil_sublist _ | exact List.Sublist.refl _ | refine List.Sublist.cons_cons _ ?_ | refine List.Sublist.cons _ ?_ | refine List.Sublist.trans ?_ (List.sublist_append_right _ _)))) ?_
        refine TV.step [5] (by kernel_rfl) (by decide) rfl ⟨⟨_, rfl, ?_⟩, trivial⟩
        refine TL.call rfl Tb.gofn_61 (fun a w hs => restsOf_z w n s t p cap rs (hr.new hs.new) hv (some ⟨bZ, 0, none⟩) rs.length rs.length rfl (IntsAt.arr hs.new (by repeat (first | exact List.Mem.head _ | refine List.Mem.tail _ ?_ | refine List.mem_append_right _ ?_)))) rfl (by decide) (fun b _ => ?_)
        refine TL.nil ?_
        refine TV.next (.inl (by repeat (first | exact List.Sublist.slnil | exact List.nil_sublist _ | exact List.Sublist.refl _ | refine List.Sublist.cons_cons _ ?_ | refine List.Sublist.cons _ ?_ | refine List.Sublist.trans ?_ (List.sublist_append_right _ _)))) ?_
        refine TV.step [7] (by kernel_rfl) (by decide) rfl ⟨⟨_, rfl, ?_⟩, trivial⟩
        refine TL.store rfl rfl Tb.cells_65 rfl (by repeat (first | exact Upd.head _ | apply Upd.tail | apply Upd.appR)) (by first | decide | (simp; done) | (simp; omega) | omega) rfl rfl ?_
        refine TL.nil ?_
        refine TV.next (.inr (by kernel_rfl)) ?_
        refine TV.done (by kernel_rfl) ?_
        refine TQ.thenC ?_
        refine TC.seq ?_
        refine TC.region ?_
        refine TL.pure (PV.makeFunc rfl) rfl (by decide) ?_
        refine TL.pure (PV.assign rfl) rfl (by decide) ?_
        refine TL.nil ?_
        refine TQ.thenC ?_
        refine TC.seq ?_
        refine TC.seq ?_
        refine TC.region ?_
        refine TL.pure (PV.move rfl) rfl (by decide) ?_
        refine TL.callF (X := Option WV) (f := 62) (k := 20) (vs := []) (caps := [.pointer (some ⟨b0, 0, none⟩), .pointer (some ⟨b1, 0, none⟩)]) (fun o => .agg #[fS o, .int .i64 (fR o)]) (fF (mkL rs fun j => (List.replicate rs.length (0 : Int)).getD j 0) n s t) (fD (b, rsO (mkL rs fun j => (List.replicate rs.length (0 : Int)).getD j 0)) ((b0, Obj.cells #[.int .i64 (n : Nat), .int .i64 (s : Nat), .int .i64 (t : Nat), .slice p rs.length cap] 24 (0, 0)) :: (b1, Obj.cells #[.slice (some ⟨b, 0, none⟩) rs.length rs.length] 65 (0, 0)) :: [(bZ, Obj.cells (intsA (List.replicate rs.length 0)) 3 (0, 0))])) rfl rfl Tb.gofn_62 (fun a w hs => find_m (mkL_len _ _) (hM0.nt hv) hsn htn hst (hs.new.perm (by first | exact List.perm_append_comm (l₁ := [_]) (l₂ := [_, _, _]) | exact perm_j _ _ _ _ | exact perm_k _ _ _ _))) rfl (by decide) (fun o ho => ?_)
        refine TL.alloc Tb.zero_68 rfl (by decide) (fun b2 hb2 => ?_)
        refine TL.storeAgg (vs := [fS o, .int .i64 (fR o)]) rfl rfl Tb.cells_68 (Upd.head _) rfl rfl (fS_one o) rfl rfl ?_
        refine TL.nil ?_
        refine TQ.thenC ?_
        refine TC.block ?_
        refine TC.loopK [1, 2, 3, 5, 6] (X := List Fl.E × Option WV × Nat) (fun x => Mx n s t rs x.1 ∧ fF x.1 n s t x.2.1) (fun x => [(7, .pointer (some ⟨x.2.2, 0, none⟩))]) (fun x => (x.2.2, Obj.cells #[fS x.2.1, .int .i64 (fR x.2.1)] 68 (0, 0)) :: fD (b, rsO x.1) ((b0, Obj.cells #[.int .i64 (n : Nat), .int .i64 (s : Nat), .int .i64 (t : Nat), .slice p rs.length cap] 24 (0, 0)) :: (b1, Obj.cells #[.slice (some ⟨b, 0, none⟩) rs.length rs.length] 65 (0, 0)) :: [(bZ, Obj.cells (intsA (List.replicate rs.length 0)) 3 (0, 0))]) x.2.1) (fun x => (321 - Fl.out s x.1).toNat) ((mkL rs fun j => (List.replicate rs.length (0 : Int)).getD j 0), o, b2) ⟨hM0, ho⟩ (by repeat (first | exact True.intro | refine And.intro rfl ?_)) (List.Sublist.refl _) ?_
        intro x hx
        refine TC.seq ?_
        refine TC.seq ?_
        refine TC.region ?_
        refine TL.pure (PV.fieldAddr rfl Tb.fo_68_1) rfl (by decide) ?_
        refine TL.pure (PV.load rfl Tb.one_3 (by repeat (first | exact List.Mem.head _ | refine List.Mem.tail _ ?_ | refine List.mem_append_right _ ?_)) rfl) rfl (by decide) ?_
        refine TL.pure (PV.gtr rfl rfl) rfl (by decide) ?_
        refine TL.nil ?_
        refine TQ.thenC ?_
        first | refine TC.condD rfl (fun hgo => ?_) (fun hgo => ?_) | refine TC.cond rfl (fun hgo => ?_) (fun hgo => ?_)
        · skip
          obtain ⟨y, hy9⟩ : ∃ y, x.2.1 = some y := by
            cases hh : x.2.1 with
            | none => rw [hh] at hgo; exact absurd hgo (by decide)
            | some y => exact ⟨y, rfl⟩
          obtain ⟨L, o9, b7⟩ := x
          simp only at hy9
          subst hy9
          have hy : FY L s t y := hx.2
          have hx2 := hx.1.fill hst hy
          refine TC.congrG (G' := (b7, Obj.cells #[fS (some y), .int .i64 (fR (some y))] 68 (0, 0)) :: (b, rsO L) :: (y.bh, Obj.cells (kcs y.ks y.sp) 3 (0, 0)) :: ((b0, Obj.cells #[.int .i64 (n : Nat), .int .i64 (s : Nat), .int .i64 (t : Nat), .slice p rs.length cap] 24 (0, 0)) :: (b1, Obj.cells #[.slice (some ⟨b, 0, none⟩) rs.length rs.length] 65 (0, 0)) :: [(bZ, Obj.cells (intsA (List.replicate rs.length 0)) 3 (0, 0))])) rfl ?_
          refine TC.skip ?_
          refine TQ.thenC ?_
          refine TC.seq ?_
          refine TC.block ?_
          refine TC.region ?_
          refine TL.pure (PV.load rfl Tb.one_65 (by repeat (first | exact List.Mem.head _ | refine List.Mem.tail _ ?_ | refine List.mem_append_right _ ?_)) rfl) rfl (by decide) ?_
          refine TL.pure (PV.fieldAddr rfl Tb.fo_24_1) rfl (by decide) ?_
          refine TL.pure (PV.load rfl Tb.one_3 (by repeat (first | exact List.Mem.head _ | refine List.Mem.tail _ ?_ | refine List.mem_append_right _ ?_)) rfl) rfl (by decide) ?_
          refine TL.pure (PV.loadBox rfl Tb.agg_68 (by repeat (first | exact List.Mem.head _ | refine List.Mem.tail _ ?_ | refine List.mem_append_right _ ?_)) rfl) rfl (by decide) ?_
          refine TL.callW (fun _ : Unit => .tuple #[]) (fun _ => True) (fun _ => (b, rsO (Fl.fil y.am L s y.ks)) :: (y.bh, Obj.cells (kcs y.ks y.sp) 3 (0, 0)) :: (b0, Obj.cells #[.int .i64 (n : Nat), .int .i64 (s : Nat), .int .i64 (t : Nat), .slice p rs.length cap] 24 (0, 0)) :: (b1, Obj.cells #[.slice (some ⟨b, 0, none⟩) rs.length rs.length] 65 (0, 0)) :: (bZ, Obj.cells (intsA (List.replicate rs.length 0)) 3 (0, 0)) :: [(b7, Obj.cells #[fS (some y), .int .i64 (fR (some y))] 68 (0, 0))]) rfl Tb.gofn_66 (fun a w hs => fill_m hx.1.len ⟨by have := hy.2.1; omega, hy.2.1.2⟩ (by have := hy.2.2; omega) (hx.1.fs hy) (hs.new.perm (perm_h _ _ _ _ _ _))) rfl (by decide) (fun _ _ => ?_)
          refine TL.nil ?_
          refine TQ.blkN ?_
          refine TQ.thenC ?_
          refine TC.seq ?_
          refine TC.seq ?_
          refine TC.region ?_
          refine TL.pure (PV.loadBox rfl Tb.agg_68 (by repeat (first | exact List.Mem.head _ | refine List.Mem.tail _ ?_ | refine List.mem_append_right _ ?_)) rfl) rfl (by decide) ?_
          refine TL.nil ?_
          refine TQ.thenC ?_
          refine TC.region ?_
          refine TL.alloc Tb.zero_68 rfl (by decide) (fun b3 hb3 => ?_)
          refine TL.storeAgg (vs := [fS (some y), .int .i64 (fR (some y))]) rfl rfl Tb.cells_68 (Upd.head _) rfl rfl (fS_one _) rfl rfl ?_
          refine TL.nil ?_
          refine TQ.thenC ?_
          refine TC.region ?_
          refine TL.pure (PV.move rfl) rfl (by decide) ?_
          refine TL.callF (X := Option WV) (f := 62) (k := 25) (vs := []) (caps := [.pointer (some ⟨b0, 0, none⟩), .pointer (some ⟨b1, 0, none⟩)]) (fun o => .agg #[fS o, .int .i64 (fR o)]) (fF (Fl.fil y.am L s y.ks) n s t) (fun o => (b3, Obj.cells #[fS (some y), .int .i64 (fR (some y))] 68 (0, 0)) :: fD (b, rsO (Fl.fil y.am L s y.ks)) ((b0, Obj.cells #[.int .i64 (n : Nat), .int .i64 (s : Nat), .int .i64 (t : Nat), .slice p rs.length cap] 24 (0, 0)) :: (b1, Obj.cells #[.slice (some ⟨b, 0, none⟩) rs.length rs.length] 65 (0, 0)) :: [(bZ, Obj.cells (intsA (List.replicate rs.length 0)) 3 (0, 0))]) o) rfl rfl Tb.gofn_62 (fun a w hs => (find_m (hx2.1.len) (hx2.1.nt hv) hsn htn hst (hs.new.perm (perm_i _ _ _ _ _ _ _))).mono fun e w9 ⟨x9, h1, h2, h3⟩ => ⟨x9, h1, h2, fD_front h3⟩) rfl (by decide) (fun o2 ho2 => ?_)
          refine TL.storeAgg (vs := [fS o2, .int .i64 (fR o2)]) rfl rfl Tb.cells_68 (Upd.head _) rfl rfl (fS_one _) rfl rfl ?_
          refine TL.nil ?_
          refine TQ.thenN ?_
          refine TQ.backK ((Fl.fil y.am L s y.ks), o2, b3) (by repeat (first | exact True.intro | refine And.intro rfl ?_)) (by repeat (first | exact True.intro | refine And.intro rfl ?_)) (List.Sublist.refl _) ⟨hx2.1, ho2⟩ (by have h1 : Fl.out s L ≤ 320 := hx.1.le hst hv; have h2 : Fl.out s (Fl.fil y.am L s y.ks) = Fl.out s L + y.am := hx2.2; have h3 := hy.2.1; show (321 - Fl.out s (Fl.fil y.am L s y.ks)).toNat < (321 - Fl.out s L).toNat; omega)
        · skip
          have hn9 : x.2.1 = none := by
            cases hh : x.2.1 with
            | none => rfl
            | some y => exfalso; have h1 := hx.2; rw [hh] at h1 hgo; exact hgo (by have := h1.2.1; show 0 < y.am; omega)
          obtain ⟨L, o9, b7⟩ := x
          simp only at hn9
          subst hn9
          refine TC.congrG (G' := (b7, Obj.cells #[fS none, .int .i64 (fR none)] 68 (0, 0)) :: (b, rsO L) :: ((b0, Obj.cells #[.int .i64 (n : Nat), .int .i64 (s : Nat), .int .i64 (t : Nat), .slice p rs.length cap] 24 (0, 0)) :: (b1, Obj.cells #[.slice (some ⟨b, 0, none⟩) rs.length rs.length] 65 (0, 0)) :: [(bZ, Obj.cells (intsA (List.replicate rs.length 0)) 3 (0, 0))])) rfl ?_
          refine TC.exit ?_
          refine TQ.thenE ?_
          refine TQ.thenE ?_
          refine TQ.blkS ?_
          refine TQ.thenC ?_
          refine TC.seq ?_
          refine TC.region ?_
          refine TL.pure (PV.load rfl Tb.one_65 (by repeat (first | exact List.Mem.head _ | refine List.Mem.tail _ ?_ | refine List.mem_append_right _ ?_)) rfl) rfl (by decide) ?_
          refine TL.call rfl Tb.gofn_67 (fun a w hs => amounts_m hx.1.len (RsAt.own hs.new (.tail _ (.head _))) (by have := hx.1.len; omega)) rfl (by decide) (fun bx _ => ?_)
          refine TL.pure (PV.assign rfl) rfl (by decide) ?_
          refine TL.pure (PV.assign rfl) rfl (by decide) ?_
          refine TL.nil ?_
          refine TQ.thenC ?_
          refine TC.ret ?_
          refine TQ.retE2 rfl rfl rfl ?_
          exact ⟨(bx, L), rfl, ⟨hx.1, hx.2⟩, (by repeat (first | exact List.Sublist.slnil | exact List.nil_sublist _ | exact List.Sublist.refl _ | refine List.Sublist.cons_cons _ ?_ | refine List.Sublist.cons _ ?_ | refine List.Sublist.trans ?_ (List.sublist_append_right _ _)))⟩
    · skip
      refine TL.alloc Tb.zero_65 rfl (by decide) (fun b1 hb1 => ?_)
      refine TL.nil ?_
      refine TV.next (.inl (by repeat (first | exact List.Sublist.slnil | exact List.nil_sublist _ | exact List.Sublist.refl _ | refine List.Sublist.cons_cons _ ?_ | refine List.Sublist.cons _ ?_ | refine List.Sublist.trans ?_ (List.sublist_append_right _ _)))) ?_
      refine TV.step [4] (by kernel_rfl) (by decide) rfl ⟨⟨_, rfl, ?_⟩, trivial⟩
      refine TL.makeI (k := rs.length) rfl rfl Tb.sl_25 Tb.zi_3 rfl (by omega) (by omega) rfl (by decide) (fun bZ hbZ => ?_)
      refine TL.nil ?_
      refine TV.next (.inl (by repeat (first | exact List.Sublist.slnil | exact List.nil_sublist _ | exact List.Sublist.refl _ | refine List.Sublist.cons_cons _ ?_ | refine List.Sublist.cons _ ?_ | refine List.Sublist.trans ?_ (List.sublist_append_right _ _)))) ?_
      refine TV.step [5] (by kernel_rfl) (by decide) rfl ⟨⟨_, rfl, ?_⟩, trivial⟩
      refine TL.call rfl Tb.gofn_61 (fun a w hs => restsOf_z w n s t p cap rs (hr.new hs.new) hv (some ⟨bZ, 0, none⟩) rs.length rs.length rfl (IntsAt.arr hs.new (by repeat (first | exact List.Mem.head _ | refine List.Mem.tail _ ?_ | refine List.mem_append_right _ ?_)))) rfl (by decide) (fun b _ => ?_)
      refine TL.nil ?_
      refine TV.next (.inl (by repeat (first | exact List.Sublist.slnil | exact List.nil_sublist _ | exact List.Sublist.refl _ | refine List.Sublist.cons_cons _ ?_ | refine List.Sublist.cons _ ?_ | refine List.Sublist.trans ?_ (List.sublist_append_right _ _)))) ?_
      refine TV.step [7] (by kernel_rfl) (by decide) rfl ⟨⟨_, rfl, ?_⟩, trivial⟩
      refine TL.store rfl rfl Tb.cells_65 rfl (by repeat (first | exact Upd.head _ | apply Upd.tail | apply Upd.appR)) (by first | decide | (simp; done) | (simp; omega) | omega) rfl rfl ?_
      refine TL.nil ?_
      refine TV.next (.inr (by kernel_rfl)) ?_
      refine TV.done (by kernel_rfl) ?_
      refine TQ.thenC ?_
      refine TC.seq ?_
      refine TC.region ?_
      refine TL.pure (PV.makeFunc rfl) rfl (by decide) ?_
      refine TL.pure (PV.assign rfl) rfl (by decide) ?_
      refine TL.nil ?_
      refine TQ.thenC ?_
      refine TC.seq ?_
      refine TC.seq ?_
      refine TC.region ?_
      refine TL.pure (PV.move rfl) rfl (by decide) ?_
      refine TL.callF (X := Option WV) (f := 62) (k := 20) (vs := []) (caps := [.pointer (some ⟨b0, 0, none⟩), .pointer (some ⟨b1, 0, none⟩)]) (fun o => .agg #[fS o, .int .i64 (fR o)]) (fF (mkL rs fun j => (List.replicate rs.length (0 : Int)).getD j 0) n s t) (fD (b, rsO (mkL rs fun j => (List.replicate rs.length (0 : Int)).getD j 0)) ((b0, Obj.cells #[.int .i64 (n : Nat), .int .i64 (s : Nat), .int .i64 (t : Nat), .slice p rs.length cap] 24 (0, 0)) :: (b1, Obj.cells #[.slice (some ⟨b, 0, none⟩) rs.length rs.length] 65 (0, 0)) :: [(bZ, Obj.cells (intsA (List.replicate rs.length 0)) 3 (0, 0))])) rfl rfl Tb.gofn_62 (fun a w hs => find_m (mkL_len _ _) (hM0.nt hv) hsn htn hst (hs.new.perm (by first | exact List.perm_append_comm (l₁ := [_]) (l₂ := [_, _, _]) | exact perm_j _ _ _ _ | exact perm_k _ _ _ _))) rfl (by decide) (fun o ho => ?_)
      refine TL.alloc Tb.zero_68 rfl (by decide) (fun b2 hb2 => ?_)
      refine TL.storeAgg (vs := [fS o, .int .i64 (fR o)]) rfl rfl Tb.cells_68 (Upd.head _) rfl rfl (fS_one o) rfl rfl ?_
      refine TL.nil ?_
      refine TQ.thenC ?_
      refine TC.block ?_
      refine TC.loopK [1, 2, 3, 5, 6] (X := List Fl.E × Option WV × Nat) (fun x => Mx n s t rs x.1 ∧ fF x.1 n s t x.2.1) (fun x => [(7, .pointer (some ⟨x.2.2, 0, none⟩))]) (fun x => (x.2.2, Obj.cells #[fS x.2.1, .int .i64 (fR x.2.1)] 68 (0, 0)) :: fD (b, rsO x.1) ((b0, Obj.cells #[.int .i64 (n : Nat), .int .i64 (s : Nat), .int .i64 (t : Nat), .slice p rs.length cap] 24 (0, 0)) :: (b1, Obj.cells #[.slice (some ⟨b, 0, none⟩) rs.length rs.length] 65 (0, 0)) :: [(bZ, Obj.cells (intsA (List.replicate rs.length 0)) 3 (0, 0))]) x.2.1) (fun x => (321 - Fl.out s x.1).toNat) ((mkL rs fun j => (List.replicate rs.length (0 : Int)).getD j 0), o, b2) ⟨hM0, ho⟩ (by repeat (first | exact True.intro | refine And.intro rfl ?_)) (List.Sublist.refl _) ?_
      intro x hx
      refine TC.seq ?_
      refine TC.seq ?_
      refine TC.region ?_
      refine TL.pure (PV.fieldAddr rfl Tb.fo_68_1) rfl (by decide) ?_
      refine TL.pure (PV.load rfl Tb.one_3 (by repeat (first | exact List.Mem.head _ | refine List.Mem.tail _ ?_ | refine List.mem_append_right _ ?_)) rfl) rfl (by decide) ?_
      refine TL.pure (PV.gtr rfl rfl) rfl (by decide) ?_
      refine TL.nil ?_
      refine TQ.thenC ?_
      first | refine TC.condD rfl (fun hgo => ?_) (fun hgo => ?_) | refine TC.cond rfl (fun hgo => ?_) (fun hgo => ?_)
      · skip
        obtain ⟨y, hy9⟩ : ∃ y, x.2.1 = some y := by
          cases hh : x.2.1 with
          | none => rw [hh] at hgo; exact absurd hgo (by decide)
          | some y => exact ⟨y, rfl⟩
        obtain ⟨L, o9, b7⟩ := x
        simp only at hy9
        subst hy9
        have hy : FY L s t y := hx.2
        have hx2 := hx.1.fill hst hy
        refine TC.congrG (G' := (b7, Obj.cells #[fS (some y), .int .i64 (fR (some y))] 68 (0, 0)) :: (b, rsO L) :: (y.bh, Obj.cells (kcs y.ks y.sp) 3 (0, 0)) :: ((b0, Obj.cells #[.int .i64 (n : Nat), .int .i64 (s : Nat), .int .i64 (t : Nat), .slice p rs.length cap] 24 (0, 0)) :: (b1, Obj.cells #[.slice (some ⟨b, 0, none⟩) rs.length rs.length] 65 (0, 0)) :: [(bZ, Obj.cells (intsA (List.replicate rs.length 0)) 3 (0, 0))])) rfl ?_
        refine TC.skip ?_
        refine TQ.thenC ?_
        refine TC.seq ?_
        refine TC.block ?_
        refine TC.region ?_
        refine TL.pure (PV.load rfl Tb.one_65 (by repeat (first | exact List.Mem.head _ | refine List.Mem.tail _ ?_ | refine List.mem_append_right _ ?_)) rfl) rfl (by decide) ?_
        refine TL.pure (PV.fieldAddr rfl Tb.fo_24_1) rfl (by decide) ?_
        refine TL.pure (PV.load rfl Tb.one_3 (by repeat (first | exact List.Mem.head _ | refine List.Mem.tail _ ?_ | refine List.mem_append_right _ ?_)) rfl) rfl (by decide) ?_
        refine TL.pure (PV.loadBox rfl Tb.agg_68 (by repeat (first | exact List.Mem.head _ | refine List.Mem.tail _ ?_ | refine List.mem_append_right _ ?_)) rfl) rfl (by decide) ?_
        refine TL.callW (fun _ : Unit => .tuple #[]) (fun _ => True) (fun _ => (b, rsO (Fl.fil y.am L s y.ks)) :: (y.bh, Obj.cells (kcs y.ks y.sp) 3 (0, 0)) :: (b0, Obj.cells #[.int .i64 (n : Nat), .int .i64 (s : Nat), .int .i64 (t : Nat), .slice p rs.length cap] 24 (0, 0)) :: (b1, Obj.cells #[.slice (some ⟨b, 0, none⟩) rs.length rs.length] 65 (0, 0)) :: (bZ, Obj.cells (intsA (List.replicate rs.length 0)) 3 (0, 0)) :: [(b7, Obj.cells #[fS (some y), .int .i64 (fR (some y))] 68 (0, 0))]) rfl Tb.gofn_66 (fun a w hs => fill_m hx.1.len ⟨by have := hy.2.1; omega, hy.2.1.2⟩ (by have := hy.2.2; omega) (hx.1.fs hy) (hs.new.perm (perm_h _ _ _ _ _ _))) rfl (by decide) (fun _ _ => ?_)
        refine TL.nil ?_
        refine TQ.blkN ?_
        refine TQ.thenC ?_
        refine TC.seq ?_
        refine TC.seq ?_
        refine TC.region ?_
        refine TL.pure (PV.loadBox rfl Tb.agg_68 (by repeat (first | exact List.Mem.head _ | refine List.Mem.tail _ ?_ | refine List.mem_append_right _ ?_)) rfl) rfl (by decide) ?_
        refine TL.nil ?_
        refine TQ.thenC ?_
        refine TC.region ?_
        refine TL.alloc Tb.zero_68 rfl (by decide) (fun b3 hb3 => ?_)
        refine TL.storeAgg (vs := [fS (some y), .int .i64 (fR (some y))]) rfl rfl Tb.cells_68 (Upd.head _) rfl rfl (fS_one _) rfl rfl ?_
        refine TL.nil ?_
        refine TQ.thenC ?_
        refine TC.region ?_
        refine TL.pure (PV.move rfl) rfl (by decide) ?_
        refine TL.callF (X := Option WV) (f := 62) (k := 25) (vs := []) (caps := [.pointer (some ⟨b0, 0, none⟩), .pointer (some ⟨b1, 0, none⟩)]) (fun o => .agg #[fS o, .int .i64 (fR o)]) (fF (Fl.fil y.am L s y.ks) n s t) (fun o => (b3, Obj.cells #[fS (some y), .int .i64 (fR (some y))] 68 (0, 0)) :: fD (b, rsO (Fl.fil y.am L s y.ks)) ((b0, Obj.cells #[.int .i64 (n : Nat), .int .i64 (s : Nat), .int .i64 (t : Nat), .slice p rs.length cap] 24 (0, 0)) :: (b1, Obj.cells #[.slice (some ⟨b, 0, none⟩) rs.length rs.length] 65 (0, 0)) :: [(bZ, Obj.cells (intsA (List.replicate rs.length 0)) 3 (0, 0))]) o) rfl rfl Tb.gofn_62 (fun a w hs => (find_m (hx2.1.len) (hx2.1.nt hv) hsn htn hst (hs.new.perm (perm_i _ _ _ _ _ _ _))).mono fun e w9 ⟨x9, h1, h2, h3⟩ => ⟨x9, h1, h2, fD_front h3⟩) rfl (by decide) (fun o2 ho2 => ?_)
        refine TL.storeAgg (vs := [fS o2, .int .i64 (fR o2)]) rfl rfl Tb.cells_68 (Upd.head _) rfl rfl (fS_one _) rfl rfl ?_
        refine TL.nil ?_
        refine TQ.thenN ?_
        refine TQ.backK ((Fl.fil y.am L s y.ks), o2, b3) (by repeat (first | exact True.intro | refine And.intro rfl ?_)) (by repeat (first | exact True.intro | refine And.intro rfl ?_)) (List.Sublist.refl _) ⟨hx2.1, ho2⟩ (by have h1 : Fl.out s L ≤ 320 := hx.1.le hst hv; have h2 : Fl.out s (Fl.fil y.am L s y.ks) = Fl.out s L + y.am := hx2.2; have h3 := hy.2.1; show (321 - Fl.out s (Fl.fil y.am L s y.ks)).toNat < (321 - Fl.out s L).toNat; omega)
      · skip
        have hn9 : x.2.1 = none := by
          cases hh : x.2.1 with
          | none => rfl
          | some y => exfalso; have h1 := hx.2; rw [hh] at h1 hgo; exact hgo (by have := h1.2.1; show 0 < y.am; omega)
        obtain ⟨L, o9, b7⟩ := x
        simp only at hn9
        subst hn9
        refine TC.congrG (G' := (b7, Obj.cells #[fS none, .int .i64 (fR none)] 68 (0, 0)) :: (b, rsO L) :: ((b0, Obj.cells #[.int .i64 (n : Nat), .int .i64 (s : Nat), .int .i64 (t : Nat), .slice p rs.length cap] 24 (0, 0)) :: (b1, Obj.cells #[.slice (some ⟨b, 0, none⟩) rs.length rs.length] 65 (0, 0)) :: [(bZ, Obj.cells (intsA (List.replicate rs.length 0)) 3 (0, 0))])) rfl ?_
        refine TC.exit ?_
        refine TQ.thenE ?_
        refine TQ.thenE ?_
        refine TQ.blkS ?_
        refine TQ.thenC ?_
        refine TC.seq ?_
        refine TC.region ?_
        refine TL.pure (PV.load rfl Tb.one_65 (by repeat (first | exact List.Mem.head _ | refine List.Mem.tail _ ?_ | refine List.mem_append_right _ ?_)) rfl) rfl (by decide) ?_
        refine TL.call rfl Tb.gofn_67 (fun a w hs => amounts_m hx.1.len (RsAt.own hs.new (.tail _ (.head _))) (by have := hx.1.len; omega)) rfl (by decide) (fun bx _ => ?_)
        refine TL.pure (PV.assign rfl) rfl (by decide) ?_
        refine TL.pure (PV.assign rfl) rfl (by decide) ?_
        refine TL.nil ?_
        refine TQ.thenC ?_
        refine TC.ret ?_
        refine TQ.retE2 rfl rfl rfl ?_
        exact ⟨(bx, L), rfl, ⟨hx.1, hx.2⟩, (by repeat (first | exact List.Sublist.slnil | exact List.nil_sublist _ | exact List.Sublist.refl _ | refine List.Sublist.cons_cons _ ?_ | refine List.Sublist.cons _ ?_ | refine List.Sublist.trans ?_ (List.sublist_append_right _ _)))⟩

end Go.Proofs.Ytnlbngbbddhgeaa
