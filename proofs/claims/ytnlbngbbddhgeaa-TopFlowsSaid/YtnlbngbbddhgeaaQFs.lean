/- The least of the narrowest cuts: contract. -/
import Derived.Test.YtnlbngbbddhgeaaQFr
set_option linter.unusedVariables false
set_option linter.unusedSimpArgs false
namespace Go.Proofs.Ytnlbngbbddhgeaa
open Go.Sx Go.RowKit


theorem Way_end {L : List Fl.E} {N : Nat} {a : Int} (hnt : Nt L N) (ha : 0 < a) : ∀ {ks : List Nat} {u v : Nat}, u < N → Fl.Way L a u ks v → v < N
  | [], u, v, hu, h => by have : u = v := h; omega
  | k :: ks, u, v, hu, ⟨_, hk, h2, h3, h4⟩ => by
    refine Way_end hnt ha (ks := ks) ?_ h4
    have hnd := hnt.nd _ (List.getElem_mem hk)
    rcases (onw_end (e := L[k]) (u := u) (by omega)).2.1 with e | e
    · rw [e]; exact hnd.1
    · rw [e]; exact hnd.2
theorem visit_q {w0 w : World} {b cl bs N u m : Nat} {L : List Fl.E} {T : Heap} (hm : L.length = m) (hnt : Nt L N) (hu : u < N) (hN : New w0 w ((b, rsO L) :: (bs, Obj.cells (boolsA (List.replicate N false)) 4 (0, 0)) :: T)) :
    Calls Try.prog 65 #[.agg #[.slice (some ⟨b, 0, none⟩) m cl, .int .i64 (-1), .slice (some ⟨bs, 0, none⟩) N N], .int .i64 u, .agg #[.slice none 0 0, .int .i64 20]] w
      (Post (X := List Bool × HD) (fun _ => .tuple #[]) (fun x => Bck L N u (List.replicate N false) x.1) (fun x => (b, rsO L) :: (bs, Obj.cells (boolsA x.1) 4 (0, 0)) :: (gblk x.2 3 [] ++ T)) w0) := by
  subst hm
  have h := visit_all _ w0 w b cl bs N L (List.replicate N false) N u u none [] 20 T (-1) hnt (by simp) hu (fun v hv => ⟨fun h => by omega, fun h => by omega⟩) (by omega) (sn_rep N u) (sn_rep N N) Pth.start (Nat.le_refl _) ⟨rfl, rfl⟩ hN
  refine h.mono fun e w' hr => ?_
  rcases hr with ⟨x, h1, h2, h3⟩ | ⟨y, _, h2, _⟩
  · exact ⟨x, h1, h2.1, h3⟩
  · exact absurd (Way_end hnt (by have := h2.2.1; omega) hu h2.1) (Nat.lt_irrefl _)
theorem sat {S : Nat → Bool} : ∀ {L : List Fl.E}, (∀ e ∈ L, 0 ≤ e.r ∧ e.r ≤ e.w) → Fl.bal S L = Fl.cutW S L → Fl.shutS S L
  | [], _, _ => fun e he => absurd he (List.not_mem_nil)
  | e :: l, h, hb => by
    have hl := Fl.bal_le S (L := l) fun x hx => h x (List.mem_cons_of_mem _ hx)
    have he := h e List.mem_cons_self
    simp only [Fl.bal, Fl.cutW] at hb
    have hone : (if S e.f = true then e.r else 0) - (if S e.t = true then e.r else 0) ≤ (if S e.f = true ∧ S e.t = false then e.w else 0) := by
      cases hf : S e.f <;> cases ht : S e.t <;> simp <;> omega
    have ih := sat (S := S) (L := l) (fun x hx => h x (List.mem_cons_of_mem _ hx)) (by omega)
    have hq : (if S e.f = true then e.r else 0) - (if S e.t = true then e.r else 0) = (if S e.f = true ∧ S e.t = false then e.w else 0) := by omega
    intro x hx
    rcases List.mem_cons.1 hx with rfl | hx
    · cases hf : S x.f <;> cases ht : S x.t <;> simp [hf, ht] at hq ⊢ <;> omega
    · exact ih x hx
theorem shut_cl {L : List Fl.E} {C : Nat → Bool} (h : Fl.shutS C L) : Cl L C := fun v hv j hj hr => by
  have he := h _ (List.getElem_mem hj)
  rw [getD_get hj] at hr ⊢
  unfold Fl.onw at hr ⊢
  by_cases e1 : v = L[j].f
  · rw [if_pos e1] at hr ⊢
    simp only at hr ⊢
    cases ht : C L[j].t
    · have := he.1 (e1 ▸ hv) ht; omega
    · rfl
  · rw [if_neg e1] at hr ⊢
    by_cases e2 : v = L[j].t
    · rw [if_pos e2] at hr ⊢
      simp only at hr ⊢
      cases hf : C L[j].f
      · have := he.2 hf (e2 ▸ hv); omega
      · rfl
    · rw [if_neg e2] at hr; simp at hr
theorem cl_shut {L : List Fl.E} {C : Nat → Bool} (hb : ∀ e ∈ L, 0 ≤ e.r ∧ e.r ≤ e.w) (h3 : Cl L C) : Fl.shutS C L := fun e he => by
  obtain ⟨j, hj, rfl⟩ := List.getElem_of_mem he
  have hbe := hb _ he
  have hg := getD_get hj
  refine ⟨fun hf ht => ?_, fun hf ht => ?_⟩
  · have h4 := h3 _ hf j hj
    rw [hg] at h4
    unfold Fl.onw at h4
    rw [if_pos rfl] at h4
    by_cases e9 : 0 < L[j].w - L[j].r
    · have := h4 e9; rw [ht] at this; cases this
    · omega
  · have h4 := h3 _ ht j hj
    rw [hg] at h4
    unfold Fl.onw at h4
    by_cases e8 : L[j].t = L[j].f
    · rw [e8, hf] at ht; cases ht
    · rw [if_neg e8, if_pos rfl] at h4
      by_cases e9 : 0 < L[j].r
      · have := h4 e9; simp only at this; rw [hf] at this; cases this
      · omega
/-- What can be reached from s in a greatest flow is the least narrowest cut. -/
theorem Mx.least {n s t : Nat} {rs : List Bd} {L : List Fl.E} (hv : Vd n s t rs) (h : Mx n s t rs L) (hs : Shut L n s t) {seen : List Bool} (hB : Bck L n s (List.replicate n false) seen) :
    lst (sn seen) n = lst (lcS s t rs) n ∧ Fl.MinC s t (dr0 rs) (lcS s t rs) := by
  have hw := hv.w1
  have hmw := h.mw hs
  have hcl : Cl L (sn seen) := fun v hv2 j hj hr => hB.new v hv2 (sn_rep n v) j hj hr
  have hin : ∀ C, Fl.MinC s t (dr0 rs) C → ∀ v, sn seen v = true → C v = true := fun C hC v hv2 => by
    have e1 : Fl.bal C L = Fl.cutW C L := by rw [← h.fl.val hC.1 hC.2.1, hmw, cut_dr h, hC.eq]
    rcases hB.mn C (shut_cl (sat h.fl.bd e1)) hC.1 v hv2 with h1 | h1
    · rw [sn_rep] at h1; cases h1
    · exact h1
  have ht : sn seen t = false := by
    obtain ⟨C, hC⟩ := Fl.minC_ex hw.st hw.nn
    cases h9 : sn seen t
    · rfl
    · have := hin C hC t h9; rw [hC.2.1] at this; cases this
  have hR : Fl.MinC s t (dr0 rs) (sn seen) := (Fl.minC_iff hw.st hw.nn hB.at_ ht).2 (by rw [← cut_dr h, ← hmw]; exact (h.fl.top hB.at_ ht (cl_shut h.fl.bd hcl)).symm)
  have hL : Fl.LcP n s t (dr0 rs) (sn seen) := fun v _ => ⟨fun h1 C hC => hin C hC v h1, fun h1 => h1 _ hR⟩
  have he : ∀ v, v < n → sn seen v = lcS s t rs v := fun v hv2 => hL.uniq (lcS_ok n s t rs) hv2
  exact ⟨lst_congr he, hR.nodes hw.sn hw.tn hw.nodes he⟩
theorem restsOf_L {w0 : World} {n s t : Nat} {p : Option Addr} {cap : Nat} {rs : List Bd} {L : List Fl.E} (h : Mx n s t rs L) (hr : BdsAt w0 p rs) (hv : Vd n s t rs) {pf : Option Addr} {cf : Nat} (hf : IntsAt w0 pf (L.map (·.r))) :
    Calls Try.prog 61 #[dnV n s t p rs.length cap, .slice pf rs.length cf] w0 (Post (X := Nat) (fun b => .slice (some ⟨b, 0, none⟩) rs.length rs.length) (fun _ => True) (fun b => [(b, rsO L)]) w0) := by
  have := restsOf_ok w0 n s t p cap rs hr hv pf cf (L.map (·.r)) hf (by rw [List.length_map]; exact h.len)
  rw [List.length_map, h.len, show (mkL rs fun j => (L.map (·.r)).getD j 0) = L from h.cf] at this
  exact this


set_option maxRecDepth 100000 in
set_option maxHeartbeats 1000000 in
theorem Least_v (w0 : World) (n s t : Nat) (p : Option Addr) (cap : Nat) (rs : List Bd) (hr : BdsAt w0 p rs) (hv : Vd n s t rs) (hd0 : dI n s t rs = 0) :
    Calls Try.prog 27 #[dnV n s t p rs.length cap] w0 (Post (X := HD) (fun h => .tuple #[gval h (lst (lcS s t rs) n).length, .int .i64 0]) (fun h => goI (h, lst (lcS s t rs) n) ∧ Fl.MinC s t (dr0 rs) (lcS s t rs)) (fun h => gbI (h, lst (lcS s t rs) n)) w0) := by
  have hw := hv.w1
  have hlen := hv.len
  have hn8 := hw.n8
  have hsn := hw.sn
  have htn := hw.tn
  have h256 := p2_256 hn8
  have hpos := Nat.two_pow_pos n
  refine calls Try.func27 rfl (n := 43) rfl (by simp) ?_
  refine TC.seq ?_
  refine TC.region ?_
  refine TL.box rfl rfl (by decide) (fun b0 hb0 => ?_)
  refine TL.pure (PV.assign rfl) rfl (by decide) ?_
  refine TL.pure (PV.assign rfl) rfl (by decide) ?_
  refine TL.nil ?_
  refine TQ.thenC ?_
  refine TC.seq ?_
  refine TC.region ?_
  refine TL.pure (PV.loadBox rfl Tb.agg_24 (by repeat (first | exact List.Mem.head _ | refine List.Mem.tail _ ?_ | refine List.mem_append_right _ ?_)) rfl) rfl (by decide) ?_
  refine TL.call rfl Tb.gofn_24 (fun a w hs => Flow_v w n s t p cap rs (hr.new hs.new) hv hd0) rfl (by decide) (fun x1 hx1 => ?_)
  refine TL.pure (PV.move rfl) rfl (by decide) ?_
  refine TL.pure (PV.extract rfl rfl) rfl (by decide) ?_
  refine TL.pure (PV.extract rfl rfl) rfl (by decide) ?_
  refine TL.pure (PV.assign rfl) rfl (by decide) ?_
  refine TL.pure (PV.assign rfl) rfl (by decide) ?_
  refine TL.nil ?_
  refine TQ.thenC ?_
  refine TC.seq ?_
  refine TC.seq ?_
  refine TC.region ?_
  refine TL.pure (PV.move rfl) rfl (by decide) ?_
  refine TL.pure (PV.neq rfl rfl) rfl (by decide) ?_
  refine TL.nil ?_
  refine TQ.thenC ?_
  first | refine TC.condD rfl (fun hv9 => ?_) (fun hv9 => ?_) | refine TC.cond rfl (fun hv9 => ?_) (fun hv9 => ?_)
  · skip
    refine TC.seq ?_
    refine TC.region ?_
    refine TL.pure (PV.move rfl) rfl (by decide) ?_
    refine TL.pure (PV.assign rfl) rfl (by decide) ?_
    refine TL.pure (PV.assign rfl) rfl (by decide) ?_
    refine TL.nil ?_
    refine TQ.thenC ?_
    refine TC.ret ?_
    refine TQ.thenR ?_
    refine TQ.retE2 rfl rfl rfl ?_
    exact absurd rfl hv9
  · skip
    refine TC.skip ?_
    refine TQ.thenC ?_
    refine TC.seq ?_
    refine TC.mixV [true, true, true, false, false, false, false] [(x1.1, Obj.cells (intsA (x1.2.map (·.r))) 3 (0, 0)), (b0, Obj.cells #[.int .i64 (n : Nat), .int .i64 (s : Nat), .int .i64 (t : Nat), .slice p rs.length cap] 24 (0, 0))] 7 Tb.mixed rfl (by kernel_rfl) (by kernel_rfl) (by kernel_rfl) (by kernel_rfl) (by repeat (first | exact List.Sublist.slnil | exact List.nil_sublist _ | exact List.Sublist.refl _ | refine List.Sublist.cons_cons _ ?_ | refine List.Sublist.cons _ ?_ | refine List.Sublist.trans ?_ (List.sublist_append_right _ _))) ?_
    refine TV.virt 0 rfl rfl (by decide) rfl (by kernel_rfl) (SOK.pure (PV.loadBox rfl Tb.agg_24 (by repeat (first | exact List.Mem.head _ | refine List.Mem.tail _ ?_ | refine List.mem_append_right _ ?_)) rfl) rfl) ?_
    refine TV.virt 1 rfl rfl (by decide) rfl (by kernel_rfl) (SOK.pure (PV.loadBox rfl Tb.agg_24 (by repeat (first | exact List.Mem.head _ | refine List.Mem.tail _ ?_ | refine List.mem_append_right _ ?_)) rfl) rfl) ?_
    refine TV.virt 2 rfl rfl (by decide) rfl (by kernel_rfl) (SOK.pure (PV.move rfl) rfl) ?_
    refine TV.step [3, 5] (by kernel_rfl) (by decide) rfl ⟨⟨_, rfl, ?_⟩, ⟨_, rfl, ?_⟩, trivial⟩
    · skip
      refine TL.call rfl Tb.gofn_61 (fun a w hs => restsOf_L hx1.1 (hr.new hs.new) hv (IntsAt.arr hs.new (by repeat (first | exact List.Mem.head _ | refine List.Mem.tail _ ?_ | refine List.mem_append_right _ ?_)))) rfl (by decide) (fun b _ => ?_)
      refine TL.nil ?_
      refine TV.next (.inl (by repeat (first | exact List.Sublist.slnil | exact List.nil_sublist _ | exact List.Sublist.refl _ | refine List.Sublist.cons_cons _ ?_ | refine List.Sublist.cons _ ?_ | refine List.Sublist.trans ?_ (List.sublist_append_right _ _)))) ?_
      refine TV.step [4, 5] (by kernel_rfl) (by decide) rfl ⟨⟨_, rfl, ?_⟩, ⟨_, rfl, ?_⟩, trivial⟩
      · skip
        refine TL.call rfl Tb.gofn_64 (fun a w hs => newSearch_ok w n _ _ _ _ _ _ _ (by omega)) rfl (by decide) (fun bS _ => ?_)
        refine TL.nil ?_
        refine TV.next (.inl (by repeat (first | exact List.Sublist.slnil | exact List.nil_sublist _ | exact List.Sublist.refl _ | refine List.Sublist.cons_cons _ ?_ | refine List.Sublist.cons _ ?_ | refine List.Sublist.trans ?_ (List.sublist_append_right _ _)))) ?_
        refine TV.step [5] (by kernel_rfl) (by decide) rfl ⟨⟨_, rfl, ?_⟩, trivial⟩
        refine TL.alloc Tb.zero_72 rfl (by decide) (fun bZ hbZ => ?_)
        refine TL.nil ?_
        refine TV.next (.inl (by repeat (first | exact List.Sublist.slnil | exact List.nil_sublist _ | exact List.Sublist.refl _ | refine List.Sublist.cons_cons _ ?_ | refine List.Sublist.cons _ ?_ | refine List.Sublist.trans ?_ (List.sublist_append_right _ _)))) ?_
        refine TV.step [6] (by kernel_rfl) (by decide) rfl ⟨⟨_, rfl, ?_⟩, trivial⟩
        refine TL.storeAgg (vs := [.slice (some ⟨b, 0, none⟩) rs.length rs.length, .int .i64 (-1), .slice (some ⟨bS, 0, none⟩) n n]) rfl rfl Tb.cells_72 (by repeat (first | exact Upd.head _ | apply Upd.tail | apply Upd.appR)) rfl rfl rfl rfl rfl ?_
        refine TL.nil ?_
        refine TV.next (.inr (by kernel_rfl)) ?_
        refine TV.done (by kernel_rfl) ?_
        refine TQ.thenC ?_
        refine TC.seq ?_
        refine TC.region ?_
        refine TL.pure (PV.loadBox rfl Tb.agg_72 (by repeat (first | exact List.Mem.head _ | refine List.Mem.tail _ ?_ | refine List.mem_append_right _ ?_)) rfl) rfl (by decide) ?_
        refine TL.pure (PV.fieldAddr rfl Tb.fo_24_1) rfl (by decide) ?_
        refine TL.pure (PV.load rfl Tb.one_3 (by repeat (first | exact List.Mem.head _ | refine List.Mem.tail _ ?_ | refine List.mem_append_right _ ?_)) rfl) rfl (by decide) ?_
        refine TL.pure (PV.build rfl Tb.zero_68 Tb.pl_68 rfl) rfl (by decide) ?_
        refine TL.callW (X := List Bool × HD) (fun _ => .tuple #[]) (fun x => Bck x1.2 n s (List.replicate n false) x.1) (fun x => (b, rsO x1.2) :: (bS, Obj.cells (boolsA x.1) 4 (0, 0)) :: (gblk x.2 3 [] ++ [(bZ, Obj.cells #[.slice (some ⟨b, 0, none⟩) rs.length rs.length, .int .i64 (-1), .slice (some ⟨bS, 0, none⟩) n n] 72 (0, 0)), (x1.1, Obj.cells (intsA (x1.2.map (·.r))) 3 (0, 0)), (b0, Obj.cells #[.int .i64 (n : Nat), .int .i64 (s : Nat), .int .i64 (t : Nat), .slice p rs.length cap] 24 (0, 0))])) rfl Tb.gofn_65 (fun a w hs => visit_q (T := [(bZ, Obj.cells #[.slice (some ⟨b, 0, none⟩) rs.length rs.length, .int .i64 (-1), .slice (some ⟨bS, 0, none⟩) n n] 72 (0, 0)), (x1.1, Obj.cells (intsA (x1.2.map (·.r))) 3 (0, 0)), (b0, Obj.cells #[.int .i64 (n : Nat), .int .i64 (s : Nat), .int .i64 (t : Nat), .slice p rs.length cap] 24 (0, 0))]) hx1.1.len (hx1.1.nt hv) hsn (hs.new.perm (by repeat (first | exact List.Perm.refl _ | refine permTake (by repeat (first | exact Take.head _ | apply Take.tail | apply Take.appR)) ?_ | refine permMid ?_)))) rfl (by decide) (fun x hx => ?_)
        refine TL.nil ?_
        refine TQ.thenC ?_
        refine TC.seq ?_
        refine TC.region ?_
        refine TL.pure (PV.assign rfl) rfl (by decide) ?_
        refine TL.nil ?_
        refine TQ.thenC ?_
        refine TC.seq ?_
        refine TC.seq ?_
        refine TC.region ?_
        refine TL.pure (PV.fieldAddr rfl Tb.fo_72_2) rfl (by decide) ?_
        refine TL.pure (PV.load rfl Tb.one_70 (by repeat (first | exact List.Mem.head _ | refine List.Mem.tail _ ?_ | refine List.mem_append_right _ ?_)) rfl) rfl (by decide) ?_
        refine TL.pure (PV.len rfl Tb.sl_70) rfl (by decide) ?_
        refine TL.pure (PV.move rfl) rfl (by decide) ?_
        refine TL.nil ?_
        refine TQ.thenC ?_
        refine TC.block ?_
        refine TC.loopK [2, 3, 29, 30] (X := Nat × HD) (fun u => u.1 ≤ n ∧ goI (u.2, lst (sn x.1) u.1)) (fun u => [(31, .int .i64 (u.1 : Nat)), (7, gval u.2 (lst (sn x.1) u.1).length)]) (fun u => gbI (u.2, lst (sn x.1) u.1) ++ [(bS, Obj.cells (boolsA x.1) 4 (0, 0))]) (fun u => n - u.1) (0, none) ⟨Nat.zero_le _, goI_nil⟩ (by repeat (first | exact True.intro | refine And.intro rfl ?_)) (by repeat (first | exact List.Sublist.slnil | exact List.nil_sublist _ | exact List.Sublist.refl _ | refine List.Sublist.cons_cons _ ?_ | refine List.Sublist.cons _ ?_ | refine List.Sublist.trans ?_ (List.sublist_append_right _ _))) ?_
        intro u hu9
        refine TC.seq ?_
        refine TC.region ?_
        refine TL.pure (PV.lss rfl rfl) rfl (by decide) ?_
        refine TL.nil ?_
        refine TQ.thenC ?_
        refine TC.seq ?_
        first | refine TC.condD rfl (fun hlt => ?_) (fun hlt => ?_) | refine TC.cond rfl (fun hlt => ?_) (fun hlt => ?_)
        · skip
          refine TC.skip ?_
          refine TQ.thenC ?_
          refine TC.seq ?_
          refine TC.block ?_
          refine TC.seq ?_
          have hbl : x.1.length = n := by have := hx.len; rw [this]; simp
          refine TC.region ?_
          refine TL.pure (PV.move rfl) rfl (by decide) ?_
          refine TL.pure (PV.index (j := u.1) rfl rfl Tb.elm_70 rfl (by omega)) rfl (by decide) ?_
          refine TL.pure (PV.loadBo u.1 rfl (off1 _) Tb.one_4 (by repeat (first | exact List.Mem.head _ | refine List.Mem.tail _ ?_ | refine List.mem_append_right _ ?_)) (by omega)) rfl (by decide) ?_
          refine TL.pure (PV.assign rfl) rfl (by decide) ?_
          refine TL.pure (PV.assign rfl) rfl (by decide) ?_
          refine TL.nil ?_
          refine TQ.thenC ?_
          refine TC.seq ?_
          refine TC.region ?_
          refine TL.pure (PV.move rfl) rfl (by decide) ?_
          refine TL.nil ?_
          refine TQ.thenC ?_
          first | refine TC.condD rfl (fun hin => ?_) (fun hin => ?_) | refine TC.cond rfl (fun hin => ?_) (fun hin => ?_)
          · skip
            have hfu : sn x.1 u.1 = true := hin
            have hob : lst (sn x.1) (u.1 + 1) = lst (sn x.1) u.1 ++ [(u.1 : Int)] := lst_yes hfu
            refine TC.region ?_
            refine TL.pure (PV.move rfl) rfl (by decide) ?_
            refine TL.pure (PV.move rfl) rfl (by decide) ?_
            refine TL.buildSlice (cs := #[.int .i64 (u.1 : Nat)]) rfl Tb.sl_25 Tb.zi_3 (by decide) (fill_i _) (by decide) rfl (by decide) (fun bE hbE => ?_)
            refine TL.appendI (x0 := (u.2, lst (sn x.1) u.1)) rfl rfl (by repeat (first | exact List.Mem.head _ | refine List.Mem.tail _ ?_ | refine List.mem_append_right _ ?_)) hu9.2 (by repeat (first | exact TakeH.here _ _ _ _ | apply TakeH.tail | apply TakeH.app)) (by have := lst_len (sn x.1) u.1; show (lst (sn x.1) u.1).length ≤ 1000000; omega) rfl (by decide) (fun hh hho => ?_)
            let nu : Nat × HD := (u.1 + 1, hh)
            have hnu : nu.1 ≤ n ∧ goI (nu.2, lst (sn x.1) nu.1) := ⟨by simp only [nu]; omega, by simp only [nu]; rw [hob]; exact hho⟩
            refine TL.pure (PV.assign rfl) rfl (by decide) ?_
            refine TL.nil ?_
            refine TQ.blkN ?_
            refine TQ.thenC ?_
            refine TC.region ?_
            refine TL.pure (PV.add rfl rfl (by omega)) rfl (by decide) ?_
            refine TL.pure (PV.move rfl) rfl (by decide) ?_
            refine TL.nil ?_
            refine TQ.thenN ?_
            refine TQ.backK nu (by first | exact And.intro rfl (And.intro rfl True.intro) | (refine And.intro rfl (And.intro ?_ True.intro); show some (gval _ _) = some (gval _ _); rw [hob])) (by repeat (first | exact True.intro | refine And.intro rfl ?_)) (by first | (rw [hob]; first | exact List.Sublist.append_left (by repeat (first | exact List.Sublist.slnil | exact List.nil_sublist _ | exact List.Sublist.refl _ | refine List.Sublist.cons_cons _ ?_ | refine List.Sublist.cons _ ?_ | refine List.Sublist.trans ?_ (List.sublist_append_right _ _))) _ | exact (by repeat (first | exact List.Sublist.slnil | exact List.nil_sublist _ | exact List.Sublist.refl _ | refine List.Sublist.cons_cons _ ?_ | refine List.Sublist.cons _ ?_ | refine List.Sublist.trans ?_ (List.sublist_append_right _ _)))) | (simp only [nu, hob]; first | exact List.Sublist.refl _ | exact List.Sublist.append_left (by repeat (first | exact List.Sublist.slnil | exact List.nil_sublist _ | exact List.Sublist.refl _ | refine List.Sublist.cons_cons _ ?_ | refine List.Sublist.cons _ ?_ | refine List.Sublist.trans ?_ (List.sublist_append_right _ _))) _ | exact (by repeat (first | exact List.Sublist.slnil | exact List.nil_sublist _ | exact List.Sublist.refl _ | refine List.Sublist.cons_cons _ ?_ | refine List.Sublist.cons _ ?_ | refine List.Sublist.trans ?_ (List.sublist_append_right _ _))))) hnu (by simp only [nu]; omega)
          · skip
            have hfu : sn x.1 u.1 = false := hin
            have hob : lst (sn x.1) (u.1 + 1) = lst (sn x.1) u.1 := lst_no hfu
            let nu : Nat × HD := (u.1 + 1, u.2)
            have hnu : nu.1 ≤ n ∧ goI (nu.2, lst (sn x.1) nu.1) := ⟨by simp only [nu]; omega, by simp only [nu]; rw [hob]; exact hu9.2⟩
            refine TC.skip ?_
            refine TQ.blkN ?_
            refine TQ.thenC ?_
            refine TC.region ?_
            refine TL.pure (PV.add rfl rfl (by omega)) rfl (by decide) ?_
            refine TL.pure (PV.move rfl) rfl (by decide) ?_
            refine TL.nil ?_
            refine TQ.thenN ?_
            refine TQ.backK nu (by first | exact And.intro rfl (And.intro rfl True.intro) | (refine And.intro rfl (And.intro ?_ True.intro); show some (gval _ _) = some (gval _ _); rw [hob])) (by repeat (first | exact True.intro | refine And.intro rfl ?_)) (by first | (rw [hob]; first | exact List.Sublist.append_left (by repeat (first | exact List.Sublist.slnil | exact List.nil_sublist _ | exact List.Sublist.refl _ | refine List.Sublist.cons_cons _ ?_ | refine List.Sublist.cons _ ?_ | refine List.Sublist.trans ?_ (List.sublist_append_right _ _))) _ | exact (by repeat (first | exact List.Sublist.slnil | exact List.nil_sublist _ | exact List.Sublist.refl _ | refine List.Sublist.cons_cons _ ?_ | refine List.Sublist.cons _ ?_ | refine List.Sublist.trans ?_ (List.sublist_append_right _ _)))) | (simp only [nu, hob]; first | exact List.Sublist.refl _ | exact List.Sublist.append_left (by repeat (first | exact List.Sublist.slnil | exact List.nil_sublist _ | exact List.Sublist.refl _ | refine List.Sublist.cons_cons _ ?_ | refine List.Sublist.cons _ ?_ | refine List.Sublist.trans ?_ (List.sublist_append_right _ _))) _ | exact (by repeat (first | exact List.Sublist.slnil | exact List.nil_sublist _ | exact List.Sublist.refl _ | refine List.Sublist.cons_cons _ ?_ | refine List.Sublist.cons _ ?_ | refine List.Sublist.trans ?_ (List.sublist_append_right _ _))))) hnu (by simp only [nu]; omega)
        · skip
          refine TC.exit ?_
          refine TQ.thenE ?_
          refine TQ.thenE ?_
          refine TQ.blkS ?_
          refine TQ.thenC ?_
          refine TC.seq ?_
          have hun : u.1 = n := by omega
          refine TC.region ?_
          refine TL.pure (PV.move rfl) rfl (by decide) ?_
          refine TL.pure (PV.assign rfl) rfl (by decide) ?_
          refine TL.pure (PV.assign rfl) rfl (by decide) ?_
          refine TL.nil ?_
          refine TQ.thenC ?_
          refine TC.ret ?_
          refine TQ.retE2 rfl rfl rfl ?_
          have hle := hx1.1.least hv hx1.2 hx
          exact ⟨u.2, by rw [hun, hle.1], ⟨by rw [← hle.1, ← hun]; exact hu9.2, hle.2⟩, by rw [← hle.1, ← hun]; exact List.sublist_append_left _ _⟩
      · skip
        refine TL.alloc Tb.zero_72 rfl (by decide) (fun bZ hbZ => ?_)
        refine TL.nil ?_
        refine TV.next (.inl (by repeat (first | exact List.Sublist.slnil | exact List.nil_sublist _ | exact List.Sublist.refl _ | refine List.Sublist.cons_cons _ ?_ | refine List.Sublist.cons _ ?_ | refine List.Sublist.trans ?_ (List.sublist_append_right _ _)))) ?_
        refine TV.step [4] (by kernel_rfl) (by decide) rfl ⟨⟨_, rfl, ?_⟩, trivial⟩
        refine TL.call rfl Tb.gofn_64 (fun a w hs => newSearch_ok w n _ _ _ _ _ _ _ (by omega)) rfl (by decide) (fun bS _ => ?_)
        refine TL.nil ?_
        refine TV.next (.inl (by repeat (first | exact List.Sublist.slnil | exact List.nil_sublist _ | exact List.Sublist.refl _ | refine List.Sublist.cons_cons _ ?_ | refine List.Sublist.cons _ ?_ | refine List.Sublist.trans ?_ (List.sublist_append_right _ _)))) ?_
        refine TV.step [6] (by kernel_rfl) (by decide) rfl ⟨⟨_, rfl, ?_⟩, trivial⟩
        refine TL.storeAgg (vs := [.slice (some ⟨b, 0, none⟩) rs.length rs.length, .int .i64 (-1), .slice (some ⟨bS, 0, none⟩) n n]) rfl rfl Tb.cells_72 (by repeat (first | exact Upd.head _ | apply Upd.tail | apply Upd.appR)) rfl rfl rfl rfl rfl ?_
        refine TL.nil ?_
        refine TV.next (.inr (by kernel_rfl)) ?_
        refine TV.done (by kernel_rfl) ?_
        refine TQ.thenC ?_
        refine TC.seq ?_
        refine TC.region ?_
        refine TL.pure (PV.loadBox rfl Tb.agg_72 (by repeat (first | exact List.Mem.head _ | refine List.Mem.tail _ ?_ | refine List.mem_append_right _ ?_)) rfl) rfl (by decide) ?_
        refine TL.pure (PV.fieldAddr rfl Tb.fo_24_1) rfl (by decide) ?_
        refine TL.pure (PV.load rfl Tb.one_3 (by repeat (first | exact List.Mem.head _ | refine List.Mem.tail _ ?_ | refine List.mem_append_right _ ?_)) rfl) rfl (by decide) ?_
        refine TL.pure (PV.build rfl Tb.zero_68 Tb.pl_68 rfl) rfl (by decide) ?_
        refine TL.callW (X := List Bool × HD) (fun _ => .tuple #[]) (fun x => Bck x1.2 n s (List.replicate n false) x.1) (fun x => (b, rsO x1.2) :: (bS, Obj.cells (boolsA x.1) 4 (0, 0)) :: (gblk x.2 3 [] ++ [(bZ, Obj.cells #[.slice (some ⟨b, 0, none⟩) rs.length rs.length, .int .i64 (-1), .slice (some ⟨bS, 0, none⟩) n n] 72 (0, 0)), (x1.1, Obj.cells (intsA (x1.2.map (·.r))) 3 (0, 0)), (b0, Obj.cells #[.int .i64 (n : Nat), .int .i64 (s : Nat), .int .i64 (t : Nat), .slice p rs.length cap] 24 (0, 0))])) rfl Tb.gofn_65 (fun a w hs => visit_q (T := [(bZ, Obj.cells #[.slice (some ⟨b, 0, none⟩) rs.length rs.length, .int .i64 (-1), .slice (some ⟨bS, 0, none⟩) n n] 72 (0, 0)), (x1.1, Obj.cells (intsA (x1.2.map (·.r))) 3 (0, 0)), (b0, Obj.cells #[.int .i64 (n : Nat), .int .i64 (s : Nat), .int .i64 (t : Nat), .slice p rs.length cap] 24 (0, 0))]) hx1.1.len (hx1.1.nt hv) hsn (hs.new.perm (by repeat (first | exact List.Perm.refl _ | refine permTake (by repeat (first | exact Take.head _ | apply Take.tail | apply Take.appR)) ?_ | refine permMid ?_)))) rfl (by decide) (fun x hx => ?_)
        refine TL.nil ?_
        refine TQ.thenC ?_
        refine TC.seq ?_
        refine TC.region ?_
        refine TL.pure (PV.assign rfl) rfl (by decide) ?_
        refine TL.nil ?_
        refine TQ.thenC ?_
        refine TC.seq ?_
        refine TC.seq ?_
        refine TC.region ?_
        refine TL.pure (PV.fieldAddr rfl Tb.fo_72_2) rfl (by decide) ?_
        refine TL.pure (PV.load rfl Tb.one_70 (by repeat (first | exact List.Mem.head _ | refine List.Mem.tail _ ?_ | refine List.mem_append_right _ ?_)) rfl) rfl (by decide) ?_
        refine TL.pure (PV.len rfl Tb.sl_70) rfl (by decide) ?_
        refine TL.pure (PV.move rfl) rfl (by decide) ?_
        refine TL.nil ?_
        refine TQ.thenC ?_
        refine TC.block ?_
        refine TC.loopK [2, 3, 29, 30] (X := Nat × HD) (fun u => u.1 ≤ n ∧ goI (u.2, lst (sn x.1) u.1)) (fun u => [(31, .int .i64 (u.1 : Nat)), (7, gval u.2 (lst (sn x.1) u.1).length)]) (fun u => gbI (u.2, lst (sn x.1) u.1) ++ [(bS, Obj.cells (boolsA x.1) 4 (0, 0))]) (fun u => n - u.1) (0, none) ⟨Nat.zero_le _, goI_nil⟩ (by repeat (first | exact True.intro | refine And.intro rfl ?_)) (by repeat (first | exact List.Sublist.slnil | exact List.nil_sublist _ | exact List.Sublist.refl _ | refine List.Sublist.cons_cons _ ?_ | refine List.Sublist.cons _ ?_ | refine List.Sublist.trans ?_ (List.sublist_append_right _ _))) ?_
        intro u hu9
        refine TC.seq ?_
        refine TC.region ?_
        refine TL.pure (PV.lss rfl rfl) rfl (by decide) ?_
        refine TL.nil ?_
        refine TQ.thenC ?_
        refine TC.seq ?_
        first | refine TC.condD rfl (fun hlt => ?_) (fun hlt => ?_) | refine TC.cond rfl (fun hlt => ?_) (fun hlt => ?_)
        · skip
          refine TC.skip ?_
          refine TQ.thenC ?_
          refine TC.seq ?_
          refine TC.block ?_
          refine TC.seq ?_
          have hbl : x.1.length = n := by have := hx.len; rw [this]; simp
          refine TC.region ?_
          refine TL.pure (PV.move rfl) rfl (by decide) ?_
          refine TL.pure (PV.index (j := u.1) rfl rfl Tb.elm_70 rfl (by omega)) rfl (by decide) ?_
          refine TL.pure (PV.loadBo u.1 rfl (off1 _) Tb.one_4 (by repeat (first | exact List.Mem.head _ | refine List.Mem.tail _ ?_ | refine List.mem_append_right _ ?_)) (by omega)) rfl (by decide) ?_
          refine TL.pure (PV.assign rfl) rfl (by decide) ?_
          refine TL.pure (PV.assign rfl) rfl (by decide) ?_
          refine TL.nil ?_
          refine TQ.thenC ?_
          refine TC.seq ?_
          refine TC.region ?_
          refine TL.pure (PV.move rfl) rfl (by decide) ?_
          refine TL.nil ?_
          refine TQ.thenC ?_
          first | refine TC.condD rfl (fun hin => ?_) (fun hin => ?_) | refine TC.cond rfl (fun hin => ?_) (fun hin => ?_)
          · skip
            have hfu : sn x.1 u.1 = true := hin
            have hob : lst (sn x.1) (u.1 + 1) = lst (sn x.1) u.1 ++ [(u.1 : Int)] := lst_yes hfu
            refine TC.region ?_
            refine TL.pure (PV.move rfl) rfl (by decide) ?_
            refine TL.pure (PV.move rfl) rfl (by decide) ?_
            refine TL.buildSlice (cs := #[.int .i64 (u.1 : Nat)]) rfl Tb.sl_25 Tb.zi_3 (by decide) (fill_i _) (by decide) rfl (by decide) (fun bE hbE => ?_)
            refine TL.appendI (x0 := (u.2, lst (sn x.1) u.1)) rfl rfl (by repeat (first | exact List.Mem.head _ | refine List.Mem.tail _ ?_ | refine List.mem_append_right _ ?_)) hu9.2 (by repeat (first | exact TakeH.here _ _ _ _ | apply TakeH.tail | apply TakeH.app)) (by have := lst_len (sn x.1) u.1; show (lst (sn x.1) u.1).length ≤ 1000000; omega) rfl (by decide) (fun hh hho => ?_)
            let nu : Nat × HD := (u.1 + 1, hh)
            have hnu : nu.1 ≤ n ∧ goI (nu.2, lst (sn x.1) nu.1) := ⟨by simp only [nu]; omega, by simp only [nu]; rw [hob]; exact hho⟩
            refine TL.pure (PV.assign rfl) rfl (by decide) ?_
            refine TL.nil ?_
            refine TQ.blkN ?_
            refine TQ.thenC ?_
            refine TC.region ?_
            refine TL.pure (PV.add rfl rfl (by omega)) rfl (by decide) ?_
            refine TL.pure (PV.move rfl) rfl (by decide) ?_
            refine TL.nil ?_
            refine TQ.thenN ?_
            refine TQ.backK nu (by first | exact And.intro rfl (And.intro rfl True.intro) | (refine And.intro rfl (And.intro ?_ True.intro); show some (gval _ _) = some (gval _ _); rw [hob])) (by repeat (first | exact True.intro | refine And.intro rfl ?_)) (by first | (rw [hob]; first | exact List.Sublist.append_left (by repeat (first | exact List.Sublist.slnil | exact List.nil_sublist _ | exact List.Sublist.refl _ | refine List.Sublist.cons_cons _ ?_ | refine List.Sublist.cons _ ?_ | refine List.Sublist.trans ?_ (List.sublist_append_right _ _))) _ | exact (by repeat (first | exact List.Sublist.slnil | exact List.nil_sublist _ | exact List.Sublist.refl _ | refine List.Sublist.cons_cons _ ?_ | refine List.Sublist.cons _ ?_ | refine List.Sublist.trans ?_ (List.sublist_append_right _ _)))) | (simp only [nu, hob]; first | exact List.Sublist.refl _ | exact List.Sublist.append_left (by repeat (first | exact List.Sublist.slnil | exact List.nil_sublist _ | exact List.Sublist.refl _ | refine List.Sublist.cons_cons _ ?_ | refine List.Sublist.cons _ ?_ | refine List.Sublist.trans ?_ (List.sublist_append_right _ _))) _ | exact (by repeat (first | exact List.Sublist.slnil | exact List.nil_sublist _ | exact List.Sublist.refl _ | refine List.Sublist.cons_cons _ ?_ | refine List.Sublist.cons _ ?_ | refine List.Sublist.trans ?_ (List.sublist_append_right _ _))))) hnu (by simp only [nu]; omega)
          · skip
            have hfu : sn x.1 u.1 = false := hin
            have hob : lst (sn x.1) (u.1 + 1) = lst (sn x.1) u.1 := lst_no hfu
            let nu : Nat × HD := (u.1 + 1, u.2)
            have hnu : nu.1 ≤ n ∧ goI (nu.2, lst (sn x.1) nu.1) := ⟨by simp only [nu]; omega, by simp only [nu]; rw [hob]; exact hu9.2⟩
            refine TC.skip ?_
            refine TQ.blkN ?_
            refine TQ.thenC ?_
            refine TC.region ?_
            refine TL.pure (PV.add rfl rfl (by omega)) rfl (by decide) ?_
            refine TL.pure (PV.move rfl) rfl (by decide) ?_
            refine TL.nil ?_
            refine TQ.thenN ?_
            refine TQ.backK nu (by first | exact And.intro rfl (And.intro rfl True.intro) | (refine And.intro rfl (And.intro ?_ True.intro); show some (gval _ _) = some (gval _ _); rw [hob])) (by repeat (first | exact True.intro | refine And.intro rfl ?_)) (by first | (rw [hob]; first | exact List.Sublist.append_left (by repeat (first | exact List.Sublist.slnil | exact List.nil_sublist _ | exact List.Sublist.refl _ | refine List.Sublist.cons_cons _ ?_ | refine List.Sublist.cons _ ?_ | refine List.Sublist.trans ?_ (List.sublist_append_right _ _))) _ | exact (by repeat (first | exact List.Sublist.slnil | exact List.nil_sublist _ | exact List.Sublist.refl _ | refine List.Sublist.cons_cons _ ?_ | refine List.Sublist.cons _ ?_ | refine List.Sublist.trans ?_ (List.sublist_append_right _ _)))) | (simp only [nu, hob]; first | exact List.Sublist.refl _ | exact List.Sublist.append_left (by repeat (first | exact List.Sublist.slnil | exact List.nil_sublist _ | exact List.Sublist.refl _ | refine List.Sublist.cons_cons _ ?_ | refine List.Sublist.cons _ ?_ | refine List.Sublist.trans ?_ (List.sublist_append_right _ _))) _ | exact (by repeat (first | exact List.Sublist.slnil | exact List.nil_sublist _ | exact List.Sublist.refl _ | refine List.Sublist.cons_cons _ ?_ | refine List.Sublist.cons _ ?_ | refine List.Sublist.trans ?_ (List.sublist_append_right _ _))))) hnu (by simp only [nu]; omega)
        · skip
          refine TC.exit ?_
          refine TQ.thenE ?_
          refine TQ.thenE ?_
          refine TQ.blkS ?_
          refine TQ.thenC ?_
          refine TC.seq ?_
          have hun : u.1 = n := by omega
          refine TC.region ?_
          refine TL.pure (PV.move rfl) rfl (by decide) ?_
          refine TL.pure (PV.assign rfl) rfl (by decide) ?_
          refine TL.pure (PV.assign rfl) rfl (by decide) ?_
          refine TL.nil ?_
          refine TQ.thenC ?_
          refine TC.ret ?_
          refine TQ.retE2 rfl rfl rfl ?_
          have hle := hx1.1.least hv hx1.2 hx
          exact ⟨u.2, by rw [hun, hle.1], ⟨by rw [← hle.1, ← hun]; exact hu9.2, hle.2⟩, by rw [← hle.1, ← hun]; exact List.sublist_append_left _ _⟩
    · skip
      refine TL.alloc Tb.zero_72 rfl (by decide) (fun bZ hbZ => ?_)
      refine TL.nil ?_
      refine TV.next (.inl (by repeat (first | exact List.Sublist.slnil | exact List.nil_sublist _ | exact List.Sublist.refl _ | refine List.Sublist.cons_cons _ ?_ | refine List.Sublist.cons _ ?_ | refine List.Sublist.trans ?_ (List.sublist_append_right _ _)))) ?_
      refine TV.step [3] (by kernel_rfl) (by decide) rfl ⟨⟨_, rfl, ?_⟩, trivial⟩
      refine TL.call rfl Tb.gofn_61 (fun a w hs => restsOf_L hx1.1 (hr.new hs.new) hv (IntsAt.arr hs.new (by repeat (first | exact List.Mem.head _ | refine List.Mem.tail _ ?_ | refine List.mem_append_right _ ?_)))) rfl (by decide) (fun b _ => ?_)
      refine TL.nil ?_
      refine TV.next (.inl (by repeat (first | exact List.Sublist.slnil | exact List.nil_sublist _ | exact List.Sublist.refl _ | refine List.Sublist.cons_cons _ ?_ | refine List.Sublist.cons _ ?_ | refine List.Sublist.trans ?_ (List.sublist_append_right _ _)))) ?_
      refine TV.step [4] (by kernel_rfl) (by decide) rfl ⟨⟨_, rfl, ?_⟩, trivial⟩
      refine TL.call rfl Tb.gofn_64 (fun a w hs => newSearch_ok w n _ _ _ _ _ _ _ (by omega)) rfl (by decide) (fun bS _ => ?_)
      refine TL.nil ?_
      refine TV.next (.inl (by repeat (first | exact List.Sublist.slnil | exact List.nil_sublist _ | exact List.Sublist.refl _ | refine List.Sublist.cons_cons _ ?_ | refine List.Sublist.cons _ ?_ | refine List.Sublist.trans ?_ (List.sublist_append_right _ _)))) ?_
      refine TV.step [6] (by kernel_rfl) (by decide) rfl ⟨⟨_, rfl, ?_⟩, trivial⟩
      refine TL.storeAgg (vs := [.slice (some ⟨b, 0, none⟩) rs.length rs.length, .int .i64 (-1), .slice (some ⟨bS, 0, none⟩) n n]) rfl rfl Tb.cells_72 (by repeat (first | exact Upd.head _ | apply Upd.tail | apply Upd.appR)) rfl rfl rfl rfl rfl ?_
      refine TL.nil ?_
      refine TV.next (.inr (by kernel_rfl)) ?_
      refine TV.done (by kernel_rfl) ?_
      refine TQ.thenC ?_
      refine TC.seq ?_
      refine TC.region ?_
      refine TL.pure (PV.loadBox rfl Tb.agg_72 (by repeat (first | exact List.Mem.head _ | refine List.Mem.tail _ ?_ | refine List.mem_append_right _ ?_)) rfl) rfl (by decide) ?_
      refine TL.pure (PV.fieldAddr rfl Tb.fo_24_1) rfl (by decide) ?_
      refine TL.pure (PV.load rfl Tb.one_3 (by repeat (first | exact List.Mem.head _ | refine List.Mem.tail _ ?_ | refine List.mem_append_right _ ?_)) rfl) rfl (by decide) ?_
      refine TL.pure (PV.build rfl Tb.zero_68 Tb.pl_68 rfl) rfl (by decide) ?_
      refine TL.callW (X := List Bool × HD) (fun _ => .tuple #[]) (fun x => Bck x1.2 n s (List.replicate n false) x.1) (fun x => (b, rsO x1.2) :: (bS, Obj.cells (boolsA x.1) 4 (0, 0)) :: (gblk x.2 3 [] ++ [(bZ, Obj.cells #[.slice (some ⟨b, 0, none⟩) rs.length rs.length, .int .i64 (-1), .slice (some ⟨bS, 0, none⟩) n n] 72 (0, 0)), (x1.1, Obj.cells (intsA (x1.2.map (·.r))) 3 (0, 0)), (b0, Obj.cells #[.int .i64 (n : Nat), .int .i64 (s : Nat), .int .i64 (t : Nat), .slice p rs.length cap] 24 (0, 0))])) rfl Tb.gofn_65 (fun a w hs => visit_q (T := [(bZ, Obj.cells #[.slice (some ⟨b, 0, none⟩) rs.length rs.length, .int .i64 (-1), .slice (some ⟨bS, 0, none⟩) n n] 72 (0, 0)), (x1.1, Obj.cells (intsA (x1.2.map (·.r))) 3 (0, 0)), (b0, Obj.cells #[.int .i64 (n : Nat), .int .i64 (s : Nat), .int .i64 (t : Nat), .slice p rs.length cap] 24 (0, 0))]) hx1.1.len (hx1.1.nt hv) hsn (hs.new.perm (by repeat (first | exact List.Perm.refl _ | refine permTake (by repeat (first | exact Take.head _ | apply Take.tail | apply Take.appR)) ?_ | refine permMid ?_)))) rfl (by decide) (fun x hx => ?_)
      refine TL.nil ?_
      refine TQ.thenC ?_
      refine TC.seq ?_
      refine TC.region ?_
      refine TL.pure (PV.assign rfl) rfl (by decide) ?_
      refine TL.nil ?_
      refine TQ.thenC ?_
      refine TC.seq ?_
      refine TC.seq ?_
      refine TC.region ?_
      refine TL.pure (PV.fieldAddr rfl Tb.fo_72_2) rfl (by decide) ?_
      refine TL.pure (PV.load rfl Tb.one_70 (by repeat (first | exact List.Mem.head _ | refine List.Mem.tail _ ?_ | refine List.mem_append_right _ ?_)) rfl) rfl (by decide) ?_
      refine TL.pure (PV.len rfl Tb.sl_70) rfl (by decide) ?_
      refine TL.pure (PV.move rfl) rfl (by decide) ?_
      refine TL.nil ?_
      refine TQ.thenC ?_
      refine TC.block ?_
      refine TC.loopK [2, 3, 29, 30] (X := Nat × HD) (fun u => u.1 ≤ n ∧ goI (u.2, lst (sn x.1) u.1)) (fun u => [(31, .int .i64 (u.1 : Nat)), (7, gval u.2 (lst (sn x.1) u.1).length)]) (fun u => gbI (u.2, lst (sn x.1) u.1) ++ [(bS, Obj.cells (boolsA x.1) 4 (0, 0))]) (fun u => n - u.1) (0, none) ⟨Nat.zero_le _, goI_nil⟩ (by repeat (first | exact True.intro | refine And.intro rfl ?_)) (by repeat (first | exact List.Sublist.slnil | exact List.nil_sublist _ | exact List.Sublist.refl _ | refine List.Sublist.cons_cons _ ?_ | refine List.Sublist.cons _ ?_ | refine List.Sublist.trans ?_ (List.sublist_append_right _ _))) ?_
      intro u hu9
      refine TC.seq ?_
      refine TC.region ?_
      refine TL.pure (PV.lss rfl rfl) rfl (by decide) ?_
      refine TL.nil ?_
      refine TQ.thenC ?_
      refine TC.seq ?_
      first | refine TC.condD rfl (fun hlt => ?_) (fun hlt => ?_) | refine TC.cond rfl (fun hlt => ?_) (fun hlt => ?_)
      · skip
        refine TC.skip ?_
        refine TQ.thenC ?_
        refine TC.seq ?_
        refine TC.block ?_
        refine TC.seq ?_
        have hbl : x.1.length = n := by have := hx.len; rw [this]; simp
        refine TC.region ?_
        refine TL.pure (PV.move rfl) rfl (by decide) ?_
        refine TL.pure (PV.index (j := u.1) rfl rfl Tb.elm_70 rfl (by omega)) rfl (by decide) ?_
        refine TL.pure (PV.loadBo u.1 rfl (off1 _) Tb.one_4 (by repeat (first | exact List.Mem.head _ | refine List.Mem.tail _ ?_ | refine List.mem_append_right _ ?_)) (by omega)) rfl (by decide) ?_
        refine TL.pure (PV.assign rfl) rfl (by decide) ?_
        refine TL.pure (PV.assign rfl) rfl (by decide) ?_
        refine TL.nil ?_
        refine TQ.thenC ?_
        refine TC.seq ?_
        refine TC.region ?_
        refine TL.pure (PV.move rfl) rfl (by decide) ?_
        refine TL.nil ?_
        refine TQ.thenC ?_
        first | refine TC.condD rfl (fun hin => ?_) (fun hin => ?_) | refine TC.cond rfl (fun hin => ?_) (fun hin => ?_)
        · skip
          have hfu : sn x.1 u.1 = true := hin
          have hob : lst (sn x.1) (u.1 + 1) = lst (sn x.1) u.1 ++ [(u.1 : Int)] := lst_yes hfu
          refine TC.region ?_
          refine TL.pure (PV.move rfl) rfl (by decide) ?_
          refine TL.pure (PV.move rfl) rfl (by decide) ?_
          refine TL.buildSlice (cs := #[.int .i64 (u.1 : Nat)]) rfl Tb.sl_25 Tb.zi_3 (by decide) (fill_i _) (by decide) rfl (by decide) (fun bE hbE => ?_)
          refine TL.appendI (x0 := (u.2, lst (sn x.1) u.1)) rfl rfl (by repeat (first | exact List.Mem.head _ | refine List.Mem.tail _ ?_ | refine List.mem_append_right _ ?_)) hu9.2 (by repeat (first | exact TakeH.here _ _ _ _ | apply TakeH.tail | apply TakeH.app)) (by have := lst_len (sn x.1) u.1; show (lst (sn x.1) u.1).length ≤ 1000000; omega) rfl (by decide) (fun hh hho => ?_)
          let nu : Nat × HD := (u.1 + 1, hh)
          have hnu : nu.1 ≤ n ∧ goI (nu.2, lst (sn x.1) nu.1) := ⟨by simp only [nu]; omega, by simp only [nu]; rw [hob]; exact hho⟩
          refine TL.pure (PV.assign rfl) rfl (by decide) ?_
          refine TL.nil ?_
          refine TQ.blkN ?_
          refine TQ.thenC ?_
          refine TC.region ?_
          refine TL.pure (PV.add rfl rfl (by omega)) rfl (by decide) ?_
          refine TL.pure (PV.move rfl) rfl (by decide) ?_
          refine TL.nil ?_
          refine TQ.thenN ?_
          refine TQ.backK nu (by first | exact And.intro rfl (And.intro rfl True.intro) | (refine And.intro rfl (And.intro ?_ True.intro); show some (gval _ _) = some (gval _ _); rw [hob])) (by repeat (first | exact True.intro | refine And.intro rfl ?_)) (by first | (rw [hob]; first | exact List.Sublist.append_left (by repeat (first | exact List.Sublist.slnil | exact List.nil_sublist _ | exact List.Sublist.refl _ | refine List.Sublist.cons_cons _ ?_ | refine List.Sublist.cons _ ?_ | refine List.Sublist.trans ?_ (List.sublist_append_right _ _))) _ | exact (by repeat (first | exact List.Sublist.slnil | exact List.nil_sublist _ | exact List.Sublist.refl _ | refine List.Sublist.cons_cons _ ?_ | refine List.Sublist.cons _ ?_ | refine List.Sublist.trans ?_ (List.sublist_append_right _ _)))) | (simp only [nu, hob]; first | exact List.Sublist.refl _ | exact List.Sublist.append_left (by repeat (first | exact List.Sublist.slnil | exact List.nil_sublist _ | exact List.Sublist.refl _ | refine List.Sublist.cons_cons _ ?_ | refine List.Sublist.cons _ ?_ | refine List.Sublist.trans ?_ (List.sublist_append_right _ _))) _ | exact (by repeat (first | exact List.Sublist.slnil | exact List.nil_sublist _ | exact List.Sublist.refl _ | refine List.Sublist.cons_cons _ ?_ | refine List.Sublist.cons _ ?_ | refine List.Sublist.trans ?_ (List.sublist_append_right _ _))))) hnu (by simp only [nu]; omega)
        · skip
          have hfu : sn x.1 u.1 = false := hin
          have hob : lst (sn x.1) (u.1 + 1) = lst (sn x.1) u.1 := lst_no hfu
          let nu : Nat × HD := (u.1 + 1, u.2)
          have hnu : nu.1 ≤ n ∧ goI (nu.2, lst (sn x.1) nu.1) := ⟨by simp only [nu]; omega, by simp only [nu]; rw [hob]; exact hu9.2⟩
          refine TC.skip ?_
          refine TQ.blkN ?_
          refine TQ.thenC ?_
          refine TC.region ?_
          refine TL.pure (PV.add rfl rfl (by omega)) rfl (by decide) ?_
          refine TL.pure (PV.move rfl) rfl (by decide) ?_
          refine TL.nil ?_
          refine TQ.thenN ?_
          refine TQ.backK nu (by first | exact And.intro rfl (And.intro rfl True.intro) | (refine And.intro rfl (And.intro ?_ True.intro); show some (gval _ _) = some (gval _ _); rw [hob])) (by repeat (first | exact True.intro | refine And.intro rfl ?_)) (by first | (rw [hob]; first | exact List.Sublist.append_left (by repeat (first | exact List.Sublist.slnil | exact List.nil_sublist _ | exact List.Sublist.refl _ | refine List.Sublist.cons_cons _ ?_ | refine List.Sublist.cons _ ?_ | refine List.Sublist.trans ?_ (List.sublist_append_right _ _))) _ | exact (by repeat (first | exact List.Sublist.slnil | exact List.nil_sublist _ | exact List.Sublist.refl _ | refine List.Sublist.cons_cons _ ?_ | refine List.Sublist.cons _ ?_ | refine List.Sublist.trans ?_ (List.sublist_append_right _ _)))) | (simp only [nu, hob]; first | exact List.Sublist.refl _ | exact List.Sublist.append_left (by repeat (first | exact List.Sublist.slnil | exact List.nil_sublist _ | exact List.Sublist.refl _ | refine List.Sublist.cons_cons _ ?_ | refine List.Sublist.cons _ ?_ | refine List.Sublist.trans ?_ (List.sublist_append_right _ _))) _ | exact (by repeat (first | exact List.Sublist.slnil | exact List.nil_sublist _ | exact List.Sublist.refl _ | refine List.Sublist.cons_cons _ ?_ | refine List.Sublist.cons _ ?_ | refine List.Sublist.trans ?_ (List.sublist_append_right _ _))))) hnu (by simp only [nu]; omega)
      · skip
        refine TC.exit ?_
        refine TQ.thenE ?_
        refine TQ.thenE ?_
        refine TQ.blkS ?_
        refine TQ.thenC ?_
        refine TC.seq ?_
        have hun : u.1 = n := by omega
        refine TC.region ?_
        refine TL.pure (PV.move rfl) rfl (by decide) ?_
        refine TL.pure (PV.assign rfl) rfl (by decide) ?_
        refine TL.pure (PV.assign rfl) rfl (by decide) ?_
        refine TL.nil ?_
        refine TQ.thenC ?_
        refine TC.ret ?_
        refine TQ.retE2 rfl rfl rfl ?_
        have hle := hx1.1.least hv hx1.2 hx
        exact ⟨u.2, by rw [hun, hle.1], ⟨by rw [← hle.1, ← hun]; exact hu9.2, hle.2⟩, by rw [← hle.1, ← hun]; exact List.sublist_append_left _ _⟩

end Go.Proofs.Ytnlbngbbddhgeaa
