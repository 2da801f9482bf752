/- The greatest of the narrowest cuts, critical, wanted and needless drains: contracts. -/
import Derived.Test.YtnlbngbbddhgeaaQFt
set_option linter.unusedVariables false
set_option linter.unusedSimpArgs false
namespace Go.Proofs.Ytnlbngbbddhgeaa
open Go.Sx Go.RowKit


theorem Most_w (w0 : World) (n s t : Nat) (p : Option Addr) (cap : Nat) (rs : List Bd) (hr : BdsAt w0 p rs) (hv : Vd n s t rs) :
    Calls Try.prog 22 #[dnV n s t p rs.length cap] w0 (Post (X := Unit) (fun _ => .tuple #[.int .i64 (Fl.mw s t (dr0 rs)), .int .i64 0]) (fun _ => True) (fun _ => []) w0) :=
  (Most_v w0 n s t p cap rs hr hv hv.dI).mono fun e w' ⟨L, h1, h2, h3⟩ => ⟨(), by rw [h1]; show Ending.returned (.tuple #[.int .i64 (Fl.out s L), .int .i64 0]) = _; rw [h2.1.mw h2.2], trivial, h3⟩
theorem Most_N {w : World} {v : Value} {n s t : Nat} {rs : List Bd} (h : IsN w v n s t rs) (hv : Vd n s t rs) :
    Calls Try.prog 22 #[v] w (Post (X := Unit) (fun _ => .tuple #[.int .i64 (Fl.mw s t (dr0 rs)), .int .i64 0]) (fun _ => True) (fun _ => []) w) := by
  obtain ⟨p, c, rfl, hr⟩ := h
  exact Most_w w n s t p c rs hr hv
theorem Least_N {w : World} {v : Value} {n s t : Nat} {rs : List Bd} (h : IsN w v n s t rs) (hv : Vd n s t rs) :
    Calls Try.prog 27 #[v] w (Post (X := HD) (fun h => .tuple #[gval h (lst (lcS s t rs) n).length, .int .i64 0]) (fun h => goI (h, lst (lcS s t rs) n) ∧ Fl.MinC s t (dr0 rs) (lcS s t rs)) (fun h => gbI (h, lst (lcS s t rs) n)) w) := by
  obtain ⟨p, c, rfl, hr⟩ := h
  exact Least_v w n s t p c rs hr hv hv.dI
theorem Reverse_g (w0 : World) (n s t : Nat) (p : Option Addr) (cap : Nat) (rs : List Bd) (hr : BdsAt w0 p rs) (hv : Vd n s t rs) :
    Calls Try.prog 46 #[dnV n s t p rs.length cap] w0 (Post (X := HD) (fun h => .tuple #[.agg #[.int .i64 n, .int .i64 t, .int .i64 s, gval h rs.length], .int .i64 0]) (fun h => goB h (rs.map flB)) (fun h => gbB 40 h (rs.map flB)) w0) :=
  (Reverse_v w0 n s t p cap rs hr hv hv.dI).mono fun e w' ⟨x, h1, h2, h3⟩ => by
    obtain ⟨xn, xs, xt, xh, xl⟩ := x
    obtain ⟨ho, ⟨_, e1, e2, e3, e4⟩ | ⟨h9, _⟩⟩ := h2
    · simp only at e1 e2 e3 e4 ho h3
      subst e1; subst e2; subst e3; subst e4
      exact ⟨xh, by rw [h1]; unfold NX.val; simp only [List.length_map], ho, h3⟩
    · exact absurd rfl h9
theorem Widen_g (w0 : World) (n s t : Nat) (p : Option Addr) (cap : Nat) (rs : List Bd) (hr : BdsAt w0 p rs) (hv : Vd n s t rs) (k : Nat) (hk : k < rs.length) (by_ : Int) (hb : 0 ≤ (rs.getD k default).m + by_ ∧ (rs.getD k default).m + by_ ≤ 20) :
    Calls Try.prog 43 #[dnV n s t p rs.length cap, .int .i64 k, .int .i64 by_] w0 (Post (X := HD) (fun h => .tuple #[.agg #[.int .i64 n, .int .i64 s, .int .i64 t, gval h rs.length], .int .i64 0]) (fun h => goB h (wdB rs k ((rs.getD k default).m + by_))) (fun h => gbB 40 h (wdB rs k ((rs.getD k default).m + by_))) w0) :=
  (Widen_v w0 n s t p cap rs hr hv hv.dI k by_ (by have := hv.at hk; omega)).mono fun e w' ⟨x, h1, h2, h3⟩ => by
    have hI : widI rs k by_ = 0 := widI_0 (by omega) (by simpa using hb)
    obtain ⟨xn, xs, xt, xh, xl⟩ := x
    obtain ⟨ho, ⟨_, e1, e2, e3, e4⟩ | ⟨h9, _⟩⟩ := h2
    · simp only [wdR, Int.toNat_natCast] at e1 e2 e3 e4 ho h3
      subst e1; subst e2; subst e3; subst e4
      exact ⟨xh, by rw [h1, hI]; unfold NX.val; simp only [wdB_len], ho, h3⟩
    · exact absurd hI h9
theorem contains_I {w : World} {v : Value} {xs : List Int} (u : Int) (h : IsI w v xs) (hl : xs.length ≤ 1000000) : Calls Try.prog 69 #[v, .int .i64 u] w (Post (X := Unit) (fun _ => .bool (decide (u ∈ xs))) (fun _ => True) (fun _ => []) w) := by
  obtain ⟨p, c, rfl, hx⟩ := h
  exact contains_ok w p c xs u hx hl
theorem gcS_eq {n s t : Nat} {rs : List Bd} {v : Nat} (hv : v < n) : gcS s t rs v = !(lcS t s (rs.map flB) v) := by
  have h := (lcS_ok n t s (rs.map flB))
  rw [dr0_flB] at h
  exact (gcS_ok n s t rs).uniq h.turn hv
theorem gcS_min {n s t : Nat} {rs : List Bd} (hw : W1 n s t rs) (h : Fl.MinC t s (dr0 (rs.map flB)) (lcS t s (rs.map flB))) : Fl.MinC s t (dr0 rs) (gcS s t rs) := by
  rw [dr0_flB] at h
  exact h.turn'.nodes hw.sn hw.tn hw.nodes fun v hv => (gcS_eq hv).symm
theorem gcS_mem {n s t : Nat} {rs : List Bd} {v : Nat} (hv : v < n) : gcS s t rs v = decide (¬ ((v : Int) ∈ lst (lcS t s (rs.map flB)) n)) := by
  rw [gcS_eq hv, decide_not]
  congr 1
  rw [Bool.eq_iff_iff, decide_eq_true_iff, mem_lst, Int.toNat_natCast]
  exact ⟨fun h => ⟨by omega, by omega, h⟩, fun h => h.2.2⟩
noncomputable def crS (s t : Nat) (rs : List Bd) (k : Nat) : Bool := decide (0 < (rs.getD k default).m ∧ Fl.mw s t (dr0 (wdB rs k ((rs.getD k default).m - 1))) < Fl.mw s t (dr0 rs))
noncomputable def wtS (s t : Nat) (rs : List Bd) (k : Nat) : Bool := decide (Fl.mw s t (dr0 rs) < Fl.mw s t (dr0 (wdB rs k ((rs.getD k default).m + 1))))
noncomputable def ndS (s t : Nat) (rs : List Bd) (k : Nat) : Bool := decide (Fl.mw s t (dr0 (wdB rs k 0)) = Fl.mw s t (dr0 rs))
theorem dr0_at {rs : List Bd} {k : Nat} (hk : k < rs.length) : (dr0 rs)[k]'(by rw [mkL_len]; exact hk) = mkE (rs.getD k default) 0 := by simp [dr0, mkL]
set_option maxRecDepth 100000 in
set_option maxHeartbeats 2000000 in
theorem Greatest_v (w0 : World) (n s t : Nat) (p : Option Addr) (cap : Nat) (rs : List Bd) (hr : BdsAt w0 p rs) (hv : Vd n s t rs) (hd0 : dI n s t rs = 0) :
    Calls Try.prog 29 #[dnV n s t p rs.length cap] w0 (Post (X := HD) (fun h => .tuple #[gval h (lst (gcS s t rs) n).length, .int .i64 0]) (fun h => goI (h, lst (gcS s t rs) n) ∧ Fl.MinC s t (dr0 rs) (gcS s t rs)) (fun h => gbI (h, lst (gcS s t rs) n)) w0) := by
  have hw := hv.w1
  have hlen := hv.len
  have hn8 := hw.n8
  have hsn := hw.sn
  have htn := hw.tn
  have h256 := p2_256 hn8
  have hpos := Nat.two_pow_pos n
  refine calls Try.func29 rfl (n := 38) rfl (by simp) ?_
  refine TC.seq ?_
  refine TC.region ?_
  refine TL.box rfl rfl (by decide) (fun b0 hb0 => ?_)
  refine TL.pure (PV.assign rfl) rfl (by decide) ?_
  refine TL.pure (PV.assign rfl) rfl (by decide) ?_
  refine TL.nil ?_
  refine TQ.thenC ?_
  refine TC.seq ?_
  refine TC.region ?_
  refine TL.pure (PV.loadBox rfl Tb.agg_24 (by repeat (first | exact List.Mem.head _ | refine List.Mem.tail _ ?_ | refine List.mem_append_right _ ?_)) rfl) rfl (by decide) ?_
  refine TL.call rfl Tb.gofn_46 (fun a w hs => Reverse_g w n s t p cap rs (hr.new hs.new) hv) rfl (by decide) (fun hb hhb => ?_)
  refine TL.pure (PV.move rfl) rfl (by decide) ?_
  refine TL.pure (PV.extract rfl rfl) rfl (by decide) ?_
  refine TL.pure (PV.extract rfl rfl) rfl (by decide) ?_
  refine TL.alloc Tb.zero_24 rfl (by decide) (fun b1 hb1 => ?_)
  refine TL.storeAgg rfl rfl Tb.cells_24 (by repeat (first | exact Upd.head _ | apply Upd.tail | apply Upd.appR)) rfl rfl (nv_one _ _ _ _ _) rfl rfl ?_
  refine TL.pure (PV.assign rfl) rfl (by decide) ?_
  refine TL.nil ?_
  refine TQ.thenC ?_
  refine TC.seq ?_
  refine TC.seq ?_
  refine TC.region ?_
  refine TL.pure (PV.move rfl) rfl (by decide) ?_
  refine TL.pure (PV.neq rfl rfl) rfl (by decide) ?_
  refine TL.nil ?_
  refine TQ.thenC ?_
  first | refine TC.condD rfl (fun hv9 => ?_) (fun hv9 => ?_) | refine TC.cond rfl (fun hv9 => ?_) (fun hv9 => ?_)
  · skip
    refine TC.seq ?_
    refine TC.region ?_
    refine TL.pure (PV.move rfl) rfl (by decide) ?_
    refine TL.pure (PV.assign rfl) rfl (by decide) ?_
    refine TL.pure (PV.assign rfl) rfl (by decide) ?_
    refine TL.nil ?_
    refine TQ.thenC ?_
    refine TC.ret ?_
    refine TQ.thenR ?_
    refine TQ.retE2 rfl rfl rfl ?_
    first | exact absurd hd0 hv9 | exact absurd rfl hv9
  · skip
    refine TC.skip ?_
    refine TQ.thenC ?_
    refine TC.seq ?_
    refine TC.region ?_
    refine TL.pure (PV.loadBox rfl Tb.agg_24 (by repeat (first | exact List.Mem.head _ | refine List.Mem.tail _ ?_ | refine List.mem_append_right _ ?_)) rfl) rfl (by decide) ?_
    refine TL.call rfl Tb.gofn_27 (fun a w hs => Least_N (IsN.gl (by rw [List.length_map]) hs.new (fun yy hyy => by repeat (first | exact List.mem_append_left _ hyy | refine List.mem_append_right _ ?_ | refine List.Mem.tail _ ?_)) hhb) hv.fl) rfl (by decide) (fun hl hhl => ?_)
    refine TL.pure (PV.move rfl) rfl (by decide) ?_
    refine TL.pure (PV.extract rfl rfl) rfl (by decide) ?_
    refine TL.pure (PV.extract rfl rfl) rfl (by decide) ?_
    refine TL.pure (PV.assign rfl) rfl (by decide) ?_
    refine TL.pure (PV.assign rfl) rfl (by decide) ?_
    refine TL.nil ?_
    refine TQ.thenC ?_
    refine TC.seq ?_
    refine TC.region ?_
    refine TL.pure (PV.assign rfl) rfl (by decide) ?_
    refine TL.nil ?_
    refine TQ.thenC ?_
    refine TC.seq ?_
    refine TC.seq ?_
    refine TC.region ?_
    refine TL.pure (PV.fieldAddr rfl Tb.fo_24_0) rfl (by decide) ?_
    refine TL.pure (PV.load rfl Tb.one_3 (by repeat (first | exact List.Mem.head _ | refine List.Mem.tail _ ?_ | refine List.mem_append_right _ ?_)) rfl) rfl (by decide) ?_
    refine TL.pure (PV.move rfl) rfl (by decide) ?_
    refine TL.nil ?_
    refine TQ.thenC ?_
    refine TC.block ?_
    refine TC.loopK [2, 3, 6, 24] (X := Nat × HD) (fun u => u.1 ≤ n ∧ goI (u.2, lst (gcS s t rs) u.1)) (fun u => [(25, .int .i64 (u.1 : Nat)), (8, gval u.2 (lst (gcS s t rs) u.1).length)]) (fun u => gbI (u.2, lst (gcS s t rs) u.1) ++ (gbI (hl, lst (lcS t s (rs.map flB)) n) ++ [(b0, Obj.cells #[.int .i64 (n : Nat), .int .i64 (s : Nat), .int .i64 (t : Nat), .slice p rs.length cap] 24 (0, 0))])) (fun u => n - u.1) (0, none) ⟨Nat.zero_le _, goI_nil⟩ (by repeat (first | exact True.intro | refine And.intro rfl ?_)) (by show List.Sublist ((gbI (hl, lst (lcS t s (rs.map flB)) n) ++ [(b0, Obj.cells #[.int .i64 (n : Nat), .int .i64 (s : Nat), .int .i64 (t : Nat), .slice p rs.length cap] 24 (0, 0))])) _; exact (by repeat (first | exact List.Sublist.slnil | exact List.nil_sublist _ | exact List.Sublist.refl _ | exact List.sublist_append_left _ _ | refine List.Sublist.cons_cons _ ?_ | refine (List.append_sublist_append_left _).2 ?_ | refine List.Sublist.cons _ ?_ | refine List.Sublist.trans ?_ (List.sublist_append_right _ _)))) ?_
    intro u hu9
    refine TC.seq ?_
    refine TC.region ?_
    refine TL.pure (PV.lss rfl rfl) rfl (by decide) ?_
    refine TL.nil ?_
    refine TQ.thenC ?_
    refine TC.seq ?_
    first | refine TC.condD rfl (fun hlt => ?_) (fun hlt => ?_) | refine TC.cond rfl (fun hlt => ?_) (fun hlt => ?_)
    · skip
      refine TC.skip ?_
      refine TQ.thenC ?_
      refine TC.seq ?_
      refine TC.block ?_
      refine TC.seq ?_
      refine TC.region ?_
      refine TL.pure (PV.move rfl) rfl (by decide) ?_
      refine TL.pure (PV.assign rfl) rfl (by decide) ?_
      refine TL.nil ?_
      refine TQ.thenC ?_
      refine TC.seq ?_
      refine TC.region ?_
      refine TL.pure (PV.move rfl) rfl (by decide) ?_
      refine TL.pure (PV.move rfl) rfl (by decide) ?_
      refine TL.call rfl Tb.gofn_69 (fun a w hs => contains_I _ (IsI.g (h := hl) hs.new (by intro y hy; repeat (first | exact hy | exact List.mem_append_left _ hy | refine List.mem_append_right _ ?_ | refine List.Mem.tail _ ?_)) hhl.1) (by have := lst_len (lcS t s (rs.map flB)) n; omega)) rfl (by decide) (fun _ _ => ?_)
      refine TL.pure ((by first | exact PV.notD rfl | exact PV.not rfl)) rfl (by decide) ?_
      refine TL.nil ?_
      refine TQ.thenC ?_
      first | refine TC.condD rfl (fun hin => ?_) (fun hin => ?_) | refine TC.cond rfl (fun hin => ?_) (fun hin => ?_)
      · skip
        have hfu : gcS s t rs u.1 = true := by rw [gcS_mem (n := n) (by omega)]; exact decide_eq_true hin
        have hob : lst (gcS s t rs) (u.1 + 1) = lst (gcS s t rs) u.1 ++ [(u.1 : Int)] := lst_yes hfu
        refine TC.region ?_
        refine TL.pure (PV.move rfl) rfl (by decide) ?_
        refine TL.pure (PV.move rfl) rfl (by decide) ?_
        refine TL.buildSlice (cs := #[.int .i64 (u.1 : Nat)]) rfl Tb.sl_25 Tb.zi_3 (by decide) (fill_i _) (by decide) rfl (by decide) (fun bE hbE => ?_)
        refine TL.appendI (x0 := (u.2, lst (gcS s t rs) u.1)) rfl rfl (by repeat (first | exact List.Mem.head _ | refine List.Mem.tail _ ?_ | refine List.mem_append_right _ ?_)) hu9.2 (by repeat (first | exact TakeH.here _ _ _ _ | apply TakeH.tail | apply TakeH.app)) (by have := lst_len (gcS s t rs) u.1; show (lst (gcS s t rs) u.1).length ≤ 1000000; omega) rfl (by decide) (fun hh hho => ?_)
        let nu : Nat × HD := (u.1 + 1, hh)
        have hnu : nu.1 ≤ n ∧ goI (nu.2, lst (gcS s t rs) nu.1) := ⟨by simp only [nu]; omega, by simp only [nu]; rw [hob]; exact hho⟩
        refine TL.pure (PV.assign rfl) rfl (by decide) ?_
        refine TL.nil ?_
        refine TQ.blkN ?_
        refine TQ.thenC ?_
        refine TC.region ?_
        refine TL.pure (PV.add rfl rfl (by omega)) rfl (by decide) ?_
        refine TL.pure (PV.move rfl) rfl (by decide) ?_
        refine TL.nil ?_
        refine TQ.thenN ?_
        refine TQ.backK nu (by first | exact And.intro rfl (And.intro rfl True.intro) | (refine And.intro rfl (And.intro ?_ True.intro); show some (gval _ _) = some (gval _ _); rw [hob])) (by repeat (first | exact True.intro | refine And.intro rfl ?_)) (by first | (rw [hob]; first | exact List.Sublist.append_left (by repeat (first | exact List.Sublist.slnil | exact List.nil_sublist _ | exact List.Sublist.refl _ | refine List.Sublist.cons_cons _ ?_ | refine List.Sublist.cons _ ?_ | refine List.Sublist.trans ?_ (List.sublist_append_right _ _))) _ | exact (by repeat (first | exact List.Sublist.slnil | exact List.nil_sublist _ | exact List.Sublist.refl _ | refine List.Sublist.cons_cons _ ?_ | refine List.Sublist.cons _ ?_ | refine List.Sublist.trans ?_ (List.sublist_append_right _ _)))) | (simp only [nu, hob]; first | exact List.Sublist.refl _ | exact List.Sublist.append_left (by repeat (first | exact List.Sublist.slnil | exact List.nil_sublist _ | exact List.Sublist.refl _ | refine List.Sublist.cons_cons _ ?_ | refine List.Sublist.cons _ ?_ | refine List.Sublist.trans ?_ (List.sublist_append_right _ _))) _ | exact (by repeat (first | exact List.Sublist.slnil | exact List.nil_sublist _ | exact List.Sublist.refl _ | refine List.Sublist.cons_cons _ ?_ | refine List.Sublist.cons _ ?_ | refine List.Sublist.trans ?_ (List.sublist_append_right _ _))))) hnu (by simp only [nu]; omega)
      · skip
        have hfu : gcS s t rs u.1 = false := by rw [gcS_mem (n := n) (by omega)]; exact decide_eq_false hin
        have hob : lst (gcS s t rs) (u.1 + 1) = lst (gcS s t rs) u.1 := lst_no hfu
        let nu : Nat × HD := (u.1 + 1, u.2)
        have hnu : nu.1 ≤ n ∧ goI (nu.2, lst (gcS s t rs) nu.1) := ⟨by simp only [nu]; omega, by simp only [nu]; rw [hob]; exact hu9.2⟩
        refine TC.skip ?_
        refine TQ.blkN ?_
        refine TQ.thenC ?_
        refine TC.region ?_
        refine TL.pure (PV.add rfl rfl (by omega)) rfl (by decide) ?_
        refine TL.pure (PV.move rfl) rfl (by decide) ?_
        refine TL.nil ?_
        refine TQ.thenN ?_
        refine TQ.backK nu (by first | exact And.intro rfl (And.intro rfl True.intro) | (refine And.intro rfl (And.intro ?_ True.intro); show some (gval _ _) = some (gval _ _); rw [hob])) (by repeat (first | exact True.intro | refine And.intro rfl ?_)) (by first | (rw [hob]; first | exact List.Sublist.append_left (by repeat (first | exact List.Sublist.slnil | exact List.nil_sublist _ | exact List.Sublist.refl _ | refine List.Sublist.cons_cons _ ?_ | refine List.Sublist.cons _ ?_ | refine List.Sublist.trans ?_ (List.sublist_append_right _ _))) _ | exact (by repeat (first | exact List.Sublist.slnil | exact List.nil_sublist _ | exact List.Sublist.refl _ | refine List.Sublist.cons_cons _ ?_ | refine List.Sublist.cons _ ?_ | refine List.Sublist.trans ?_ (List.sublist_append_right _ _)))) | (simp only [nu, hob]; first | exact List.Sublist.refl _ | exact List.Sublist.append_left (by repeat (first | exact List.Sublist.slnil | exact List.nil_sublist _ | exact List.Sublist.refl _ | refine List.Sublist.cons_cons _ ?_ | refine List.Sublist.cons _ ?_ | refine List.Sublist.trans ?_ (List.sublist_append_right _ _))) _ | exact (by repeat (first | exact List.Sublist.slnil | exact List.nil_sublist _ | exact List.Sublist.refl _ | refine List.Sublist.cons_cons _ ?_ | refine List.Sublist.cons _ ?_ | refine List.Sublist.trans ?_ (List.sublist_append_right _ _))))) hnu (by simp only [nu]; omega)
    · skip
      refine TC.exit ?_
      refine TQ.thenE ?_
      refine TQ.thenE ?_
      refine TQ.blkS ?_
      refine TQ.thenC ?_
      refine TC.seq ?_
      have hun : u.1 = n := by omega
      refine TC.region ?_
      refine TL.pure (PV.move rfl) rfl (by decide) ?_
      refine TL.pure (PV.assign rfl) rfl (by decide) ?_
      refine TL.pure (PV.assign rfl) rfl (by decide) ?_
      refine TL.nil ?_
      refine TQ.thenC ?_
      refine TC.ret ?_
      refine TQ.retE2 rfl rfl rfl ?_
      exact ⟨u.2, by rw [hun], ⟨by rw [← hun]; exact hu9.2, gcS_min hw hhl.2⟩, by rw [← hun]; exact List.sublist_append_left _ _⟩

set_option maxRecDepth 100000 in
theorem mostIf_ok (w0 : World) (n s t : Nat) (p : Option Addr) (cap : Nat) (rs : List Bd) (hr : BdsAt w0 p rs) (hv : Vd n s t rs) (k : Nat) (hk : k < rs.length) (by_ : Int) (hb : 0 ≤ (rs.getD k default).m - by_ ∧ (rs.getD k default).m - by_ ≤ 20) :
    Calls Try.prog 74 #[dnV n s t p rs.length cap, .int .i64 (k : Nat), .int .i64 by_] w0 (Post (X := Unit) (fun _ => .int .i64 (Fl.mw s t (dr0 (wdB rs k ((rs.getD k default).m - by_))))) (fun _ => True) (fun _ => []) w0) := by
  have hma := hv.at hk
  refine calls Try.func74 rfl (n := 25) rfl (by simp) ?_
  refine TC.seq ?_
  refine TC.region ?_
  refine TL.box rfl rfl (by decide) (fun b0 hb0 => ?_)
  refine TL.pure (PV.assign rfl) rfl (by decide) ?_
  refine TL.nil ?_
  refine TQ.thenC ?_
  refine TC.seq ?_
  refine TC.region ?_
  refine TL.pure (PV.loadBox rfl Tb.agg_24 (by repeat (first | exact List.Mem.head _ | refine List.Mem.tail _ ?_ | refine List.mem_append_right _ ?_)) rfl) rfl (by decide) ?_
  refine TL.pure (PV.move rfl) rfl (by decide) ?_
  refine TL.pure (PV.move rfl) rfl (by decide) ?_
  refine TL.pure (PV.neg rfl (by omega)) rfl (by decide) ?_
  refine TL.call rfl Tb.gofn_43 (fun a w hs => Widen_g w n s t p cap rs (hr.new hs.new) hv k hk (-by_) (by omega)) rfl (by decide) (fun hb1 hhb1 => ?_)
  refine TL.pure (PV.move rfl) rfl (by decide) ?_
  refine TL.pure (PV.extract rfl rfl) rfl (by decide) ?_
  refine TL.pure (PV.extract rfl rfl) rfl (by decide) ?_
  refine TL.alloc Tb.zero_24 rfl (by decide) (fun b1 hb1 => ?_)
  refine TL.storeAgg rfl rfl Tb.cells_24 (by repeat (first | exact Upd.head _ | apply Upd.tail | apply Upd.appR)) rfl rfl (nv_one _ _ _ _ _) rfl rfl ?_
  refine TL.pure (PV.assign rfl) rfl (by decide) ?_
  refine TL.nil ?_
  refine TQ.thenC ?_
  refine TC.seq ?_
  refine TC.region ?_
  refine TL.pure (PV.loadBox rfl Tb.agg_24 (by repeat (first | exact List.Mem.head _ | refine List.Mem.tail _ ?_ | refine List.mem_append_right _ ?_)) rfl) rfl (by decide) ?_
  refine TL.call rfl Tb.gofn_22 (fun a w hs => Most_N (IsN.gl (by rw [wdB_len]) hs.new (fun yy hyy => by repeat (first | exact List.mem_append_left _ hyy | refine List.mem_append_right _ ?_ | refine List.Mem.tail _ ?_)) hhb1) (hv.wd k (by omega))) rfl (by decide) (fun _ _ => ?_)
  refine TL.pure (PV.move rfl) rfl (by decide) ?_
  refine TL.pure (PV.extract rfl rfl) rfl (by decide) ?_
  refine TL.pure (PV.extract rfl rfl) rfl (by decide) ?_
  refine TL.pure (PV.assign rfl) rfl (by decide) ?_
  refine TL.pure (PV.assign rfl) rfl (by decide) ?_
  refine TL.nil ?_
  refine TQ.thenC ?_
  refine TC.seq ?_
  refine TC.region ?_
  refine TL.pure (PV.move rfl) rfl (by decide) ?_
  refine TL.pure (PV.assign rfl) rfl (by decide) ?_
  refine TL.nil ?_
  refine TQ.thenC ?_
  refine TC.ret ?_
  refine TQ.retE1 rfl rfl ?_
  exact ⟨(), by rw [Int.sub_eq_add_neg], trivial, List.nil_sublist _⟩

set_option maxRecDepth 100000 in
set_option maxHeartbeats 2000000 in
theorem Critical_v (w0 : World) (n s t : Nat) (p : Option Addr) (cap : Nat) (rs : List Bd) (hr : BdsAt w0 p rs) (hv : Vd n s t rs) (hd0 : dI n s t rs = 0) :
    Calls Try.prog 34 #[dnV n s t p rs.length cap] w0 (Post (X := HD) (fun h => .tuple #[gval h (lst (crS s t rs) rs.length).length, .int .i64 0]) (fun h => goI (h, lst (crS s t rs) rs.length)) (fun h => gbI (h, lst (crS s t rs) rs.length)) w0) := by
  have hw := hv.w1
  have hlen := hv.len
  have hn8 := hw.n8
  have hsn := hw.sn
  have htn := hw.tn
  have h256 := p2_256 hn8
  have hpos := Nat.two_pow_pos n
  refine calls Try.func34 rfl (n := 41) rfl (by simp) ?_
  refine TC.seq ?_
  refine TC.region ?_
  refine TL.box rfl rfl (by decide) (fun b0 hb0 => ?_)
  refine TL.pure (PV.assign rfl) rfl (by decide) ?_
  refine TL.pure (PV.assign rfl) rfl (by decide) ?_
  refine TL.nil ?_
  refine TQ.thenC ?_
  refine TC.seq ?_
  refine TC.region ?_
  refine TL.pure (PV.loadBox rfl Tb.agg_24 (by repeat (first | exact List.Mem.head _ | refine List.Mem.tail _ ?_ | refine List.mem_append_right _ ?_)) rfl) rfl (by decide) ?_
  refine TL.call rfl Tb.gofn_22 (fun a w hs => Most_w w n s t p cap rs (hr.new hs.new) hv) rfl (by decide) (fun _ _ => ?_)
  refine TL.pure (PV.move rfl) rfl (by decide) ?_
  refine TL.pure (PV.extract rfl rfl) rfl (by decide) ?_
  refine TL.pure (PV.extract rfl rfl) rfl (by decide) ?_
  refine TL.pure (PV.assign rfl) rfl (by decide) ?_
  refine TL.pure (PV.assign rfl) rfl (by decide) ?_
  refine TL.nil ?_
  refine TQ.thenC ?_
  refine TC.seq ?_
  refine TC.seq ?_
  refine TC.region ?_
  refine TL.pure (PV.move rfl) rfl (by decide) ?_
  refine TL.pure (PV.neq rfl rfl) rfl (by decide) ?_
  refine TL.nil ?_
  refine TQ.thenC ?_
  first | refine TC.condD rfl (fun hv9 => ?_) (fun hv9 => ?_) | refine TC.cond rfl (fun hv9 => ?_) (fun hv9 => ?_)
  · skip
    refine TC.seq ?_
    refine TC.region ?_
    refine TL.pure (PV.move rfl) rfl (by decide) ?_
    refine TL.pure (PV.assign rfl) rfl (by decide) ?_
    refine TL.pure (PV.assign rfl) rfl (by decide) ?_
    refine TL.nil ?_
    refine TQ.thenC ?_
    refine TC.ret ?_
    refine TQ.thenR ?_
    refine TQ.retE2 rfl rfl rfl ?_
    first | exact absurd hd0 hv9 | exact absurd rfl hv9
  · skip
    refine TC.skip ?_
    refine TQ.thenC ?_
    refine TC.seq ?_
    refine TC.region ?_
    refine TL.pure (PV.assign rfl) rfl (by decide) ?_
    refine TL.nil ?_
    refine TQ.thenC ?_
    refine TC.seq ?_
    refine TC.seq ?_
    refine TC.region ?_
    refine TL.pure (PV.fieldAddr rfl Tb.fo_24_3) rfl (by decide) ?_
    refine TL.pure (PV.load rfl Tb.one_22 (by repeat (first | exact List.Mem.head _ | refine List.Mem.tail _ ?_ | refine List.mem_append_right _ ?_)) rfl) rfl (by decide) ?_
    refine TL.pure (PV.len rfl Tb.sl_22) rfl (by decide) ?_
    refine TL.pure (PV.move rfl) rfl (by decide) ?_
    refine TL.nil ?_
    refine TQ.thenC ?_
    refine TC.block ?_
    refine TC.loopK [1, 2, 3, 4, 18, 19] (X := Nat × HD) (fun u => u.1 ≤ rs.length ∧ goI (u.2, lst (crS s t rs) u.1)) (fun u => [(20, .int .i64 (u.1 : Nat)), (6, gval u.2 (lst (crS s t rs) u.1).length)]) (fun u => gbI (u.2, lst (crS s t rs) u.1) ++ [(b0, Obj.cells #[.int .i64 (n : Nat), .int .i64 (s : Nat), .int .i64 (t : Nat), .slice p rs.length cap] 24 (0, 0))]) (fun u => rs.length - u.1) (0, none) ⟨Nat.zero_le _, goI_nil⟩ (by repeat (first | exact True.intro | refine And.intro rfl ?_)) (by show List.Sublist ([(b0, Obj.cells #[.int .i64 (n : Nat), .int .i64 (s : Nat), .int .i64 (t : Nat), .slice p rs.length cap] 24 (0, 0))]) _; exact (by repeat (first | exact List.Sublist.slnil | exact List.nil_sublist _ | exact List.Sublist.refl _ | exact List.sublist_append_left _ _ | refine List.Sublist.cons_cons _ ?_ | refine (List.append_sublist_append_left _).2 ?_ | refine List.Sublist.cons _ ?_ | refine List.Sublist.trans ?_ (List.sublist_append_right _ _)))) ?_
    intro u hu9
    refine TC.seq ?_
    refine TC.region ?_
    refine TL.pure (PV.lss rfl rfl) rfl (by decide) ?_
    refine TL.nil ?_
    refine TQ.thenC ?_
    refine TC.seq ?_
    first | refine TC.condD rfl (fun hlt => ?_) (fun hlt => ?_) | refine TC.cond rfl (fun hlt => ?_) (fun hlt => ?_)
    · skip
      refine TC.skip ?_
      refine TQ.thenC ?_
      refine TC.seq ?_
      refine TC.block ?_
      refine TC.seq ?_
      obtain ⟨q, hqp, hq⟩ := hr u.1 (by omega)
      have hma := hv.at (show u.1 < rs.length by omega)
      refine TC.region ?_
      refine TL.pure (PV.move rfl) rfl (by decide) ?_
      refine TL.pure (PV.indexA rfl hqp rfl Tb.elm_22 rfl (by omega)) rfl (by decide) ?_
      refine TL.pure (PV.loadAggA rfl Tb.agg_40 rfl hq) rfl (by decide) ?_
      refine TL.alloc Tb.zero_40 rfl (by decide) (fun b1 hb1 => ?_)
      refine TL.pure (PV.assign rfl) rfl (by decide) ?_
      refine TL.storeAgg (vs := [.int .i64 (rs.getD u.1 default).a, .int .i64 (rs.getD u.1 default).b, .int .i64 (rs.getD u.1 default).m]) rfl rfl Tb.cells_40 (by repeat (first | exact Upd.head _ | apply Upd.tail | apply Upd.appR)) rfl rfl rfl rfl rfl ?_
      refine TL.nil ?_
      refine TQ.thenC ?_
      refine TC.seq ?_
      refine TC.region ?_
      refine TL.pure (PV.fieldAddr rfl Tb.fo_40_2) rfl (by decide) ?_
      refine TL.pure (PV.load rfl Tb.one_3 (by repeat (first | exact List.Mem.head _ | refine List.Mem.tail _ ?_ | refine List.mem_append_right _ ?_)) rfl) rfl (by decide) ?_
      refine TL.pure (PV.gtr rfl rfl) rfl (by decide) ?_
      refine TL.pure (PV.move rfl) rfl (by decide) ?_
      first | refine TL.splitD 28 rfl (fun e1 => ?_) (fun e1 => ?_) | refine TL.split 28 rfl (fun e1 => ?_) (fun e1 => ?_)
      · skip
        refine TL.pure (PV.loadBox rfl Tb.agg_24 (by repeat (first | exact List.Mem.head _ | refine List.Mem.tail _ ?_ | refine List.mem_append_right _ ?_)) rfl) rfl (by decide) ?_
        refine TL.pure (PV.move rfl) rfl (by decide) ?_
        refine TL.call rfl Tb.gofn_74 (fun a w hs => mostIf_ok w n s t p cap rs (hr.new hs.new) hv u.1 (by omega) 1 (by omega)) rfl (by decide) (fun _ _ => ?_)
        refine TL.pure (PV.move rfl) rfl (by decide) ?_
        refine TL.pure (PV.lss rfl rfl) rfl (by decide) ?_
        refine TL.pure (PV.pickT rfl rfl) rfl (by decide) ?_
        refine TL.nil ?_
        refine TQ.thenC ?_
        first | refine TC.condD rfl (fun hc => ?_) (fun hc => ?_) | refine TC.cond rfl (fun hc => ?_) (fun hc => ?_)
        · skip
          have hfu : crS s t rs u.1 = true := decide_eq_true ⟨e1, hc⟩
          have hob : lst (crS s t rs) (u.1 + 1) = lst (crS s t rs) u.1 ++ [(u.1 : Int)] := lst_yes hfu
          refine TC.region ?_
          refine TL.pure (PV.move rfl) rfl (by decide) ?_
          refine TL.pure (PV.move rfl) rfl (by decide) ?_
          refine TL.buildSlice (cs := #[.int .i64 (u.1 : Nat)]) rfl Tb.sl_25 Tb.zi_3 (by decide) (fill_i _) (by decide) rfl (by decide) (fun bE hbE => ?_)
          refine TL.appendI (x0 := (u.2, lst (crS s t rs) u.1)) rfl rfl (by repeat (first | exact List.Mem.head _ | refine List.Mem.tail _ ?_ | refine List.mem_append_right _ ?_)) hu9.2 (by repeat (first | exact TakeH.here _ _ _ _ | apply TakeH.tail | apply TakeH.app)) (by have := lst_len (crS s t rs) u.1; show (lst (crS s t rs) u.1).length ≤ 1000000; omega) rfl (by decide) (fun hh hho => ?_)
          let nu : Nat × HD := (u.1 + 1, hh)
          have hnu : nu.1 ≤ rs.length ∧ goI (nu.2, lst (crS s t rs) nu.1) := ⟨by simp only [nu]; omega, by simp only [nu]; rw [hob]; exact hho⟩
          refine TL.pure (PV.assign rfl) rfl (by decide) ?_
          refine TL.nil ?_
          refine TQ.blkN ?_
          refine TQ.thenC ?_
          refine TC.region ?_
          refine TL.pure (PV.add rfl rfl (by omega)) rfl (by decide) ?_
          refine TL.pure (PV.move rfl) rfl (by decide) ?_
          refine TL.nil ?_
          refine TQ.thenN ?_
          refine TQ.backK nu (by first | exact And.intro rfl (And.intro rfl True.intro) | (refine And.intro rfl (And.intro ?_ True.intro); show some (gval _ _) = some (gval _ _); rw [hob])) (by repeat (first | exact True.intro | refine And.intro rfl ?_)) (by first | (rw [hob]; first | exact List.Sublist.append_left (by repeat (first | exact List.Sublist.slnil | exact List.nil_sublist _ | exact List.Sublist.refl _ | refine List.Sublist.cons_cons _ ?_ | refine List.Sublist.cons _ ?_ | refine List.Sublist.trans ?_ (List.sublist_append_right _ _))) _ | exact (by repeat (first | exact List.Sublist.slnil | exact List.nil_sublist _ | exact List.Sublist.refl _ | refine List.Sublist.cons_cons _ ?_ | refine List.Sublist.cons _ ?_ | refine List.Sublist.trans ?_ (List.sublist_append_right _ _)))) | (simp only [nu, hob]; first | exact List.Sublist.refl _ | exact List.Sublist.append_left (by repeat (first | exact List.Sublist.slnil | exact List.nil_sublist _ | exact List.Sublist.refl _ | refine List.Sublist.cons_cons _ ?_ | refine List.Sublist.cons _ ?_ | refine List.Sublist.trans ?_ (List.sublist_append_right _ _))) _ | exact (by repeat (first | exact List.Sublist.slnil | exact List.nil_sublist _ | exact List.Sublist.refl _ | refine List.Sublist.cons_cons _ ?_ | refine List.Sublist.cons _ ?_ | refine List.Sublist.trans ?_ (List.sublist_append_right _ _))))) hnu (by simp only [nu]; omega)
        · skip
          have hfu : crS s t rs u.1 = false := decide_eq_false fun h9 => hc h9.2
          have hob : lst (crS s t rs) (u.1 + 1) = lst (crS s t rs) u.1 := lst_no hfu
          let nu : Nat × HD := (u.1 + 1, u.2)
          have hnu : nu.1 ≤ rs.length ∧ goI (nu.2, lst (crS s t rs) nu.1) := ⟨by simp only [nu]; omega, by simp only [nu]; rw [hob]; exact hu9.2⟩
          refine TC.skip ?_
          refine TQ.blkN ?_
          refine TQ.thenC ?_
          refine TC.region ?_
          refine TL.pure (PV.add rfl rfl (by omega)) rfl (by decide) ?_
          refine TL.pure (PV.move rfl) rfl (by decide) ?_
          refine TL.nil ?_
          refine TQ.thenN ?_
          refine TQ.backK nu (by first | exact And.intro rfl (And.intro rfl True.intro) | (refine And.intro rfl (And.intro ?_ True.intro); show some (gval _ _) = some (gval _ _); rw [hob])) (by repeat (first | exact True.intro | refine And.intro rfl ?_)) (by first | (rw [hob]; first | exact List.Sublist.append_left (by repeat (first | exact List.Sublist.slnil | exact List.nil_sublist _ | exact List.Sublist.refl _ | refine List.Sublist.cons_cons _ ?_ | refine List.Sublist.cons _ ?_ | refine List.Sublist.trans ?_ (List.sublist_append_right _ _))) _ | exact (by repeat (first | exact List.Sublist.slnil | exact List.nil_sublist _ | exact List.Sublist.refl _ | refine List.Sublist.cons_cons _ ?_ | refine List.Sublist.cons _ ?_ | refine List.Sublist.trans ?_ (List.sublist_append_right _ _)))) | (simp only [nu, hob]; first | exact List.Sublist.refl _ | exact List.Sublist.append_left (by repeat (first | exact List.Sublist.slnil | exact List.nil_sublist _ | exact List.Sublist.refl _ | refine List.Sublist.cons_cons _ ?_ | refine List.Sublist.cons _ ?_ | refine List.Sublist.trans ?_ (List.sublist_append_right _ _))) _ | exact (by repeat (first | exact List.Sublist.slnil | exact List.nil_sublist _ | exact List.Sublist.refl _ | refine List.Sublist.cons_cons _ ?_ | refine List.Sublist.cons _ ?_ | refine List.Sublist.trans ?_ (List.sublist_append_right _ _))))) hnu (by simp only [nu]; omega)
      · skip
        refine TL.skip rfl (fun k hk => by cases hk; decide) ?_
        refine TL.skip rfl (fun k hk => by cases hk; decide) ?_
        refine TL.skip rfl (fun k hk => by cases hk; decide) ?_
        refine TL.skip rfl (fun k hk => by cases hk; decide) ?_
        refine TL.skip rfl (fun k hk => by cases hk; decide) ?_
        refine TL.pure (PV.pickF rfl rfl) rfl (by decide) ?_
        refine TL.nil ?_
        refine TQ.thenC ?_
        refine TC.condF rfl ?_
        have hfu : crS s t rs u.1 = false := decide_eq_false fun h9 => e1 h9.1
        have hob : lst (crS s t rs) (u.1 + 1) = lst (crS s t rs) u.1 := lst_no hfu
        let nu : Nat × HD := (u.1 + 1, u.2)
        have hnu : nu.1 ≤ rs.length ∧ goI (nu.2, lst (crS s t rs) nu.1) := ⟨by simp only [nu]; omega, by simp only [nu]; rw [hob]; exact hu9.2⟩
        refine TC.skip ?_
        refine TQ.blkN ?_
        refine TQ.thenC ?_
        refine TC.region ?_
        refine TL.pure (PV.add rfl rfl (by omega)) rfl (by decide) ?_
        refine TL.pure (PV.move rfl) rfl (by decide) ?_
        refine TL.nil ?_
        refine TQ.thenN ?_
        refine TQ.backK nu (by first | exact And.intro rfl (And.intro rfl True.intro) | (refine And.intro rfl (And.intro ?_ True.intro); show some (gval _ _) = some (gval _ _); rw [hob])) (by repeat (first | exact True.intro | refine And.intro rfl ?_)) (by first | (rw [hob]; first | exact List.Sublist.append_left (by repeat (first | exact List.Sublist.slnil | exact List.nil_sublist _ | exact List.Sublist.refl _ | refine List.Sublist.cons_cons _ ?_ | refine List.Sublist.cons _ ?_ | refine List.Sublist.trans ?_ (List.sublist_append_right _ _))) _ | exact (by repeat (first | exact List.Sublist.slnil | exact List.nil_sublist _ | exact List.Sublist.refl _ | refine List.Sublist.cons_cons _ ?_ | refine List.Sublist.cons _ ?_ | refine List.Sublist.trans ?_ (List.sublist_append_right _ _)))) | (simp only [nu, hob]; first | exact List.Sublist.refl _ | exact List.Sublist.append_left (by repeat (first | exact List.Sublist.slnil | exact List.nil_sublist _ | exact List.Sublist.refl _ | refine List.Sublist.cons_cons _ ?_ | refine List.Sublist.cons _ ?_ | refine List.Sublist.trans ?_ (List.sublist_append_right _ _))) _ | exact (by repeat (first | exact List.Sublist.slnil | exact List.nil_sublist _ | exact List.Sublist.refl _ | refine List.Sublist.cons_cons _ ?_ | refine List.Sublist.cons _ ?_ | refine List.Sublist.trans ?_ (List.sublist_append_right _ _))))) hnu (by simp only [nu]; omega)
    · skip
      refine TC.exit ?_
      refine TQ.thenE ?_
      refine TQ.thenE ?_
      refine TQ.blkS ?_
      refine TQ.thenC ?_
      refine TC.seq ?_
      have hun : u.1 = rs.length := by omega
      refine TC.region ?_
      refine TL.pure (PV.move rfl) rfl (by decide) ?_
      refine TL.pure (PV.assign rfl) rfl (by decide) ?_
      refine TL.pure (PV.assign rfl) rfl (by decide) ?_
      refine TL.nil ?_
      refine TQ.thenC ?_
      refine TC.ret ?_
      refine TQ.retE2 rfl rfl rfl ?_
      exact ⟨u.2, by rw [hun], by rw [← hun]; exact hu9.2, by rw [← hun]; exact List.sublist_append_left _ _⟩

set_option maxRecDepth 100000 in
set_option maxHeartbeats 2000000 in
theorem Needless_v (w0 : World) (n s t : Nat) (p : Option Addr) (cap : Nat) (rs : List Bd) (hr : BdsAt w0 p rs) (hv : Vd n s t rs) (hd0 : dI n s t rs = 0) :
    Calls Try.prog 38 #[dnV n s t p rs.length cap] w0 (Post (X := HD) (fun h => .tuple #[gval h (lst (ndS s t rs) rs.length).length, .int .i64 0]) (fun h => goI (h, lst (ndS s t rs) rs.length)) (fun h => gbI (h, lst (ndS s t rs) rs.length)) w0) := by
  have hw := hv.w1
  have hlen := hv.len
  have hn8 := hw.n8
  have hsn := hw.sn
  have htn := hw.tn
  have h256 := p2_256 hn8
  have hpos := Nat.two_pow_pos n
  refine calls Try.func38 rfl (n := 38) rfl (by simp) ?_
  refine TC.seq ?_
  refine TC.region ?_
  refine TL.box rfl rfl (by decide) (fun b0 hb0 => ?_)
  refine TL.pure (PV.assign rfl) rfl (by decide) ?_
  refine TL.pure (PV.assign rfl) rfl (by decide) ?_
  refine TL.nil ?_
  refine TQ.thenC ?_
  refine TC.seq ?_
  refine TC.region ?_
  refine TL.pure (PV.loadBox rfl Tb.agg_24 (by repeat (first | exact List.Mem.head _ | refine List.Mem.tail _ ?_ | refine List.mem_append_right _ ?_)) rfl) rfl (by decide) ?_
  refine TL.call rfl Tb.gofn_22 (fun a w hs => Most_w w n s t p cap rs (hr.new hs.new) hv) rfl (by decide) (fun _ _ => ?_)
  refine TL.pure (PV.move rfl) rfl (by decide) ?_
  refine TL.pure (PV.extract rfl rfl) rfl (by decide) ?_
  refine TL.pure (PV.extract rfl rfl) rfl (by decide) ?_
  refine TL.pure (PV.assign rfl) rfl (by decide) ?_
  refine TL.pure (PV.assign rfl) rfl (by decide) ?_
  refine TL.nil ?_
  refine TQ.thenC ?_
  refine TC.seq ?_
  refine TC.seq ?_
  refine TC.region ?_
  refine TL.pure (PV.move rfl) rfl (by decide) ?_
  refine TL.pure (PV.neq rfl rfl) rfl (by decide) ?_
  refine TL.nil ?_
  refine TQ.thenC ?_
  first | refine TC.condD rfl (fun hv9 => ?_) (fun hv9 => ?_) | refine TC.cond rfl (fun hv9 => ?_) (fun hv9 => ?_)
  · skip
    refine TC.seq ?_
    refine TC.region ?_
    refine TL.pure (PV.move rfl) rfl (by decide) ?_
    refine TL.pure (PV.assign rfl) rfl (by decide) ?_
    refine TL.pure (PV.assign rfl) rfl (by decide) ?_
    refine TL.nil ?_
    refine TQ.thenC ?_
    refine TC.ret ?_
    refine TQ.thenR ?_
    refine TQ.retE2 rfl rfl rfl ?_
    first | exact absurd hd0 hv9 | exact absurd rfl hv9
  · skip
    refine TC.skip ?_
    refine TQ.thenC ?_
    refine TC.seq ?_
    refine TC.region ?_
    refine TL.pure (PV.assign rfl) rfl (by decide) ?_
    refine TL.nil ?_
    refine TQ.thenC ?_
    refine TC.seq ?_
    refine TC.seq ?_
    refine TC.region ?_
    refine TL.pure (PV.fieldAddr rfl Tb.fo_24_3) rfl (by decide) ?_
    refine TL.pure (PV.load rfl Tb.one_22 (by repeat (first | exact List.Mem.head _ | refine List.Mem.tail _ ?_ | refine List.mem_append_right _ ?_)) rfl) rfl (by decide) ?_
    refine TL.pure (PV.len rfl Tb.sl_22) rfl (by decide) ?_
    refine TL.pure (PV.move rfl) rfl (by decide) ?_
    refine TL.nil ?_
    refine TQ.thenC ?_
    refine TC.block ?_
    refine TC.loopK [1, 2, 3, 4, 18, 19] (X := Nat × HD) (fun u => u.1 ≤ rs.length ∧ goI (u.2, lst (ndS s t rs) u.1)) (fun u => [(20, .int .i64 (u.1 : Nat)), (6, gval u.2 (lst (ndS s t rs) u.1).length)]) (fun u => gbI (u.2, lst (ndS s t rs) u.1) ++ [(b0, Obj.cells #[.int .i64 (n : Nat), .int .i64 (s : Nat), .int .i64 (t : Nat), .slice p rs.length cap] 24 (0, 0))]) (fun u => rs.length - u.1) (0, none) ⟨Nat.zero_le _, goI_nil⟩ (by repeat (first | exact True.intro | refine And.intro rfl ?_)) (by show List.Sublist ([(b0, Obj.cells #[.int .i64 (n : Nat), .int .i64 (s : Nat), .int .i64 (t : Nat), .slice p rs.length cap] 24 (0, 0))]) _; exact (by repeat (first | exact List.Sublist.slnil | exact List.nil_sublist _ | exact List.Sublist.refl _ | exact List.sublist_append_left _ _ | refine List.Sublist.cons_cons _ ?_ | refine (List.append_sublist_append_left _).2 ?_ | refine List.Sublist.cons _ ?_ | refine List.Sublist.trans ?_ (List.sublist_append_right _ _)))) ?_
    intro u hu9
    refine TC.seq ?_
    refine TC.region ?_
    refine TL.pure (PV.lss rfl rfl) rfl (by decide) ?_
    refine TL.nil ?_
    refine TQ.thenC ?_
    refine TC.seq ?_
    first | refine TC.condD rfl (fun hlt => ?_) (fun hlt => ?_) | refine TC.cond rfl (fun hlt => ?_) (fun hlt => ?_)
    · skip
      refine TC.skip ?_
      refine TQ.thenC ?_
      refine TC.seq ?_
      refine TC.block ?_
      refine TC.seq ?_
      obtain ⟨q, hqp, hq⟩ := hr u.1 (by omega)
      have hma := hv.at (show u.1 < rs.length by omega)
      refine TC.region ?_
      refine TL.pure (PV.move rfl) rfl (by decide) ?_
      refine TL.pure (PV.indexA rfl hqp rfl Tb.elm_22 rfl (by omega)) rfl (by decide) ?_
      refine TL.pure (PV.loadAggA rfl Tb.agg_40 rfl hq) rfl (by decide) ?_
      refine TL.alloc Tb.zero_40 rfl (by decide) (fun b1 hb1 => ?_)
      refine TL.pure (PV.assign rfl) rfl (by decide) ?_
      refine TL.storeAgg (vs := [.int .i64 (rs.getD u.1 default).a, .int .i64 (rs.getD u.1 default).b, .int .i64 (rs.getD u.1 default).m]) rfl rfl Tb.cells_40 (by repeat (first | exact Upd.head _ | apply Upd.tail | apply Upd.appR)) rfl rfl rfl rfl rfl ?_
      refine TL.nil ?_
      refine TQ.thenC ?_
      refine TC.seq ?_
      refine TC.region ?_
      refine TL.pure (PV.loadBox rfl Tb.agg_24 (by repeat (first | exact List.Mem.head _ | refine List.Mem.tail _ ?_ | refine List.mem_append_right _ ?_)) rfl) rfl (by decide) ?_
      refine TL.pure (PV.move rfl) rfl (by decide) ?_
      refine TL.pure (PV.fieldAddr rfl Tb.fo_40_2) rfl (by decide) ?_
      refine TL.pure (PV.load rfl Tb.one_3 (by repeat (first | exact List.Mem.head _ | refine List.Mem.tail _ ?_ | refine List.mem_append_right _ ?_)) rfl) rfl (by decide) ?_
      refine TL.call rfl Tb.gofn_74 (fun a w hs => mostIf_ok w n s t p cap rs (hr.new hs.new) hv u.1 (by omega) (rs.getD u.1 default).m (by omega)) rfl (by decide) (fun _ _ => ?_)
      refine TL.pure (PV.move rfl) rfl (by decide) ?_
      refine TL.pure (PV.eql rfl rfl) rfl (by decide) ?_
      refine TL.nil ?_
      refine TQ.thenC ?_
      first | refine TC.condD rfl (fun hc => ?_) (fun hc => ?_) | refine TC.cond rfl (fun hc => ?_) (fun hc => ?_)
      · skip
        have hfu : ndS s t rs u.1 = true := decide_eq_true (by rw [Int.sub_self] at hc; exact hc)
        have hob : lst (ndS s t rs) (u.1 + 1) = lst (ndS s t rs) u.1 ++ [(u.1 : Int)] := lst_yes hfu
        refine TC.region ?_
        refine TL.pure (PV.move rfl) rfl (by decide) ?_
        refine TL.pure (PV.move rfl) rfl (by decide) ?_
        refine TL.buildSlice (cs := #[.int .i64 (u.1 : Nat)]) rfl Tb.sl_25 Tb.zi_3 (by decide) (fill_i _) (by decide) rfl (by decide) (fun bE hbE => ?_)
        refine TL.appendI (x0 := (u.2, lst (ndS s t rs) u.1)) rfl rfl (by repeat (first | exact List.Mem.head _ | refine List.Mem.tail _ ?_ | refine List.mem_append_right _ ?_)) hu9.2 (by repeat (first | exact TakeH.here _ _ _ _ | apply TakeH.tail | apply TakeH.app)) (by have := lst_len (ndS s t rs) u.1; show (lst (ndS s t rs) u.1).length ≤ 1000000; omega) rfl (by decide) (fun hh hho => ?_)
        let nu : Nat × HD := (u.1 + 1, hh)
        have hnu : nu.1 ≤ rs.length ∧ goI (nu.2, lst (ndS s t rs) nu.1) := ⟨by simp only [nu]; omega, by simp only [nu]; rw [hob]; exact hho⟩
        refine TL.pure (PV.assign rfl) rfl (by decide) ?_
        refine TL.nil ?_
        refine TQ.blkN ?_
        refine TQ.thenC ?_
        refine TC.region ?_
        refine TL.pure (PV.add rfl rfl (by omega)) rfl (by decide) ?_
        refine TL.pure (PV.move rfl) rfl (by decide) ?_
        refine TL.nil ?_
        refine TQ.thenN ?_
        refine TQ.backK nu (by first | exact And.intro rfl (And.intro rfl True.intro) | (refine And.intro rfl (And.intro ?_ True.intro); show some (gval _ _) = some (gval _ _); rw [hob])) (by repeat (first | exact True.intro | refine And.intro rfl ?_)) (by first | (rw [hob]; first | exact List.Sublist.append_left (by repeat (first | exact List.Sublist.slnil | exact List.nil_sublist _ | exact List.Sublist.refl _ | refine List.Sublist.cons_cons _ ?_ | refine List.Sublist.cons _ ?_ | refine List.Sublist.trans ?_ (List.sublist_append_right _ _))) _ | exact (by repeat (first | exact List.Sublist.slnil | exact List.nil_sublist _ | exact List.Sublist.refl _ | refine List.Sublist.cons_cons _ ?_ | refine List.Sublist.cons _ ?_ | refine List.Sublist.trans ?_ (List.sublist_append_right _ _)))) | (simp only [nu, hob]; first | exact List.Sublist.refl _ | exact List.Sublist.append_left (by repeat (first | exact List.Sublist.slnil | exact List.nil_sublist _ | exact List.Sublist.refl _ | refine List.Sublist.cons_cons _ ?_ | refine List.Sublist.cons _ ?_ | refine List.Sublist.trans ?_ (List.sublist_append_right _ _))) _ | exact (by repeat (first | exact List.Sublist.slnil | exact List.nil_sublist _ | exact List.Sublist.refl _ | refine List.Sublist.cons_cons _ ?_ | refine List.Sublist.cons _ ?_ | refine List.Sublist.trans ?_ (List.sublist_append_right _ _))))) hnu (by simp only [nu]; omega)
      · skip
        have hfu : ndS s t rs u.1 = false := decide_eq_false (by rw [Int.sub_self] at hc; exact hc)
        have hob : lst (ndS s t rs) (u.1 + 1) = lst (ndS s t rs) u.1 := lst_no hfu
        let nu : Nat × HD := (u.1 + 1, u.2)
        have hnu : nu.1 ≤ rs.length ∧ goI (nu.2, lst (ndS s t rs) nu.1) := ⟨by simp only [nu]; omega, by simp only [nu]; rw [hob]; exact hu9.2⟩
        refine TC.skip ?_
        refine TQ.blkN ?_
        refine TQ.thenC ?_
        refine TC.region ?_
        refine TL.pure (PV.add rfl rfl (by omega)) rfl (by decide) ?_
        refine TL.pure (PV.move rfl) rfl (by decide) ?_
        refine TL.nil ?_
        refine TQ.thenN ?_
        refine TQ.backK nu (by first | exact And.intro rfl (And.intro rfl True.intro) | (refine And.intro rfl (And.intro ?_ True.intro); show some (gval _ _) = some (gval _ _); rw [hob])) (by repeat (first | exact True.intro | refine And.intro rfl ?_)) (by first | (rw [hob]; first | exact List.Sublist.append_left (by repeat (first | exact List.Sublist.slnil | exact List.nil_sublist _ | exact List.Sublist.refl _ | refine List.Sublist.cons_cons _ ?_ | refine List.Sublist.cons _ ?_ | refine List.Sublist.trans ?_ (List.sublist_append_right _ _))) _ | exact (by repeat (first | exact List.Sublist.slnil | exact List.nil_sublist _ | exact List.Sublist.refl _ | refine List.Sublist.cons_cons _ ?_ | refine List.Sublist.cons _ ?_ | refine List.Sublist.trans ?_ (List.sublist_append_right _ _)))) | (simp only [nu, hob]; first | exact List.Sublist.refl _ | exact List.Sublist.append_left (by repeat (first | exact List.Sublist.slnil | exact List.nil_sublist _ | exact List.Sublist.refl _ | refine List.Sublist.cons_cons _ ?_ | refine List.Sublist.cons _ ?_ | refine List.Sublist.trans ?_ (List.sublist_append_right _ _))) _ | exact (by repeat (first | exact List.Sublist.slnil | exact List.nil_sublist _ | exact List.Sublist.refl _ | refine List.Sublist.cons_cons _ ?_ | refine List.Sublist.cons _ ?_ | refine List.Sublist.trans ?_ (List.sublist_append_right _ _))))) hnu (by simp only [nu]; omega)
    · skip
      refine TC.exit ?_
      refine TQ.thenE ?_
      refine TQ.thenE ?_
      refine TQ.blkS ?_
      refine TQ.thenC ?_
      refine TC.seq ?_
      have hun : u.1 = rs.length := by omega
      refine TC.region ?_
      refine TL.pure (PV.move rfl) rfl (by decide) ?_
      refine TL.pure (PV.assign rfl) rfl (by decide) ?_
      refine TL.pure (PV.assign rfl) rfl (by decide) ?_
      refine TL.nil ?_
      refine TQ.thenC ?_
      refine TC.ret ?_
      refine TQ.retE2 rfl rfl rfl ?_
      exact ⟨u.2, by rw [hun], by rw [← hun]; exact hu9.2, by rw [← hun]; exact List.sublist_append_left _ _⟩

end Go.Proofs.Ytnlbngbbddhgeaa
