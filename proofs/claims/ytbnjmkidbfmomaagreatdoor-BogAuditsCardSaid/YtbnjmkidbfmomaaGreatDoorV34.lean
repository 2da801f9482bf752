/- Yk Dg Ym Yn -/
import Derived.Test.YtbnjmkidbfmomaaGreatDoorV05
import Derived.Test.YtbnjmkidbfmomaaGreatDoorV06
import Derived.Test.YtbnjmkidbfmomaaGreatDoorV20
import Derived.Test.YtbnjmkidbfmomaaGreatDoorV33
import Derived.Laws.StructEq
set_option linter.unusedVariables false
set_option linter.unusedSimpArgs false
set_option maxRecDepth 100000
namespace Go.Proofs.YtbnjmkidbfmomaaGreatDoor
open Go.Sx Go.RowKit Go.Bt Go.Lib Go.Sand
section
variable {w0 w : World} {R : Heap} {s : St} {f : FV} {t : List UInt8} {os : List (List UInt8)}
theorem rp_l (he : s.newI = 0) (hr : readL t = (os, [])) (ha : ∀ j, j < os.length → doI s (stC s os j) (os.getD j []) = 0) : rpE s t = 0 := by
  refine (rp_4 (s := s) (t := t) (fun h => h he) (by rw [hr]; exact fun h => h rfl) ?_).2
  rw [hr]; exact ha
theorem Replay_l (hN : New w0 w R) (hW : WAt w0) (hf : ∀ w9, New w0 w9 R → FmAt w9 s f) (hlg : s.large = false) (ht : t.length ≤ 1000000) (he : s.newI = 0) (hr : readL t = (os, [])) (ha : ∀ j, j < os.length → doI s (stC s os j) (os.getD j []) = 0) {k : Nat} (hk : os.length = k) {c : Co} (hc : stC s os k = c) :
    Calls Tryz.prog 40 (fmA s f ++ [str t]).toArray w (Post (X := Nat × CP) (fun y => .tuple #[pt y.1, .int .i64 (k : Nat), .int .i64 0]) (fun y => CPk w0 s c y.2) (fun y => hp0 s c y.1 y.2 ++ R) w0) := by
  have h := Replay_some hN hW hf hlg ht (rp_l he hr ha)
  rw [hr] at h
  simp only at h
  rw [hk, hc] at h
  exact h
end
end Go.Proofs.YtbnjmkidbfmomaaGreatDoor
namespace Go.Sx
open Go.RowKit
section
variable {P : Program} {n : Nat} {w0 : World} {E E0 : Env} {G GJ : Heap} {a : Act} {w : World} {Q : Exit → Act → World → Prop} {l : List Oper} {st : List Bool}
end
section
variable {P : Program} {ds : List Deferred} {n : Nat} {w0 : World} {E : Env} {G : Heap} {ops : Array Oper} {Q : Exit → Act → World → Prop} {c : Code} {K : Act → World → Prop}
variable {ty : TypeId} {pos : String} {aft : Array Edge} {g : Option (Nat × Bool)}
theorem oper_wp {o : Oper} {a : Act} {w : World} {K K' : Act → World → Prop} {Q : Exit → Act → World → Prop} (hK : ∀ a w, K a w → K' (dfs a ds) w) (h : o.wp P a w K (QD ds Q)) : o.wp P (dfs a ds) w K' Q := by
  unfold Oper.wp at h ⊢
  rw [show (dfs a ds).eval = a.eval from rfl]
  generalize (execOp a.eval o).run P w = res at *
  cases res with
  | ok x w' =>
    cases x
    case value v => show K' ((dfs a ds).put o.dst v) w'; rw [dfs_put]; exact hK _ _ h
    case skip => show K' ((dfs a ds).put o.dst undef) w'; rw [dfs_put]; exact hK _ _ h
    case defer d =>
      show K' ({ dfs a ds with defers := d :: (dfs a ds).defers }.put o.dst undef) w'
      rw [show ({ dfs a ds with defers := d :: (dfs a ds).defers } : Act) = dfs { a with defers := d :: a.defers } ds from rfl, dfs_put]
      exact hK _ _ h
    case enter f ys =>
      refine Calls.mono h ?_
      rintro e w'' he
      cases e with
      | returned v => show K' ((dfs a ds).put o.dst v) w''; rw [dfs_put]; exact hK _ _ he
      | panicked c => exact he
      | outgrown => obtain ⟨a', w3, h3⟩ := he; exact ⟨_, _, h3⟩
    case row f ys =>
      refine Rows.mono h ?_
      intro v w'' he
      rw [dfs_put]; exact hK _ _ he
    all_goals exact h.elim
  | halt x w' => cases x <;> first | exact h | exact h.elim
theorem any_dfs {md : Region.Mode} {ops : Array Oper} {Q : Exit → Act → World → Prop} (hlo : ¬ LetsOut Q) : ∀ (fuel : Nat) (listed : Array Bool) (a : Act) (w : World), wpAny P md ops (QD ds Q) fuel listed a w → wpAny P md ops Q fuel listed (dfs a ds) w
  | 0, _, _, _, h => h
  | fuel + 1, listed, a, w, h => by
    refine ⟨h.1, fun i hi => ?_⟩
    have h2 := h.2 i hi
    unfold wpOp at h2 ⊢
    cases ho : ops[i]? with
    | none => simp only [ho] at h2 ⊢; exact any_dfs hlo fuel _ a w h2
    | some o =>
      simp only [ho] at h2 ⊢
      have hw : Region.wanted o (yielded ops (dfs a ds).tmps) = Region.wanted o (yielded ops a.tmps) := rfl
      rw [hw]
      split
      · rename_i hwt
        rw [if_pos hwt] at h2
        rcases h2 with h2 | ⟨_, a', w', h3⟩
        · exact .inl (oper_wp (fun a w hq => any_dfs hlo fuel _ a w hq) h2)
        · exact absurd ⟨_, _, h3⟩ hlo
      · rename_i hwt
        rw [if_neg hwt] at h2
        rw [dfs_put]
        exact any_dfs hlo fuel _ _ w h2
theorem TG.mixV {id : Nat} {l : List Oper} (st : List Bool) (GJ : Heap) (fuel : Nat) (hlo : ¬ LetsOut Q) (hm : P.follows .mixedOrders = true) (hst : st.length = l.length) (hnd : nodupB (dstsL l) = true) (hed : edgesB l 0 l = true) (hmx : mixB l st = true)
    (hds : (List.range l.length).all (fun i => match l[i]? with | some o => (match o.dst with | some d => decide (d < n) | none => true) | none => true) = true)
    (hGJ : List.Sublist GJ G) (h : TV P n w0 l st GJ (hide (dstsL l) E) (QD ds Q) fuel (List.replicate l.length false) E G) : TG none ds P n w0 (.region id l.toArray true) Q E G :=
  fun a w hs => (wpIn_wide (n := 9)).2 (wp_region_any hm (any_dfs hlo _ _ _ _ (mixV_any st GJ fuel hm hst hnd hed hmx hds hGJ h a w hs)))
end
end Go.Sx
namespace Go.Proofs.YtbnjmkidbfmomaaGreatDoor
open Go.Sx Go.RowKit Go.Bt Go.Lib Go.Sand
theorem lg_sv {s : St} (hv : SV s) : s.large = false := by
  have h1 := hv.vb
  have h2 := hv.hb
  have h5 := hv.n5
  have h4 := hv.d4
  show largeB s.W s.K s.g = false
  unfold largeB
  have hw : s.W.any (fun l => decide (50 < l.length)) = false := by
    rw [List.any_eq_false]
    intro l hl
    obtain ⟨j, hj, rfl⟩ := List.getElem_of_mem hl
    have := h1.c j hj
    have e : s.W.getD j [] = s.W[j] := by simp [List.getD, hj]
    rw [e] at this
    rw [decide_eq_true_eq]; omega
  have hk : s.K.any (fun l => decide (50 < l.length)) = false := by
    rw [List.any_eq_false]
    intro l hl
    obtain ⟨j, hj, rfl⟩ := List.getElem_of_mem hl
    have := kl_of (K := s.K) (g := s.g) (by rw [hv.vh]; decide) j
    have e : s.K.getD j [] = s.K[j] := by simp [List.getD, hj]
    rw [e] at this
    rw [decide_eq_true_eq]; omega
  have hkl := h2.len
  have hgl := hv.len
  rw [hw, hk]
  simp only [Bool.false_or, Bool.or_eq_false_iff, decide_eq_false_iff_not]
  omega
theorem eqF_self {P : Program} (w : World) (d : Nat) (xs : Array Value) : ∀ fs : List Field, (∀ f ∈ fs, ∃ v, (part f.type xs f.offset).run P w = .ok v w ∧ (Op.equalIn d f.type v v).run P w = .ok true w) → (Op.eqFields d xs xs fs).run P w = .ok true w
  | [], _ => by simp [Op.eqFields]
  | f :: fs, h => by
    have ih := eqF_self w d xs fs fun g hg => h g (List.mem_cons_of_mem _ hg)
    obtain ⟨v, h1, h2⟩ := h f List.mem_cons_self
    by_cases hn : f.name = "_"
    · simp [Op.eqFields, hn, ih]
    · simp [Op.eqFields, hn, Sem.run_bind, h1, h2, ih]
theorem eq99_fs : ((Tryz.prog.fieldsOf 99).toList.map fun f => (f.type, f.offset)) = [(3, 0), (3, 1), (3, 2), (3, 3), (3, 4), (3, 5), (4, 6)] := by kernel_rfl
theorem eq99 (a b c d e f : Int) (g : Bool) (w : World) : (binOp .eql 99 (.agg #[.int .i64 a, .int .i64 b, .int .i64 c, .int .i64 d, .int .i64 e, .int .i64 f, .bool g]) (.agg #[.int .i64 a, .int .i64 b, .int .i64 c, .int .i64 d, .int .i64 e, .int .i64 f, .bool g])).run Tryz.prog w = .ok (.bool true) w := by
  have ha : (isAgg 3).run Tryz.prog w = .ok false w := by simp [isAgg, run_underlying (show Tryz.prog.underlying 3 = some (.int .i64) by kernel_rfl)]
  have hb : (isAgg 4).run Tryz.prog w = .ok false w := by simp [isAgg, run_underlying (show Tryz.prog.underlying 4 = some .bool by kernel_rfl)]
  have hi : ∀ x : Int, (Op.equalIn 9999 3 (.int .i64 x) (.int .i64 x)).run Tryz.prog w = .ok true w := fun x => by rw [show (9999 : Nat) = 9998 + 1 from rfl, run_equalIn_int w _ _ _ _ _ _ (show Tryz.prog.underlying 3 = some (.int .i64) by kernel_rfl)]; simp
  have hc : ∀ x : Bool, (Op.equalIn 9999 4 (.bool x) (.bool x)).run Tryz.prog w = .ok true w := fun x => by rw [show (9999 : Nat) = 9998 + 1 from rfl, run_equalIn_bool w _ _ _ _ (show Tryz.prog.underlying 4 = some .bool by kernel_rfl)]; simp
  rw [run_eql_struct, show (10000 : Nat) = 9999 + 1 from rfl, run_equalIn_agg w _ _ _ _ (by kernel_rfl) (by kernel_rfl), eqF_self w 9999 _ _ fun f9 hf => ?_]
  · rfl
  · have h1 : (f9.type, f9.offset) ∈ ((Tryz.prog.fieldsOf 99).toList.map fun f => (f.type, f.offset)) := List.mem_map.2 ⟨f9, hf, rfl⟩
    rw [eq99_fs] at h1
    simp only [List.mem_cons, List.not_mem_nil, or_false, Prod.mk.injEq] at h1
    rcases h1 with ⟨e1, e2⟩ | ⟨e1, e2⟩ | ⟨e1, e2⟩ | ⟨e1, e2⟩ | ⟨e1, e2⟩ | ⟨e1, e2⟩ | ⟨e1, e2⟩ <;> rw [e1, e2]
    · exact ⟨.int .i64 a, by simp [part, ha], hi _⟩
    · exact ⟨.int .i64 b, by simp [part, ha], hi _⟩
    · exact ⟨.int .i64 c, by simp [part, ha], hi _⟩
    · exact ⟨.int .i64 d, by simp [part, ha], hi _⟩
    · exact ⟨.int .i64 e, by simp [part, ha], hi _⟩
    · exact ⟨.int .i64 f, by simp [part, ha], hi _⟩
    · exact ⟨.bool g, by simp [part, hb], hc _⟩
theorem PV.eql99 {n : Nat} {w0 : World} {E : Env} {G : Heap} {d : Option Nat} {ty : TypeId} {pos : String} {aft : Array Edge} {g : Option (Nat × Bool)} {x y : Operand} {t' : TypeId} {a b c d1 e f : Int} {g1 : Bool} (hx : evo E x = some (.agg #[.int .i64 a, .int .i64 b, .int .i64 c, .int .i64 d1, .int .i64 e, .int .i64 f, .bool g1])) (hy : evo E y = some (.agg #[.int .i64 a, .int .i64 b, .int .i64 c, .int .i64 d1, .int .i64 e, .int .i64 f, .bool g1])) : PV Tryz.prog n w0 E G ⟨d, .binOp .eql 99 x y t', ty, pos, aft, g⟩ (.bool true) :=
  PV.cmp hx hy (fun w => run_eqGuard_agg (w := w) .eql 99 x y _ _ (by kernel_rfl)) fun w => eq99 _ _ _ _ _ _ _ w
theorem calm_v (w : World) {s : St} {c : Co} (hv : SV s) (hi : Inv s c) (q : Option Addr) (cq : Nat) (hk : LsAt w q s.K) (r : Option Addr) (cr : Nat) (hg : IntsAt w r s.g) (pl : Option Addr) (cl : Nat) (hx : IntsAt w pl c.tur) :
    Calls Tryz.prog 109 #[.agg #[.slice q s.K.length cq, .slice r s.g.length cr], .slice pl c.tur.length cl] w (Post (X := Unit) (fun _ => .tuple #[.bool true, .int .i64 0]) (fun _ => True) (fun _ => []) w) := by
  have h := H.IsCalm_ok w q cq s.K hk r cr s.g hg hv.kl pl cl c.tur hx (by have := hi.tl' hv; have := hv.n5; omega)
  rw [(ic_v hv hi).1, (ic_v hv hi).2] at h
  exact h
theorem wet_dif {s : St} {c : Co} (hi : Inv s c) : Mo.dif c.wet (bare s c.hol) = 0 := Nat.eq_of_testBit_eq fun i => by
  rw [Mo.dif_t, Nat.zero_testBit]
  cases h : c.wet.testBit i with
  | false => rfl
  | true => rw [hi.wb i h]; rfl
theorem hp0_Z {s : St} {c : Co} {b : Nat} {p : CP} {R : Heap} : List.Sublist p.Z (hp0 s c b p ++ R) := by
  rw [hp0_r]
  exact List.Sublist.cons _ Z_sub
theorem SiteAt.fm {w : World} {s : St} {u : SU} (h : SiteAt w s u) : FmAt w s ⟨u.pw, u.cw, u.pk, u.ck, u.pg, u.cg⟩ := ⟨h.ls, h.ak, h.ag, h.caps⟩
theorem look_p {w0 w : World} {s : St} {c : Co} {b : Nat} {p : CP} {R : Heap} (hv : SV s) (hN : New w0 w (hp0 s c b p ++ R)) : Calls Tryz.prog 66 #[pt b] w (Post (X := Unit) (fun _ => .agg (tyL c p.v).toArray) (fun _ => True) (fun _ => hp0 s c b p ++ R) w0) := by
  rw [hp0_r] at hN ⊢; exact look_ok w0 w s hv p.u c p.v b p.ho _ hN
theorem equalS_ok (w0 : World) (p1 : Option Addr) (c1 : Nat) (xs : List Int) (hx : IntsAt w0 p1 xs) (p2 : Option Addr) (c2 : Nat) (hy : IntsAt w0 p2 xs) (hl : xs.length ≤ 1000000) :
    Calls Tryz.prog 108 #[.slice p1 xs.length c1, .slice p2 xs.length c2] w0 (Post (X := Unit) (fun _ => .bool true) (fun _ => True) (fun _ => []) w0) := by
  refine calls Tryz.func108 rfl (n := 26) rfl (by simp) ?_
  refine zr (za rfl (zn (TC.seq (zr (zm rfl (zq (PV.len rfl Tb.sl_25) rfl (zm rfl (zq (PV.len rfl Tb.sl_25) rfl (zq (PV.no (PV.neq rfl rfl) (fun h9 => h9 rfl)) rfl ?_)))))))))
  refine zn (TC.condF rfl (TC.skip (TQ.thenC (TC.seq (zr (zm rfl (zq (PV.len rfl Tb.sl_25) rfl (zm rfl (zn (TC.block (TC.loopK [0, 1, 12] (X := Nat) (fun k => k ≤ xs.length) (fun k => [(13, .int .i64 (k : Nat))]) (fun k => []) (fun k => xs.length - k) 0 (Nat.zero_le _) l9z (List.Sublist.refl _) ?_)))))))))))
  intro k hk9
  refine zr (zq (PV.lss rfl rfl) rfl (zn (TC.seq (TC.cd rfl (fun hlt => ?_) (fun hlt => ?_)))))
  refine TC.skip (TQ.thenC (TC.seq (TC.block (zr (zm rfl (za rfl (zn (TC.seq ?_))))))))
  obtain ⟨q, qp, qv⟩ := hx k (by omega)
  obtain ⟨r, rp, rv⟩ := hy k (by omega)
  refine TC.any Tb.mixed rfl rfl ?_
  refine TA.op (OpOK.pure (PV.move rfl) rfl dc) dc ?_
  refine TA.op (OpOK.pure (PV.move rfl) rfl dc) dc ?_
  refine TA.op (OpOK.pure (PV.indexA rfl qp rfl Tb.elm_25 rfl om) rfl dc) dc ?_
  refine TA.op (OpOK.pure (PV.loadOld rfl Tb.one_3 qv) rfl dc) dc ?_
  refine TA.op (OpOK.pure (PV.move rfl) rfl dc) dc ?_
  refine TA.op (OpOK.pure (PV.move rfl) rfl dc) dc ?_
  refine TA.op (OpOK.pure (PV.indexA rfl rp rfl Tb.elm_25 rfl om) rfl dc) dc ?_
  refine TA.op (OpOK.pure (PV.loadOld rfl Tb.one_3 rv) rfl dc) dc ?_
  refine TA.op (OpOK.pure (PV.no (PV.neq rfl rfl) (fun h9 => h9 rfl)) rfl dc) dc ?_
  show TQ _ _ _ _ _
  refine TQ.thenC (TC.condF rfl (TC.skip (TQ.blkN (TQ.thenC (TC.region (zq (PV.add rfl rfl om) rfl (zm rfl (TL.nil (TQ.thenN (TQ.backK (k + 1) l9z l9z (List.Sublist.refl _) om om))))))))))
  refine TC.exit (TQ.thenE (TQ.thenE (TQ.blkS (TQ.thenC (zr (za rfl (zt (TQ.retE1 rfl rfl ?_))))))))
  exact ⟨(), rfl, trivial, nils⟩
theorem Equals_ok (w0 : World) (c : Co) (v1 v2 : TV) (h1 : TurAt w0 c v1) (h2 : TurAt w0 c v2) (hl : c.hol.length ≤ 1000000) (hl2 : c.tur.length ≤ 1000000) :
    Calls Tryz.prog 69 #[.agg (tyL c v1).toArray, .agg (tyL c v2).toArray] w0 (Post (X := Unit) (fun _ => .bool true) (fun _ => True) (fun _ => []) w0) := by
  refine calls Tryz.func69 rfl (n := 24) rfl (by simp) ?_
  refine zr (TL.box rfl rfl dc (fun b0 hb0 => ?_))
  refine TL.box rfl rfl dc (fun b1 hb1 => ?_)
  refine za rfl (zk (zq (PV.fieldAddr rfl Tb.fo_101_0) rfl (zq (PV.loadMid (cs := tyL c v1) (off := 0) (k := 7) (vs := bkL c) rfl Tb.agg_99 m9z rfl rfl) rfl ?_)))
  refine zq (PV.fieldAddr rfl Tb.fo_101_0) rfl (zq (PV.loadMid (cs := tyL c v2) (off := 0) (k := 7) (vs := bkL c) rfl Tb.agg_99 m9z rfl rfl) rfl ?_)
  refine zq (PV.eql99 rfl rfl) rfl (zm rfl (zq (PV.fieldAddr rfl Tb.fo_101_1) rfl (zq (PV.load rfl Tb.one_25 m9z rfl) rfl ?_)))
  refine zq (PV.fieldAddr rfl Tb.fo_101_1) rfl (zq (PV.load rfl Tb.one_25 m9z rfl) rfl ?_)
  refine TL.call rfl Tb.gofn_108 (fun a w hs => equalS_ok w _ _ c.hol (h1.ah.new hs.new) _ _ (h2.ah.new hs.new) hl) rfl dc (fun _ _ => ?_)
  refine zq (PV.pickT rfl rfl) rfl (zm rfl (zq (PV.fieldAddr rfl Tb.fo_101_2) rfl (zq (PV.load rfl Tb.one_25 m9z rfl) rfl ?_)))
  refine zq (PV.fieldAddr rfl Tb.fo_101_2) rfl (zq (PV.load rfl Tb.one_25 m9z rfl) rfl ?_)
  refine TL.call rfl Tb.gofn_108 (fun a w hs => equalS_ok w _ _ c.tur (h1.at_.new hs.new) _ _ (h2.at_.new hs.new) hl2) rfl dc (fun _ _ => ?_)
  refine zq (PV.pickT rfl rfl) rfl (za rfl (zt (TQ.retE1 rfl rfl ?_)))
  exact ⟨(), rfl, trivial, nils⟩
set_option maxHeartbeats 2000000 in
theorem Agrees_ok (w0 : World) (s : St) (hv : SV s) (u : SU) (c : Co) (hi : Inv s c) (v : TV) (hS : SiteAt w0 s u) (hT : TurAt w0 c v) :
    Calls Tryz.prog 70 #[.agg (tyL c v).toArray, .agg #[.slice u.pw s.W.length u.cw], .agg #[.slice u.pk s.K.length u.ck, .slice u.pg s.g.length u.cg]] w0 (Post (X := Unit) (fun _ => .bool true) (fun _ => True) (fun _ => []) w0) := by
  have hbn := hi.bnd hv
  have h5 := hv.n5
  have h4 := hv.d4
  have hhl := hi.hl
  have htl := hi.tl' hv
  have hbm := hbn.bm
  have hbl := hbn.bl
  have hbg := hbn.bg
  have hbc := hbn.bc
  have hbt := hbn.bt
  have hbh := hbn.bh
  have hwl := hi.wl
  have h63 := wet63 hv hwl
  have hct := hi.ct
  have hba := hi.bal
  have hmo := hi.mon
  have hNB := hi.ho.toNB
  refine calls Tryz.func70 rfl (n := 73) rfl (by simp) ?_
  refine zr (TL.box rfl rfl dc (fun b0 hb0 => ?_))
  refine TL.box rfl rfl dc (fun b1 hb1 => ?_)
  refine TL.box rfl rfl dc (fun b2 hb2 => ?_)
  refine za rfl (zk (zq (PV.loadBox (cs := [.slice u.pw s.W.length u.cw]) rfl Tb.agg_24 m9z rfl) rfl ?_))
  refine zq (PV.fieldAddr rfl Tb.fo_101_1) rfl (zq (PV.load (v := .slice v.ph c.hol.length v.ch) rfl Tb.one_25 m9z rfl) rfl ?_)
  refine TL.call rfl Tb.gofn_77 (fun a w hs => worth_v w hv hi _ _ (hS.ls.new hs.new) (caps_new hS.ls hS.caps hs.new) _ _ (hT.ah.new hs.new)) rfl dc (fun _ _ => ?_)
  refine zm rfl (zq (PV.extract rfl rfl) rfl (zq (PV.extract rfl rfl) rfl (za rfl (za rfl (zn (TC.seq (zr (zm rfl (zq (PV.no (PV.neq rfl rfl) (fun h9 => h9 rfl)) rfl ?_)))))))))
  refine zn (TC.condF rfl (TC.skip (TQ.thenC (zr (zq (PV.loadBox (cs := [.slice u.pk s.K.length u.ck, .slice u.pg s.g.length u.cg]) rfl Tb.agg_27 m9z rfl) rfl ?_)))))
  refine zq (PV.fieldAddr rfl Tb.fo_101_2) rfl (zq (PV.load (v := .slice v.pt c.tur.length v.ct) rfl Tb.one_25 m9z rfl) rfl ?_)
  refine TL.call rfl Tb.gofn_109 (fun a w hs => calm_v w hv hi _ _ (hS.ak.new hs.new) _ _ (hS.ag.new hs.new) _ _ (hT.at_.new hs.new)) rfl dc (fun _ _ => ?_)
  refine zm rfl (zq (PV.extract rfl rfl) rfl (zq (PV.extract rfl rfl) rfl (za rfl (za rfl (zn (TC.seq (TC.mixV [true, true, true, true, true, true, false, true, true, true, true, true, true, true, true, true, false, true, true, true, true, true, true, true, true, true, true, true, true, true, true, false, true, true, true, true, true, true, true, true, true, true, true, true, true, true, true] [(b0, Obj.cells (tyL c v).toArray 101 (0, 0))] 47 Tb.mixed rfl kr kr kr kr s9z ?_)))))))
  refine zv 0 rfl kr (PV.move rfl) rfl (zv 1 rfl kr (PV.move rfl) rfl (zv 2 rfl kr (PV.fieldAddr rfl Tb.fo_101_0) rfl (zv 3 rfl kr (PV.fieldAddr rfl Tb.fo_99_1) rfl (zv 4 rfl kr (PV.load (v := .int .i64 (c.wet : Nat)) rfl Tb.one_3 m9z rfl) rfl ?_))))
  refine zv 5 rfl kr (PV.loadBox (cs := tyL c v) rfl Tb.agg_101 m9z rfl) rfl ?_
  refine TV.step [6] kr dc rfl ⟨⟨_, rfl, ?_⟩, trivial⟩
  refine TL.call rfl Tb.gofn_110 (fun a w hs => bare_ok w s hv c v hNB (hT.ah.new hs.new)) rfl dc (fun _ _ => ?_)
  refine TL.nil (TV.next (.inl s9z) ?_)
  refine zv 7 rfl kr (M.PV.andNotK rfl rfl (M.i64_andNot_nat h63 (wet63 hv (bare_lt s c.hol)))) rfl (zv 8 rfl kr (PV.yes (PV.eql rfl rfl) (by rw [wet_dif hi]; rfl)) rfl ?_)
  refine zv 9 rfl kr (PV.pickT rfl rfl) rfl (zv 10 rfl kr (PV.move rfl) rfl (zv 11 rfl kr (PV.fieldAddr rfl Tb.fo_101_0) rfl (zv 12 rfl kr (PV.fieldAddr rfl Tb.fo_99_3) rfl (zv 13 rfl kr (PV.load (v := .int .i64 c.cut) rfl Tb.one_3 m9z rfl) rfl ?_))))
  refine zv 14 rfl kr (PV.fieldAddr rfl Tb.fo_101_1) rfl (zv 15 rfl kr (PV.load (v := .slice v.ph c.hol.length v.ch) rfl Tb.one_25 m9z rfl) rfl ?_)
  refine TV.step [16] kr dc rfl ⟨⟨_, rfl, ?_⟩, trivial⟩
  refine TL.call rfl Tb.gofn_111 (fun a w hs => sum_ok w _ _ c.hol (hT.ah.new hs.new) om (fun j => by have := hNB.at_ j; omega)) rfl dc (fun _ _ => ?_)
  refine TL.nil (TV.next (.inl s9z) ?_)
  refine zv 17 rfl kr (PV.yes (PV.eql rfl rfl) om) rfl (zv 18 rfl kr (PV.pickT rfl rfl) rfl (zv 19 rfl kr (PV.move rfl) rfl (zv 20 rfl kr (PV.fieldAddr rfl Tb.fo_101_0) rfl (zv 21 rfl kr (PV.fieldAddr rfl Tb.fo_99_3) rfl (zv 22 rfl kr (PV.load (v := .int .i64 c.cut) rfl Tb.one_3 m9z rfl) rfl ?_)))))
  refine zv 23 rfl kr (PV.fieldAddr rfl Tb.fo_101_0) rfl (zv 24 rfl kr (PV.fieldAddr rfl Tb.fo_99_4) rfl (zv 25 rfl kr (PV.load (v := .int .i64 c.load) rfl Tb.one_3 m9z rfl) rfl ?_))
  refine zv 26 rfl kr (PV.fieldAddr rfl Tb.fo_101_0) rfl (zv 27 rfl kr (PV.fieldAddr rfl Tb.fo_99_5) rfl (zv 28 rfl kr (PV.load (v := .int .i64 c.grd) rfl Tb.one_3 m9z rfl) rfl ?_))
  refine zv 29 rfl kr (PV.add (i := c.load) (j := c.grd) rfl rfl om) rfl (zv 30 rfl kr (PV.loadBox (cs := tyL c v) rfl Tb.agg_101 m9z rfl) rfl ?_)
  refine TV.step [31] kr dc rfl ⟨⟨_, rfl, ?_⟩, trivial⟩
  refine TL.call rfl Tb.gofn_112 (fun a w hs => onHeaps_ok w c v (hT.at_.new hs.new) om (fun j => by have := hi.tb hv j; omega)) rfl dc (fun _ _ => ?_)
  refine TL.nil (TV.next (.inl s9z) ?_)
  refine zv 32 rfl kr (PV.add (i := c.load + c.grd) (j := sL c.tur) rfl rfl om) rfl (zv 33 rfl kr (PV.yes (PV.eql rfl rfl) om) rfl (zv 34 rfl kr (PV.pickT rfl rfl) rfl (zv 35 rfl kr (PV.move rfl) rfl (zv 36 rfl kr (PV.fieldAddr rfl Tb.fo_101_0) rfl (zv 37 rfl kr (PV.fieldAddr rfl Tb.fo_99_2) rfl (zv 38 rfl kr (PV.load (v := .int .i64 c.money) rfl Tb.one_3 m9z rfl) rfl ?_))))))
  refine zv 39 rfl kr (PV.move rfl) rfl (zv 40 rfl kr (PV.fieldAddr rfl Tb.fo_101_0) rfl (zv 41 rfl kr (PV.fieldAddr rfl Tb.fo_99_4) rfl (zv 42 rfl kr (PV.load (v := .int .i64 c.load) rfl Tb.one_3 m9z rfl) rfl ?_)))
  refine zv 43 rfl kr (PV.add (i := C.worH s.W c.hol) (j := c.load) rfl rfl om) rfl (zv 44 rfl kr (PV.yes (PV.eql rfl rfl) om) rfl (zv 45 rfl kr (PV.pickT rfl rfl) rfl (zv 46 rfl kr (PV.assign rfl) rfl (TV.done kr ?_))))
  refine zc (TQ.retE1 rfl rfl ?_)
  exact ⟨(), rfl, trivial, nils⟩
set_option maxHeartbeats 2000000 in
theorem Audit_ok (w0 w : World) (hW : WAt w0) (s : St) (hv : SV s) (u : SU) (c : Co) (v : TV) (hi : Inv s c) (hrc : Rc s c) (b : Nat) (ho : HD) (hgo : goR stR ho c.ords) (Z : Heap) (hN : New w0 w (coB b s u 0 c v ho :: (gbR stR 9 ho c.ords ++ Z))) (Zf : Heap) (hZf : List.Sublist Zf Z) (hS : ∀ w9, New w0 w9 Zf → SiteAt w9 s u) (hT : ∀ w9, New w0 w9 Zf → TurAt w9 c v) :
    Calls Tryz.prog 29 #[pt b] w (Post (X := Unit) (fun _ => .bool true) (fun _ => True) (fun _ => (coB b s u 0 c v ho :: (gbR stR 9 ho c.ords ++ Z))) w0) := by
  have h5 := hv.n5
  have hhl := hi.hl
  have htl := hi.tl' hv
  refine callsDfM hN Tryz.func29 rfl (n := 69) rfl (by simp) ?_
  refine TG.seq (TG.region o9z kr ?_)
  refine za rfl (TL.nil (TQ.thenG (TG.seq (TG.seq (TG.region o9z kr ?_)))))
  refine zm rfl (TL.call rfl Tb.gofn_61 (fun a w hs => isNone_ok w b s.need (Inv.need hv) (hs.new.cell m9z rfl)) rfl dc (fun _ _ => ?_))
  refine TL.nil (TQ.thenG (TG.condF rfl ?_))
  refine TG.skip (TQ.thenG (TG.seq (TG.region o9z kr ?_)))
  refine zm rfl (zq (PV.nilCheck rfl) rfl (zq (PV.fieldAddr rfl Tb.fo_103_1) rfl (TL.callW (X := Unit) (fun _ => .tuple #[]) (fun _ => True) (fun _ => (coB b s u 1 c v ho :: (gbR stR 9 ho c.ords ++ Z))) rfl Tb.gofn_62 (fun a w hs => lock_co hs.new) rfl dc (fun _ _ => ?_))))
  refine TL.nil (TQ.thenG (TG.seq (TG.regionL ?_)))
  refine TGL.pre 3 o9z (by kernel_rfl) ?_
  simp only [List.take_succ_cons, List.take_zero, List.drop_succ_cons, List.drop_zero]
  refine zm rfl (zq (PV.nilCheck rfl) rfl (zq (PV.fieldAddr rfl Tb.fo_103_1) rfl (TL.nil (TQ.thenL ?_))))
  refine TGL.defer (fun a w hs => resolve_fn rfl hs rfl) ?_
  refine TGL.opsAll o9z (by kernel_rfl) (TL.nil ?_)
  refine TQ.thenG (TG.seq (TG.mixV [true, true, true, true, true, true, true, true, true, true, true, true, true, true, true, true, true, true, true, true, false, false, true, true, true, true, true, true, true] [coB b s u 1 c v ho] 29 o9z Tb.mixed rfl kr kr kr kr s9z ?_))
  refine zv 0 rfl kr (PV.move rfl) rfl (zv 1 rfl kr (PV.nilCheck rfl) rfl (zv 2 rfl kr (PV.fieldAddr rfl Tb.fo_103_0) rfl (zv 3 rfl kr (PV.fieldAddr rfl Tb.fo_90_0) rfl (zv 4 rfl kr (PV.loadMid (cs := coL s u 1 c v (gval ho c.ords.length)) (off := 0) (k := 1) (vs := [.slice u.pw s.W.length u.cw]) rfl Tb.agg_24 m9z rfl rfl) rfl ?_))))
  refine zv 5 rfl kr (PV.move rfl) rfl (zv 6 rfl kr (PV.nilCheck rfl) rfl (zv 7 rfl kr (PV.fieldAddr rfl Tb.fo_103_0) rfl (zv 8 rfl kr (PV.fieldAddr rfl Tb.fo_90_1) rfl (zv 9 rfl kr (PV.loadMid (cs := coL s u 1 c v (gval ho c.ords.length)) (off := 1) (k := 2) (vs := [.slice u.pk s.K.length u.ck, .slice u.pg s.g.length u.cg]) rfl Tb.agg_27 m9z rfl rfl) rfl ?_))))
  refine zv 10 rfl kr (PV.move rfl) rfl (zv 11 rfl kr (PV.nilCheck rfl) rfl (zv 12 rfl kr (PV.fieldAddr rfl Tb.fo_103_0) rfl (zv 13 rfl kr (PV.fieldAddr rfl Tb.fo_90_2) rfl (zv 14 rfl kr (PV.fieldAddr rfl Tb.fo_52_2) rfl (zv 15 rfl kr (PV.load (v := .int .i64 s.need) rfl Tb.one_3 m9z rfl) rfl ?_)))))
  refine zv 16 rfl kr (PV.move rfl) rfl (zv 17 rfl kr (PV.nilCheck rfl) rfl (zv 18 rfl kr (PV.fieldAddr rfl Tb.fo_103_3) rfl (zv 19 rfl kr (PV.load (v := .slice (gp ho) c.ords.length (gc ho)) rfl Tb.one_43 m9z (by show some (gval ho c.ords.length) = _; rw [ords_len hgo])) rfl ?_)))
  refine TV.step [20] kr dc rfl ⟨⟨_, rfl, ?_⟩, trivial⟩
  refine TL.call rfl Tb.gofn_68 (fun a w hs => bookOf_ok w (hW.new hs.new) (gp ho) (gc ho) c.ords (ords_at hs.new (fun y hy => .tail _ (List.mem_append_left _ hy)) hgo) (by have := hi.ol; omega) (fun j => by have := ords_40 hi j; omega)) rfl dc (fun _ _ => ?_)
  refine TL.nil (TV.next (.inl s9z) ?_)
  refine TV.step [21] kr dc rfl ⟨⟨_, rfl, ?_⟩, trivial⟩
  refine TL.callW (X := Nat × CP) (fun y => .tuple #[pt y.1, .int .i64 (c.ords.length : Nat), .int .i64 0]) (fun y => CPk w0 s c y.2) (fun y => hp0 s c y.1 y.2 ++ (coB b s u 1 c v ho :: (gbR stR 9 ho c.ords ++ Z))) rfl Tb.gofn_40 (fun a w hs => Replay_l (f := ⟨u.pw, u.cw, u.pk, u.ck, u.pg, u.cg⟩) hs.new hW (fun w9 hn => (hS w9 (hn.sub (hZf.trans ((List.sublist_append_right _ _).trans (List.sublist_cons_self _ _))))).fm) (lg_sv hv) hi.bl (sv_valid hv) hi.read hrc.ok rfl hrc.fin) rfl dc (fun y hy => ?_)
  refine TL.nil (TV.next (.inl s9z) ?_)
  refine zv 22 rfl kr (PV.move rfl) rfl (zv 23 rfl kr (PV.extract rfl rfl) rfl (zv 24 rfl kr (PV.extract rfl rfl) rfl (zv 25 rfl kr (PV.extract rfl rfl) rfl (zv 26 rfl kr (PV.assign rfl) rfl (zv 27 rfl kr (PV.assign rfl) rfl (zv 28 rfl kr (PV.assign rfl) rfl (TV.done kr ?_)))))))
  refine TQ.thenG (TG.seq (TG.mixV [true, true, true, true, false, true, true, true, true, false, true, true, true, true, true, true, true, true, true, true, true, true, true, true, true, true, false, true, true] [coB b s u 1 c v ho] 29 o9z Tb.mixed rfl kr kr kr kr s9z ?_))
  refine zv 0 rfl kr (PV.move rfl) rfl (zv 1 rfl kr (PV.yes (PV.eql rfl rfl) rfl) rfl (zv 2 rfl kr (PV.move rfl) rfl (zv 3 rfl kr (PV.move rfl) rfl (zv 5 rfl kr (PV.move rfl) rfl (zv 6 rfl kr (PV.nilCheck rfl) rfl (zv 7 rfl kr (PV.fieldAddr rfl Tb.fo_103_2) rfl (zv 8 rfl kr (PV.loadMid (cs := coL s u 1 c v (gval ho c.ords.length)) (off := 8) (k := 9) (vs := tyL c v) rfl Tb.agg_101 m9z rfl rfl) rfl ?_)))))))
  refine TV.step [4] kr dc rfl ⟨⟨_, rfl, ?_⟩, trivial⟩
  refine TL.callW (X := Unit) (fun _ => .agg (tyL c y.2.v).toArray) (fun _ => True) (fun _ => hp0 s c y.1 y.2 ++ (coB b s u 1 c v ho :: (gbR stR 9 ho c.ords ++ Z))) rfl Tb.gofn_66 (fun a w hs => look_p hv hs.new) rfl dc (fun _ _ => ?_)
  refine TL.nil (TV.next (.inl s9z) ?_)
  refine TV.step [9] kr dc rfl ⟨⟨_, rfl, ?_⟩, trivial⟩
  refine TL.call rfl Tb.gofn_69 (fun a w hs => Equals_ok w c y.2.v v (hy.tur w (hs.new.sub hp0_Z)) (hT w (hs.new.sub ((hZf.trans ((List.sublist_append_right _ _).trans (List.sublist_cons_self _ _))).trans (List.sublist_append_right _ _)))) om om) rfl dc (fun _ _ => ?_)
  refine TL.nil (TV.next (.inl s9z) ?_)
  refine zv 10 rfl kr (PV.pickT rfl rfl) rfl (zv 11 rfl kr (PV.move rfl) rfl (zv 12 rfl kr (PV.move rfl) rfl (zv 13 rfl kr (PV.nilCheck rfl) rfl (zv 14 rfl kr (PV.fieldAddr rfl Tb.fo_103_2) rfl (zv 15 rfl kr (PV.loadMid (cs := coL s u 1 c v (gval ho c.ords.length)) (off := 8) (k := 9) (vs := tyL c v) rfl Tb.agg_101 m9z rfl rfl) rfl ?_)))))
  refine zv 16 rfl kr (PV.move rfl) rfl (zv 17 rfl kr (PV.nilCheck rfl) rfl (zv 18 rfl kr (PV.fieldAddr rfl Tb.fo_103_0) rfl (zv 19 rfl kr (PV.fieldAddr rfl Tb.fo_90_0) rfl (zv 20 rfl kr (PV.loadMid (cs := coL s u 1 c v (gval ho c.ords.length)) (off := 0) (k := 1) (vs := [.slice u.pw s.W.length u.cw]) rfl Tb.agg_24 m9z rfl rfl) rfl ?_))))
  refine zv 21 rfl kr (PV.move rfl) rfl (zv 22 rfl kr (PV.nilCheck rfl) rfl (zv 23 rfl kr (PV.fieldAddr rfl Tb.fo_103_0) rfl (zv 24 rfl kr (PV.fieldAddr rfl Tb.fo_90_1) rfl (zv 25 rfl kr (PV.loadMid (cs := coL s u 1 c v (gval ho c.ords.length)) (off := 1) (k := 2) (vs := [.slice u.pk s.K.length u.ck, .slice u.pg s.g.length u.cg]) rfl Tb.agg_27 m9z rfl rfl) rfl ?_))))
  refine TV.step [26] kr dc rfl ⟨⟨_, rfl, ?_⟩, trivial⟩
  refine TL.call rfl Tb.gofn_70 (fun a w hs => Agrees_ok w s hv u c hi v (hS w (hs.new.sub ((hZf.trans ((List.sublist_append_right _ _).trans (List.sublist_cons_self _ _))).trans (List.sublist_append_right _ _)))) (hT w (hs.new.sub ((hZf.trans ((List.sublist_append_right _ _).trans (List.sublist_cons_self _ _))).trans (List.sublist_append_right _ _))))) rfl dc (fun _ _ => ?_)
  refine TL.nil (TV.next (.inl s9z) ?_)
  refine zv 27 rfl kr (PV.pickT rfl rfl) rfl (zv 28 rfl kr (PV.assign rfl) rfl (TV.done kr ?_))
  refine TQ.thenG (TG.ret (TQ.retD (caps := []) (G' := hp0 s c y.1 y.2 ++ (coB b s u 0 c v ho :: (gbR stR 9 ho c.ords ++ Z))) Tb.gofn_63 (unlock_new (cs := (coL s u 1 c v (gval ho c.ords.length)).toArray) u9z rfl) ?_))
  refine TQ.retE1 rfl rfl ?_
  exact ⟨(), rfl, trivial, List.sublist_append_right _ _⟩
theorem Audit_p {w0 w : World} {s : St} {c : Co} {b : Nat} {p : CP} {R : Heap} (hW : WAt w0) (hv : SV s) (hi : Inv s c) (hrc : Rc s c) (hk : CPk w0 s c p) (hN : New w0 w (hp0 s c b p ++ R)) : Calls Tryz.prog 29 #[pt b] w (Post (X := Unit) (fun _ => .bool true) (fun _ => True) (fun _ => hp0 s c b p ++ R) w0) := by
  rw [hp0_r] at hN ⊢; exact Audit_ok w0 w hW s hv p.u c p.v hi hrc b p.ho hk.go _ hN p.Z (List.sublist_append_left _ _) hk.site hk.tur
end Go.Proofs.YtbnjmkidbfmomaaGreatDoor
namespace Go.Proofs.YtbnjmkidbfmomaaGreatDoor
open Go.Sx Go.RowKit Go.Bt Go.Lib Go.Sand
theorem ints_no (w : World) : IntsAt w none [] := fun j hj => absurd hj (Nat.not_lt_zero _)
theorem look_nil (w0 : World) :
    Calls Tryz.prog 66 #[.pointer none] w0 (Post (X := Unit) (fun _ => .agg tyZ.toArray) (fun _ => True) (fun _ => []) w0) := by
  refine callsDf Tryz.func66 rfl (n := 17) rfl (by simp) ?_
  refine TG.seq (TG.region o9z kr ?_)
  refine TL.alloc Tb.zero_101 rfl dc (fun b0 hb0 => ?_)
  refine TL.nil (TQ.thenG (TG.seq (TG.seq (TG.region o9z kr ?_))))
  refine zm rfl (TL.call rfl Tb.gofn_61 (fun a w hs => isNone_nil w) rfl dc (fun _ _ => ?_))
  refine TL.nil (TQ.thenG (TG.condT rfl ?_))
  refine TG.seq (TG.region o9z kr ?_)
  refine zq (PV.build rfl Tb.zero_101 Tb.pl_101 rfl) rfl (TL.storeAgg (vs := tyZ) rfl rfl Tb.cells_101 u9z rfl rfl rfl rfl rfl ?_)
  refine TL.nil (TQ.thenG (TG.ret (TQ.gthenR (TQ.retD0 ?_))))
  refine TQ.retR rfl (Res.agg rfl Tb.agg_101 m9z rfl Res.nil) ?_
  simp only [tup]
  exact ⟨(), trivial, trivial, nils⟩
theorem Day_nil (w0 : World) :
    Calls Tryz.prog 19 #[.pointer none] w0 (Post (X := Unit) (fun _ => .int .i64 0) (fun _ => True) (fun _ => []) w0) := by
  refine calls Tryz.func19 rfl (n := 7) rfl (by simp) ?_
  refine zr (za rfl (zk (zm rfl (TL.call rfl Tb.gofn_66 (fun a w hs => look_nil w) rfl dc (fun _ _ => ?_)))))
  refine zq (PV.field rfl (fd_0 _ _ _ _ _ _ _ _ _ _ _ _ _)) rfl ?_
  refine zq (PV.field rfl (fe_0 _ _ _ _ _ _ _)) rfl ?_
  refine za rfl (zt (TQ.retE1 rfl rfl ?_))
  exact ⟨(), rfl, trivial, nils⟩
theorem Wet_nil (w0 : World) :
    Calls Tryz.prog 20 #[.pointer none] w0 (Post (X := Unit) (fun _ => .int .i64 0) (fun _ => True) (fun _ => []) w0) := by
  refine calls Tryz.func20 rfl (n := 7) rfl (by simp) ?_
  refine zr (za rfl (zk (zm rfl (TL.call rfl Tb.gofn_66 (fun a w hs => look_nil w) rfl dc (fun _ _ => ?_)))))
  refine zq (PV.field rfl (fd_0 _ _ _ _ _ _ _ _ _ _ _ _ _)) rfl ?_
  refine zq (PV.field rfl (fe_1 _ _ _ _ _ _ _)) rfl ?_
  refine za rfl (zt (TQ.retE1 rfl rfl ?_))
  exact ⟨(), rfl, trivial, nils⟩
theorem Money_nil (w0 : World) :
    Calls Tryz.prog 21 #[.pointer none] w0 (Post (X := Unit) (fun _ => .int .i64 0) (fun _ => True) (fun _ => []) w0) := by
  refine calls Tryz.func21 rfl (n := 7) rfl (by simp) ?_
  refine zr (za rfl (zk (zm rfl (TL.call rfl Tb.gofn_66 (fun a w hs => look_nil w) rfl dc (fun _ _ => ?_)))))
  refine zq (PV.field rfl (fd_0 _ _ _ _ _ _ _ _ _ _ _ _ _)) rfl ?_
  refine zq (PV.field rfl (fe_2 _ _ _ _ _ _ _)) rfl ?_
  refine za rfl (zt (TQ.retE1 rfl rfl ?_))
  exact ⟨(), rfl, trivial, nils⟩
theorem Cut_nil (w0 : World) :
    Calls Tryz.prog 22 #[.pointer none] w0 (Post (X := Unit) (fun _ => .int .i64 0) (fun _ => True) (fun _ => []) w0) := by
  refine calls Tryz.func22 rfl (n := 7) rfl (by simp) ?_
  refine zr (za rfl (zk (zm rfl (TL.call rfl Tb.gofn_66 (fun a w hs => look_nil w) rfl dc (fun _ _ => ?_)))))
  refine zq (PV.field rfl (fd_0 _ _ _ _ _ _ _ _ _ _ _ _ _)) rfl ?_
  refine zq (PV.field rfl (fe_3 _ _ _ _ _ _ _)) rfl ?_
  refine za rfl (zt (TQ.retE1 rfl rfl ?_))
  exact ⟨(), rfl, trivial, nils⟩
theorem Loaded_nil (w0 : World) :
    Calls Tryz.prog 23 #[.pointer none] w0 (Post (X := Unit) (fun _ => .int .i64 0) (fun _ => True) (fun _ => []) w0) := by
  refine calls Tryz.func23 rfl (n := 7) rfl (by simp) ?_
  refine zr (za rfl (zk (zm rfl (TL.call rfl Tb.gofn_66 (fun a w hs => look_nil w) rfl dc (fun _ _ => ?_)))))
  refine zq (PV.field rfl (fd_0 _ _ _ _ _ _ _ _ _ _ _ _ _)) rfl ?_
  refine zq (PV.field rfl (fe_4 _ _ _ _ _ _ _)) rfl ?_
  refine za rfl (zt (TQ.retE1 rfl rfl ?_))
  exact ⟨(), rfl, trivial, nils⟩
theorem Ground_nil (w0 : World) :
    Calls Tryz.prog 24 #[.pointer none] w0 (Post (X := Unit) (fun _ => .int .i64 0) (fun _ => True) (fun _ => []) w0) := by
  refine calls Tryz.func24 rfl (n := 7) rfl (by simp) ?_
  refine zr (za rfl (zk (zm rfl (TL.call rfl Tb.gofn_66 (fun a w hs => look_nil w) rfl dc (fun _ _ => ?_)))))
  refine zq (PV.field rfl (fd_0 _ _ _ _ _ _ _ _ _ _ _ _ _)) rfl ?_
  refine zq (PV.field rfl (fe_5 _ _ _ _ _ _ _)) rfl ?_
  refine za rfl (zt (TQ.retE1 rfl rfl ?_))
  exact ⟨(), rfl, trivial, nils⟩
theorem Shut_nil (w0 : World) :
    Calls Tryz.prog 27 #[.pointer none] w0 (Post (X := Unit) (fun _ => .bool false) (fun _ => True) (fun _ => []) w0) := by
  refine calls Tryz.func27 rfl (n := 7) rfl (by simp) ?_
  refine zr (za rfl (zk (zm rfl (TL.call rfl Tb.gofn_66 (fun a w hs => look_nil w) rfl dc (fun _ _ => ?_)))))
  refine zq (PV.field rfl (fd_0 _ _ _ _ _ _ _ _ _ _ _ _ _)) rfl ?_
  refine zq (PV.field rfl (fe_6 _ _ _ _ _ _ _)) rfl ?_
  refine za rfl (zt (TQ.retE1 rfl rfl ?_))
  exact ⟨(), rfl, trivial, nils⟩
theorem Hollow_nil (w0 : World) :
    Calls Tryz.prog 25 #[.pointer none] w0 (Post (X := Option Addr × Nat) (fun y => .slice y.1 0 y.2) (fun _ => True) (fun _ => []) w0) := by
  refine calls Tryz.func25 rfl (n := 7) rfl (by simp) ?_
  refine zr (za rfl (zk (zm rfl (TL.call rfl Tb.gofn_66 (fun a w hs => look_nil w) rfl dc (fun _ _ => ?_)))))
  refine zq (PV.field rfl (fd_1 _ _ _ _ _ _ _ _ _ _ _ _ _)) rfl ?_
  refine TL.call rfl Tb.gofn_67 (fun a w hs => clone_v w none 0 [] (ints_no w) dc) rfl dc (fun hh hhh => ?_)
  refine za rfl (zt (TQ.retE1 rfl rfl ?_))
  exact ⟨(gp hh, gc hh), rfl, trivial, nils⟩
theorem Turves_nil (w0 : World) :
    Calls Tryz.prog 26 #[.pointer none] w0 (Post (X := Option Addr × Nat) (fun y => .slice y.1 0 y.2) (fun _ => True) (fun _ => []) w0) := by
  refine calls Tryz.func26 rfl (n := 7) rfl (by simp) ?_
  refine zr (za rfl (zk (zm rfl (TL.call rfl Tb.gofn_66 (fun a w hs => look_nil w) rfl dc (fun _ _ => ?_)))))
  refine zq (PV.field rfl (fd_2 _ _ _ _ _ _ _ _ _ _ _ _ _)) rfl ?_
  refine TL.call rfl Tb.gofn_67 (fun a w hs => clone_v w none 0 [] (ints_no w) dc) rfl dc (fun hh hhh => ?_)
  refine za rfl (zt (TQ.retE1 rfl rfl ?_))
  exact ⟨(gp hh, gc hh), rfl, trivial, nils⟩
theorem Book_nil (w0 : World) :
    Calls Tryz.prog 28 #[.pointer none] w0 (Post (X := Unit) (fun _ => str []) (fun _ => True) (fun _ => []) w0) := by
  refine callsDf Tryz.func28 rfl (n := 17) rfl (by simp) ?_
  refine TG.seq (TG.region o9z kr ?_)
  refine za rfl (TL.nil (TQ.thenG (TG.seq (TG.seq (TG.region o9z kr ?_)))))
  refine zm rfl (TL.call rfl Tb.gofn_61 (fun a w hs => isNone_nil w) rfl dc (fun _ _ => ?_))
  refine TL.nil (TQ.thenG (TG.condT rfl ?_))
  refine TG.seq (TG.region o9z kr ?_)
  refine za rfl (TL.nil (TQ.thenG (TG.ret (TQ.gthenR (TQ.retD0 ?_)))))
  refine TQ.retE1 rfl rfl ?_
  exact ⟨(), rfl, trivial, nils⟩
theorem Audit_nil (w0 : World) :
    Calls Tryz.prog 29 #[.pointer none] w0 (Post (X := Unit) (fun _ => .bool false) (fun _ => True) (fun _ => []) w0) := by
  refine callsDf Tryz.func29 rfl (n := 69) rfl (by simp) ?_
  refine TG.seq (TG.region o9z kr ?_)
  refine za rfl (TL.nil (TQ.thenG (TG.seq (TG.seq (TG.region o9z kr ?_)))))
  refine zm rfl (TL.call rfl Tb.gofn_61 (fun a w hs => isNone_nil w) rfl dc (fun _ _ => ?_))
  refine TL.nil (TQ.thenG (TG.condT rfl ?_))
  refine TG.seq (TG.region o9z kr ?_)
  refine za rfl (TL.nil (TQ.thenG (TG.ret (TQ.gthenR (TQ.retD0 ?_)))))
  refine TQ.retE1 rfl rfl ?_
  exact ⟨(), rfl, trivial, nils⟩
theorem Do_nil (w0 : World) (t : List UInt8) :
    Calls Tryz.prog 18 #[.pointer none, str t] w0 (Post (X := Unit) (fun _ => .int .i64 1) (fun _ => True) (fun _ => []) w0) := by
  refine callsDf Tryz.func18 rfl (n := 42) rfl (by simp) ?_
  refine TG.seq (TG.region o9z kr ?_)
  refine za rfl (TL.nil (TQ.thenG (TG.seq (TG.seq (TG.region o9z kr ?_)))))
  refine zm rfl (TL.call rfl Tb.gofn_61 (fun a w hs => isNone_nil w) rfl dc (fun _ _ => ?_))
  refine TL.nil (TQ.thenG (TG.condT rfl ?_))
  refine TG.seq (TG.region o9z kr ?_)
  refine za rfl (TL.nil (TQ.thenG (TG.ret (TQ.gthenR (TQ.retD0 ?_)))))
  refine TQ.retE1 rfl rfl ?_
  exact ⟨(), rfl, trivial, nils⟩
end Go.Proofs.YtbnjmkidbfmomaaGreatDoor
