/- Xg Xh Rw Rx Rp Xi -/
import Derived.Test.YtbnjmkidbfmomaaGreatDoorW06
import Derived.Test.YtbnjmkidbfmomaaGreatDoorW07
import Derived.Test.YtbnjmkidbfmomaaGreatDoorW08
import Derived.Test.YtbnjmkidbfmomaaGreatDoorW10
import Derived.Test.YtbnjmkidbfmomaaGreatDoorW17
import Derived.Test.YtbnjmkidbfmomaaGreatDoorW18
set_option linter.unusedVariables false
set_option linter.unusedSimpArgs false
set_option maxRecDepth 100000
namespace Go.Proofs.YtbnjmkidbfmomaaGreatDoor
open Go.Sx Go.RowKit Go.Bt Go.Lib Go.Sand
def stR : Rec (List UInt8) := ⟨fun s => [str s], 1, fun _ => rfl, fun s v h => by
  rw [List.mem_singleton] at h; subst h; rfl, Nat.one_pos⟩
abbrev tyZ : List Value := [.int .i64 0, .int .i64 0, .int .i64 0, .int .i64 0, .int .i64 0, .int .i64 0, .bool false, .slice none 0 0, .slice none 0 0]
noncomputable def afC (s : St) (c : Co) (t : List UInt8) : Co := match prsO t with
  | none => c
  | some o => if 100 ≤ c.ords.length then c else chgC s c o
theorem do_none {s : St} {c : Co} {t : List UInt8} (hp : prsO t = none) : doI s c t = 2 := by unfold doI; rw [hp]
theorem do_full {s : St} {c : Co} {t : List UInt8} {o : Od} (hp : prsO t = some o) (h : 100 ≤ c.ords.length) : doI s c t = 3 := by unfold doI; rw [hp]; simp only; rw [if_pos h]
theorem do_some {s : St} {c : Co} {t : List UInt8} {o : Od} (hp : prsO t = some o) (h : ¬ 100 ≤ c.ords.length) : doI s c t = actI s c o := by unfold doI; rw [hp]; simp only; rw [if_neg h]
theorem af_some {s : St} {c : Co} {t : List UInt8} {o : Od} (hp : prsO t = some o) (h : ¬ 100 ≤ c.ords.length) : afC s c t = chgC s c o := by unfold afC; rw [hp]; simp only; rw [if_neg h]
theorem af_full {s : St} {c : Co} {t : List UInt8} {o : Od} (hp : prsO t = some o) (h : 100 ≤ c.ords.length) : afC s c t = c := by unfold afC; rw [hp]; simp only; rw [if_pos h]
theorem do_af {s : St} {c : Co} {t : List UInt8} (h : doI s c t = 0) : doC s c t = { afC s c t with ords := c.ords ++ [t] } := by
  obtain ⟨o, hp, hl, ha, e⟩ := doC_yes h
  rw [e, af_some hp (by omega), chg_yes ha]
def afV (e : Int) (t : List UInt8) (c' : Co) (v : TV) : Value := if e = 0 then .tuple #[.agg (tyL c' v).toArray, .nilIface] else .tuple #[.agg tyZ.toArray, .iface 109 (.agg #[str t, .int .i64 e])]
theorem afV_0 {e : Int} {t : List UInt8} {c' : Co} {v : TV} (h : e = 0) : afV e t c' v = .tuple #[.agg (tyL c' v).toArray, .nilIface] := if_pos h
theorem afV_e {e : Int} {t : List UInt8} {c' : Co} {v : TV} (h : e ≠ 0) : afV e t c' v = .tuple #[.agg tyZ.toArray, .iface 109 (.agg #[str t, .int .i64 e])] := if_neg h
theorem ords_len {h : HD} {l : List (List UInt8)} (ho : goR stR h l) : gval h l.length = .slice (gp h) l.length (gc h) := by
  have e := rcs_len (R := stR) l
  exact gval_eq (sz := 1) (by unfold goR at ho; exact ho)
theorem od_ok {t : List UInt8} {o : Od} (h : prsO t = some o) : OdOk o := prs_ns h
section
variable {P : Program} {n : Nat} {w0 : World} {E : Env} {G : Heap} {d : Option Nat} {ty : TypeId} {pos : String} {aft : Array Edge} {g : Option (Nat × Bool)}
theorem PV.makeIface {t : Nat} {x : Operand} {v : Value} (hx : evo E x = some v) (ht : P.concrete t = true) : PV P n w0 E G ⟨d, .makeInterface t x, ty, pos, aft, g⟩ (.iface t v) :=
  fun a w hs => by simp [execOp, hs.ev hx, run_makeInterface (P := P) w t v ht]
theorem PV.eqPtr {x : Operand} {a : Option Addr} {t' : TypeId} (hx : evo E x = some (.pointer a)) : PV Tryz.prog n w0 E G ⟨d, .binOp .eql 30 x (.const (.pointer none)) t', ty, pos, aft, g⟩ (.bool a.isNone) :=
  PV.cmp hx rfl (fun w => by cases a <;> (cases x <;> rfl)) (fun w => by cases a <;> kernel_rfl)
end
section
variable {n : Nat} {w0 : World} {E : Env} {G : Heap} {d : Option Nat} {ty : TypeId} {pos : String} {aft : Array Edge} {g : Option (Nat × Bool)}
theorem PV.lenO {x : Operand} {h : HD} {l : List (List UInt8)} (hx : evo E x = some (gval h l.length)) (hg : goR stR h l) : PV Tryz.prog n w0 E G ⟨d, .call { callee := .builtin .len, args := #[x], argTypes := #[43] }, ty, pos, aft, g⟩ (.int .i64 (l.length : Nat)) :=
  PV.len (by rw [hx, ords_len hg]) Tb.sl_43
end
abbrev coB (b : Nat) (s : St) (u : SU) (lk : Int) (c : Co) (v : TV) (ho : HD) : Nat × Obj := (b, .cells (coL s u lk c v (gval ho c.ords.length)).toArray 103 (0, 0))
theorem lock_co {w0 w : World} {b : Nat} {s : St} {u : SU} {c : Co} {v : TV} {ho : HD} {Z : Heap} (hN : New w0 w (coB b s u 0 c v ho :: Z)) :
    Calls Tryz.prog 62 #[.pointer (some ⟨b, 6, none⟩)] w fun e w' => ∃ x : Unit, e = .returned (.tuple #[]) ∧ True ∧ New w0 w' (coB b s u 1 c v ho :: Z) :=
  lock_new (cs := (coL s u 0 c v (gval ho c.ords.length)).toArray) hN (Upd.head _) rfl
theorem as_new {w0 w : World} (hW : WAt w) {b : Nat} {x y o1 o2 : Value} (hx : x.oneCell' = true) (hy : y.oneCell' = true) {G : Heap} (hN : New w0 w ((b, .cells #[o1, o2] 109 (0, 0)) :: G)) :
    Calls Tryz.prog 65 #[.iface 109 (.agg #[x, y]), .iface 111 (.pointer (some ⟨b, 0, none⟩))] w fun e w' => ∃ z : Unit, e = .returned (.bool true) ∧ True ∧ New w0 w' ((b, .cells #[x, y] 109 (0, 0)) :: G) := by
  have hb : w.heap[b]? = some (.cells #[o1, o2] 109 (0, 0)) := hN.here _ (.head _)
  refine (as_hit b x y o1 o2 hx hy w hW.er hb).mono fun e w' ⟨h1, h2⟩ => ⟨(), h1, trivial, ?_⟩
  rw [h2]
  have h3 := (((hN.alloc (.cells #[.pointer (some ⟨b, 0, none⟩)] 111)).alloc (.cells #[.pointer (some ⟨9, 111, none⟩), .pointer (some ⟨w.heap.size, 0, none⟩), .int .u64 150] 152)).alloc (.cells #[.pointer (some ⟨9, 111, none⟩), .pointer (some ⟨w.heap.size, 0, none⟩), .int .u64 150] 152)).alloc (.cells #[x, y] 109)
  have h4 := h3.sub (List.sublist_append_right [_, _, _, _] ((b, .cells #[o1, o2] 109 (0, 0)) :: G))
  have h5 := h4.here (b, .cells #[o1, o2] 109 (0, 0)) (.head _)
  refine h4.turn (Upd.head _) ?_ ?_ rfl rfl rfl ?_ rfl
  · simp only at h5
    simp only [World.setRow, Array.getElem?_modify, if_true, h5, Option.map_some]
  · intro k hk
    simp only [World.setRow, Array.getElem?_modify]
    rw [if_neg (by omega)]
  · simp [World.setRow]
theorem fill_s (L : List UInt8) : Instr.fill (fun i => some (i * 1, 1)) ((Array.range (1 * 1)).map ((Value.string ⟨#[]⟩).cells[· % (Value.string ⟨#[]⟩).cells.size]!)) [(0, str L)] = some #[str L] := by kernel_rfl
theorem Inv.need {s : St} (hv : SV s) : s.need ≠ 0 := by
  have := hv.mo.K1
  have h2 := hv.nd
  have e : s.md.K = s.need.toNat := rfl
  rw [e] at this
  omega
theorem isNone_ok (w0 : World) (b : Nat) (k : Int) (hk : k ≠ 0) (hc : w0.cell? ⟨b, 5, none⟩ = some (.int .i64 k)) :
    Calls Tryz.prog 61 #[.pointer (some ⟨b, 0, none⟩)] w0 (Post (X := Unit) (fun _ => .bool false) (fun _ => True) (fun _ => []) w0) := by
  refine calls Tryz.func61 rfl (n := 14) rfl (by simp) ?_
  refine zr (za rfl (zk (zm rfl (zq (PV.eqPtr rfl) rfl (zm rfl (zm rfl (zq (PV.nilCheck rfl) rfl (zq (PV.fieldAddr rfl Tb.fo_103_0) rfl (zq (PV.fieldAddr rfl Tb.fo_90_2) rfl (zq (PV.fieldAddr rfl Tb.fo_52_2) rfl (zq (PV.loadOld rfl Tb.one_3 hc) rfl (zq (PV.eql rfl rfl) rfl (zq (PV.pickF rfl rfl) rfl (za rfl (zt (TQ.retE1 rfl rfl ?_))))))))))))))))
  exact ⟨(), by rw [decide_eq_false hk], trivial, nils⟩
theorem after_n (w0 w : World) (hW : WAt w0) (s : St) (hv : SV s) (u : SU) (c : Co) (v : TV) (hi : Inv s c) (b : Nat) (ho : HD) (hgo : goR stR ho c.ords) (Z : Heap) (hN : New w0 w (coB b s u 1 c v ho :: Z)) (Zf : Heap) (hZf : List.Sublist Zf Z) (hS : ∀ w9, New w0 w9 Zf → SiteAt w9 s u) (hT : ∀ w9, New w0 w9 Zf → TurAt w9 c v) (t : List UInt8) (ht : t.length ≤ 1000000) (hp : prsO t = none) :
    Calls Tryz.prog 64 #[.pointer (some ⟨b, 0, none⟩), str t] w (Post (X := TV × Heap) (fun y => afV (doI s c t) t (afC s c t) y.1) (fun y => ∀ w9, New w0 w9 (y.2 ++ Zf) → TurAt w9 (afC s c t) y.1) (fun y => y.2 ++ (coB b s u 1 c v ho :: Z)) w0) := by
  refine callsM hN Tryz.func64 rfl (n := 49) rfl (by simp) ?_
  refine zr (TL.alloc Tb.zero_101 rfl dc (fun b0 hb0 => ?_))
  refine za rfl (zk (zm rfl (TL.call rfl Tb.gofn_102 (fun a w hs => (by have h := orderIn_ok w (hW.new hs.new) t ht; rw [hp] at h; exact h)) rfl dc (fun bn _ => ?_))))
  refine zm rfl (zq (PV.extract rfl rfl) rfl (zq (PV.extract rfl rfl) rfl (TL.alloc Tb.zero_144 rfl dc (fun b1 hb1 => ?_))))
  refine TL.storeAgg rfl rfl Tb.cells_144 u9z rfl rfl rfl rfl rfl ?_
  refine za rfl (zn (TC.seq (zr (zm rfl (zq (PV.not rfl) rfl (zn (TC.condT rfl (zr (zq (PV.build rfl Tb.zero_101 Tb.pl_101 rfl) rfl (zm rfl (zq (PV.build rfl Tb.zero_109 Tb.pl_109 rfl) rfl (zq (PV.makeIface rfl kr) rfl (TL.storeAgg rfl rfl Tb.cells_101 u9z rfl rfl rfl rfl rfl ?_)))))))))))))
  refine za rfl (zt (TQ.thenR (TQ.retR rfl (Res.agg rfl Tb.agg_101 m9z rfl (Res.tmp rfl Res.nil)) ?_)))
  simp only [tup]
  have hE := do_none (s := s) (c := c) hp
  have hA : afC s c t = c := by unfold afC; rw [hp]
  exact ⟨(v, []), by rw [afV_e (by rw [hE]; decide), hE]; rfl, by rw [hA]; exact hT, s9z⟩
set_option maxHeartbeats 1000000 in
theorem after_y (w0 w : World) (hW : WAt w0) (s : St) (hv : SV s) (u : SU) (c : Co) (v : TV) (hi : Inv s c) (b : Nat) (ho : HD) (hgo : goR stR ho c.ords) (Z : Heap) (hN : New w0 w (coB b s u 1 c v ho :: Z)) (Zf : Heap) (hZf : List.Sublist Zf Z) (hS : ∀ w9, New w0 w9 Zf → SiteAt w9 s u) (hT : ∀ w9, New w0 w9 Zf → TurAt w9 c v) (t : List UInt8) (ht : t.length ≤ 1000000) (o : Od) (hp : prsO t = some o) :
    Calls Tryz.prog 64 #[.pointer (some ⟨b, 0, none⟩), str t] w (Post (X := TV × Heap) (fun y => afV (doI s c t) t (afC s c t) y.1) (fun y => ∀ w9, New w0 w9 (y.2 ++ Zf) → TurAt w9 (afC s c t) y.1) (fun y => y.2 ++ (coB b s u 1 c v ho :: Z)) w0) := by
  refine callsM hN Tryz.func64 rfl (n := 49) rfl (by simp) ?_
  refine zr (TL.alloc Tb.zero_101 rfl dc (fun b0 hb0 => ?_))
  refine za rfl (zk (zm rfl (TL.call rfl Tb.gofn_102 (fun a w hs => (by have h := orderIn_ok w (hW.new hs.new) t ht; rw [hp] at h; exact h)) rfl dc (fun bn _ => ?_))))
  refine zm rfl (zq (PV.extract rfl rfl) rfl (zq (PV.extract rfl rfl) rfl (TL.alloc Tb.zero_144 rfl dc (fun b1 hb1 => ?_))))
  refine TL.storeAgg rfl rfl Tb.cells_144 u9z rfl rfl rfl rfl rfl ?_
  refine za rfl (zn (TC.seq (zr (zm rfl (zq (PV.not rfl) rfl (zn (TC.condF rfl (TC.skip (TQ.thenC (TC.seq (zr (zm rfl (zq (PV.nilCheck rfl) rfl (zq (PV.fieldAddr rfl Tb.fo_103_3) rfl (zq (PV.load rfl Tb.one_43 m9z rfl) rfl ?_)))))))))))))))
  refine zq (PV.lenO rfl hgo) rfl (zq (PV.eql rfl rfl) rfl (zn (TC.cd rfl (fun gl => ?_) (fun gl => ?_))))
  refine zr (zq (PV.build rfl Tb.zero_101 Tb.pl_101 rfl) rfl (zm rfl (zq (PV.build rfl Tb.zero_109 Tb.pl_109 rfl) rfl (zq (PV.makeIface rfl kr) rfl (TL.storeAgg rfl rfl Tb.cells_101 u9z rfl rfl rfl rfl rfl ?_)))))
  refine za rfl (zt (TQ.thenR (TQ.retR rfl (Res.agg rfl Tb.agg_101 m9z rfl (Res.tmp rfl Res.nil)) ?_)))
  simp only [tup]
  have hE := do_full (s := s) (c := c) hp (by omega)
  exact ⟨(v, []), by rw [afV_e (by rw [hE]; decide), hE]; rfl, by rw [af_full hp (by omega)]; exact hT, s9z⟩
  refine TC.skip (TQ.thenC (zr (zm rfl (zq (PV.nilCheck rfl) rfl (zq (PV.fieldAddr rfl Tb.fo_103_2) rfl (zq (PV.loadMid (cs := coL s u 1 c v (gval ho c.ords.length)) (off := 8) (k := 9) (vs := tyL c v) rfl Tb.agg_101 m9z rfl rfl) rfl ?_))))))
  refine TL.alloc Tb.zero_101 rfl dc (fun b2 hb2 => ?_)
  refine TL.storeAgg rfl rfl Tb.cells_101 u9z rfl rfl rfl rfl rfl ?_
  refine zn (TC.seq (TC.seq (TC.sub (G' := (b2, Obj.cells (tyL c v).toArray 101 (0, 0)) :: ((b1, Obj.cells [.int .i64 (o.k : Nat), .slice (some ⟨bn, 0, none⟩) o.ns.length o.ns.length].toArray 144 (0, 0)) :: (bn, Obj.cells (intsA o.ns) 3 (0, 0)) :: (b0, Obj.cells tyZ.toArray 101 (0, 0)) :: coB b s u 1 c v ho :: Z)) (List.Sublist.refl _) ?_)))
  refine TC.draw 5 Tb.mixed kr ?_
  simp only [List.take_succ_cons, List.take_zero, List.drop_succ_cons, List.drop_zero]
  refine TS.pure (PV.move rfl) rfl dc ?_
  refine TS.pure (PV.nilCheck rfl) rfl dc ?_
  refine TS.pure (PV.fieldAddr rfl Tb.fo_103_0) rfl dc ?_
  refine TS.pure (PV.loadMid (cs := coL s u 1 c v (gval ho c.ords.length)) (off := 0) (k := 6) (vs := siL s u) rfl Tb.agg_90 m9z rfl rfl) rfl dc ?_
  refine TS.pure (PV.loadBox (cs := [.int .i64 (o.k : Nat), .slice (some ⟨bn, 0, none⟩) o.ns.length o.ns.length]) rfl Tb.agg_144 m9z rfl) rfl dc ?_
  refine TS.nil ?_
  refine TL.callW (X := TV × Heap) (fun _ => .int .i64 (actI s c o)) (fun y => ∀ w9, New w0 w9 (y.2 ++ ((bn, Obj.cells (intsA o.ns) 3 (0, 0)) :: Zf)) → TurAt w9 (chgC s c o) y.1) (fun y => (b2, Obj.cells (tyL (chgC s c o) y.1).toArray 101 (0, 0)) :: (y.2 ++ ((b1, Obj.cells [.int .i64 (o.k : Nat), .slice (some ⟨bn, 0, none⟩) o.ns.length o.ns.length].toArray 144 (0, 0)) :: (bn, Obj.cells (intsA o.ns) 3 (0, 0)) :: (b0, Obj.cells tyZ.toArray 101 (0, 0)) :: coB b s u 1 c v ho :: Z))) rfl Tb.gofn_103 (fun a w hs => change_ok w0 w s hv u c v hi b2 ((b1, Obj.cells [.int .i64 (o.k : Nat), .slice (some ⟨bn, 0, none⟩) o.ns.length o.ns.length].toArray 144 (0, 0)) :: (bn, Obj.cells (intsA o.ns) 3 (0, 0)) :: (b0, Obj.cells tyZ.toArray 101 (0, 0)) :: coB b s u 1 c v ho :: Z) hs.new ((bn, Obj.cells (intsA o.ns) 3 (0, 0)) :: Zf) (List.Sublist.cons _ (List.Sublist.cons_cons _ (List.Sublist.cons _ (List.Sublist.cons _ hZf)))) (fun w9 h9 => hS w9 (h9.sub (List.sublist_cons_self _ _))) (fun w9 h9 => hT w9 (h9.sub (List.sublist_cons_self _ _))) hW.tz o (od_ok hp) _ _ (fun w9 h9 => IntsAt.arr h9 (.head _))) rfl dc (fun y hy => ?_)
  refine za rfl (zk (zm rfl (zq (PV.neq rfl rfl) rfl (zn (TC.cd rfl (fun ge => ?_) (fun ge => ?_))))))
  refine zr (zq (PV.build rfl Tb.zero_101 Tb.pl_101 rfl) rfl (zm rfl (zm rfl (zq (PV.build rfl Tb.zero_109 Tb.pl_109 rfl) rfl (zq (PV.makeIface rfl kr) rfl (TL.storeAgg rfl rfl Tb.cells_101 u9z rfl rfl rfl rfl rfl ?_))))))
  refine za rfl (zt (TQ.thenR (TQ.retR rfl (Res.agg rfl Tb.agg_101 m9z rfl (Res.tmp rfl Res.nil)) ?_)))
  simp only [tup]
  have hE := do_some (s := s) (c := c) hp (by have := hi.ol; omega)
  have hA := af_some (s := s) (c := c) hp (by have := hi.ol; omega)
  exact ⟨(y.1, y.2 ++ [(bn, Obj.cells (intsA o.ns) 3 (0, 0))]), by rw [afV_e (by rw [hE]; exact ge), hE]; rfl, by rw [hA]; exact fun w9 h9 => hy w9 (by rw [List.append_assoc] at h9; exact h9), (by show List.Sublist ((y.2 ++ [_]) ++ (_ :: Z)) _; rw [List.append_assoc]; exact List.Sublist.cons _ (List.Sublist.append (List.Sublist.refl _) (List.Sublist.cons _ (List.Sublist.cons_cons _ (List.Sublist.cons _ (List.Sublist.refl _))))))⟩
  refine TC.skip (TQ.thenC (zr (zq (PV.loadBox rfl Tb.agg_101 m9z rfl) rfl ?_)))
  refine TL.storeAgg rfl rfl Tb.cells_101 u9z rfl rfl rfl rfl rfl ?_
  refine za rfl (zt (TQ.retR rfl (Res.agg rfl Tb.agg_101 m9z rfl (Res.tmp rfl Res.nil)) ?_))
  simp only [tup]
  have hE := do_some (s := s) (c := c) hp (by have := hi.ol; omega)
  have hA := af_some (s := s) (c := c) hp (by have := hi.ol; omega)
  exact ⟨(y.1, y.2 ++ [(bn, Obj.cells (intsA o.ns) 3 (0, 0))]), by rw [afV_0 (by rw [hE]; exact Decidable.not_not.1 ge), hA], by rw [hA]; exact fun w9 h9 => hy w9 (by rw [List.append_assoc] at h9; exact h9), (by show List.Sublist ((y.2 ++ [_]) ++ (_ :: Z)) _; rw [List.append_assoc]; exact List.Sublist.cons _ (List.Sublist.append (List.Sublist.refl _) (List.Sublist.cons _ (List.Sublist.cons_cons _ (List.Sublist.cons _ (List.Sublist.refl _))))))⟩
end Go.Proofs.YtbnjmkidbfmomaaGreatDoor
namespace Go.Proofs.YtbnjmkidbfmomaaGreatDoor
open Go.Sx Go.RowKit Go.Bt Go.Lib Go.Sand
section
variable {P : Program} {r : Option Nat} {ds : List Deferred} {n : Nat} {w0 : World} {E : Env} {G : Heap} {Q : Exit → Act → World → Prop}
theorem TG.sub {c : Code} {G' : Heap} (hp : List.Sublist G' G) (h : TG r ds P n w0 c Q E G') : TG r ds P n w0 c Q E G := fun a w hs => h a w (hs.world (hs.new.sub hp))
end
theorem after_ok (w0 w : World) (hW : WAt w0) (s : St) (hv : SV s) (u : SU) (c : Co) (v : TV) (hi : Inv s c) (b : Nat) (ho : HD) (hgo : goR stR ho c.ords) (Z : Heap) (hN : New w0 w (coB b s u 1 c v ho :: Z)) (Zf : Heap) (hZf : List.Sublist Zf Z) (hS : ∀ w9, New w0 w9 Zf → SiteAt w9 s u) (hT : ∀ w9, New w0 w9 Zf → TurAt w9 c v) (t : List UInt8) (ht : t.length ≤ 1000000) :
    Calls Tryz.prog 64 #[.pointer (some ⟨b, 0, none⟩), str t] w (Post (X := TV × Heap) (fun y => afV (doI s c t) t (afC s c t) y.1) (fun y => ∀ w9, New w0 w9 (y.2 ++ Zf) → TurAt w9 (afC s c t) y.1) (fun y => y.2 ++ (coB b s u 1 c v ho :: Z)) w0) := by
  cases hp : prsO t with
  | none => exact after_n w0 w hW s hv u c v hi b ho hgo Z hN Zf hZf hS hT t ht hp
  | some o => exact after_y w0 w hW s hv u c v hi b ho hgo Z hN Zf hZf hS hT t ht o hp
set_option maxHeartbeats 1000000 in
theorem Do_e (w0 w : World) (hW : WAt w0) (s : St) (hv : SV s) (u : SU) (c : Co) (v : TV) (hi : Inv s c) (b : Nat) (ho : HD) (hgo : goR stR ho c.ords) (Z : Heap) (hN : New w0 w (coB b s u 0 c v ho :: (gbR stR 9 ho c.ords ++ Z))) (Zf : Heap) (hZf : List.Sublist Zf Z) (hS : ∀ w9, New w0 w9 Zf → SiteAt w9 s u) (hT : ∀ w9, New w0 w9 Zf → TurAt w9 c v) (t : List UInt8) (ht : t.length ≤ 1000000) (he : doI s c t ≠ 0) :
    Calls Tryz.prog 18 #[.pointer (some ⟨b, 0, none⟩), str t] w (Post (X := TV × HD × Heap) (fun _ => .int .i64 (doI s c t)) (fun y => goR stR y.2.1 (doC s c t).ords ∧ ∀ w9, New w0 w9 (y.2.2 ++ Zf) → TurAt w9 (doC s c t) y.1) (fun y => coB b s u 0 (doC s c t) y.1 y.2.1 :: (gbR stR 9 y.2.1 (doC s c t).ords ++ (y.2.2 ++ Z))) w0) := by
  refine callsDfM hN Tryz.func18 rfl (n := 42) rfl (by simp) ?_
  refine TG.seq (TG.region o9z kr ?_)
  refine za rfl (TL.nil (TQ.thenG (TG.seq (TG.seq (TG.region o9z kr ?_)))))
  refine zm rfl (TL.call rfl Tb.gofn_61 (fun a w hs => isNone_ok w b s.need (Inv.need hv) (hs.new.cell m9z rfl)) rfl dc (fun _ _ => ?_))
  refine TL.nil (TQ.thenG (TG.condF rfl ?_))
  refine TG.skip (TQ.thenG (TG.seq (TG.region o9z kr ?_)))
  refine zm rfl (zq (PV.nilCheck rfl) rfl (zq (PV.fieldAddr rfl Tb.fo_103_1) rfl (TL.callW (X := Unit) (fun _ => .tuple #[]) (fun _ => True) (fun _ => coB b s u 1 c v ho :: (gbR stR 9 ho c.ords ++ Z)) rfl Tb.gofn_62 (fun a w hs => lock_co hs.new) rfl dc (fun _ _ => ?_))))
  refine TL.nil (TQ.thenG (TG.seq (TG.regionL ?_)))
  refine TGL.pre 3 o9z (by kernel_rfl) ?_
  simp only [List.take_succ_cons, List.take_zero, List.drop_succ_cons, List.drop_zero]
  refine zm rfl (zq (PV.nilCheck rfl) rfl (zq (PV.fieldAddr rfl Tb.fo_103_1) rfl (TL.nil (TQ.thenL ?_))))
  refine TGL.defer (fun a w hs => resolve_fn rfl hs rfl) ?_
  refine TGL.opsAll o9z (by kernel_rfl) (TL.nil ?_)
  refine TQ.thenG (TG.seq (TG.region o9z kr ?_))
  refine zm rfl (zm rfl (TL.callW (X := TV × Heap) (fun _ => .tuple #[.agg tyZ.toArray, .iface 109 (.agg #[str t, .int .i64 (doI s c t)])]) (fun y => ∀ w9, New w0 w9 (y.2 ++ Zf) → TurAt w9 (afC s c t) y.1) (fun y => y.2 ++ (coB b s u 1 c v ho :: (gbR stR 9 ho c.ords ++ Z))) rfl Tb.gofn_64 (fun a w hs => (after_ok w0 w hW s hv u c v hi b ho hgo _ hs.new Zf (hZf.trans (List.sublist_append_right _ _)) hS hT t ht).mono fun _ _ ⟨y, e1, e2, e3⟩ => ⟨y, by rw [e1]; exact congrArg Ending.returned (afV_e he), e2, e3⟩) rfl dc (fun y hy => ?_)))
  refine zm rfl (zq (PV.extract rfl rfl) rfl (zq (PV.extract rfl rfl) rfl (TL.alloc Tb.zero_101 rfl dc (fun b0 hb0 => ?_))))
  refine TL.storeAgg rfl rfl Tb.cells_101 u9z rfl rfl rfl rfl rfl ?_
  refine za rfl (TL.nil (TQ.thenG (TG.seq (TG.region o9z kr ?_))))
  refine TL.alloc Tb.zero_109 rfl dc (fun b1 hb1 => ?_)
  refine TL.nil (TQ.thenG (TG.seq (TG.seq (TG.region o9z kr ?_))))
  refine zm rfl (zq (PV.makeIface rfl kr) rfl (TL.callW (X := Unit) (fun _ => .bool true) (fun _ => True) (fun _ => (b1, Obj.cells #[str t, .int .i64 (doI s c t)] 109 (0, 0)) :: (b0, Obj.cells tyZ.toArray 101 (0, 0)) :: (y.2 ++ (coB b s u 1 c v ho :: (gbR stR 9 ho c.ords ++ Z)))) rfl Tb.gofn_65 (fun a w hs => as_new (hW.new hs.new) rfl rfl hs.new) rfl dc (fun _ _ => ?_)))
  refine TL.nil (TQ.thenG (TG.condT rfl ?_))
  refine TG.seq (TG.region o9z kr ?_)
  refine zq (PV.fieldAddr rfl Tb.fo_109_1) rfl (zq (PV.load rfl Tb.one_31 m9z rfl) rfl ?_)
  refine za rfl (TL.nil (TQ.thenG (TG.ret (TQ.gthenR (TQ.retD (caps := []) (G' := (b1, Obj.cells #[str t, .int .i64 (doI s c t)] 109 (0, 0)) :: (b0, Obj.cells tyZ.toArray 101 (0, 0)) :: (y.2 ++ (coB b s u 0 c v ho :: (gbR stR 9 ho c.ords ++ Z)))) Tb.gofn_63 (unlock_new (cs := (coL s u 1 c v (gval ho c.ords.length)).toArray) u9z rfl) ?_)))))
  refine TQ.retE1 rfl rfl ?_
  exact ⟨(v, ho, []), rfl, by rw [doC_no he]; exact ⟨hgo, hT⟩, by rw [doC_no he]; exact s9z⟩
set_option maxHeartbeats 1000000 in
theorem Do_y (w0 w : World) (hW : WAt w0) (s : St) (hv : SV s) (u : SU) (c : Co) (v : TV) (hi : Inv s c) (b : Nat) (ho : HD) (hgo : goR stR ho c.ords) (Z : Heap) (hN : New w0 w (coB b s u 0 c v ho :: (gbR stR 9 ho c.ords ++ Z))) (Zf : Heap) (hZf : List.Sublist Zf Z) (hS : ∀ w9, New w0 w9 Zf → SiteAt w9 s u) (hT : ∀ w9, New w0 w9 Zf → TurAt w9 c v) (t : List UInt8) (ht : t.length ≤ 1000000) (he : doI s c t = 0) :
    Calls Tryz.prog 18 #[.pointer (some ⟨b, 0, none⟩), str t] w (Post (X := TV × HD × Heap) (fun _ => .int .i64 (doI s c t)) (fun y => goR stR y.2.1 (doC s c t).ords ∧ ∀ w9, New w0 w9 (y.2.2 ++ Zf) → TurAt w9 (doC s c t) y.1) (fun y => coB b s u 0 (doC s c t) y.1 y.2.1 :: (gbR stR 9 y.2.1 (doC s c t).ords ++ (y.2.2 ++ Z))) w0) := by
  have hol := hi.ol
  refine callsDfM hN Tryz.func18 rfl (n := 42) rfl (by simp) ?_
  refine TG.seq (TG.region o9z kr ?_)
  refine za rfl (TL.nil (TQ.thenG (TG.seq (TG.seq (TG.region o9z kr ?_)))))
  refine zm rfl (TL.call rfl Tb.gofn_61 (fun a w hs => isNone_ok w b s.need (Inv.need hv) (hs.new.cell m9z rfl)) rfl dc (fun _ _ => ?_))
  refine TL.nil (TQ.thenG (TG.condF rfl ?_))
  refine TG.skip (TQ.thenG (TG.seq (TG.region o9z kr ?_)))
  refine zm rfl (zq (PV.nilCheck rfl) rfl (zq (PV.fieldAddr rfl Tb.fo_103_1) rfl (TL.callW (X := Unit) (fun _ => .tuple #[]) (fun _ => True) (fun _ => coB b s u 1 c v ho :: (gbR stR 9 ho c.ords ++ Z)) rfl Tb.gofn_62 (fun a w hs => lock_co hs.new) rfl dc (fun _ _ => ?_))))
  refine TL.nil (TQ.thenG (TG.seq (TG.regionL ?_)))
  refine TGL.pre 3 o9z (by kernel_rfl) ?_
  simp only [List.take_succ_cons, List.take_zero, List.drop_succ_cons, List.drop_zero]
  refine zm rfl (zq (PV.nilCheck rfl) rfl (zq (PV.fieldAddr rfl Tb.fo_103_1) rfl (TL.nil (TQ.thenL ?_))))
  refine TGL.defer (fun a w hs => resolve_fn rfl hs rfl) ?_
  refine TGL.opsAll o9z (by kernel_rfl) (TL.nil ?_)
  refine TQ.thenG (TG.seq (TG.region o9z kr ?_))
  refine zm rfl (zm rfl (TL.callW (X := TV × Heap) (fun y => .tuple #[.agg (tyL (afC s c t) y.1).toArray, .nilIface]) (fun y => ∀ w9, New w0 w9 (y.2 ++ Zf) → TurAt w9 (afC s c t) y.1) (fun y => y.2 ++ (coB b s u 1 c v ho :: (gbR stR 9 ho c.ords ++ Z))) rfl Tb.gofn_64 (fun a w hs => (after_ok w0 w hW s hv u c v hi b ho hgo _ hs.new Zf (hZf.trans (List.sublist_append_right _ _)) hS hT t ht).mono fun _ _ ⟨y, e1, e2, e3⟩ => ⟨y, by rw [e1]; exact congrArg Ending.returned (afV_0 he), e2, e3⟩) rfl dc (fun y hy => ?_)))
  refine zm rfl (zq (PV.extract rfl rfl) rfl (zq (PV.extract rfl rfl) rfl (TL.alloc Tb.zero_101 rfl dc (fun b0 hb0 => ?_))))
  refine TL.storeAgg rfl rfl Tb.cells_101 u9z rfl rfl rfl rfl rfl ?_
  refine za rfl (TL.nil (TQ.thenG (TG.seq (TG.region o9z kr ?_))))
  refine TL.alloc Tb.zero_109 rfl dc (fun b1 hb1 => ?_)
  refine TL.nil (TQ.thenG (TG.seq (TG.seq (TG.region o9z kr ?_))))
  refine zm rfl (zq (PV.makeIface rfl kr) rfl (TL.callW (X := Unit) (fun _ => .bool false) (fun _ => True) (fun _ => (b1, Obj.cells #[str [], .int .i64 0] 109 (0, 0)) :: (b0, Obj.cells (tyL (afC s c t) y.1).toArray 101 (0, 0)) :: (y.2 ++ (coB b s u 1 c v ho :: (gbR stR 9 ho c.ords ++ Z)))) rfl Tb.gofn_65 (fun a w hs => (as_nil _ w).mono fun _ _ ⟨h1, h2⟩ => ⟨(), h1, trivial, by rw [h2]; exact hs.new⟩) rfl dc (fun _ _ => ?_)))
  refine TL.nil (TQ.thenG (TG.condF rfl ?_))
  refine TG.skip (TQ.thenG (TG.seq (TG.region o9z kr ?_)))
  refine zm rfl (zq (PV.loadBox (cs := tyL (afC s c t) y.1) rfl Tb.agg_101 m9z rfl) rfl ?_)
  refine zq (PV.nilCheck rfl) rfl (zq (PV.fieldAddr rfl Tb.fo_103_2) rfl (TL.storeMid (cs := coL s u 1 c v (gval ho c.ords.length)) (cs' := coL s u 1 (afC s c t) y.1 (gval ho c.ords.length)) (off := 8) (k := 9) (vs := tyL (afC s c t) y.1) rfl rfl Tb.cells_101 u9z rfl rfl (Nat.le_of_ble_eq_true rfl) rfl rfl rfl ?_))
  refine TL.nil (TQ.thenG (TG.seq (TG.region o9z kr ?_)))
  refine zm rfl (zm rfl (zq (PV.nilCheck rfl) rfl (zq (PV.fieldAddr rfl Tb.fo_103_3) rfl (zq (PV.load rfl Tb.one_43 m9z rfl) rfl ?_))))
  refine zm rfl (TL.buildSlice (cs := #[str t]) rfl Tb.sl_43 Tb.zi_9 dc (fill_s t) dc rfl dc (fun bI hbI => ?_))
  refine TL.appendRec (R := stR) (h0 := ho) (ys := c.ords) (r := t) Tb.sl_43 Tb.zi_9 rfl rfl rfl m9z hgo h9z om om rfl dc (fun h9 ho9 => ?_)
  refine zq (PV.nilCheck rfl) rfl (zq (PV.fieldAddr rfl Tb.fo_103_3) rfl (TL.store rfl rfl Tb.cells_43 (gval_one _ _) u9z e9z rfl rfl ?_))
  refine TL.nil (TQ.thenG (TG.seq (TG.sub (G' := gbR stR 9 h9 (c.ords ++ [t]) ++ (y.2 ++ (coB b s u 1 { afC s c t with ords := c.ords ++ [t] } y.1 h9 :: Z))) (List.Sublist.append (List.Sublist.refl _) (List.Sublist.cons _ (List.Sublist.cons _ (List.Sublist.cons _ (List.Sublist.refl _))))) ?_)))
  refine TG.perm (G' := coB b s u 1 { afC s c t with ords := c.ords ++ [t] } y.1 h9 :: (gbR stR 9 h9 (c.ords ++ [t]) ++ (y.2 ++ Z))) (List.perm_middle.symm.trans (List.Perm.append_left _ List.perm_middle.symm)) ?_
  refine TG.region o9z kr ?_
  refine za rfl (TL.nil (TQ.thenG (TG.ret (TQ.retD (caps := []) (G' := coB b s u 0 { afC s c t with ords := c.ords ++ [t] } y.1 h9 :: (gbR stR 9 h9 (c.ords ++ [t]) ++ (y.2 ++ Z))) Tb.gofn_63 (unlock_new (cs := (coL s u 1 { afC s c t with ords := c.ords ++ [t] } y.1 (gval h9 (c.ords ++ [t]).length)).toArray) (Upd.head _) rfl) ?_))))
  refine TQ.retE1 rfl rfl ?_
  exact ⟨(y.1, h9, y.2), by rw [he], by rw [do_af he]; exact ⟨ho9, fun w9 hn9 => ⟨(hy w9 hn9).ah, (hy w9 hn9).at_⟩⟩, by rw [do_af he]; exact List.Sublist.refl _⟩
theorem Do_ok (w0 w : World) (hW : WAt w0) (s : St) (hv : SV s) (u : SU) (c : Co) (v : TV) (hi : Inv s c) (b : Nat) (ho : HD) (hgo : goR stR ho c.ords) (Z : Heap) (hN : New w0 w (coB b s u 0 c v ho :: (gbR stR 9 ho c.ords ++ Z))) (Zf : Heap) (hZf : List.Sublist Zf Z) (hS : ∀ w9, New w0 w9 Zf → SiteAt w9 s u) (hT : ∀ w9, New w0 w9 Zf → TurAt w9 c v) (t : List UInt8) (ht : t.length ≤ 1000000) :
    Calls Tryz.prog 18 #[.pointer (some ⟨b, 0, none⟩), str t] w (Post (X := TV × HD × Heap) (fun _ => .int .i64 (doI s c t)) (fun y => goR stR y.2.1 (doC s c t).ords ∧ ∀ w9, New w0 w9 (y.2.2 ++ Zf) → TurAt w9 (doC s c t) y.1) (fun y => coB b s u 0 (doC s c t) y.1 y.2.1 :: (gbR stR 9 y.2.1 (doC s c t).ords ++ (y.2.2 ++ Z))) w0) := by
  by_cases he : doI s c t = 0
  · exact Do_y w0 w hW s hv u c v hi b ho hgo Z hN Zf hZf hS hT t ht he
  · exact Do_e w0 w hW s hv u c v hi b ho hgo Z hN Zf hZf hS hT t ht he
end Go.Proofs.YtbnjmkidbfmomaaGreatDoor
namespace Go.Proofs.YtbnjmkidbfmomaaGreatDoor
open Go.Sx Go.RowKit Go.Sand
structure RW where
  h : HD
  l : List Int
  deriving Inhabited
def rwR : Rec RW where
  cells r := [gval r.h r.l.length]
  sz := 1
  len := fun _ => rfl
  one := fun r v hv => by rw [List.mem_singleton.1 hv]; exact gval_one _ _
  pos := by decide
def rwB (rs : List RW) : Heap := rs.flatMap fun r => gbI (r.h, r.l)
def rwOk (rs : List RW) : Prop := ∀ r ∈ rs, goI (r.h, r.l)
theorem rwB_mem {rs : List RW} {r : RW} (h : r ∈ rs) : ∀ y ∈ gbI (r.h, r.l), y ∈ rwB rs := fun y hy => List.mem_flatMap.2 ⟨r, h, hy⟩
theorem rw_at {rs : List RW} {j : Nat} (hj : j < rs.length) : rs.getD j default ∈ rs := by simp [List.getD, hj]
theorem LsAt.rw {w0 w : World} {G : Heap} {h : HD} {rs : List RW} (hn : New w0 w G) (hm : ∀ y ∈ gbR rwR 25 h rs, y ∈ G) (hm2 : ∀ y ∈ rwB rs, y ∈ G) (ho : goR rwR h rs) (hok : rwOk rs) : LsAt w (gp h) (rs.map RW.l) := by
  have hr := RecsAt.s (R := rwR) hn hm ho
  intro j hj
  rw [List.length_map] at hj
  obtain ⟨q, hq, hc⟩ := hr j hj
  have hmem := rw_at hj
  have e : (rs.map RW.l).getD j [] = (rs.getD j default).l := by simp [List.getD, hj]
  have h1 := hok _ hmem
  have c0 := hc 0 _ rfl
  rw [gval_eq h1, addr_add_add] at c0
  rw [e]
  exact ⟨q, hq, _, _, c0, IntsAt.g (x := ((rs.getD j default).h, (rs.getD j default).l)) hn (fun y hy => hm2 y (rwB_mem hmem y hy)) h1⟩
theorem rwB_app (a b : List RW) : rwB (a ++ b) = rwB a ++ rwB b := by simp [rwB]
theorem rwB_at {rs : List RW} {k : Nat} (hk : k < rs.length) (R : Heap) : rwB rs ++ R = rwB (rs.take k) ++ (gbI ((rs.getD k default).h, (rs.getD k default).l) ++ (rwB (rs.drop (k + 1)) ++ R)) := by
  have e : rs = rs.take k ++ rs.getD k default :: rs.drop (k + 1) := by
    have := List.take_append_drop k rs
    rw [List.drop_eq_getElem_cons hk] at this
    rw [show rs.getD k default = rs[k] by simp [List.getD, hk]]
    exact this.symm
  conv => lhs; rw [e]
  rw [rwB_app, show rwB (rs.getD k default :: rs.drop (k + 1)) = gbI ((rs.getD k default).h, (rs.getD k default).l) ++ rwB (rs.drop (k + 1)) from rfl]
  simp only [List.append_assoc]
theorem rwB_set {rs : List RW} {k : Nat} (hk : k < rs.length) (r : RW) (R : Heap) : rwB (rs.set k r) ++ R = rwB (rs.take k) ++ (gbI (r.h, r.l) ++ (rwB (rs.drop (k + 1)) ++ R)) := by
  have h1 : k < (rs.set k r).length := by simpa using hk
  rw [rwB_at h1 R]
  have e1 : (rs.set k r).getD k default = r := by simp [List.getD, hk]
  have e2 : (rs.set k r).take k = rs.take k := by rw [List.take_set]; exact List.set_eq_of_length_le (by rw [List.length_take]; omega)
  have e3 : (rs.set k r).drop (k + 1) = rs.drop (k + 1) := by rw [List.drop_set]; simp
  rw [e1, e2, e3]
theorem rw_ok0 (n : Nat) : rwOk (List.replicate n ⟨none, []⟩) := fun r hr => by rw [List.eq_of_mem_replicate hr]; exact ⟨rfl, rfl⟩
theorem rw_go0 (b n : Nat) : goR rwR (some (b, n, [])) (List.replicate n ⟨none, []⟩) := by
  refine ⟨rcs_len _, ?_⟩
  show n * 1 = (rcs rwR _).length + 0 ∧ _
  rw [rcs_len, List.length_replicate]
  exact ⟨by show n * 1 = n * 1 + 0; omega, Nat.le_refl _⟩
theorem rw_blk0 (b n : Nat) : (b, Obj.cells (List.replicate n (Value.slice none 0 0)).toArray 25 (0, 0)) :: rwB (List.replicate n ⟨none, []⟩) = gbR rwR 25 (some (b, n, [])) (List.replicate n ⟨none, []⟩) ++ rwB (List.replicate n ⟨none, []⟩) := by
  have : rcs rwR (List.replicate n ⟨none, []⟩) = List.replicate n (Value.slice none 0 0) := by
    induction n with
    | zero => rfl
    | succ n ih => rw [List.replicate_succ, List.replicate_succ, ← ih]; rfl
  show _ = [(b, Obj.cells (rcs rwR _ ++ []).toArray 25 (0, 0))] ++ _
  rw [this, List.append_nil]
  rfl
theorem rwB_none (n : Nat) : rwB (List.replicate n ⟨none, []⟩) = [] := by
  induction n with
  | zero => rfl
  | succ n ih => rw [List.replicate_succ]; show [] ++ rwB _ = []; rw [ih]; rfl
theorem rwOk.set {rs : List RW} (h : rwOk rs) {r : RW} (hr : goI (r.h, r.l)) (k : Nat) : rwOk (rs.set k r) := fun x hx => by
  rcases List.mem_or_eq_of_mem_set hx with h1 | h1
  · exact h x h1
  · rw [h1]; exact hr
end Go.Proofs.YtbnjmkidbfmomaaGreatDoor
namespace Go.Proofs.YtbnjmkidbfmomaaGreatDoor
open Go.Sx Go.RowKit Go.Sand
structure CpS (m : List (List Int)) (k : Nat) (h : HD) (rs : List RW) : Prop where
  len : rs.length = m.length
  go : goR rwR h rs
  ok : rwOk rs
  l : ∀ j, j < m.length → (rs.getD j default).l = if j < k then m.getD j [] else []
theorem CpS.zero {m : List (List Int)} {b n : Nat} (hn : m.length = n) : CpS m 0 (some (b, n, [])) (List.replicate n ⟨none, []⟩) := by
  subst hn
  refine ⟨List.length_replicate, rw_go0 b _, rw_ok0 _, fun j hj => ?_⟩
  rw [if_neg (Nat.not_lt_zero _), show (List.replicate m.length (⟨none, []⟩ : RW)).getD j default = ⟨none, []⟩ by simp [List.getD, hj]]
theorem CpS.step {m : List (List Int)} {k : Nat} {h h' : HD} {rs : List RW} (s : CpS m k h rs) (hk : k < m.length) (ho : goI (h', m.getD k [])) : CpS m (k + 1) h (rs.set k ⟨h', m.getD k []⟩) := by
  have hl := s.len
  refine ⟨by rw [List.length_set]; exact hl, goR_len s.go (by simp), s.ok.set ho k, fun j hj => ?_⟩
  rw [List.getD_eq_getElem?_getD, List.getElem?_set]
  by_cases e : k = j
  · subst e
    rw [if_pos rfl, if_pos (by omega), if_pos (Nat.lt_succ_self _)]
    rfl
  · rw [if_neg e, ← List.getD_eq_getElem?_getD, s.l j hj]
    by_cases e2 : j < k
    · rw [if_pos e2, if_pos (by omega)]
    · rw [if_neg e2, if_neg (by omega)]
theorem CpS.fin {m : List (List Int)} {k : Nat} {h : HD} {rs : List RW} (s : CpS m k h rs) (hk : m.length ≤ k) : rs.map RW.l = m := by
  have hl := s.len
  refine List.ext_getElem (by rw [List.length_map]; exact hl) fun j h1 h2 => ?_
  have h3 := s.l j h2
  rw [if_pos (by omega)] at h3
  rw [List.getElem_map]
  have e1 : rs.getD j default = rs[j]'(by omega) := by simp [List.getD, show j < rs.length by omega]
  have e2 : m.getD j [] = m[j] := by simp [List.getD, h2]
  rw [← e1, ← e2, h3]
end Go.Proofs.YtbnjmkidbfmomaaGreatDoor
namespace Go.Proofs.YtbnjmkidbfmomaaGreatDoor
open Go.Sx Go.RowKit
theorem perm_of {A B : Heap} (h : ∀ c : (Nat × Obj) → Nat, (A.map c).sum = (B.map c).sum) : List.Perm A B := by
  classical
  rw [List.perm_iff_count]
  intro a
  have hc : ∀ l : Heap, (l.map fun x => if x = a then 1 else 0).sum = l.count a := fun l => by
    induction l with
    | nil => rfl
    | cons x l ih =>
      rw [List.map_cons, List.sum_cons, ih, List.count_cons]
      by_cases e : x = a
      · subst e; simp; omega
      · simp [e]
  rw [← hc A, ← hc B]
  exact h _
end Go.Proofs.YtbnjmkidbfmomaaGreatDoor
namespace Go.Proofs.YtbnjmkidbfmomaaGreatDoor
open Go.Sx Go.RowKit Go.Bt Go.Lib Go.Sand
set_option maxHeartbeats 2000000 in
theorem copied_ok (w0 : World) (p : Option Addr) (cp : Nat) (m : List (List Int)) (hr : LsAt w0 p m) (hml : m.length ≤ 1000) (hM : ∀ k, (m.getD k []).length ≤ 1000000) :
    Calls Tryz.prog 99 #[.slice p m.length cp] w0 (Post (X := HD × List RW) (fun y => gval y.1 m.length) (fun y => goR rwR y.1 y.2 ∧ rwOk y.2 ∧ y.2.map RW.l = m) (fun y => gbR rwR 25 y.1 y.2 ++ rwB y.2) w0) := by
  refine calls Tryz.func99 rfl (n := 23) rfl (by simp) ?_
  refine zr (za rfl (zk (zm rfl (zq (PV.len rfl Tb.sl_22) rfl (TL.make (k := m.length) rfl rfl Tb.sl_22 Tb.zi_25 rfl rfl om om rfl dc (fun bO hbO => ?_))))))
  refine TL.congrG (G' := gbR rwR 25 (some (bO, m.length, [])) (List.replicate m.length ⟨none, []⟩) ++ (rwB (List.replicate m.length ⟨none, []⟩) ++ [])) (by rw [← List.append_assoc, ← rw_blk0, rwB_none]; rfl) ?_
  refine za rfl (zn (TC.seq (zr (zm rfl (zq (PV.len rfl Tb.sl_22) rfl (zm rfl (zn (TC.block (TC.lit [(2, _), (3, _), (9, _), (10, _), (11, _)] l9z ?_)))))))))
  refine TC.loopK [2, 3, 9, 10] (X := Nat × List RW) (fun x => x.1 ≤ m.length ∧ CpS m x.1 (some (bO, m.length, [])) x.2) (fun x => [(11, .int .i64 x.1)]) (fun x => gbR rwR 25 (some (bO, m.length, [])) x.2 ++ (rwB x.2 ++ [])) (fun x => m.length - x.1) (0, List.replicate m.length ⟨none, []⟩) ⟨Nat.zero_le _, CpS.zero rfl⟩ l9z (List.Sublist.refl _) ?_
  intro x hx9
  refine TC.lit [(2, _), (3, _), (9, _), (10, _), (11, _)] l9z ?_
  refine zr (zq (PV.lss rfl rfl) rfl (zn (TC.seq (TC.cd rfl (fun hlt => ?_) (fun hlt => ?_)))))
  refine TC.skip (TQ.thenC (TC.seq (TC.block (TC.seq ?_))))
  obtain ⟨q1, q1p, pj, cj, q1c, q1i⟩ := hr x.1 (by omega)
  have hMk := hM x.1
  have hxl := hx9.2.len
  have hxg := hx9.2.go
  have hgk : gok (some (bO, m.length, [])) m.length 1 (rcs rwR x.2) := by have h5 := hxg; unfold goR at h5; rw [hxl] at h5; exact h5
  refine TC.region (zm rfl (zq (PV.indexA rfl q1p rfl Tb.elm_22 rfl om) rfl (zq (PV.loadOld rfl Tb.one_25 q1c) rfl (za rfl (za rfl (zn (TC.region (zm rfl (zm rfl (zm rfl (TL.call rfl Tb.gofn_67 (fun a w hs => clone_ok w _ _ _ (q1i.new hs.new) hMk) rfl dc (fun hh hhh => ?_))))))))))))
  refine zq (PV.indexG (h := some (bO, m.length, [])) (len := m.length) (ys := rcs rwR x.2) (j := x.1) rfl rfl hgk Tb.elm_22 rfl om) rfl (TL.putCell (R := rwR) (h := some (bO, m.length, [])) (l0 := x.2) (j := x.1) (f := 0) (v := gval hh (m.getD x.1 []).length) (r := ⟨hh, m.getD x.1 []⟩) (e := 25) rfl rfl Tb.cells_25 (gval_one _ _) hxg rfl p9z om Nat.one_pos rfl rfl ?_)
  refine TL.nil (TQ.blkN (TQ.thenC (TC.region (zq (PV.add rfl rfl om) rfl (zm rfl (TL.nil (TQ.thenN (TQ.perm (G' := gbR rwR 25 (some (bO, m.length, [])) (x.2.set x.1 ⟨hh, m.getD x.1 []⟩) ++ (rwB (x.2.set x.1 ⟨hh, m.getD x.1 []⟩) ++ gbI ((x.2.getD x.1 default).h, (x.2.getD x.1 default).l))) (perm_of fun c9 => by rw [rwB_set om]; have h5 := congrArg (fun l => (l.map c9).sum) (rwB_at (rs := x.2) (show x.1 < x.2.length by omega) []); simp only [List.map_append, List.sum_append, List.map_cons, List.sum_cons, List.map_nil, List.sum_nil, gbI, gbR] at h5 ⊢; omega) ?_))))))))
  refine TQ.backK (x.1 + 1, x.2.set x.1 ⟨hh, m.getD x.1 []⟩) l9z l9z (List.Sublist.append_left (List.Sublist.append_left (List.nil_sublist _) _) _) ⟨by simp only; omega, hx9.2.step om hhh⟩ (by simp only; omega)
  refine TC.exit (TQ.thenE (TQ.thenE (TQ.blkS (TQ.thenC (zr (zm rfl (za rfl (zt (TQ.retE1 rfl rfl ?_)))))))))
  exact ⟨(some (bO, m.length, []), x.2), rfl, ⟨hx9.2.go, hx9.2.ok, hx9.2.fin (by omega)⟩, by simp only [List.append_nil]; exact List.Sublist.refl _⟩
theorem clone_v (w : World) (pl : Option Addr) (cl : Nat) (xs : List Int) (hx : IntsAt w pl xs) (hl : xs.length ≤ 1000000) :
    Calls Tryz.prog 67 #[.slice pl xs.length cl] w (Post (X := HD) (fun h => .slice (gp h) xs.length (gc h)) (fun h => goI (h, xs)) (fun h => gbI (h, xs)) w) :=
  (clone_ok w pl cl xs hx hl).mono fun _ _ ⟨y, e1, e2, e3⟩ => ⟨y, by rw [e1]; exact congrArg Ending.returned (gvs e2), e2, e3⟩
theorem copied_v (w : World) (p : Option Addr) (cp : Nat) (m : List (List Int)) (hr : LsAt w p m) (hml : m.length ≤ 1000) (hM : ∀ k, (m.getD k []).length ≤ 1000000) :
    Calls Tryz.prog 99 #[.slice p m.length cp] w (Post (X := HD × List RW) (fun y => .slice (gp y.1) m.length (gc y.1)) (fun y => goR rwR y.1 y.2 ∧ rwOk y.2 ∧ y.2.map RW.l = m) (fun y => gbR rwR 25 y.1 y.2 ++ rwB y.2) w) :=
  (copied_ok w p cp m hr hml hM).mono fun _ _ ⟨y, e1, e2, e3⟩ => ⟨y, by
    have hl : y.2.length = m.length := by rw [← e2.2.2, List.length_map]
    have hg : goR rwR y.1 y.2 := e2.1
    rw [e1, ← hl]; exact congrArg Ending.returned (gval_eq (sz := 1) hg), e2, e3⟩
end Go.Proofs.YtbnjmkidbfmomaaGreatDoor
