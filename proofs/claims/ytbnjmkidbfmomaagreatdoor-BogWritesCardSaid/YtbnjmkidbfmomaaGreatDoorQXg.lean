/- What is behind an order: contracts. -/
import Derived.Test.YtbnjmkidbfmomaaGreatDoorQXf
import Derived.Test.YtbnjmkidbfmomaaGreatDoorQEr
set_option linter.unusedVariables false
set_option linter.unusedSimpArgs false
namespace Go.Proofs.YtbnjmkidbfmomaaGreatDoor
open Go.Sx Go.RowKit Go.Bt Go.Lib Go.Sand

/-- A text, as a record of one cell. -/
def stR : Rec (List UInt8) := ⟨fun s => [str s], 1, fun _ => rfl, fun s v h => by
  rw [List.mem_singleton] at h; subst h; rfl, Nat.one_pos⟩
abbrev tyZ : List Value := [.int .i64 0, .int .i64 0, .int .i64 0, .int .i64 0, .int .i64 0, .int .i64 0, .bool false, .slice none 0 0, .slice none 0 0]
noncomputable def afC (s : St) (c : Co) (t : List UInt8) : Co := match prsO t with
  | none => c
  | some o => if 100 ≤ c.ords.length then c else chgC s c o
theorem do_none {s : St} {c : Co} {t : List UInt8} (hp : prsO t = none) : doI s c t = 2 := by unfold doI; rw [hp]
theorem do_full {s : St} {c : Co} {t : List UInt8} {o : Od} (hp : prsO t = some o) (h : 100 ≤ c.ords.length) : doI s c t = 3 := by unfold doI; rw [hp]; simp only; rw [if_pos h]
theorem do_some {s : St} {c : Co} {t : List UInt8} {o : Od} (hp : prsO t = some o) (h : ¬ 100 ≤ c.ords.length) : doI s c t = actI s c o := by unfold doI; rw [hp]; simp only; rw [if_neg h]
theorem af_some {s : St} {c : Co} {t : List UInt8} {o : Od} (hp : prsO t = some o) (h : ¬ 100 ≤ c.ords.length) : afC s c t = chgC s c o := by unfold afC; rw [hp]; simp only; rw [if_neg h]
theorem af_full {s : St} {c : Co} {t : List UInt8} {o : Od} (hp : prsO t = some o) (h : 100 ≤ c.ords.length) : afC s c t = c := by unfold afC; rw [hp]; simp only; rw [if_pos h]
theorem do_af {s : St} {c : Co} {t : List UInt8} (h : doI s c t = 0) : doC s c t = { afC s c t with ords := c.ords ++ [t] } := by
  obtain ⟨o, hp, hl, ha, e⟩ := doC_yes h
  rw [e, af_some hp (by omega), chg_yes ha]
def afV (e : Int) (t : List UInt8) (c' : Co) (v : TV) : Value := if e = 0 then .tuple #[.agg (tyL c' v).toArray, .nilIface] else .tuple #[.agg tyZ.toArray, .iface 109 (.agg #[str t, .int .i64 e])]
theorem afV_0 {e : Int} {t : List UInt8} {c' : Co} {v : TV} (h : e = 0) : afV e t c' v = .tuple #[.agg (tyL c' v).toArray, .nilIface] := if_pos h
theorem afV_e {e : Int} {t : List UInt8} {c' : Co} {v : TV} (h : e ≠ 0) : afV e t c' v = .tuple #[.agg tyZ.toArray, .iface 109 (.agg #[str t, .int .i64 e])] := if_neg h
theorem ords_len {h : HD} {l : List (List UInt8)} (ho : goR stR h l) : gval h l.length = .slice (gp h) l.length (gc h) := by
  have e := rcs_len (R := stR) l
  exact gval_eq (sz := 1) (by unfold goR at ho; exact ho)
theorem od_ok {t : List UInt8} {o : Od} (h : prsO t = some o) : OdOk o := prs_ns h
section
variable {P : Program} {n : Nat} {w0 : World} {E : Env} {G : Heap} {d : Option Nat} {ty : TypeId} {pos : String} {aft : Array Edge} {g : Option (Nat × Bool)}
theorem PV.makeIface {t : Nat} {x : Operand} {v : Value} (hx : evo E x = some v) (ht : P.concrete t = true) : PV P n w0 E G ⟨d, .makeInterface t x, ty, pos, aft, g⟩ (.iface t v) :=
  fun a w hs => by simp [execOp, hs.ev hx, run_makeInterface (P := P) w t v ht]
theorem PV.eqPtr {x : Operand} {a : Option Addr} {t' : TypeId} (hx : evo E x = some (.pointer a)) : PV Tryz.prog n w0 E G ⟨d, .binOp .eql 30 x (.const (.pointer none)) t', ty, pos, aft, g⟩ (.bool a.isNone) :=
  PV.cmp hx rfl (fun w => by cases a <;> (cases x <;> rfl)) (fun w => by cases a <;> kernel_rfl)
end
section
variable {n : Nat} {w0 : World} {E : Env} {G : Heap} {d : Option Nat} {ty : TypeId} {pos : String} {aft : Array Edge} {g : Option (Nat × Bool)}
theorem PV.lenO {x : Operand} {h : HD} {l : List (List UInt8)} (hx : evo E x = some (gval h l.length)) (hg : goR stR h l) : PV Tryz.prog n w0 E G ⟨d, .call { callee := .builtin .len, args := #[x], argTypes := #[43] }, ty, pos, aft, g⟩ (.int .i64 (l.length : Nat)) :=
  PV.len (by rw [hx, ords_len hg]) Tb.sl_43
end
/-- A company in memory: its block; its orders and all else follow. -/
abbrev coB (b : Nat) (s : St) (u : SU) (lk : Int) (c : Co) (v : TV) (ho : HD) : Nat × Obj := (b, .cells (coL s u lk c v (gval ho c.ords.length)).toArray 103 (0, 0))
theorem lock_co {w0 w : World} {b : Nat} {s : St} {u : SU} {c : Co} {v : TV} {ho : HD} {Z : Heap} (hN : New w0 w (coB b s u 0 c v ho :: Z)) :
    Calls Tryz.prog 62 #[.pointer (some ⟨b, 6, none⟩)] w fun e w' => ∃ x : Unit, e = .returned (.tuple #[]) ∧ True ∧ New w0 w' (coB b s u 1 c v ho :: Z) :=
  lock_new (cs := (coL s u 0 c v (gval ho c.ords.length)).toArray) hN (Upd.head _) rfl
theorem as_new {w0 w : World} (hW : WAt w) {b : Nat} {x y o1 o2 : Value} (hx : x.oneCell' = true) (hy : y.oneCell' = true) {G : Heap} (hN : New w0 w ((b, .cells #[o1, o2] 109 (0, 0)) :: G)) :
    Calls Tryz.prog 65 #[.iface 109 (.agg #[x, y]), .iface 111 (.pointer (some ⟨b, 0, none⟩))] w fun e w' => ∃ z : Unit, e = .returned (.bool true) ∧ True ∧ New w0 w' ((b, .cells #[x, y] 109 (0, 0)) :: G) := by
  have hb : w.heap[b]? = some (.cells #[o1, o2] 109 (0, 0)) := hN.here _ (.head _)
  refine (as_hit b x y o1 o2 hx hy w hW.er hb).mono fun e w' ⟨h1, h2⟩ => ⟨(), h1, trivial, ?_⟩
  rw [h2]
  have h3 := (((hN.alloc (.cells #[.pointer (some ⟨b, 0, none⟩)] 111)).alloc (.cells #[.pointer (some ⟨9, 111, none⟩), .pointer (some ⟨w.heap.size, 0, none⟩), .int .u64 150] 152)).alloc (.cells #[.pointer (some ⟨9, 111, none⟩), .pointer (some ⟨w.heap.size, 0, none⟩), .int .u64 150] 152)).alloc (.cells #[x, y] 109)
  have h4 := h3.sub (List.sublist_append_right [_, _, _, _] ((b, .cells #[o1, o2] 109 (0, 0)) :: G))
  have h5 := h4.here (b, .cells #[o1, o2] 109 (0, 0)) (.head _)
  refine h4.turn (Upd.head _) ?_ ?_ rfl rfl rfl ?_ rfl
  · simp only at h5
    simp only [World.setRow, Array.getElem?_modify, if_true, h5, Option.map_some]
  · intro k hk
    simp only [World.setRow, Array.getElem?_modify]
    rw [if_neg (by omega)]
  · simp [World.setRow]
theorem fill_s (L : List UInt8) : Instr.fill (fun i => some (i * 1, 1)) ((Array.range (1 * 1)).map ((Value.string ⟨#[]⟩).cells[· % (Value.string ⟨#[]⟩).cells.size]!)) [(0, str L)] = some #[str L] := by kernel_rfl
theorem Inv.need {s : St} (hv : SV s) : s.need ≠ 0 := by
  have := hv.mo.K1
  have h2 := hv.nd
  have e : s.md.K = s.need.toNat := rfl
  rw [e] at this
  omega

set_option maxRecDepth 100000 in
theorem isNone_ok (w0 : World) (b : Nat) (k : Int) (hk : k ≠ 0) (hc : w0.cell? ⟨b, 5, none⟩ = some (.int .i64 k)) :
    Calls Tryz.prog 61 #[.pointer (some ⟨b, 0, none⟩)] w0 (Post (X := Unit) (fun _ => .bool false) (fun _ => True) (fun _ => []) w0) := by
  refine calls Tryz.func61 rfl (n := 14) rfl (by simp) ?_
  refine TC.seq ?_
  refine TC.region ?_
  refine TL.pure (PV.assign rfl) rfl (by decide) ?_
  refine TL.nil ?_
  refine TQ.thenC ?_
  refine TC.seq ?_
  refine TC.region ?_
  refine TL.pure (PV.move rfl) rfl (by decide) ?_
  refine TL.pure (PV.eqPtr rfl) rfl (by decide) ?_
  refine TL.pure (PV.move rfl) rfl (by decide) ?_
  refine TL.pure (PV.move rfl) rfl (by decide) ?_
  refine TL.pure (PV.nilCheck rfl) rfl (by decide) ?_
  refine TL.pure (PV.fieldAddr rfl Tb.fo_103_0) rfl (by decide) ?_
  refine TL.pure (PV.fieldAddr rfl Tb.fo_90_2) rfl (by decide) ?_
  refine TL.pure (PV.fieldAddr rfl Tb.fo_52_2) rfl (by decide) ?_
  refine TL.pure (PV.loadOld rfl Tb.one_3 hc) rfl (by decide) ?_
  refine TL.pure (PV.eql rfl rfl) rfl (by decide) ?_
  refine TL.pure (PV.pickF rfl rfl) rfl (by decide) ?_
  refine TL.pure (PV.assign rfl) rfl (by decide) ?_
  refine TL.nil ?_
  refine TQ.thenC ?_
  refine TC.ret ?_
  refine TQ.retE1 rfl rfl ?_
  exact ⟨(), by rw [decide_eq_false hk], trivial, List.nil_sublist _⟩

set_option maxRecDepth 100000 in
theorem after_n (w0 w : World) (hW : WAt w0) (s : St) (hv : SV s) (u : SU) (c : Co) (v : TV) (hi : Inv s c) (b : Nat) (ho : HD) (hgo : goR stR ho c.ords) (Z : Heap) (hN : New w0 w (coB b s u 1 c v ho :: Z)) (Zf : Heap) (hZf : List.Sublist Zf Z) (hS : ∀ w9, New w0 w9 Zf → SiteAt w9 s u) (hT : ∀ w9, New w0 w9 Zf → TurAt w9 c v) (t : List UInt8) (ht : t.length ≤ 1000000) (hp : prsO t = none) :
    Calls Tryz.prog 64 #[.pointer (some ⟨b, 0, none⟩), str t] w (Post (X := TV × Heap) (fun y => afV (doI s c t) t (afC s c t) y.1) (fun y => ∀ w9, New w0 w9 (y.2 ++ Zf) → TurAt w9 (afC s c t) y.1) (fun y => y.2 ++ (coB b s u 1 c v ho :: Z)) w0) := by
  refine callsM hN Tryz.func64 rfl (n := 49) rfl (by simp) ?_
  refine TC.seq ?_
  refine TC.region ?_
  refine TL.alloc Tb.zero_101 rfl (by decide) (fun b0 hb0 => ?_)
  refine TL.pure (PV.assign rfl) rfl (by decide) ?_
  refine TL.nil ?_
  refine TQ.thenC ?_
  refine TC.seq ?_
  refine TC.region ?_
  refine TL.pure (PV.move rfl) rfl (by decide) ?_
  refine TL.call rfl Tb.gofn_102 (fun a w hs => (by have h := orderIn_ok w (hW.new hs.new) t ht; rw [hp] at h; exact h)) rfl (by decide) (fun bn _ => ?_)
  refine TL.pure (PV.move rfl) rfl (by decide) ?_
  refine TL.pure (PV.extract rfl rfl) rfl (by decide) ?_
  refine TL.pure (PV.extract rfl rfl) rfl (by decide) ?_
  refine TL.alloc Tb.zero_144 rfl (by decide) (fun b1 hb1 => ?_)
  refine TL.storeAgg rfl rfl Tb.cells_144 (by repeat (first | exact Upd.head _ | apply Upd.tail | apply Upd.appR)) rfl rfl rfl rfl rfl ?_
  refine TL.pure (PV.assign rfl) rfl (by decide) ?_
  refine TL.nil ?_
  refine TQ.thenC ?_
  refine TC.seq ?_
  refine TC.seq ?_
  refine TC.region ?_
  refine TL.pure (PV.move rfl) rfl (by decide) ?_
  refine TL.pure (PV.not rfl) rfl (by decide) ?_
  refine TL.nil ?_
  refine TQ.thenC ?_
  refine TC.condT rfl ?_
  refine TC.seq ?_
  refine TC.region ?_
  refine TL.pure (PV.build rfl Tb.zero_101 Tb.pl_101 rfl) rfl (by decide) ?_
  refine TL.pure (PV.move rfl) rfl (by decide) ?_
  refine TL.pure (PV.build rfl Tb.zero_109 Tb.pl_109 rfl) rfl (by decide) ?_
  refine TL.pure (PV.makeIface rfl (by kernel_rfl)) rfl (by decide) ?_
  refine TL.storeAgg rfl rfl Tb.cells_101 (by repeat (first | exact Upd.head _ | apply Upd.tail | apply Upd.appR)) rfl rfl rfl rfl rfl ?_
  refine TL.pure (PV.assign rfl) rfl (by decide) ?_
  refine TL.nil ?_
  refine TQ.thenC ?_
  refine TC.ret ?_
  refine TQ.thenR ?_
  refine TQ.retR rfl (Res.agg rfl Tb.agg_101 (by repeat (first | exact List.Mem.head _ | refine List.Mem.tail _ ?_ | refine List.mem_append_right _ ?_)) rfl (Res.tmp rfl Res.nil)) ?_
  simp only [tup]
  have hE := do_none (s := s) (c := c) hp
  have hA : afC s c t = c := by unfold afC; rw [hp]
  exact ⟨(v, []), by rw [afV_e (by rw [hE]; decide), hE]; rfl, by rw [hA]; exact hT, (by repeat (first | exact .slnil | exact List.nil_sublist _ | exact .refl _ | refine .cons_cons _ ?_ | refine .cons _ ?_ | refine .trans ?_ (List.sublist_append_right _ _)))⟩

set_option maxRecDepth 100000 in
set_option maxHeartbeats 1000000 in
theorem after_y (w0 w : World) (hW : WAt w0) (s : St) (hv : SV s) (u : SU) (c : Co) (v : TV) (hi : Inv s c) (b : Nat) (ho : HD) (hgo : goR stR ho c.ords) (Z : Heap) (hN : New w0 w (coB b s u 1 c v ho :: Z)) (Zf : Heap) (hZf : List.Sublist Zf Z) (hS : ∀ w9, New w0 w9 Zf → SiteAt w9 s u) (hT : ∀ w9, New w0 w9 Zf → TurAt w9 c v) (t : List UInt8) (ht : t.length ≤ 1000000) (o : Od) (hp : prsO t = some o) :
    Calls Tryz.prog 64 #[.pointer (some ⟨b, 0, none⟩), str t] w (Post (X := TV × Heap) (fun y => afV (doI s c t) t (afC s c t) y.1) (fun y => ∀ w9, New w0 w9 (y.2 ++ Zf) → TurAt w9 (afC s c t) y.1) (fun y => y.2 ++ (coB b s u 1 c v ho :: Z)) w0) := by
  refine callsM hN Tryz.func64 rfl (n := 49) rfl (by simp) ?_
  refine TC.seq ?_
  refine TC.region ?_
  refine TL.alloc Tb.zero_101 rfl (by decide) (fun b0 hb0 => ?_)
  refine TL.pure (PV.assign rfl) rfl (by decide) ?_
  refine TL.nil ?_
  refine TQ.thenC ?_
  refine TC.seq ?_
  refine TC.region ?_
  refine TL.pure (PV.move rfl) rfl (by decide) ?_
  refine TL.call rfl Tb.gofn_102 (fun a w hs => (by have h := orderIn_ok w (hW.new hs.new) t ht; rw [hp] at h; exact h)) rfl (by decide) (fun bn _ => ?_)
  refine TL.pure (PV.move rfl) rfl (by decide) ?_
  refine TL.pure (PV.extract rfl rfl) rfl (by decide) ?_
  refine TL.pure (PV.extract rfl rfl) rfl (by decide) ?_
  refine TL.alloc Tb.zero_144 rfl (by decide) (fun b1 hb1 => ?_)
  refine TL.storeAgg rfl rfl Tb.cells_144 (by repeat (first | exact Upd.head _ | apply Upd.tail | apply Upd.appR)) rfl rfl rfl rfl rfl ?_
  refine TL.pure (PV.assign rfl) rfl (by decide) ?_
  refine TL.nil ?_
  refine TQ.thenC ?_
  refine TC.seq ?_
  refine TC.seq ?_
  refine TC.region ?_
  refine TL.pure (PV.move rfl) rfl (by decide) ?_
  refine TL.pure (PV.not rfl) rfl (by decide) ?_
  refine TL.nil ?_
  refine TQ.thenC ?_
  refine TC.condF rfl ?_
  refine TC.skip ?_
  refine TQ.thenC ?_
  refine TC.seq ?_
  refine TC.seq ?_
  refine TC.region ?_
  refine TL.pure (PV.move rfl) rfl (by decide) ?_
  refine TL.pure (PV.nilCheck rfl) rfl (by decide) ?_
  refine TL.pure (PV.fieldAddr rfl Tb.fo_103_3) rfl (by decide) ?_
  refine TL.pure (PV.load rfl Tb.one_43 (by repeat (first | exact List.Mem.head _ | refine List.Mem.tail _ ?_ | refine List.mem_append_right _ ?_)) rfl) rfl (by decide) ?_
  refine TL.pure (PV.lenO rfl hgo) rfl (by decide) ?_
  refine TL.pure (PV.eql rfl rfl) rfl (by decide) ?_
  refine TL.nil ?_
  refine TQ.thenC ?_
  first | refine TC.condD rfl (fun gl => ?_) (fun gl => ?_) | refine TC.cond rfl (fun gl => ?_) (fun gl => ?_)
  · refine TC.seq ?_
    refine TC.region ?_
    refine TL.pure (PV.build rfl Tb.zero_101 Tb.pl_101 rfl) rfl (by decide) ?_
    refine TL.pure (PV.move rfl) rfl (by decide) ?_
    refine TL.pure (PV.build rfl Tb.zero_109 Tb.pl_109 rfl) rfl (by decide) ?_
    refine TL.pure (PV.makeIface rfl (by kernel_rfl)) rfl (by decide) ?_
    refine TL.storeAgg rfl rfl Tb.cells_101 (by repeat (first | exact Upd.head _ | apply Upd.tail | apply Upd.appR)) rfl rfl rfl rfl rfl ?_
    refine TL.pure (PV.assign rfl) rfl (by decide) ?_
    refine TL.nil ?_
    refine TQ.thenC ?_
    refine TC.ret ?_
    refine TQ.thenR ?_
    refine TQ.retR rfl (Res.agg rfl Tb.agg_101 (by repeat (first | exact List.Mem.head _ | refine List.Mem.tail _ ?_ | refine List.mem_append_right _ ?_)) rfl (Res.tmp rfl Res.nil)) ?_
    simp only [tup]
    have hE := do_full (s := s) (c := c) hp (by omega)
    exact ⟨(v, []), by rw [afV_e (by rw [hE]; decide), hE]; rfl, by rw [af_full hp (by omega)]; exact hT, (by repeat (first | exact .slnil | exact List.nil_sublist _ | exact .refl _ | refine .cons_cons _ ?_ | refine .cons _ ?_ | refine .trans ?_ (List.sublist_append_right _ _)))⟩
  · refine TC.skip ?_
    refine TQ.thenC ?_
    refine TC.seq ?_
    refine TC.region ?_
    refine TL.pure (PV.move rfl) rfl (by decide) ?_
    refine TL.pure (PV.nilCheck rfl) rfl (by decide) ?_
    refine TL.pure (PV.fieldAddr rfl Tb.fo_103_2) rfl (by decide) ?_
    refine TL.pure (PV.loadMid (cs := coL s u 1 c v (gval ho c.ords.length)) (off := 8) (k := 9) (vs := tyL c v) rfl Tb.agg_101 (by repeat (first | exact List.Mem.head _ | refine List.Mem.tail _ ?_ | refine List.mem_append_right _ ?_)) rfl rfl) rfl (by decide) ?_
    refine TL.alloc Tb.zero_101 rfl (by decide) (fun b2 hb2 => ?_)
    refine TL.storeAgg rfl rfl Tb.cells_101 (by repeat (first | exact Upd.head _ | apply Upd.tail | apply Upd.appR)) rfl rfl rfl rfl rfl ?_
    refine TL.nil ?_
    refine TQ.thenC ?_
    refine TC.seq ?_
    refine TC.seq ?_
    refine TC.sub (G' := (b2, Obj.cells (tyL c v).toArray 101 (0, 0)) :: ((b1, Obj.cells [.int .i64 (o.k : Nat), .slice (some ⟨bn, 0, none⟩) o.ns.length o.ns.length].toArray 144 (0, 0)) :: (bn, Obj.cells (intsA o.ns) 3 (0, 0)) :: (b0, Obj.cells tyZ.toArray 101 (0, 0)) :: coB b s u 1 c v ho :: Z)) (List.Sublist.refl _) ?_
    refine TC.draw 5 Tb.mixed (by kernel_rfl) ?_
    simp only [List.take_succ_cons, List.take_zero, List.drop_succ_cons, List.drop_zero]
    refine TS.pure (PV.move rfl) rfl (by decide) ?_
    refine TS.pure (PV.nilCheck rfl) rfl (by decide) ?_
    refine TS.pure (PV.fieldAddr rfl Tb.fo_103_0) rfl (by decide) ?_
    refine TS.pure (PV.loadMid (cs := coL s u 1 c v (gval ho c.ords.length)) (off := 0) (k := 6) (vs := siL s u) rfl Tb.agg_90 (by repeat (first | exact List.Mem.head _ | refine List.Mem.tail _ ?_ | refine List.mem_append_right _ ?_)) rfl rfl) rfl (by decide) ?_
    refine TS.pure (PV.loadBox (cs := [.int .i64 (o.k : Nat), .slice (some ⟨bn, 0, none⟩) o.ns.length o.ns.length]) rfl Tb.agg_144 (by repeat (first | exact List.Mem.head _ | refine List.Mem.tail _ ?_ | refine List.mem_append_right _ ?_)) rfl) rfl (by decide) ?_
    refine TS.nil ?_
    refine TL.callW (X := TV × Heap) (fun _ => .int .i64 (actI s c o)) (fun y => ∀ w9, New w0 w9 (y.2 ++ ((bn, Obj.cells (intsA o.ns) 3 (0, 0)) :: Zf)) → TurAt w9 (chgC s c o) y.1) (fun y => (b2, Obj.cells (tyL (chgC s c o) y.1).toArray 101 (0, 0)) :: (y.2 ++ ((b1, Obj.cells [.int .i64 (o.k : Nat), .slice (some ⟨bn, 0, none⟩) o.ns.length o.ns.length].toArray 144 (0, 0)) :: (bn, Obj.cells (intsA o.ns) 3 (0, 0)) :: (b0, Obj.cells tyZ.toArray 101 (0, 0)) :: coB b s u 1 c v ho :: Z))) rfl Tb.gofn_103 (fun a w hs => change_ok w0 w s hv u c v hi b2 ((b1, Obj.cells [.int .i64 (o.k : Nat), .slice (some ⟨bn, 0, none⟩) o.ns.length o.ns.length].toArray 144 (0, 0)) :: (bn, Obj.cells (intsA o.ns) 3 (0, 0)) :: (b0, Obj.cells tyZ.toArray 101 (0, 0)) :: coB b s u 1 c v ho :: Z) hs.new ((bn, Obj.cells (intsA o.ns) 3 (0, 0)) :: Zf) (List.Sublist.cons _ (List.Sublist.cons_cons _ (List.Sublist.cons _ (List.Sublist.cons _ hZf)))) (fun w9 h9 => hS w9 (h9.sub (List.sublist_cons_self _ _))) (fun w9 h9 => hT w9 (h9.sub (List.sublist_cons_self _ _))) hW.tz o (od_ok hp) _ _ (fun w9 h9 => IntsAt.arr h9 (.head _))) rfl (by decide) (fun y hy => ?_)
    refine TL.pure (PV.assign rfl) rfl (by decide) ?_
    refine TL.nil ?_
    refine TQ.thenC ?_
    refine TC.seq ?_
    refine TC.region ?_
    refine TL.pure (PV.move rfl) rfl (by decide) ?_
    refine TL.pure (PV.neq rfl rfl) rfl (by decide) ?_
    refine TL.nil ?_
    refine TQ.thenC ?_
    first | refine TC.condD rfl (fun ge => ?_) (fun ge => ?_) | refine TC.cond rfl (fun ge => ?_) (fun ge => ?_)
    · refine TC.seq ?_
      refine TC.region ?_
      refine TL.pure (PV.build rfl Tb.zero_101 Tb.pl_101 rfl) rfl (by decide) ?_
      refine TL.pure (PV.move rfl) rfl (by decide) ?_
      refine TL.pure (PV.move rfl) rfl (by decide) ?_
      refine TL.pure (PV.build rfl Tb.zero_109 Tb.pl_109 rfl) rfl (by decide) ?_
      refine TL.pure (PV.makeIface rfl (by kernel_rfl)) rfl (by decide) ?_
      refine TL.storeAgg rfl rfl Tb.cells_101 (by repeat (first | exact Upd.head _ | apply Upd.tail | apply Upd.appR)) rfl rfl rfl rfl rfl ?_
      refine TL.pure (PV.assign rfl) rfl (by decide) ?_
      refine TL.nil ?_
      refine TQ.thenC ?_
      refine TC.ret ?_
      refine TQ.thenR ?_
      refine TQ.retR rfl (Res.agg rfl Tb.agg_101 (by repeat (first | exact List.Mem.head _ | refine List.Mem.tail _ ?_ | refine List.mem_append_right _ ?_)) rfl (Res.tmp rfl Res.nil)) ?_
      simp only [tup]
      have hE := do_some (s := s) (c := c) hp (by have := hi.ol; omega)
      have hA := af_some (s := s) (c := c) hp (by have := hi.ol; omega)
      exact ⟨(y.1, y.2 ++ [(bn, Obj.cells (intsA o.ns) 3 (0, 0))]), by rw [afV_e (by rw [hE]; exact ge), hE]; rfl, by rw [hA]; exact fun w9 h9 => hy w9 (by rw [List.append_assoc] at h9; exact h9), (by show List.Sublist ((y.2 ++ [_]) ++ (_ :: Z)) _; rw [List.append_assoc]; exact List.Sublist.cons _ (List.Sublist.append (List.Sublist.refl _) (List.Sublist.cons _ (List.Sublist.cons_cons _ (List.Sublist.cons _ (List.Sublist.refl _))))))⟩
    · refine TC.skip ?_
      refine TQ.thenC ?_
      refine TC.seq ?_
      refine TC.region ?_
      refine TL.pure (PV.loadBox rfl Tb.agg_101 (by repeat (first | exact List.Mem.head _ | refine List.Mem.tail _ ?_ | refine List.mem_append_right _ ?_)) rfl) rfl (by decide) ?_
      refine TL.storeAgg rfl rfl Tb.cells_101 (by repeat (first | exact Upd.head _ | apply Upd.tail | apply Upd.appR)) rfl rfl rfl rfl rfl ?_
      refine TL.pure (PV.assign rfl) rfl (by decide) ?_
      refine TL.nil ?_
      refine TQ.thenC ?_
      refine TC.ret ?_
      refine TQ.retR rfl (Res.agg rfl Tb.agg_101 (by repeat (first | exact List.Mem.head _ | refine List.Mem.tail _ ?_ | refine List.mem_append_right _ ?_)) rfl (Res.tmp rfl Res.nil)) ?_
      simp only [tup]
      have hE := do_some (s := s) (c := c) hp (by have := hi.ol; omega)
      have hA := af_some (s := s) (c := c) hp (by have := hi.ol; omega)
      exact ⟨(y.1, y.2 ++ [(bn, Obj.cells (intsA o.ns) 3 (0, 0))]), by rw [afV_0 (by rw [hE]; exact Decidable.not_not.1 ge), hA], by rw [hA]; exact fun w9 h9 => hy w9 (by rw [List.append_assoc] at h9; exact h9), (by show List.Sublist ((y.2 ++ [_]) ++ (_ :: Z)) _; rw [List.append_assoc]; exact List.Sublist.cons _ (List.Sublist.append (List.Sublist.refl _) (List.Sublist.cons _ (List.Sublist.cons_cons _ (List.Sublist.cons _ (List.Sublist.refl _))))))⟩

end Go.Proofs.YtbnjmkidbfmomaaGreatDoor
