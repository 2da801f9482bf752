/- Df Xa Xb Xc -/
import Derived.Test.YtbnjmkidbfmomaaGreatDoorV04
import Derived.Test.YtbnjmkidbfmomaaGreatDoorV05
import Derived.Test.YtbnjmkidbfmomaaGreatDoorV06
import Derived.Test.YtbnjmkidbfmomaaGreatDoorV10
import Derived.Test.YtbnjmkidbfmomaaGreatDoorV17
import Derived.Test.YtbnjmkidbfmomaaGreatDoorV19
import Derived.Recover
import Derived.Conc.MuLone
set_option linter.unusedVariables false
set_option linter.unusedSimpArgs false
set_option maxRecDepth 100000
namespace Go.Sx
open Go.RowKit
section
variable {P : Program} {ds : List Deferred} {n : Nat} {w0 : World} {E : Env} {G : Heap} {ops : Array Oper} {Q : Exit → Act → World → Prop} {c : Code} {K : Act → World → Prop}
variable {ty : TypeId} {pos : String} {aft : Array Edge} {g : Option (Nat × Bool)}
theorem callsDf {f : FuncId} {fn : Func} {vs : List Value} {R : Ending → World → Prop} (hf : P.funcs[f]? = some fn) (hb : fn.body = some c) (hn : fn.ntmps = n) (hl : vs.length ≤ n)
    (h : TG none [] P n w0 c (bodyPostD P fn R) (args 0 vs) []) : Calls P f vs.toArray w0 R :=
  calls_of_wp_defers hf hb ((wpIn_wide (n := 9)).1 (h { tmps := vs.toArray ++ Array.replicate (fn.ntmps - vs.toArray.size) undef, defers := [] } w0 ⟨by simp; omega, rfl, fun k v hk => by
    have := (look_args vs 0 k v hk).2
    simp only [Nat.sub_zero] at this
    rw [Array.getElem?_append_left (by have := (List.getElem?_eq_some_iff.1 this).1; simpa using this)]
    simpa using this, New.refl _⟩))
theorem callsDfM {f : FuncId} {fn : Func} {vs : List Value} {w : World} {R : Ending → World → Prop} (hN : New w0 w G) (hf : P.funcs[f]? = some fn) (hb : fn.body = some c) (hn : fn.ntmps = n) (hl : vs.length ≤ n)
    (h : TG none [] P n w0 c (bodyPostD P fn R) (args 0 vs) G) : Calls P f vs.toArray w R :=
  calls_of_wp_defers hf hb ((wpIn_wide (n := 9)).1 (h { tmps := vs.toArray ++ Array.replicate (fn.ntmps - vs.toArray.size) undef, defers := [] } w ⟨by simp; omega, rfl, fun k v hk => by
    have := (look_args vs 0 k v hk).2
    simp only [Nat.sub_zero] at this
    rw [Array.getElem?_append_left (by have := (List.getElem?_eq_some_iff.1 this).1; simpa using this)]
    simpa using this, hN⟩))
theorem TGL.defer {cl : Call} {d : Deferred} {l : List Oper} (hr : ∀ a w, S n w0 E G a w → (resolve a.eval cl ty).run P w = .ok d w) (h : TGL none (d :: ds) P n w0 ops Q l E G) :
    TGL none ds P n w0 ops Q (⟨none, .defer cl, ty, pos, aft, none⟩ :: l) E G := fun a w hs => by
  have hev : (dfs a ds).eval = a.eval := rfl
  have hw : Region.wanted (⟨none, .defer cl, ty, pos, aft, none⟩ : Oper) (yielded ops (dfs a ds).tmps) = true := rfl
  unfold wpListIn
  rw [if_pos hw]
  refine ⟨fun _ _ => trivial, ?_⟩
  have hx : (execOp (dfs a ds).eval ⟨none, .defer cl, ty, pos, aft, none⟩).run P w = .ok (.defer d) w := by
    rw [hev]
    simp only [execOp]
    simp [hr a w hs]
  show Oper.uponIn _ _ _ _ _ _ _ ((Oper.semAt none _ _).run P w)
  rw [Oper.semAt_none, hx, Oper.uponIn_defer]
  have h2 := h a w hs
  have e : ({ dfs a ds with defers := d :: (dfs a ds).defers } : Act).put none undef = dfs a (d :: ds) := by
    show ({ dfs a ds with defers := d :: (a.defers ++ ds) } : Act) = { a with defers := a.defers ++ (d :: ds) }
    rw [hs.defers]; rfl
  rw [e]
  exact h2
theorem resolve_fn {cl : Call} {a : Act} {w : World} {f : FuncId} {xs : List Operand} {vs : List Value} {ats : Array TypeId} (hc : cl = { callee := .value (.func f), args := xs.toArray, argTypes := ats }) (hs : S n w0 E G a w) (hx : evs E xs = some vs) :
    (resolve a.eval cl ty).run P w = .ok { target := .fn (.func f) #[], args := vs.toArray } w := by
  subst hc
  have hm := hs.evs hx
  have hk : a.eval (.func f) = .func (.func f) #[] #[] := rfl
  simp only [resolve, List.map_toArray, hm, hk]
  simp [Deferred.ofValue]
theorem invoke_fn {f : FuncId} {caps vs : List Value} {w : World} (h : goFn P f = true) : (invoke (.fn (.func f) caps.toArray) vs.toArray).run P w = .ok (.enter f (vs ++ caps).toArray) w := by
  show (callFunc f _).run P w = _
  rw [run_goFn h]
  simp
theorem TQ.retD {fn : Func} {R : Ending → World → Prop} {f : FuncId} {caps vs : List Value} {G' : Heap} (hg : goFn P f = true)
    (hc : ∀ w, New w0 w G → CallsD P f (vs ++ caps).toArray .returning w (fun e u' w' => u' = .returning ∧ (∃ v, e = .returned v) ∧ New w0 w' G')) (h : TQ n w0 (bodyPost P fn R .ret) E G') :
    TQ n w0 (QD [{ target := .fn (.func f) caps.toArray, args := vs.toArray }] (bodyPostD P fn R) .ret) E G := fun a w hs => by
  show Leaves P fn a.tmps R (a.defers ++ [_]) .returning w
  rw [hs.defers]
  refine leaves_cons (by simp) (invoke_fn hg) ((hc w hs.new).mono ?_)
  rintro e u' w' ⟨rfl, ⟨v, rfl⟩, hN⟩
  exact (h a w' (hs.world hN)).2
theorem TQ.retD0 {fn : Func} {R : Ending → World → Prop} (h : TQ n w0 (bodyPost P fn R .ret) E G) : TQ n w0 (QD [] (bodyPostD P fn R) .ret) E G := fun a w hs => by
  show Leaves P fn a.tmps R (a.defers ++ []) .returning w
  rw [hs.defers]
  exact (h a w hs).2
theorem bodyD_lo {P : Program} {fn : Func} {X : Type} {val : X → Value} {F : X → Prop} {D : X → Heap} {w0 : World} : ¬ LetsOut (bodyPostD P fn (Post val F D w0)) := fun ⟨_, _, x, h, _⟩ => by cases h
def PostP {X Y : Type} (val : X → Value) (F : X → Prop) (D : X → Heap) (pv : Y → Value) (Fp : Y → Prop) (Dp : Y → Heap) (w : World) (e : Ending) (w' : World) : Prop :=
  (∃ x, e = .returned (val x) ∧ F x ∧ New w w' (D x)) ∨ (∃ y, e = .panicked [{ v := pv y, recovered := false }] ∧ Fp y ∧ New w w' (Dp y))
end
end Go.Sx
namespace Go.Proofs.YtbnjmkidbfmomaaGreatDoor
open Go.Sx Go.RowKit Go.Bt Go.Lib Go.Sand
section
variable {P : Program} {n : Nat} {w0 : World} {E : Env} {G : Heap} {ty : TypeId} {pos : String} {aft : Array Edge} {g : Option (Nat × Bool)} {ops : Array Oper} {Q : Exit → Act → World → Prop} {l : List Oper}
theorem TL.storeMid {dd : Option Nat} {x y : Operand} {b k off : Nat} {t : Nat} {cs cs' vs : List Value} {e : TypeId} {G' : Heap} (hx : evo E x = some (.pointer (some ⟨b, off, none⟩))) (hy : evo E y = some (.agg vs.toArray))
    (hsz : cellsN P t = some k) (hu : Upd b (.cells cs.toArray e (0, 0)) (.cells cs'.toArray e (0, 0)) G G') (he : cs.take off ++ vs ++ cs.drop (off + k) = cs') (hk : vs.length = k) (hle : off + k ≤ cs.length) (hone' : vs.all Value.oneCell' = true)
    (hg : wants ops E g = some true) (hdd : dd = none) (h : TL P n w0 ops Q l E G') : TL P n w0 ops Q (⟨dd, .store t x y, ty, pos, aft, g⟩ :: l) E G := by
  refine TL.step hg fun a w hs => ?_
  subst hdd
  have hb : w.heap[b]? = some (.cells cs.toArray e (0, 0)) := hs.new.here _ hu.mem
  have hst := run_storeCells_at (P := P) b off e vs 0 cs.toArray w hb (by simp; omega) (fun v hv => List.all_eq_true.1 hone' v hv)
  unfold cellsN at hsz
  have hr : (execOp a.eval ⟨none, .store t x y, ty, pos, aft, g⟩).run P w = .ok .skip (w.setRow b cs'.toArray) := by
    cases hi : P.info? t with
    | none => simp [hi] at hsz
    | some i =>
      simp [hi] at hsz
      simp only [execOp, hs.ev hx, hs.ev hy]
      simp only [Nat.add_zero] at hst
      rw [hk] at hst
      try rw [show cs.toArray.toList = cs from rfl] at hst
      rw [he] at hst
      have e8 : vs.toArray.size = i.size := by rw [List.size_toArray, hk, hsz]
      simp [Instr.storeAt, Instr.sureAddr, storeVar, sizeOf, typeInfo, hi, hsz, Value.cells, hst, hk]
  unfold Oper.wp
  rw [hr]
  refine h _ _ (hs.world ?_)
  refine hs.new.turn hu ?_ ?_ rfl rfl rfl ?_ rfl
  · simp only [World.setRow, Array.getElem?_modify, if_true, hb, Option.map_some]
  · intro k hk
    simp only [World.setRow, Array.getElem?_modify]
    rw [if_neg (by omega)]
  · simp [World.setRow]
theorem PV.loadMid {d : Option Nat} {x : Operand} {b off k : Nat} {t : Nat} {cs vs : List Value} {e : TypeId} {fr : Nat × Nat} (hx : evo E x = some (.pointer (some ⟨b, off, none⟩))) (ht : aggSize P t = some k)
    (hm : (b, Obj.cells cs.toArray e fr) ∈ G) (he : (cs.drop off).take k = vs) (hk : vs.length = k) :
    PV P n w0 E G ⟨d, .load t x, ty, pos, aft, g⟩ (.agg vs.toArray) :=
  PV.loadAgg hx ht hm hk (fun j v h => by
    have hj : j < vs.length := (List.getElem?_eq_some_iff.1 h).1
    rw [← he, List.getElem?_take_of_lt (by omega), List.getElem?_drop] at h
    simpa using h)
end
structure SU where
  pw : Option Addr
  cw : Nat
  rw : List (Option Addr × Nat)
  pk : Option Addr
  ck : Nat
  pg : Option Addr
  cg : Nat
structure TV where
  ph : Option Addr
  ch : Nat
  pt : Option Addr
  ct : Nat
abbrev siL (s : St) (u : SU) : List Value := [.slice u.pw s.W.length u.cw, .slice u.pk s.K.length u.ck, .slice u.pg s.g.length u.cg, .int .i64 (C.dep s.W : Nat), .int .i64 (s.W.length : Nat), .int .i64 s.need]
abbrev tyL (c : Co) (v : TV) : List Value := [.int .i64 c.day, .int .i64 (c.wet : Nat), .int .i64 c.money, .int .i64 c.cut, .int .i64 c.load, .int .i64 c.grd, .bool c.shut, .slice v.ph c.hol.length v.ch, .slice v.pt c.tur.length v.ct]
abbrev coL (s : St) (u : SU) (lk : Int) (c : Co) (v : TV) (o : Value) : List Value :=
  [.slice u.pw s.W.length u.cw, .slice u.pk s.K.length u.ck, .slice u.pg s.g.length u.cg, .int .i64 (C.dep s.W : Nat), .int .i64 (s.W.length : Nat), .int .i64 s.need, .int .i32 lk, .int .u32 0,
    .int .i64 c.day, .int .i64 (c.wet : Nat), .int .i64 c.money, .int .i64 c.cut, .int .i64 c.load, .int .i64 c.grd, .bool c.shut, .slice v.ph c.hol.length v.ch, .slice v.pt c.tur.length v.ct, o]
structure SiteAt (w : World) (s : St) (u : SU) : Prop where
  aw : ∀ j, j < s.W.length → ∃ q, u.pw = some q ∧ w.cell? (q.add (j * 1)) = some (.slice (u.rw.getD j (none, 0)).1 (s.W.getD j []).length (u.rw.getD j (none, 0)).2) ∧ IntsAt w (u.rw.getD j (none, 0)).1 (s.W.getD j []) ∧ (s.W.getD j []).length ≤ (u.rw.getD j (none, 0)).2
  ak : LsAt w u.pk s.K
  ag : IntsAt w u.pg s.g
structure TurAt (w : World) (c : Co) (v : TV) : Prop where
  ah : IntsAt w v.ph c.hol
  at_ : IntsAt w v.pt c.tur
theorem SiteAt.ls {w : World} {s : St} {u : SU} (h : SiteAt w s u) : LsAt w u.pw s.W := fun j hj =>
  let ⟨q, h1, h2, h3, _⟩ := h.aw j hj
  ⟨q, h1, _, _, h2, h3⟩
theorem SiteAt.caps {w : World} {s : St} {u : SU} (h : SiteAt w s u) : C.CapsAt w u.pw s.W := fun j hj q pj cj l hq hc => by
  obtain ⟨q', h1, h2, _, h4⟩ := h.aw j hj
  rw [hq] at h1
  injection h1 with h1
  subst h1
  rw [h2] at hc
  injection hc with hc
  injection hc with e1 e2 e3
  omega
section
variable {w0 w : World} {Z : Heap}
theorem ints_now {p : Option Addr} {xs : List Int} (hT : ∀ w', New w0 w' Z → IntsAt w' p xs) (hN : New w0 w Z) {k : Nat} (hk : k < xs.length) : ∃ q, p = some q ∧ ∀ w', New w0 w' Z → w'.cell? (q.add (k * 1)) = some (.int .i64 (xs.getD k 0)) := by
  obtain ⟨q, h1, _⟩ := hT w hN k hk
  refine ⟨q, h1, fun w' hn => ?_⟩
  obtain ⟨q', h2, h3⟩ := hT w' hn k hk
  rw [h1] at h2
  injection h2 with h2
  subst h2
  exact h3
theorem rows_now {s : St} {u : SU} (hS : ∀ w', New w0 w' Z → SiteAt w' s u) (hN : New w0 w Z) {k : Nat} (hk : k < s.W.length) : ∃ q, u.pw = some q ∧ ∀ w', New w0 w' Z → w'.cell? (q.add (k * 1)) = some (.slice (u.rw.getD k (none, 0)).1 (s.W.getD k []).length (u.rw.getD k (none, 0)).2) := by
  obtain ⟨q, h1, _⟩ := (hS w hN).aw k hk
  refine ⟨q, h1, fun w' hn => ?_⟩
  obtain ⟨q', h2, h3, _⟩ := (hS w' hn).aw k hk
  rw [h1] at h2
  injection h2 with h2
  subst h2
  exact h3
theorem row_now {s : St} {u : SU} (hS : ∀ w', New w0 w' Z → SiteAt w' s u) {k : Nat} (hk : k < s.W.length) : ∀ w', New w0 w' Z → IntsAt w' (u.rw.getD k (none, 0)).1 (s.W.getD k []) := fun w' hn =>
  let ⟨_, _, _, h, _⟩ := (hS w' hn).aw k hk
  h
end
section
variable {P : Program} {n : Nat} {w0 : World} {E : Env} {G : Heap} {d : Option Nat} {ty : TypeId} {pos : String} {aft : Array Edge} {g : Option (Nat × Bool)} {Q : Exit → Act → World → Prop}
theorem TC.sub {c : Code} {G' : Heap} (hp : List.Sublist G' G) (h : TC P n w0 c Q E G') : TC P n w0 c Q E G := fun a w hs => h a w (hs.world (hs.new.sub hp))
theorem TQ.sub {K : Act → World → Prop} {G' : Heap} (hp : List.Sublist G' G) (h : TQ n w0 K E G') : TQ n w0 K E G := fun a w hs => h a w (hs.world (hs.new.sub hp))
theorem PV.nilCheck {x : Operand} {a : Addr} (hx : evo E x = some (.pointer (some a))) : PV P n w0 E G ⟨d, .nilCheck x, ty, pos, aft, g⟩ (.pointer (some a)) :=
  fun A w hs => by simp only [execOp, hs.ev hx]; simp
theorem PV.loadN {x : Operand} {p : Addr} {t : Nat} {v : Value} {Z : Heap} (hx : evo E x = some (.pointer (some p))) (ht : oneB P t = true) (hZ : List.Sublist Z G)
    (hv : ∀ w, New w0 w Z → w.cell? p = some v) : PV P n w0 E G ⟨d, .load t x, ty, pos, aft, g⟩ v := M.PV.loadW hx ht fun w hn => hv w (hn.sub hZ)
end
theorem SV.kl {s : St} (h : SV s) (k : Nat) : (s.K.getD k []).length ≤ 1000000 := by
  by_cases hk : k < s.K.length
  · have h1 := H.num_len (h.hb.row k hk)
    have := h.hb.n
    omega
  · have e : s.K.getD k [] = [] := by rw [List.getD_eq_getElem?_getD, List.getElem?_eq_none (by omega)]; rfl
    rw [e]; exact Nat.zero_le _
theorem Inv.hl {s : St} {c : Co} (h : Inv s c) : c.hol.length = s.W.length := h.ho.len
theorem Inv.tl' {s : St} {c : Co} (hv : SV s) (h : Inv s c) : c.tur.length = s.W.length := by have := h.tl; have := hv.len; omega
theorem SV.n5 {s : St} (h : SV s) : 1 ≤ s.W.length ∧ s.W.length ≤ 5 := by have := h.hb.n; have := h.len; omega
theorem SV.d4 {s : St} (h : SV s) : 1 ≤ C.dep s.W ∧ C.dep s.W ≤ 4 := h.vb.d
theorem SV.N36 {s : St} (h : SV s) : s.md.N ≤ 36 := h.mo.N36
theorem wet63 {s : St} (h : SV s) {x : Nat} (hx : x < 2 ^ s.md.N) : x < 9223372036854775808 := M.set63 h.mo hx
/-! The lock. -/
abbrev mu : Go.Conc.Locks.MuLink := { lock := 62, unlock := 63, ilock := 100, iunlock := 101, lockSlow := 143, unlockSlow := 146, disable := 139, enable := 141, acquire := 142, relMerge := 144, cas32 := 140, add32 := 145, tMutex := 97, tIMutex := 95, tPMutex := 141, tPIMutex := 181, tPI32 := 183, tUP := 149, tNoCopy := 92, tU32 := 93 }
theorem muL : Go.Conc.Locks.MuLib Tryz.prog mu := ⟨Tryz.func62, Tryz.func63, Tryz.func100, Tryz.func101, Tryz.func139, Tryz.func141, Tryz.func142, Tryz.func144, Tryz.func140, Tryz.func145, Tryz.underlying95, Tryz.runUnderlying95, Tryz.sizeOf95, Tryz.isAgg95, Tryz.zeroValue95, Tryz.underlying97, Tryz.runUnderlying97, Tryz.sizeOf97, Tryz.isAgg97, Tryz.zeroValue97, Tryz.underlying141, Tryz.runUnderlying141, Tryz.sizeOf141, Tryz.isAgg141, Tryz.zeroValue141, Tryz.underlying181, Tryz.runUnderlying181, Tryz.sizeOf181, Tryz.isAgg181, Tryz.zeroValue181, Tryz.underlying183, Tryz.runUnderlying183, Tryz.sizeOf183, Tryz.isAgg183, Tryz.zeroValue183, Tryz.underlying149, Tryz.runUnderlying149, Tryz.sizeOf149, Tryz.isAgg149, Tryz.zeroValue149, Tryz.underlying92, Tryz.runUnderlying92, Tryz.sizeOf92, Tryz.isAgg92, Tryz.zeroValue92, Tryz.underlying21, Tryz.runUnderlying21, Tryz.sizeOf21, Tryz.isAgg21, Tryz.zeroValue21, (by kernel_rfl)⟩
theorem lock_new {w0 w : World} {b : Nat} {cs : Array Value} {e : TypeId} {G G' : Heap} (hN : New w0 w G) (hu : Upd b (.cells cs e (0, 0)) (.cells (cs.setIfInBounds 6 (.int .i32 1)) e (0, 0)) G G') (hc : cs[6]? = some (.int .i32 0)) :
    Calls Tryz.prog 62 #[.pointer (some ⟨b, 6, none⟩)] w fun e w' => ∃ x : Unit, e = .returned (.tuple #[]) ∧ True ∧ New w0 w' G' :=
  (Go.MuLone.lock_free muL ⟨b, 6, none⟩ w (hN.cell hu.mem hc) (hN.frozen hu.mem)).mono fun _ _ ⟨h1, h2⟩ => ⟨(), h1, trivial, by rw [h2]; exact hN.setCell hu⟩
theorem unlock_new {w0 : World} {b : Nat} {cs : Array Value} {e : TypeId} {G G' : Heap} (hu : Upd b (.cells cs e (0, 0)) (.cells (cs.setIfInBounds 6 (.int .i32 0)) e (0, 0)) G G') (hc : cs[6]? = some (.int .i32 1)) :
    ∀ w, New w0 w G → CallsD Tryz.prog 63 ([Value.pointer (some ⟨b, 6, none⟩)] ++ []).toArray .returning w (fun e u' w' => u' = .returning ∧ (∃ v, e = .returned v) ∧ New w0 w' G') := fun w hN =>
  (Go.MuLone.unlock_deferred muL ⟨b, 6, none⟩ .returning w (hN.cell hu.mem hc) (hN.frozen hu.mem)).mono fun _ _ _ ⟨h0, h1, h2⟩ => ⟨h0, ⟨_, h1⟩, by rw [h2]; exact hN.setCell hu⟩
end Go.Proofs.YtbnjmkidbfmomaaGreatDoor
namespace Go.Proofs.YtbnjmkidbfmomaaGreatDoor
open Go.Sx Go.RowKit Go.Bt Go.Lib Go.Sand
theorem nil25_guard (x y : Operand) (a : Option Addr) (k c : Nat) (w : World) : (eqGuard .eql 25 x y (.slice a k c) (.slice none 0 0)).run Tryz.prog w = .ok () w := by simp [eqGuard]
theorem nil25 (a : Option Addr) (k c : Nat) (w : World) : (binOp .eql 25 (.slice a k c) (.slice none 0 0)).run Tryz.prog w = .ok (.bool a.isNone) w := Go.Lib.run_eql_slice_nil w 25 3 a k c 0 0 Tb.sl_25
abbrev sK (xs : List Int) (k : Nat) : Int := sm k fun j => xs.getD j 0
theorem sK_succ (xs : List Int) (k : Nat) : sK xs (k + 1) = sK xs k + xs.getD k 0 := rfl
theorem sK_bd {xs : List Int} (h : ∀ k, -1000000 ≤ xs.getD k 0 ∧ xs.getD k 0 ≤ 1000000) : ∀ k : Nat, -1000000 * (k : Int) ≤ sK xs k ∧ sK xs k ≤ 1000000 * (k : Int)
  | 0 => by simp [sK, Sand.sm]
  | k + 1 => by
    have h1 := sK_bd h k
    have h2 := h k
    rw [sK_succ]; omega
def bareK (s : St) (hol : List Int) (k j : Nat) : Nat := Mo.msk s.md.N fun i => (decide (i % s.W.length < k) && decide (((i / s.W.length : Nat) : Int) < hol.getD (i % s.W.length) 0)) || (decide (i % s.W.length = k) && decide (i / s.W.length < j))
theorem bareK_t (s : St) (hol : List Int) (k j i : Nat) : (bareK s hol k j).testBit i = (decide (i < s.md.N) && ((decide (i % s.W.length < k) && decide (((i / s.W.length : Nat) : Int) < hol.getD (i % s.W.length) 0)) || (decide (i % s.W.length = k) && decide (i / s.W.length < j)))) := Mo.msk_t _ _ _
theorem bareK_zero (s : St) (hol : List Int) : bareK s hol 0 0 = 0 := Nat.eq_of_testBit_eq fun i => by rw [bareK_t]; simp
theorem bareK_end {s : St} (hv : SV s) (hol : List Int) : bareK s hol s.W.length 0 = bare s hol := Nat.eq_of_testBit_eq fun i => by
  rw [bareK_t, bare_t, decide_eq_true (Nat.mod_lt i (by have := hv.n5; omega))]; simp
theorem bareK_col {s : St} {hol : List Int} {k j : Nat} (hj : ((j : Nat) : Int) = hol.getD k 0) : bareK s hol k j = bareK s hol (k + 1) 0 := Nat.eq_of_testBit_eq fun i => by
  rw [bareK_t, bareK_t]
  congr 1
  by_cases h1 : i % s.W.length < k
  · rw [decide_eq_true h1, decide_eq_true (show i % s.W.length < k + 1 by omega), decide_eq_false (show ¬ i % s.W.length = k by omega), decide_eq_false (show ¬ i % s.W.length = k + 1 by omega)]; simp
  · by_cases h2 : i % s.W.length = k
    · rw [decide_eq_false h1, decide_eq_true h2, decide_eq_true (show i % s.W.length < k + 1 by omega), decide_eq_false (show ¬ i % s.W.length = k + 1 by omega), h2, ← hj]
      simp only [Bool.true_and, Bool.false_and, Bool.or_false, Bool.false_or]
      exact decide_eq_decide.2 (by omega)
    · rw [decide_eq_false h1, decide_eq_false h2, decide_eq_false (show ¬ i % s.W.length < k + 1 by omega)]; simp
theorem bareK_row {s : St} {hol : List Int} {k j : Nat} (hk : k < s.W.length) (hj : j < C.dep s.W) : bareK s hol k (j + 1) = bareK s hol k j ||| 2 ^ (s.sq j k) := Nat.eq_of_testBit_eq fun i => by
  rw [Nat.testBit_or, bareK_t, bareK_t, Nat.testBit_two_pow]
  have h := sq_at (s := s) (r := j) (c := k) hk
  have hN := sq_lt (s := s) (r := j) (c := k) hk hj
  by_cases e : s.sq j k = i
  · subst e
    rw [decide_eq_true (rfl : s.sq j k = s.sq j k), h.2.1, h.2.2, decide_eq_true hN]; simp
  · rw [decide_eq_false e, Bool.or_false]
    by_cases hi : i < s.md.N
    · rw [decide_eq_true hi, Bool.true_and, Bool.true_and]
      congr 1
      by_cases h2 : i % s.W.length = k
      · rw [decide_eq_true h2, Bool.true_and, Bool.true_and]
        have h3 : i / s.W.length ≠ j := fun h4 => e (by rw [h.1, ← h2, ← h4, Nat.mul_comm]; exact Nat.div_add_mod i _)
        exact decide_eq_decide.2 (by omega)
      · rw [decide_eq_false h2]; rfl
    · rw [decide_eq_false hi]; rfl
theorem bareK_lt (s : St) (hol : List Int) (k j : Nat) : bareK s hol k j < 2 ^ s.md.N := Mo.msk_lt _ _
theorem sq_cast {s : St} {r k : Int} (hr : 0 ≤ r) (hk : 0 ≤ k) : r * (s.W.length : Int) + k = ((s.sq r k : Nat) : Int) := by
  have : 0 ≤ r * (s.W.length : Int) := Int.mul_nonneg hr (by omega)
  show _ = (((r * (s.W.length : Int) + k).toNat : Nat) : Int)
  omega
theorem sum_ok (w0 : World) (p : Option Addr) (n : Nat) (xs : List Int) (hx : IntsAt w0 p xs) (hl : xs.length ≤ 1000000) (hb : ∀ k, -1000000 ≤ xs.getD k 0 ∧ xs.getD k 0 ≤ 1000000) :
    Calls Tryz.prog 111 #[.slice p xs.length n] w0 (Post (X := Unit) (fun _ => .int .i64 (sL xs)) (fun _ => True) (fun _ => []) w0) := by
  refine calls Tryz.func111 rfl (n := 17) rfl (by simp) ?_
  refine zr (za rfl (zk (za rfl (zn (TC.seq (zr (zm rfl (zq (PV.len rfl Tb.sl_25) rfl (zm rfl (zn (TC.block (TC.loopK [2, 6, 7] (X := Nat) (fun k => k ≤ xs.length) (fun k => [(8, .int .i64 (k : Nat)), (3, .int .i64 (sK xs k))]) (fun k => []) (fun k => xs.length - k) 0 (Nat.zero_le _) l9z s9z ?_))))))))))))
  intro k hk
  refine zr (zq (PV.lss rfl rfl) rfl (zn (TC.seq (TC.cd rfl (fun hlt => ?_) (fun hlt => ?_)))))
  refine TC.skip (TQ.thenC (TC.seq (TC.block (TC.seq ?_))))
  obtain ⟨q, qp, qv⟩ := hx k (by omega)
  refine TC.region (zq (PV.indexA rfl qp rfl Tb.elm_25 rfl om) rfl (zq (PV.loadOld rfl Tb.one_3 qv) rfl (za rfl (zn ?_))))
  have h1 := sK_bd hb k
  have h2 := hb k
  refine TC.region (zm rfl (zm rfl (zq (PV.add rfl rfl om) rfl (za rfl (TL.nil (TQ.blkN (TQ.thenC (TC.region (zq (PV.add rfl rfl om) rfl (zm rfl (TL.nil (TQ.thenN (TQ.backK (k + 1) l9z l9z s9z om om)))))))))))))
  refine TC.exit (TQ.thenE (TQ.thenE (TQ.blkS (TQ.thenC (TC.seq ?_)))))
  have hke : k = xs.length := by omega
  refine TC.region (zm rfl (za rfl (zt (TQ.retE1 rfl rfl ?_))))
  exact ⟨(), by rw [hke]; rfl, trivial, nils⟩
theorem onHeaps_ok (w0 : World) (c : Co) (v : TV) (hx : IntsAt w0 v.pt c.tur) (hl : c.tur.length ≤ 1000000) (hb : ∀ k, -1000000 ≤ c.tur.getD k 0 ∧ c.tur.getD k 0 ≤ 1000000) :
    Calls Tryz.prog 112 #[.agg (tyL c v).toArray] w0 (Post (X := Unit) (fun _ => .int .i64 (sL c.tur)) (fun _ => True) (fun _ => []) w0) := by
  refine calls Tryz.func112 rfl (n := 6) rfl (by simp) ?_
  refine zr (TL.box rfl rfl dc (fun b0 hb0 => ?_))
  refine za rfl (zk (zq (PV.fieldAddr rfl Tb.fo_101_2) rfl (zq (PV.load rfl Tb.one_25 m9z rfl) rfl ?_)))
  refine TL.call rfl Tb.gofn_111 (fun a w hs => sum_ok w _ _ c.tur (hx.new hs.new) hl hb) rfl dc (fun _ _ => ?_)
  refine za rfl (zt (TQ.retE1 rfl rfl ?_))
  exact ⟨(), rfl, trivial, nils⟩
theorem square_ok (w0 : World) (s : St) (c : Co) (v : TV) (hl : c.hol.length = s.W.length) (h6 : s.W.length ≤ 6) (r k : Int) (hr : 0 ≤ r ∧ r ≤ 2000) (hk : 0 ≤ k ∧ k ≤ 2000) :
    Calls Tryz.prog 160 #[.agg (tyL c v).toArray, .int .i64 r, .int .i64 k] w0 (Post (X := Unit) (fun _ => .int .i64 (s.sq r k : Nat)) (fun _ => True) (fun _ => []) w0) := by
  have hm0 : 0 ≤ r * (c.hol.length : Int) := Int.mul_nonneg hr.1 (by omega)
  have hm1 : r * (c.hol.length : Int) ≤ 2000 * 6 := Int.mul_le_mul hr.2 (by omega) (by omega) (by omega)
  refine calls Tryz.func160 rfl (n := 14) rfl (by simp) ?_
  refine zr (TL.box rfl rfl dc (fun b0 hb0 => ?_))
  refine za rfl (zk (zm rfl (zq (PV.fieldAddr rfl Tb.fo_101_1) rfl (zq (PV.load rfl Tb.one_25 m9z rfl) rfl ?_))))
  refine zq (PV.len rfl Tb.sl_25) rfl (zq (PV.mul rfl rfl om) rfl (zm rfl (zq (PV.add rfl rfl om) rfl (za rfl (zt (TQ.retE1 rfl rfl ?_))))))
  exact ⟨(), by rw [hl, sq_cast hr.1 hk.1], trivial, nils⟩
theorem isWet_ok (w0 : World) (s : St) (c : Co) (v : TV) (hl : c.hol.length = s.W.length) (h6 : s.W.length ≤ 6) (hw : c.wet < 9223372036854775808) (r k : Int) (hr : 0 ≤ r ∧ r ≤ 2000) (hk : 0 ≤ k ∧ k ≤ 2000) (hq : s.sq r k ≤ 60) :
    Calls Tryz.prog 186 #[.agg (tyL c v).toArray, .int .i64 r, .int .i64 k] w0 (Post (X := Unit) (fun _ => .bool (c.wet.testBit (s.sq r k))) (fun _ => True) (fun _ => []) w0) := by
  refine calls Tryz.func186 rfl (n := 17) rfl (by simp) ?_
  refine zr (TL.box rfl rfl dc (fun b0 hb0 => ?_))
  refine za rfl (zn (TC.seq (TC.mixV [true, true, true, true, true, true, false, true, true, true, true] [(b0, Obj.cells (tyL c v).toArray 101 (0, 0))] 11 Tb.mixed rfl kr kr kr kr s9z ?_)))
  refine zv 0 rfl kr (PV.fieldAddr rfl Tb.fo_101_0) rfl (zv 1 rfl kr (PV.fieldAddr rfl Tb.fo_99_1) rfl (zv 2 rfl kr (PV.load rfl Tb.one_3 m9z rfl) rfl ?_))
  refine zv 3 rfl kr (PV.loadBox rfl Tb.agg_101 m9z rfl) rfl ?_
  refine zv 4 rfl kr (PV.move rfl) rfl (zv 5 rfl kr (PV.move rfl) rfl (TV.step [6] kr dc rfl ⟨⟨_, rfl, ?_⟩, trivial⟩))
  refine TL.call rfl Tb.gofn_160 (fun a w hs => square_ok w s c v hl h6 r k hr hk) rfl dc (fun _ _ => ?_)
  refine TL.nil (TV.next (.inl s9z) ?_)
  refine zv 7 rfl kr (M.PV.shrK rfl rfl om (by show ((s.sq r k : Nat) : Int) ≤ 64; omega) (M.nat_shr _ _)) rfl ?_
  refine zv 8 rfl kr (M.PV.andK rfl rfl rfl) rfl (zv 9 rfl kr (PV.eql rfl rfl) rfl (zv 10 rfl kr (PV.assign rfl) rfl (TV.done kr ?_)))
  refine zc (TQ.retE1 rfl rfl ?_)
  exact ⟨(), congrArg Value.bool (M.Has_eq hw), trivial, nils⟩
theorem bare_ok (w0 : World) (s : St) (hv : SV s) (c : Co) (v : TV) (ho : C.NB s.W c.hol) (hx : IntsAt w0 v.ph c.hol) :
    Calls Tryz.prog 110 #[.agg (tyL c v).toArray] w0 (Post (X := Unit) (fun _ => .int .i64 (bare s c.hol : Nat)) (fun _ => True) (fun _ => []) w0) := by
  have hl := ho.len
  have h5 := hv.n5
  have h4 := hv.d4
  refine calls Tryz.func110 rfl (n := 29) rfl (by simp) ?_
  refine zr (TL.box rfl rfl dc (fun b0 hb0 => ?_))
  refine za rfl (zk (za rfl (zn (TC.seq (zr (zq (PV.fieldAddr rfl Tb.fo_101_1) rfl (zq (PV.load rfl Tb.one_25 m9z rfl) rfl ?_)))))))
  refine zq (PV.len rfl Tb.sl_25) rfl (zm rfl (zn (TC.block (TC.lit [(1, _), (2, _), (3, _), (8, _), (9, _), (10, _)] l9z ?_))))
  refine TC.loopK [1, 2, 8, 9] (X := Nat) (fun k => k ≤ c.hol.length) (fun k => [(10, .int .i64 (k : Nat)), (3, .int .i64 (bareK s c.hol k 0 : Nat))]) (fun k => [(b0, Obj.cells (tyL c v).toArray 101 (0, 0))]) (fun k => c.hol.length - k) 0 (Nat.zero_le _) (by rw [bareK_zero]; exact ⟨rfl, rfl, trivial⟩) s9z ?_
  intro k hk
  refine TC.lit [(1, _), (2, _), (3, _), (8, _), (9, _), (10, _)] l9z ?_
  refine zr (zq (PV.lss rfl rfl) rfl (zn (TC.seq (TC.cd rfl (fun hlt => ?_) (fun hlt => ?_)))))
  refine TC.skip (TQ.thenC (TC.seq (TC.block (TC.seq ?_))))
  obtain ⟨q, qp, qv⟩ := hx k (by omega)
  refine TC.region (zm rfl (zq (PV.indexA rfl qp rfl Tb.elm_25 rfl om) rfl (zq (PV.loadOld rfl Tb.one_3 qv) rfl (za rfl (za rfl (zn (TC.seq ?_)))))))
  have hka := ho.at_ k
  obtain ⟨m9, hm9⟩ := Int.eq_ofNat_of_zero_le hka.1
  refine TC.region (zm rfl (zm rfl (zn (TC.block (TC.lit [(1, _), (2, _), (3, _), (4, _), (8, _), (9, _), (10, _), (15, _), (16, _)] l9z ?_)))))
  refine TC.loopK [1, 2, 4, 8, 9, 10, 15] (X := Nat) (fun j => (j : Int) ≤ c.hol.getD k 0) (fun j => [(16, .int .i64 (j : Nat)), (3, .int .i64 (bareK s c.hol k j : Nat))]) (fun j => [(b0, Obj.cells (tyL c v).toArray 101 (0, 0))]) (fun j => m9 - j) 0 om (by exact ⟨rfl, rfl, trivial⟩) s9z ?_
  intro j hj
  refine TC.lit [(1, _), (2, _), (3, _), (4, _), (8, _), (9, _), (10, _), (15, _), (16, _)] l9z ?_
  refine zr (zq (PV.lss rfl rfl) rfl (zn (TC.seq (TC.cd rfl (fun hlt2 => ?_) (fun hlt2 => ?_)))))
  refine TC.skip (TQ.thenC (TC.seq (TC.block (zr (zm rfl (za rfl (zn ?_)))))))
  have hq60 : s.sq (j : Int) (k : Int) ≤ 60 := by have := sq_lt (s := s) (r := j) (c := k) (by omega) (by omega); have := hv.N36; omega
  have hB := wet63 hv (bareK_lt s c.hol k j)
  have hrw := bareK_row (s := s) (hol := c.hol) (k := k) (j := j) (by omega) (by omega)
  refine TC.region (zm rfl (zq (PV.loadBox rfl Tb.agg_101 m9z rfl) rfl ?_))
  refine zm rfl (zm rfl (TL.call rfl Tb.gofn_160 (fun a w hs => square_ok w s c v hl om j k ⟨by omega, by omega⟩ ⟨by omega, by omega⟩) rfl dc (fun _ _ => ?_)))
  refine zq (M.PV.shlK rfl rfl om om (M.shl_nat hq60)) rfl (zq (M.PV.orK rfl rfl (M.or_nat hB (M.p63 om))) rfl (za rfl (TL.nil (TQ.blkN (TQ.thenC (TC.region (zq (PV.add rfl rfl om) rfl (zm rfl (TL.nil (TQ.thenN (TQ.backK (j + 1) (by rw [hrw]; exact ⟨rfl, rfl, trivial⟩) l9z s9z om om)))))))))))
  refine TC.exit (TQ.thenE (TQ.thenE (TQ.blkS (TQ.blkN (TQ.thenC ?_)))))
  have hcl := bareK_col (s := s) (hol := c.hol) (k := k) (j := j) (by omega)
  refine TC.region (zq (PV.add rfl rfl om) rfl (zm rfl (TL.nil (TQ.thenN (TQ.backK (k + 1) (by rw [← hcl]; exact ⟨rfl, rfl, trivial⟩) l9z s9z om om)))))
  refine TC.exit (TQ.thenE (TQ.thenE (TQ.blkS (TQ.thenC (TC.seq ?_)))))
  have hke : k = s.W.length := by omega
  refine TC.region (zm rfl (za rfl (zt (TQ.retE1 rfl rfl ?_))))
  exact ⟨(), by rw [← bareK_end hv, hke], trivial, nils⟩
set_option maxHeartbeats 1000000 in
theorem clone_ok (w0 : World) (pl : Option Addr) (cl : Nat) (xs : List Int) (hx : IntsAt w0 pl xs) (hl : xs.length ≤ 1000000) :
    Calls Tryz.prog 67 #[.slice pl xs.length cl] w0 (Post (X := HD) (fun h => gval h xs.length) (fun h => goI (h, xs)) (fun h => gbI (h, xs)) w0) := by
  refine calls Tryz.func67 rfl (n := 8) rfl (by simp) ?_
  refine zr (za rfl (zn (TC.seq (zr (zm rfl (zq (PV.cmp rfl rfl (nil25_guard _ _ _ _ _) (nil25 _ _ _)) rfl ?_))))))
  refine zn (TC.cd rfl (fun hnil => ?_) (fun hnil => ?_))
  refine zr (za rfl (zt (TQ.thenR (TQ.retE1 rfl rfl ?_))))
  have hp0 : pl = none := by simpa using hnil
  subst hp0
  have hx0 := ints_nil hx
  subst hx0
  exact ⟨none, rfl, ⟨rfl, rfl⟩, nils⟩
  refine TC.skip (TQ.thenC (zr (TL.buildSlice0 Tb.sl_25 Tb.zi_3 rfl dc (fun bE hbE => ?_))))
  refine zm rfl (TL.append0 (news := ival xs) rfl rfl Tb.sl_25 Tb.zi_3 rfl (Take.head _) (fun w' hN => ints_src Tb.sl_25 rfl (hx.new hN)) om om rfl dc (fun h1 hh1 => ?_))
  refine za rfl (zt (TQ.retE1 rfl rfl ?_))
  exact ⟨h1, rfl, by simpa [goI] using hh1, List.sublist_append_left _ _⟩
theorem plus_ok (w0 : World) (pl : Option Addr) (cl : Nat) (xs : List Int) (hx : IntsAt w0 pl xs) (hl : xs.length ≤ 1000000) (i : Nat) (hi : i < xs.length) (d : Int) (hd : -1000000 ≤ d ∧ d ≤ 1000000) (hb : -1000000 ≤ xs.getD i 0 ∧ xs.getD i 0 ≤ 1000000) :
    Calls Tryz.prog 188 #[.slice pl xs.length cl, .int .i64 i, .int .i64 d] w0 (Post (X := HD) (fun h => gval h xs.length) (fun h => goI (h, xs.set i (xs.getD i 0 + d))) (fun h => gbI (h, xs.set i (xs.getD i 0 + d))) w0) := by
  refine calls Tryz.func188 rfl (n := 18) rfl (by simp) ?_
  refine zr (za rfl (zk (zm rfl (TL.call rfl Tb.gofn_67 (fun a w hs => clone_ok w _ _ xs (hx.new hs.new) hl) rfl dc (fun h1 hh1 => ?_)))))
  refine za rfl (zk (zm rfl (zm rfl (zq (PV.indexG (len := xs.length) (ys := ival xs) (j := i) rfl rfl hh1 Tb.elm_25 rfl om) rfl (zq (PV.loadGI (y := (h1, xs)) (v := xs.getD i 0) rfl Tb.one_3 (fun y hy => List.mem_append_left _ hy) hh1 om rfl) rfl ?_)))))
  refine zm rfl (zq (PV.add rfl rfl om) rfl (zq (PV.indexG (len := xs.length) (ys := ival xs) (j := i) rfl rfl hh1 Tb.elm_25 rfl om) rfl (TL.putI (h := h1) (xs := xs) (xs' := xs.set i (xs.getD i 0 + d)) (j := i) rfl rfl Tb.cells_3 hh1 rfl p9z om rfl rfl ?_)))
  refine zk (zm rfl (za rfl (zt (TQ.retE1 rfl rfl ?_))))
  exact ⟨h1, rfl, C.go_lenI hh1 (by rw [List.length_set]), List.sublist_append_left _ _⟩
end Go.Proofs.YtbnjmkidbfmomaaGreatDoor
namespace Go.Proofs.YtbnjmkidbfmomaaGreatDoor
open Go.Sx Go.RowKit Go.Bt Go.Lib Go.Sand
theorem md_eq (s : St) : M.Mo.mD (C.dep s.W : Nat) (s.W.length : Nat) s.need = s.md := by
  unfold M.Mo.mD St.md; rw [Int.toNat_natCast, Int.toNat_natCast]
theorem gI_s {s : St} (hv : SV s) {x : Nat} (hx : x < 2 ^ s.md.N) : M.gI (C.dep s.W : Nat) (s.W.length : Nat) s.need x = 0 := by
  have h := M.gI_ok hv.mo hx
  rw [show s.need = ((s.md.K : Nat) : Int) from hv.nd]; exact h
theorem step_v (w : World) (htz : M.TzAt w) (s : St) (hv : SV s) (x : Nat) (hx : x < 2 ^ s.md.N) :
    Calls Tryz.prog 183 #[.agg [.int .i64 (C.dep s.W : Nat), .int .i64 (s.W.length : Nat), .int .i64 s.need].toArray, .int .i64 (x : Nat)] w (Post (X := Unit) (fun _ => .tuple #[.int .i64 (Mo.stp s.md x : Nat), .int .i64 0]) (fun _ => True) (fun _ => []) w) := by
  have h := M.Step_ok w htz (C.dep s.W : Nat) (s.W.length : Nat) s.need (x : Nat)
  unfold M.zI at h
  rw [gI_s hv hx, if_pos rfl, md_eq, Int.toNat_natCast] at h
  exact h
theorem hol_0 {s : St} {c : Co} (hv : SV s) (h : Inv s c) : C.holI s.W c.hol = 0 := C.ho_to (by rw [hv.vw]; decide) h.ho
theorem gvs {h : HD} {xs : List Int} (ho : goI (h, xs)) : gval h xs.length = .slice (gp h) xs.length (gc h) := gval_eq (sz := 1) ho
abbrev opL (s : St) (c : Co) : List Int := C.opN s.W (C.pad6 c.hol) s.W.length
theorem opn_l {s : St} {c : Co} (hv : SV s) (h : Inv s c) : C.opnI s.W c.hol = opL s c := C.opn_ok (by rw [hol_0 hv h]; decide)
theorem open_v (w : World) {s : St} {c : Co} (hv : SV s) (h : Inv s c) (p : Option Addr) (cap : Nat) (hr : LsAt w p s.W) (pl : Option Addr) (cl : Nat) (hx : IntsAt w pl c.hol) :
    Calls Tryz.prog 184 #[.agg #[.slice p s.W.length cap], .slice pl c.hol.length cl] w (Post (X := HD) (fun h => .tuple #[.slice (gp h) (opL s c).length (gc h), .int .i64 0]) (fun h => goI (h, opL s c)) (fun h => gbI (h, opL s c)) w) := by
  have h1 := C.Open_ok w p cap s.W hr pl cl c.hol hx
  rw [opn_l hv h, hol_0 hv h] at h1
  exact h1.mono fun _ _ ⟨y, e1, e2, e3⟩ => ⟨y, by rw [e1]; show Ending.returned (Value.tuple #[gval y (opL s c).length, _]) = _; rw [gvs e2], e2, e3⟩
theorem drop_v (w : World) {s : St} {c : Co} (hv : SV s) (h : Inv s c) (p : Option Addr) (cp : Nat) (hr : LsAt w p s.K) (q : Option Addr) (cq : Nat) (hg : IntsAt w q s.g) (pl : Option Addr) (cl : Nat) (hx : IntsAt w pl c.tur) (i : Nat) (hi : i < s.W.length) :
    Calls Tryz.prog 187 #[.agg #[.slice p s.K.length cp, .slice q s.g.length cq], .slice pl c.tur.length cl, .int .i64 i] w (Post (X := HD × Int) (fun y => .tuple #[.slice (gp y.1) (drT s.K s.g c.tur i).length (gc y.1), .int .i64 y.2, .int .i64 0]) (fun y => goI (y.1, drT s.K s.g c.tur i)) (fun y => gbI (y.1, drT s.K s.g c.tur i)) w) := by
  have hvh := Decidable.of_not_not (h.vh hv hi)
  have h1 := H.Drop_ok w p cp s.K hr q cq s.g hg hv.kl pl cl c.tur hx (by have := h.tl' hv; have := hv.n5; omega) (i : Int)
  exact h1.mono fun _ _ ⟨y, e1, ⟨e2, e3⟩, e4⟩ => by
    have ed := drT_eq e2
    refine ⟨(y.1, y.2.2), ?_, ?_, ?_⟩
    · rw [e1, hvh, ed]; show Ending.returned (Value.tuple #[gval y.1 y.2.1.length, _, _]) = _; rw [gvs e3]
    · rw [ed]; exact e3
    · rw [ed]; exact e4
theorem rdrop_v (w : World) {s : St} {c : Co} (hv : SV s) (h : Inv s c) (p : Option Addr) (cp : Nat) (hr : LsAt w p s.K) (q : Option Addr) (cq : Nat) (hg : IntsAt w q s.g) (pl : Option Addr) (cl : Nat) (hx : IntsAt w pl c.tur) (i : Nat) (hi : i < s.W.length) :
    Calls Tryz.prog 121 #[.agg #[.slice p s.K.length cp, .slice q s.g.length cq], .slice pl c.tur.length cl, .int .i64 i] w (Post (X := HD × Int) (fun y => .tuple #[.slice (gp y.1) (drT s.K s.g c.tur i).length (gc y.1), .int .i64 y.2, .int .i64 0]) (fun y => goI (y.1, drT s.K s.g c.tur i)) (fun y => gbI (y.1, drT s.K s.g c.tur i)) w) := by
  have hvh := Decidable.of_not_not (h.vh hv hi)
  have h1 := H.rDrop_ok w p cp s.K hr q cq s.g hg hv.kl pl cl c.tur hx (by have := h.tl' hv; have := hv.n5; omega) (i : Int)
  exact h1.mono fun _ _ ⟨y, e1, ⟨e2, e3⟩, e4⟩ => by
    have ed := drT_eq e2
    refine ⟨(y.1, y.2.2), ?_, ?_, ?_⟩
    · rw [e1, hvh, ed]; show Ending.returned (Value.tuple #[gval y.1 y.2.1.length, _, _]) = _; rw [gvs e3]
    · rw [ed]; exact e3
    · rw [ed]; exact e4
theorem plus_v (w : World) (pl : Option Addr) (cl : Nat) (xs : List Int) (hx : IntsAt w pl xs) (hl : xs.length ≤ 1000000) (i : Nat) (hi : i < xs.length) (d : Int) (hd : -1000000 ≤ d ∧ d ≤ 1000000) (hb : -1000000 ≤ xs.getD i 0 ∧ xs.getD i 0 ≤ 1000000) (ys : List Int) (hy : xs.set i (xs.getD i 0 + d) = ys) :
    Calls Tryz.prog 188 #[.slice pl xs.length cl, .int .i64 i, .int .i64 d] w (Post (X := HD) (fun h => .slice (gp h) ys.length (gc h)) (fun h => goI (h, ys)) (fun h => gbI (h, ys)) w) := by
  subst hy
  exact (plus_ok w pl cl xs hx hl i hi d hd hb).mono fun _ _ ⟨y, e1, e2, e3⟩ => ⟨y, by rw [e1]; show Ending.returned (gval y xs.length) = Ending.returned (.slice (gp y) (xs.set i (xs.getD i 0 + d)).length (gc y)); rw [← gvs e2, List.length_set], e2, e3⟩
theorem tur_g {w0 : World} {Z : Heap} {h : HD} {xs : List Int} (ho : goI (h, xs)) : ∀ w', New w0 w' (gbI (h, xs) ++ Z) → IntsAt w' (gp h) xs := fun w' hn => IntsAt.g hn (fun y hy => List.mem_append_left _ hy) ho
theorem i0 (n : Int) : ([n] : List Int).getD 0 0 = n := rfl
theorem i1 (n m : Int) : ([n, m] : List Int).getD 1 0 = m := rfl
theorem i2 (n m : Int) : ([n, m] : List Int).getD 0 0 = n := rfl
section
variable {s : St} {c : Co}
theorem day_e : actI s c ⟨0, []⟩ = 0 := by unfold actI; rfl
theorem day_c : chgC s c ⟨0, []⟩ = { c with wet := Mo.stp s.md c.wet &&& bare s c.hol, day := c.day + 1 } := by
  unfold chgC; rw [day_e, if_pos rfl]; unfold actC; rfl
theorem chg_no {o : Od} (h : actI s c o ≠ 0) : chgC s c o = c := by unfold chgC; rw [if_neg h]
theorem chg_yes {o : Od} (h : actI s c o = 0) : chgC s c o = actC s c o := by unfold chgC; rw [if_pos h]
theorem shut_e : actI s c ⟨4, []⟩ = if c.shut = true then 5 else 0 := rfl
theorem shut_c : actC s c ⟨4, []⟩ = { c with shut := true } := rfl
theorem load_e {a n : Int} : actI s c ⟨2, [a, n]⟩ = if (s.W.length : Int) ≤ a then 4 else if n = 0 then 1 else if c.tur.getD a.toNat 0 < n then 11 else 0 := rfl
theorem load_c {a n : Int} : actC s c ⟨2, [a, n]⟩ = { c with tur := c.tur.set a.toNat (c.tur.getD a.toNat 0 - n), load := c.load + n, money := c.money + n } := rfl
theorem wet_e {r k : Int} : actI s c ⟨3, [r, k]⟩ = if (C.dep s.W : Int) ≤ r ∨ (s.W.length : Int) ≤ k then 4 else if c.hol.getD k.toNat 0 ≤ r then 8 else if c.wet.testBit (s.sq r k) = true then 5 else 0 := rfl
theorem wet_c {r k : Int} : actC s c ⟨3, [r, k]⟩ = { c with wet := c.wet ||| 2 ^ s.sq r k } := rfl
theorem cut_e {a : Int} : actI s c ⟨1, [a]⟩ = if (s.W.length : Int) ≤ a then 4 else if c.shut = true then 8 else if C.opB s.W (C.pad6 c.hol) a.toNat = false ∨ (0 < c.hol.getD a.toNat 0 ∧ c.wet.testBit (s.sq (c.hol.getD a.toNat 0 - 1) a) = true) then 6 else 0 := rfl
theorem cut_c {a : Int} : actC s c ⟨1, [a]⟩ = { c with
      tur := drT s.K s.g c.tur a
      grd := c.grd + (sL c.tur + 1 - sL (drT s.K s.g c.tur a))
      hol := c.hol.set a.toNat (c.hol.getD a.toNat 0 + 1)
      money := c.money + (s.W.getD a.toNat []).getD (c.hol.getD a.toNat 0).toNat 0
      cut := c.cut + 1 } := rfl
end
structure Bnd (c : Co) : Prop where
  bm : -1000000 ≤ c.money ∧ c.money ≤ 1000000
  bl : 0 ≤ c.load ∧ c.load ≤ 1000000
  bg : -1000000 ≤ c.grd ∧ c.grd ≤ 1000000
  bd : 0 ≤ c.day ∧ c.day ≤ 1000000
  bc : 0 ≤ c.cut ∧ c.cut ≤ 1000000
  bh : 0 ≤ sL c.hol ∧ sL c.hol ≤ 24
  bt : 0 ≤ sL c.tur ∧ sL c.tur ≤ 55
theorem Inv.bnd {s : St} {c : Co} (hv : SV s) (h : Inv s c) : Bnd c := by
  have h1 := sL_5 h.tl hv.hb.n.2 (h.tb hv)
  have hNB := h.ho.toNB
  have h4 := hv.d4
  have h5 := hv.n5
  have h2 := sL_bd (xs := c.hol) (b := 4) (by decide) (fun k => by have := hNB.at_ k; omega) c.hol.length
  have h3 := C.wor_bd hNB c.hol.length
  have h6 : c.hol.length = s.W.length := hNB.len
  have e1 := h.ct
  have e2 := h.bal
  have e3 := h.mon
  have e4 := h.l0
  have e5 := h.gr
  have e6 := h.ol
  have e7 := h.dy
  have e8 : sL c.hol = sm c.hol.length fun j => c.hol.getD j 0 := rfl
  unfold C.worH at e3
  refine ⟨?_, ?_, ?_, ?_, ?_, ?_, h1⟩ <;> omega
theorem day_ok (w0 w : World) (s : St) (hv : SV s) (u : SU) (c : Co) (v : TV) (hi : Inv s c) (b : Nat) (Z : Heap) (hN : New w0 w ((b, .cells (tyL c v).toArray 101 (0, 0)) :: Z)) (Zf : Heap) (hZf : List.Sublist Zf Z) (hS : ∀ w9, New w0 w9 Zf → SiteAt w9 s u) (hT : ∀ w9, New w0 w9 Zf → TurAt w9 c v) (htz : M.TzAt w0) :
    Calls Tryz.prog 150 #[.agg (siL s u).toArray, .pointer (some ⟨b, 0, none⟩)] w (Post (X := TV × Heap) (fun _ => .int .i64 (actI s c ⟨0, []⟩)) (fun y => ∀ w9, New w0 w9 (y.2 ++ Zf) → TurAt w9 (chgC s c ⟨0, []⟩) y.1) (fun y => (b, Obj.cells (tyL (chgC s c ⟨0, []⟩) y.1).toArray 101 (0, 0)) :: (y.2 ++ Z)) w0) := by
  have hNZ := hN.sub (hZf.trans (List.sublist_cons_self _ _))
  have hwl := hi.wl
  have h63 := wet63 hv hwl
  have hbn := hi.bnd hv
  have h5 := hv.n5
  have h4 := hv.d4
  have hhl := hi.hl
  have htl := hi.tl' hv
  have hbm := hbn.bm
  have hbl := hbn.bl
  have hbg := hbn.bg
  have hbd := hbn.bd
  have hbc := hbn.bc
  have hbt := hbn.bt
  have hbh := hbn.bh
  refine callsM hN Tryz.func150 rfl (n := 37) rfl (by simp) ?_
  refine zr (TL.box rfl rfl dc (fun b0 hb0 => ?_))
  refine za rfl (zn (TC.seq (TC.mixV [true, true, true, true, true, true, true, false, true, true, true, true, true] [(b0, Obj.cells (siL s u).toArray 90 (0, 0)), (b, Obj.cells (tyL c v).toArray 101 (0, 0))] 13 Tb.mixed rfl kr kr kr kr s9z ?_)))
  refine zv 0 rfl kr (PV.fieldAddr rfl Tb.fo_90_2) rfl (zv 1 rfl kr (PV.loadMid (cs := siL s u) (vs := [.int .i64 (C.dep s.W : Nat), .int .i64 (s.W.length : Nat), .int .i64 s.need]) rfl Tb.agg_52 m9z rfl rfl) rfl ?_)
  refine zv 2 rfl kr (PV.move rfl) rfl (zv 3 rfl kr (PV.nilCheck rfl) rfl (zv 4 rfl kr (PV.fieldAddr rfl Tb.fo_101_0) rfl (zv 5 rfl kr (PV.fieldAddr rfl Tb.fo_99_1) rfl (zv 6 rfl kr (PV.load rfl Tb.one_3 m9z rfl) rfl ?_))))
  refine TV.step [7] kr dc rfl ⟨⟨_, rfl, ?_⟩, trivial⟩
  refine TL.call rfl Tb.gofn_183 (fun a w hs => step_v w (htz.new hs.new) s hv c.wet hwl) rfl dc (fun _ _ => ?_)
  refine TL.nil (TV.next (.inl s9z) ?_)
  refine zv 8 rfl kr (PV.move rfl) rfl (zv 9 rfl kr (PV.extract rfl rfl) rfl (zv 10 rfl kr (PV.extract rfl rfl) rfl (zv 11 rfl kr (PV.assign rfl) rfl (zv 12 rfl kr (PV.assign rfl) rfl (TV.done kr ?_)))))
  refine TQ.thenC (zr (zm rfl (zm rfl (zm rfl (zq (PV.nilCheck rfl) rfl (zq (PV.loadBox (cs := tyL c v) rfl Tb.agg_101 m9z rfl) rfl ?_))))))
  refine TL.call rfl Tb.gofn_110 (fun a w hs => bare_ok w s hv c v hi.ho.toNB (hT w (hs.new.sub (hZf.trans s9z))).ah) rfl dc (fun _ _ => ?_)
  refine zq (M.PV.andK rfl rfl (M.i64_and_nat (wet63 hv (Mo.stp_lt hwl)) (wet63 hv (bare_lt s c.hol)))) rfl (zq (PV.nilCheck rfl) rfl (zq (PV.fieldAddr rfl Tb.fo_101_0) rfl (zq (PV.fieldAddr rfl Tb.fo_99_1) rfl (TL.store rfl rfl Tb.cells_3 rfl u9z d9z rfl rfl ?_))))
  refine zk (zm rfl (zq (PV.nilCheck rfl) rfl (zq (PV.fieldAddr rfl Tb.fo_101_0) rfl (zq (PV.fieldAddr rfl Tb.fo_99_0) rfl (zq (PV.load rfl Tb.one_3 m9z rfl) rfl ?_)))))
  refine zq (PV.add rfl rfl om) rfl (zq (PV.nilCheck rfl) rfl (zq (PV.fieldAddr rfl Tb.fo_101_0) rfl (zq (PV.fieldAddr rfl Tb.fo_99_0) rfl (TL.store rfl rfl Tb.cells_3 rfl u9z d9z rfl rfl ?_))))
  refine zk (za rfl (zt (TQ.retE1 rfl rfl ?_)))
  exact ⟨(v, []), rfl, by rw [day_c]; exact fun w9 hn => ⟨(hT w9 hn).ah, (hT w9 hn).at_⟩, by rw [day_c]; exact s9z⟩
theorem shut_ok (w0 w : World) (s : St) (hv : SV s) (u : SU) (c : Co) (v : TV) (hi : Inv s c) (b : Nat) (Z : Heap) (hN : New w0 w ((b, .cells (tyL c v).toArray 101 (0, 0)) :: Z)) (Zf : Heap) (hZf : List.Sublist Zf Z) (hS : ∀ w9, New w0 w9 Zf → SiteAt w9 s u) (hT : ∀ w9, New w0 w9 Zf → TurAt w9 c v) :
    Calls Tryz.prog 154 #[.agg (siL s u).toArray, .pointer (some ⟨b, 0, none⟩)] w (Post (X := TV × Heap) (fun _ => .int .i64 (actI s c ⟨4, []⟩)) (fun y => ∀ w9, New w0 w9 (y.2 ++ Zf) → TurAt w9 (chgC s c ⟨4, []⟩) y.1) (fun y => (b, Obj.cells (tyL (chgC s c ⟨4, []⟩) y.1).toArray 101 (0, 0)) :: (y.2 ++ Z)) w0) := by
  have hNZ := hN.sub (hZf.trans (List.sublist_cons_self _ _))
  have hwl := hi.wl
  have h63 := wet63 hv hwl
  have hbn := hi.bnd hv
  have h5 := hv.n5
  have h4 := hv.d4
  have hhl := hi.hl
  have htl := hi.tl' hv
  have hbm := hbn.bm
  have hbl := hbn.bl
  have hbg := hbn.bg
  have hbd := hbn.bd
  have hbc := hbn.bc
  have hbt := hbn.bt
  have hbh := hbn.bh
  refine callsM hN Tryz.func154 rfl (n := 14) rfl (by simp) ?_
  refine zr (TL.box rfl rfl dc (fun b0 hb0 => ?_))
  refine za rfl (zn (TC.seq (zr (zm rfl (zq (PV.nilCheck rfl) rfl (zq (PV.fieldAddr rfl Tb.fo_101_0) rfl (zq (PV.fieldAddr rfl Tb.fo_99_6) rfl (zq (PV.load rfl Tb.one_4 m9z rfl) rfl ?_))))))))
  refine zn (TC.cd rfl (fun hsh => ?_) (fun hsh => ?_))
  refine zr (za rfl (zt (TQ.thenR (TQ.retE1 rfl rfl ?_))))
  have hE : actI s c ⟨4, []⟩ = 5 := by rw [shut_e, if_pos hsh]
  have hC := chg_no (s := s) (c := c) (o := ⟨4, []⟩) (by rw [hE]; decide)
  exact ⟨(v, []), by rw [hE], by rw [hC]; exact hT, by rw [hC]; exact s9z⟩
  refine TC.skip (TQ.thenC (zr (zm rfl (zq (PV.nilCheck rfl) rfl (zq (PV.fieldAddr rfl Tb.fo_101_0) rfl (zq (PV.fieldAddr rfl Tb.fo_99_6) rfl (TL.store rfl rfl Tb.cells_4 rfl u9z d9z rfl rfl ?_)))))))
  refine zk (za rfl (zt (TQ.retE1 rfl rfl ?_)))
  have hE : actI s c ⟨4, []⟩ = 0 := by rw [shut_e, if_neg (by rw [hsh]; decide)]
  have hC := chg_yes (s := s) (c := c) (o := ⟨4, []⟩) hE
  exact ⟨(v, []), by rw [hE], by rw [hC, shut_c]; exact fun w9 hn => ⟨(hT w9 hn).ah, (hT w9 hn).at_⟩, by rw [hC, shut_c]; exact s9z⟩
theorem load_ok (w0 w : World) (s : St) (hv : SV s) (u : SU) (c : Co) (v : TV) (hi : Inv s c) (b : Nat) (Z : Heap) (hN : New w0 w ((b, .cells (tyL c v).toArray 101 (0, 0)) :: Z)) (Zf : Heap) (hZf : List.Sublist Zf Z) (hS : ∀ w9, New w0 w9 Zf → SiteAt w9 s u) (hT : ∀ w9, New w0 w9 Zf → TurAt w9 c v) (a n : Int) (ha : 0 ≤ a ∧ a ≤ 999) (hn : 0 ≤ n ∧ n ≤ 999) :
    Calls Tryz.prog 152 #[.agg (siL s u).toArray, .pointer (some ⟨b, 0, none⟩), .int .i64 a, .int .i64 n] w (Post (X := TV × Heap) (fun _ => .int .i64 (actI s c ⟨2, [a, n]⟩)) (fun y => ∀ w9, New w0 w9 (y.2 ++ Zf) → TurAt w9 (chgC s c ⟨2, [a, n]⟩) y.1) (fun y => (b, Obj.cells (tyL (chgC s c ⟨2, [a, n]⟩) y.1).toArray 101 (0, 0)) :: (y.2 ++ Z)) w0) := by
  have hNZ := hN.sub (hZf.trans (List.sublist_cons_self _ _))
  have hwl := hi.wl
  have h63 := wet63 hv hwl
  have hbn := hi.bnd hv
  have h5 := hv.n5
  have h4 := hv.d4
  have hhl := hi.hl
  have htl := hi.tl' hv
  have hbm := hbn.bm
  have hbl := hbn.bl
  have hbg := hbn.bg
  have hbd := hbn.bd
  have hbc := hbn.bc
  have hbt := hbn.bt
  have hbh := hbn.bh
  refine callsM hN Tryz.func152 rfl (n := 56) rfl (by simp) ?_
  refine zr (TL.box rfl rfl dc (fun b0 hb0 => ?_))
  refine za rfl (zn (TC.seq (zr (zm rfl (zq (PV.fieldAddr rfl Tb.fo_90_2) rfl (zq (PV.fieldAddr rfl Tb.fo_52_1) rfl (zq (PV.load rfl Tb.one_3 m9z rfl) rfl ?_)))))))
  refine zq (PV.geq rfl rfl) rfl (zn (TC.cd rfl (fun g1 => ?_) (fun g1 => ?_)))
  refine zr (za rfl (zt (TQ.thenR (TQ.retE1 rfl rfl ?_))))
  have hE : actI s c ⟨2, [a, n]⟩ = 4 := by rw [load_e, if_pos g1]
  have hC := chg_no (s := s) (c := c) (o := ⟨2, [a, n]⟩) (by rw [hE]; decide)
  exact ⟨(v, []), by rw [hE], by rw [hC]; exact hT, by rw [hC]; exact s9z⟩
  refine TC.skip (TQ.thenC (TC.seq (zr (zm rfl (zq (PV.eql rfl rfl) rfl (zn (TC.cd rfl (fun g2 => ?_) (fun g2 => ?_))))))))
  refine zr (za rfl (zt (TQ.thenR (TQ.retE1 rfl rfl ?_))))
  have hE : actI s c ⟨2, [a, n]⟩ = 1 := by rw [load_e, if_neg g1, if_pos g2]
  have hC := chg_no (s := s) (c := c) (o := ⟨2, [a, n]⟩) (by rw [hE]; decide)
  exact ⟨(v, []), by rw [hE], by rw [hC]; exact hT, by rw [hC]; exact s9z⟩
  refine TC.skip (TQ.thenC (TC.seq (TC.seq ?_)))
  obtain ⟨j, rfl⟩ := Int.eq_ofNat_of_zero_le ha.1
  obtain ⟨q, qp, qv⟩ := ints_now (fun w9 h9 => (hT w9 h9).at_) hNZ (k := j) (by omega)
  have htb := hi.tb hv j
  refine TC.region (zm rfl (zq (PV.nilCheck rfl) rfl (zq (PV.fieldAddr rfl Tb.fo_101_2) rfl (zq (PV.load rfl Tb.one_25 m9z rfl) rfl ?_))))
  refine zm rfl (zq (PV.indexA rfl qp rfl Tb.elm_25 rfl om) rfl (zq (PV.loadN rfl Tb.one_3 (hZf.trans s9z) qv) rfl ?_))
  refine zm rfl (zq (PV.lss rfl rfl) rfl (zn (TC.cd rfl (fun g3 => ?_) (fun g3 => ?_))))
  refine zr (za rfl (zt (TQ.thenR (TQ.retE1 rfl rfl ?_))))
  have hE : actI s c ⟨2, [(j : Int), n]⟩ = 11 := by rw [load_e, if_neg g1, if_neg g2, Int.toNat_natCast, if_pos g3]
  have hC := chg_no (s := s) (c := c) (o := ⟨2, [(j : Int), n]⟩) (by rw [hE]; decide)
  exact ⟨(v, []), by rw [hE], by rw [hC]; exact hT, by rw [hC]; exact s9z⟩
  refine TC.skip (TQ.thenC (zr (zm rfl (zm rfl (zq (PV.nilCheck rfl) rfl (zq (PV.fieldAddr rfl Tb.fo_101_2) rfl (zq (PV.load rfl Tb.one_25 m9z rfl) rfl ?_)))))))
  refine zm rfl (zm rfl (zq (PV.neg rfl om) rfl (TL.call rfl Tb.gofn_188 (fun a w hs => plus_v w _ _ c.tur (hT w (hs.new.sub (hZf.trans s9z))).at_ om j om (-n) om om _ rfl) rfl dc (fun h1 hh1 => ?_))))
  refine zq (PV.nilCheck rfl) rfl (zq (PV.fieldAddr rfl Tb.fo_101_2) rfl (TL.store rfl rfl Tb.cells_25 rfl u9z d9z rfl rfl ?_))
  refine zn (TC.seq (TC.sub (G' := gbI (h1, c.tur.set j (c.tur.getD j 0 + -n)) ++ ((b, Obj.cells (tyL { c with tur := c.tur.set j (c.tur.getD j 0 + -n) } { v with pt := gp h1, ct := gc h1 }).toArray 101 (0, 0)) :: Z)) (by refine List.Sublist.append (List.Sublist.refl _) ?_; exact List.Sublist.cons _ (List.Sublist.refl _)) ?_))
  refine TC.perm List.perm_middle.symm ?_
  refine TC.region (zm rfl (zq (PV.nilCheck rfl) rfl (zq (PV.fieldAddr rfl Tb.fo_101_0) rfl (zq (PV.fieldAddr rfl Tb.fo_99_4) rfl (zq (PV.load rfl Tb.one_3 m9z rfl) rfl ?_)))))
  refine zm rfl (zq (PV.add (i := c.load) rfl rfl om) rfl (zq (PV.nilCheck rfl) rfl (zq (PV.fieldAddr rfl Tb.fo_101_0) rfl (zq (PV.fieldAddr rfl Tb.fo_99_4) rfl (TL.store rfl rfl Tb.cells_3 rfl u9z d9z rfl rfl ?_)))))
  refine zk (zm rfl (zq (PV.nilCheck rfl) rfl (zq (PV.fieldAddr rfl Tb.fo_101_0) rfl (zq (PV.fieldAddr rfl Tb.fo_99_2) rfl (zq (PV.load rfl Tb.one_3 m9z rfl) rfl ?_)))))
  refine zm rfl (zq (PV.add (i := c.money) rfl rfl om) rfl (zq (PV.nilCheck rfl) rfl (zq (PV.fieldAddr rfl Tb.fo_101_0) rfl (zq (PV.fieldAddr rfl Tb.fo_99_2) rfl (TL.store rfl rfl Tb.cells_3 rfl u9z d9z rfl rfl ?_)))))
  refine zk (za rfl (zt (TQ.retE1 rfl rfl ?_)))
  have hE : actI s c ⟨2, [(j : Int), n]⟩ = 0 := by rw [load_e, if_neg g1, if_neg g2, Int.toNat_natCast, if_neg g3]
  have hC := chg_yes (s := s) (c := c) (o := ⟨2, [(j : Int), n]⟩) hE
  rw [load_c, Int.toNat_natCast] at hC
  exact ⟨({ v with pt := gp h1, ct := gc h1 }, gbI (h1, c.tur.set j (c.tur.getD j 0 + -n))), by rw [hE], by rw [hC]; exact fun w9 hn9 => ⟨(hT w9 (hn9.sub (List.sublist_append_right _ _))).ah, tur_g hh1 w9 hn9⟩, by rw [hC]; exact List.Sublist.refl _⟩
end Go.Proofs.YtbnjmkidbfmomaaGreatDoor
