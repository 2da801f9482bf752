/- Trails and their sums: contracts. -/
import Derived.Test.YtnlbngbbddhgeaaQGw
set_option linter.unusedVariables false
set_option linter.unusedSimpArgs false
namespace Go.Proofs.Ytnlbngbbddhgeaa
open Go.Sx Go.RowKit


/-- A trail: where its list lies, the drains, the amount. -/
structure TV where
  p : Option Addr
  c : Nat
  ks : List Int
  am : Int
instance : Inhabited TV := ⟨⟨none, 0, [], 0⟩⟩
def TVR : Rec TV := ⟨fun t => [.slice t.p t.ks.length t.c, .int .i64 t.am], 2, fun _ => rfl, fun r v hv => by
  simp only [List.mem_cons, List.not_mem_nil, or_false] at hv
  rcases hv with rfl | rfl <;> rfl, by decide⟩
structure TrsAt (w : World) (p : Option Addr) (ts : List TV) : Prop where
  rec_ : RecsAt TVR w p ts
  ks : ∀ t ∈ ts, IntsAt w t.p t.ks
theorem TrsAt.new {w0 w : World} {G : Heap} {p : Option Addr} {ts : List TV} (h : TrsAt w0 p ts) (hn : New w0 w G) : TrsAt w p ts := ⟨h.rec_.new hn, fun t ht => (h.ks t ht).new hn⟩
theorem TrsAt.at {w : World} {p : Option Addr} {ts : List TV} (h : TrsAt w p ts) {j : Nat} (hj : j < ts.length) :
    (∃ q, p = some q ∧ ∀ i v, (TVR.cells (ts.getD j default))[i]? = some v → w.cell? ((q.add (j * 2)).add i) = some v) ∧ IntsAt w (ts.getD j default).p (ts.getD j default).ks :=
  ⟨h.rec_ j hj, h.ks _ (by simp [List.getD, hj])⟩
theorem mem_getD {α : Type} [Inhabited α] {l : List α} {j : Nat} (hj : j < l.length) : l.getD j default ∈ l := by simp [List.getD, hj]
theorem rdX {w : World} {p : Option Addr} {rs : List Bd} (hr : BdsAt w p rs) (v : Int) : ∃ q : Addr, (0 ≤ v ∧ v < rs.length) → p = some q ∧ ∀ i x, (rs.getD v.toNat default).cells[i]? = some x → w.cell? ((q.add (v.toNat * 3)).add i) = some x := by
  by_cases h : 0 ≤ v ∧ v < rs.length
  · obtain ⟨q, h1, h2⟩ := hr v.toNat (by omega)
    exact ⟨q, fun _ => ⟨h1, h2⟩⟩
  · exact ⟨⟨0, 0, none⟩, fun h9 => absurd h9 h⟩
theorem ixX {w : World} {p : Option Addr} {xs : List Int} (hx : IntsAt w p xs) (j : Nat) : ∃ q : Addr, j < xs.length → p = some q ∧ w.cell? (q.add (j * 1)) = some (.int .i64 (xs.getD j 0)) := by
  by_cases h : j < xs.length
  · obtain ⟨q, h1, h2⟩ := hx j h
    exact ⟨q, fun _ => ⟨h1, h2⟩⟩
  · exact ⟨⟨0, 0, none⟩, fun h9 => absurd h9 h⟩
abbrev dA (rs : List Bd) (v : Int) : Bd := rs.getD v.toNat default
def okT (rs : List Bd) (ks : List Int) (i : Nat) : Bool := decide ((0 ≤ ks.getD i 0 ∧ ks.getD i 0 < rs.length) ∧ ks.getD i 0 ∉ ks.take i ∧ (i = 0 ∨ (dA rs (ks.getD (i - 1) 0)).b = (dA rs (ks.getD i 0)).a))
theorem okT_spec {rs : List Bd} {ks : List Int} {i : Nat} (h : okT rs ks i = true) : (0 ≤ ks.getD i 0 ∧ ks.getD i 0 < rs.length) ∧ ks.getD i 0 ∉ ks.take i ∧ (i = 0 ∨ (dA rs (ks.getD (i - 1) 0)).b = (dA rs (ks.getD i 0)).a) := of_decide_eq_true h
def pthB (rs : List Bd) (ks : List Int) (am : Int) : Bool := decide (ks ≠ [] ∧ 1 ≤ am ∧ am ≤ 20) && (List.range ks.length).all (okT rs ks)
def eA (rs : List Bd) (ks : List Int) : Int := (dA rs (ks.getD 0 0)).a
def eB (rs : List Bd) (ks : List Int) : Int := (dA rs (ks.getD (ks.length - 1) 0)).b
def wayB (s t : Int) (rs : List Bd) (ks : List Int) : Bool := decide (eA rs ks = s ∧ eB rs ks = t)
def rndB (rs : List Bd) (ks : List Int) : Bool := decide (eA rs ks = eB rs ks)
def trOK (s t : Int) (rs : List Bd) (tv : TV) : Bool := pthB rs tv.ks tv.am && (wayB s t rs tv.ks || rndB rs tv.ks)
theorem pth_no {rs : List Bd} {ks : List Int} {am : Int} (h : ¬ (ks ≠ [] ∧ 1 ≤ am ∧ am ≤ 20)) : pthB rs ks am = false := by unfold pthB; rw [decide_eq_false h]; rfl
theorem pth_bad {rs : List Bd} {ks : List Int} {am : Int} {i : Nat} (hi : i < ks.length) (h : ¬ ((0 ≤ ks.getD i 0 ∧ ks.getD i 0 < rs.length) ∧ ks.getD i 0 ∉ ks.take i ∧ (i = 0 ∨ (dA rs (ks.getD (i - 1) 0)).b = (dA rs (ks.getD i 0)).a))) : pthB rs ks am = false := by
  unfold pthB
  rw [show (List.range ks.length).all (okT rs ks) = false from by
    cases h9 : (List.range ks.length).all (okT rs ks) with
    | false => rfl
    | true => exact absurd (okT_spec (all_get h9 hi)) h, Bool.and_false]
theorem pth_yes {rs : List Bd} {ks : List Int} {am : Int} (h : ks ≠ [] ∧ 1 ≤ am ∧ am ≤ 20) (h2 : (List.range ks.length).all (okT rs ks) = true) : pthB rs ks am = true := by unfold pthB; rw [decide_eq_true h, h2]; rfl
theorem pth_is {rs : List Bd} {ks : List Int} {am : Int} (h : pthB rs ks am = true) : (ks ≠ [] ∧ 1 ≤ am ∧ am ≤ 20) ∧ (List.range ks.length).all (okT rs ks) = true := by
  unfold pthB at h; rw [Bool.and_eq_true] at h; exact ⟨of_decide_eq_true h.1, h.2⟩
theorem pth_at {rs : List Bd} {ks : List Int} {am : Int} (h : pthB rs ks am = true) {i : Nat} (hi : i < ks.length) : 0 ≤ ks.getD i 0 ∧ ks.getD i 0 < rs.length := (okT_spec (all_get (pth_is h).2 hi)).1
theorem pth_len {rs : List Bd} {ks : List Int} {am : Int} (h : pthB rs ks am = true) : 0 < ks.length := List.length_pos_iff.2 (pth_is h).1.1
/-- Which drains have been met. -/
def HadI (ks : List Int) (N i : Nat) (bs : List Bool) : Prop := bs.length = N ∧ ∀ v, v < N → bs.getD v false = decide ((v : Int) ∈ ks.take i)
theorem HadI.zero (ks : List Int) (N : Nat) : HadI ks N 0 (List.replicate N false) := ⟨List.length_replicate, fun v hv => by simp [List.getD, hv]⟩
theorem HadI.put {ks : List Int} {N i : Nat} {bs : List Bool} (h : HadI ks N i bs) (hi : i < ks.length) (hv : 0 ≤ ks.getD i 0 ∧ ks.getD i 0 < N) : HadI ks N (i + 1) (bs.set (ks.getD i 0).toNat true) := by
  refine ⟨by rw [List.length_set]; exact h.1, fun v hvN => ?_⟩
  have hm := take_mem (v := (v : Int)) hi
  rw [decide_eq_decide.2 hm]
  by_cases e : v = (ks.getD i 0).toNat
  · have : bs.getD v false = bs.getD v false := rfl
    rw [← e, decide_eq_true (.inr (by omega))]
    simp [List.getD, h.1, hvN]
  · have e2 : (bs.set (ks.getD i 0).toNat true).getD v false = bs.getD v false := by
      rw [List.getD_eq_getElem?_getD, List.getElem?_set_ne (fun h => e h.symm), ← List.getD_eq_getElem?_getD]
    rw [e2, h.2 v hvN]
    exact decide_eq_decide.2 ⟨.inl, fun h9 => h9.resolve_right (by omega)⟩
theorem HadI.get {ks : List Int} {N i : Nat} {bs : List Bool} (h : HadI ks N i bs) {v : Int} (hv : 0 ≤ v ∧ v < N) : bs.getD v.toNat false = decide (v ∈ ks.take i) := by
  rw [h.2 _ (by omega), show ((v.toNat : Nat) : Int) = v from by omega]
def addK (am : Int) (xs : List Int) (v : Int) : List Int := xs.set v.toNat (xs.getD v.toNat 0 + am)
def addT (xs : List Int) (tv : TV) : List Int := tv.ks.foldl (addK tv.am) xs
def sumT (rs : List Bd) (ts : List TV) : List Int := ts.foldl addT (List.replicate rs.length 0)
def sumE (s t : Int) (rs : List Bd) (ts : List TV) : Int := if 40 < ts.length then 3 else if ts.all (trOK s t rs) = true then 0 else 1
def sumL (s t : Int) (rs : List Bd) (ts : List TV) : List Int := if sumE s t rs ts = 0 then sumT rs ts else []
theorem fold_snoc {α β : Type} (f : α → β → α) (x : α) {l : List β} {k : Nat} (hk : k < l.length) (d : β) : (l.take (k + 1)).foldl f x = f ((l.take k).foldl f x) (l.getD k d) := by
  rw [List.take_succ_eq_append_getElem hk, List.foldl_append]
  simp [List.getD, hk]
structure Bnd (N : Nat) (c : Int) (xs : List Int) : Prop where
  len : xs.length = N
  bd : ∀ k, 0 ≤ xs.getD k 0 ∧ xs.getD k 0 ≤ c
theorem Bnd.zero (N : Nat) : Bnd N 0 (List.replicate N 0) := ⟨List.length_replicate, fun k => by rw [rep_0]; omega⟩
theorem Bnd.add {N : Nat} {c am v : Int} {xs : List Int} (h : Bnd N c xs) (ha : 1 ≤ am ∧ am ≤ 20) : Bnd N (c + 20) (addK am xs v) := by
  refine ⟨by unfold addK; rw [List.length_set]; exact h.len, fun k => ?_⟩
  unfold addK
  have h1 := h.bd k
  have h2 := h.bd v.toNat
  rw [List.getD_eq_getElem?_getD, List.getElem?_set]
  split
  · split
    · simp only [Option.getD_some]; omega
    · simp; omega
  · rw [← List.getD_eq_getElem?_getD]; omega
theorem Bnd.mono {N : Nat} {c d : Int} {xs : List Int} (h : Bnd N c xs) (hc : c ≤ d) : Bnd N d xs := ⟨h.len, fun k => by have := h.bd k; omega⟩
theorem all_take_next {α : Type} [Inhabited α] {f : α → Bool} {l : List α} {k : Nat} (h : (l.take k).all f = true) (hk : k < l.length) (h2 : f (l.getD k default) = true) : (l.take (k + 1)).all f = true := by
  rw [List.take_succ_eq_append_getElem hk, List.all_append, h]
  have e : l[k] = l.getD k default := by simp [List.getD, hk]
  rw [e]; simp only [List.all_cons, List.all_nil, h2, Bool.and_self]
theorem sumE_1 {s t : Int} {rs : List Bd} {ts : List TV} {k : Nat} (h0 : ¬ 40 < ts.length) (hk : k < ts.length) (h : trOK s t rs (ts.getD k default) = false) : sumE s t rs ts = 1 := by
  unfold sumE
  rw [if_neg h0, if_neg (fun h9 => by have := List.all_eq_true.1 h9 _ (mem_getD hk); rw [h] at this; cases this)]
theorem sumE_0 {s t : Int} {rs : List Bd} {ts : List TV} (h0 : ¬ 40 < ts.length) (h : ts.all (trOK s t rs) = true) : sumE s t rs ts = 0 := by unfold sumE; rw [if_neg h0, if_pos h]
theorem sumE_3 {s t : Int} {rs : List Bd} {ts : List TV} (h0 : 40 < ts.length) : sumE s t rs ts = 3 := if_pos h0
theorem sumL_no {s t : Int} {rs : List Bd} {ts : List TV} (h : sumE s t rs ts ≠ 0) : sumL s t rs ts = [] := if_neg h
theorem sumL_yes {s t : Int} {rs : List Bd} {ts : List TV} (h : sumE s t rs ts = 0) : sumL s t rs ts = sumT rs ts := if_pos h
section
variable {P : Program} {n : Nat} {w0 : World} {E : Env} {G : Heap} {ty : TypeId} {pos : String} {aft : Array Edge} {g : Option (Nat × Bool)}
theorem PV.loadBo' {d : Option Nat} {x : Operand} {b off t : Nat} {bs : List Bool} {e : TypeId} {fr : Nat × Nat} {v : Bool} (j : Nat) (hx : evo E x = some (.pointer (some ⟨b, off, none⟩))) (ho : off = j) (ht : oneB P t = true)
    (hm : (b, Obj.cells (boolsA bs) e fr) ∈ G) (hj : j < bs.length) (hv : bs.getD j false = v) : PV P n w0 E G ⟨d, .load t x, ty, pos, aft, g⟩ (.bool v) := by
  subst hv; exact PV.loadBo j hx ho ht hm hj
end
set_option maxRecDepth 100000 in
theorem ends_ok (w0 : World) (n s t : Nat) (p : Option Addr) (cap : Nat) (rs : List Bd) (hr : BdsAt w0 p rs) (tp : Option Addr) (tc : Nat) (ks : List Int) (am : Int) (hx : IntsAt w0 tp ks) (hl : ks.length ≤ 1000) (hlen : rs.length ≤ 1000) (hp : pthB rs ks am = true) :
    Calls Try.prog 92 #[dnV n s t p rs.length cap, .agg #[.slice tp ks.length tc, .int .i64 am]] w0 (Post (X := Unit) (fun _ => .tuple #[.int .i64 (eA rs ks), .int .i64 (eB rs ks)]) (fun _ => True) (fun _ => []) w0) := by
  have h0 := pth_len hp
  have v0 := pth_at hp h0
  have v1 := pth_at hp (show ks.length - 1 < ks.length by omega)
  obtain ⟨q0, q0p, q0v⟩ := hx 0 h0
  obtain ⟨q1, q1p, q1v⟩ := hx (ks.length - 1) (by omega)
  obtain ⟨r0, r0p, r0v⟩ := hr (ks.getD 0 0).toNat (by omega)
  obtain ⟨r1, r1p, r1v⟩ := hr (ks.getD (ks.length - 1) 0).toNat (by omega)
  refine calls Try.func92 rfl (n := 28) rfl (by simp) ?_
  refine TC.seq ?_
  refine TC.region ?_
  refine TL.box rfl rfl (by decide) (fun b0 hb0 => ?_)
  refine TL.box rfl rfl (by decide) (fun b1 hb1 => ?_)
  refine TL.pure (PV.assign rfl) rfl (by decide) ?_
  refine TL.pure (PV.assign rfl) rfl (by decide) ?_
  refine TL.nil ?_
  refine TQ.thenC ?_
  refine TC.seq ?_
  refine TC.mixV [true, true, true, true, true, true, true, true, true, true, true, true, true, true, true, true, true, true, true, true, true, true, true, true] [(b1, Obj.cells #[.slice tp ks.length tc, .int .i64 am] 89 (0, 0)), (b0, Obj.cells #[.int .i64 (n : Nat), .int .i64 (s : Nat), .int .i64 (t : Nat), .slice p rs.length cap] 24 (0, 0))] 24 Tb.mixed rfl (by kernel_rfl) (by kernel_rfl) (by kernel_rfl) (by kernel_rfl) (by repeat (first | exact List.Sublist.slnil | exact List.nil_sublist _ | exact List.Sublist.refl _ | refine List.Sublist.cons_cons _ ?_ | refine List.Sublist.cons _ ?_ | refine List.Sublist.trans ?_ (List.sublist_append_right _ _))) ?_
  refine TV.virt 0 rfl rfl (by decide) rfl (by kernel_rfl) (SOK.pure (PV.fieldAddr rfl Tb.fo_24_3) rfl) ?_
  refine TV.virt 1 rfl rfl (by decide) rfl (by kernel_rfl) (SOK.pure (PV.load rfl Tb.one_22 (by repeat (first | exact List.Mem.head _ | refine List.Mem.tail _ ?_ | refine List.mem_append_right _ ?_)) rfl) rfl) ?_
  refine TV.virt 2 rfl rfl (by decide) rfl (by kernel_rfl) (SOK.pure (PV.fieldAddr rfl Tb.fo_89_0) rfl) ?_
  refine TV.virt 3 rfl rfl (by decide) rfl (by kernel_rfl) (SOK.pure (PV.load rfl Tb.one_25 (by repeat (first | exact List.Mem.head _ | refine List.Mem.tail _ ?_ | refine List.mem_append_right _ ?_)) rfl) rfl) ?_
  refine TV.virt 4 rfl rfl (by decide) rfl (by kernel_rfl) (SOK.pure (PV.indexA (j := 0) rfl q0p rfl Tb.elm_25 rfl h0) rfl) ?_
  refine TV.virt 5 rfl rfl (by decide) rfl (by kernel_rfl) (SOK.pure (PV.loadOld rfl Tb.one_3 q0v) rfl) ?_
  refine TV.virt 6 rfl rfl (by decide) rfl (by kernel_rfl) (SOK.pure (PV.indexA (j := (ks.getD 0 0).toNat) rfl r0p rfl Tb.elm_22 (by omega) (by omega)) rfl) ?_
  refine TV.virt 7 rfl rfl (by decide) rfl (by kernel_rfl) (SOK.pure (PV.fieldAddrA rfl Tb.fo_40_0) rfl) ?_
  refine TV.virt 8 rfl rfl (by decide) rfl (by kernel_rfl) (SOK.pure (PV.loadOld rfl Tb.one_3 (r0v 0 _ rfl)) rfl) ?_
  refine TV.virt 9 rfl rfl (by decide) rfl (by kernel_rfl) (SOK.pure (PV.fieldAddr rfl Tb.fo_24_3) rfl) ?_
  refine TV.virt 10 rfl rfl (by decide) rfl (by kernel_rfl) (SOK.pure (PV.load rfl Tb.one_22 (by repeat (first | exact List.Mem.head _ | refine List.Mem.tail _ ?_ | refine List.mem_append_right _ ?_)) rfl) rfl) ?_
  refine TV.virt 11 rfl rfl (by decide) rfl (by kernel_rfl) (SOK.pure (PV.fieldAddr rfl Tb.fo_89_0) rfl) ?_
  refine TV.virt 12 rfl rfl (by decide) rfl (by kernel_rfl) (SOK.pure (PV.load rfl Tb.one_25 (by repeat (first | exact List.Mem.head _ | refine List.Mem.tail _ ?_ | refine List.mem_append_right _ ?_)) rfl) rfl) ?_
  refine TV.virt 13 rfl rfl (by decide) rfl (by kernel_rfl) (SOK.pure (PV.fieldAddr rfl Tb.fo_89_0) rfl) ?_
  refine TV.virt 14 rfl rfl (by decide) rfl (by kernel_rfl) (SOK.pure (PV.load rfl Tb.one_25 (by repeat (first | exact List.Mem.head _ | refine List.Mem.tail _ ?_ | refine List.mem_append_right _ ?_)) rfl) rfl) ?_
  refine TV.virt 15 rfl rfl (by decide) rfl (by kernel_rfl) (SOK.pure (PV.len rfl Tb.sl_25) rfl) ?_
  refine TV.virt 16 rfl rfl (by decide) rfl (by kernel_rfl) (SOK.pure (PV.sub rfl rfl (by omega)) rfl) ?_
  refine TV.virt 17 rfl rfl (by decide) rfl (by kernel_rfl) (SOK.pure (PV.indexA (j := ks.length - 1) rfl q1p rfl Tb.elm_25 (by omega) (by omega)) rfl) ?_
  refine TV.virt 18 rfl rfl (by decide) rfl (by kernel_rfl) (SOK.pure (PV.loadOld rfl Tb.one_3 q1v) rfl) ?_
  refine TV.virt 19 rfl rfl (by decide) rfl (by kernel_rfl) (SOK.pure (PV.indexA (j := (ks.getD (ks.length - 1) 0).toNat) rfl r1p rfl Tb.elm_22 (by omega) (by omega)) rfl) ?_
  refine TV.virt 20 rfl rfl (by decide) rfl (by kernel_rfl) (SOK.pure (PV.fieldAddrA rfl Tb.fo_40_1) rfl) ?_
  refine TV.virt 21 rfl rfl (by decide) rfl (by kernel_rfl) (SOK.pure (PV.loadOld rfl Tb.one_3 (r1v 1 _ rfl)) rfl) ?_
  refine TV.virt 22 rfl rfl (by decide) rfl (by kernel_rfl) (SOK.pure (PV.assign rfl) rfl) ?_
  refine TV.virt 23 rfl rfl (by decide) rfl (by kernel_rfl) (SOK.pure (PV.assign rfl) rfl) ?_
  refine TV.done (by kernel_rfl) ?_
  refine TQ.thenC ?_
  refine TC.ret ?_
  refine TQ.retE2 rfl rfl rfl ?_
  exact ⟨(), rfl, trivial, List.nil_sublist _⟩

set_option maxRecDepth 100000 in
theorem isWay_ok (w0 : World) (n s t : Nat) (p : Option Addr) (cap : Nat) (rs : List Bd) (hr : BdsAt w0 p rs) (tp : Option Addr) (tc : Nat) (ks : List Int) (am : Int) (hx : IntsAt w0 tp ks) (hl : ks.length ≤ 1000) (hlen : rs.length ≤ 1000) (hp : pthB rs ks am = true) :
    Calls Try.prog 81 #[dnV n s t p rs.length cap, .agg #[.slice tp ks.length tc, .int .i64 am]] w0 (Post (X := Unit) (fun _ => .bool (wayB s t rs ks)) (fun _ => True) (fun _ => []) w0) := by
  refine calls Try.func81 rfl (n := 23) rfl (by simp) ?_
  refine TC.seq ?_
  refine TC.region ?_
  refine TL.box rfl rfl (by decide) (fun b0 hb0 => ?_)
  refine TL.box rfl rfl (by decide) (fun b1 hb1 => ?_)
  refine TL.pure (PV.assign rfl) rfl (by decide) ?_
  refine TL.nil ?_
  refine TQ.thenC ?_
  refine TC.seq ?_
  refine TC.region ?_
  refine TL.pure (PV.loadBox rfl Tb.agg_24 (by repeat (first | exact List.Mem.head _ | refine List.Mem.tail _ ?_ | refine List.mem_append_right _ ?_)) rfl) rfl (by decide) ?_
  refine TL.pure (PV.loadBox rfl Tb.agg_89 (by repeat (first | exact List.Mem.head _ | refine List.Mem.tail _ ?_ | refine List.mem_append_right _ ?_)) rfl) rfl (by decide) ?_
  refine TL.call rfl Tb.gofn_92 (fun a w hs => ends_ok w n s t p cap rs (hr.new hs.new) tp tc ks am (hx.new hs.new) hl hlen hp) rfl (by decide) (fun _ _ => ?_)
  refine TL.pure (PV.move rfl) rfl (by decide) ?_
  refine TL.pure (PV.extract rfl rfl) rfl (by decide) ?_
  refine TL.pure (PV.extract rfl rfl) rfl (by decide) ?_
  refine TL.pure (PV.assign rfl) rfl (by decide) ?_
  refine TL.pure (PV.assign rfl) rfl (by decide) ?_
  refine TL.nil ?_
  refine TQ.thenC ?_
  refine TC.seq ?_
  refine TC.region ?_
  refine TL.pure (PV.move rfl) rfl (by decide) ?_
  refine TL.pure (PV.fieldAddr rfl Tb.fo_24_1) rfl (by decide) ?_
  refine TL.pure (PV.load rfl Tb.one_3 (by repeat (first | exact List.Mem.head _ | refine List.Mem.tail _ ?_ | refine List.mem_append_right _ ?_)) rfl) rfl (by decide) ?_
  refine TL.pure (PV.eql rfl rfl) rfl (by decide) ?_
  refine TL.pure (PV.move rfl) rfl (by decide) ?_
  first | refine TL.splitD 17 rfl (fun h0 => ?_) (fun h0 => ?_) | refine TL.split 17 rfl (fun h0 => ?_) (fun h0 => ?_)
  · skip
    refine TL.pure (PV.move rfl) rfl (by decide) ?_
    refine TL.pure (PV.fieldAddr rfl Tb.fo_24_2) rfl (by decide) ?_
    refine TL.pure (PV.load rfl Tb.one_3 (by repeat (first | exact List.Mem.head _ | refine List.Mem.tail _ ?_ | refine List.mem_append_right _ ?_)) rfl) rfl (by decide) ?_
    refine TL.pure (PV.eql rfl rfl) rfl (by decide) ?_
    refine TL.pure (PV.pickT rfl rfl) rfl (by decide) ?_
    refine TL.pure (PV.assign rfl) rfl (by decide) ?_
    refine TL.nil ?_
    refine TQ.thenC ?_
    refine TC.ret ?_
    refine TQ.retE1 rfl rfl ?_
    exact ⟨(), congrArg Value.bool (by unfold wayB; simp_all), trivial, List.nil_sublist _⟩
  · skip
    refine TL.skip rfl (fun k hk => by cases hk; decide) ?_
    refine TL.skip rfl (fun k hk => by cases hk; decide) ?_
    refine TL.skip rfl (fun k hk => by cases hk; decide) ?_
    refine TL.skip rfl (fun k hk => by cases hk; decide) ?_
    refine TL.pure (PV.pickF rfl rfl) rfl (by decide) ?_
    refine TL.pure (PV.assign rfl) rfl (by decide) ?_
    refine TL.nil ?_
    refine TQ.thenC ?_
    refine TC.ret ?_
    refine TQ.retE1 rfl rfl ?_
    exact ⟨(), congrArg Value.bool (by unfold wayB; simp_all), trivial, List.nil_sublist _⟩

set_option maxRecDepth 100000 in
theorem isRound_ok (w0 : World) (n s t : Nat) (p : Option Addr) (cap : Nat) (rs : List Bd) (hr : BdsAt w0 p rs) (tp : Option Addr) (tc : Nat) (ks : List Int) (am : Int) (hx : IntsAt w0 tp ks) (hl : ks.length ≤ 1000) (hlen : rs.length ≤ 1000) (hp : pthB rs ks am = true) :
    Calls Try.prog 82 #[dnV n s t p rs.length cap, .agg #[.slice tp ks.length tc, .int .i64 am]] w0 (Post (X := Unit) (fun _ => .bool (rndB rs ks)) (fun _ => True) (fun _ => []) w0) := by
  refine calls Try.func82 rfl (n := 16) rfl (by simp) ?_
  refine TC.seq ?_
  refine TC.region ?_
  refine TL.box rfl rfl (by decide) (fun b0 hb0 => ?_)
  refine TL.box rfl rfl (by decide) (fun b1 hb1 => ?_)
  refine TL.pure (PV.assign rfl) rfl (by decide) ?_
  refine TL.nil ?_
  refine TQ.thenC ?_
  refine TC.seq ?_
  refine TC.region ?_
  refine TL.pure (PV.loadBox rfl Tb.agg_24 (by repeat (first | exact List.Mem.head _ | refine List.Mem.tail _ ?_ | refine List.mem_append_right _ ?_)) rfl) rfl (by decide) ?_
  refine TL.pure (PV.loadBox rfl Tb.agg_89 (by repeat (first | exact List.Mem.head _ | refine List.Mem.tail _ ?_ | refine List.mem_append_right _ ?_)) rfl) rfl (by decide) ?_
  refine TL.call rfl Tb.gofn_92 (fun a w hs => ends_ok w n s t p cap rs (hr.new hs.new) tp tc ks am (hx.new hs.new) hl hlen hp) rfl (by decide) (fun _ _ => ?_)
  refine TL.pure (PV.move rfl) rfl (by decide) ?_
  refine TL.pure (PV.extract rfl rfl) rfl (by decide) ?_
  refine TL.pure (PV.extract rfl rfl) rfl (by decide) ?_
  refine TL.pure (PV.assign rfl) rfl (by decide) ?_
  refine TL.pure (PV.assign rfl) rfl (by decide) ?_
  refine TL.nil ?_
  refine TQ.thenC ?_
  refine TC.seq ?_
  refine TC.region ?_
  refine TL.pure (PV.move rfl) rfl (by decide) ?_
  refine TL.pure (PV.move rfl) rfl (by decide) ?_
  refine TL.pure (PV.eql rfl rfl) rfl (by decide) ?_
  refine TL.pure (PV.assign rfl) rfl (by decide) ?_
  refine TL.nil ?_
  refine TQ.thenC ?_
  refine TC.ret ?_
  refine TQ.retE1 rfl rfl ?_
  exact ⟨(), rfl, trivial, List.nil_sublist _⟩

set_option maxRecDepth 100000 in
set_option maxHeartbeats 2000000 in
theorem isTrail_ok (w0 : World) (n s t : Nat) (p : Option Addr) (cap : Nat) (rs : List Bd) (hr : BdsAt w0 p rs) (tp : Option Addr) (tc : Nat) (ks : List Int) (am : Int) (hx : IntsAt w0 tp ks) (hl : ks.length ≤ 1000) (hlen : rs.length ≤ 1000) :
    Calls Try.prog 80 #[dnV n s t p rs.length cap, .agg #[.slice tp ks.length tc, .int .i64 am]] w0 (Post (X := Unit) (fun _ => .bool (pthB rs ks am)) (fun _ => True) (fun _ => []) w0) := by
  refine calls Try.func80 rfl (n := 72) rfl (by simp) ?_
  refine TC.seq ?_
  refine TC.region ?_
  refine TL.box rfl rfl (by decide) (fun b0 hb0 => ?_)
  refine TL.box rfl rfl (by decide) (fun b1 hb1 => ?_)
  refine TL.pure (PV.assign rfl) rfl (by decide) ?_
  refine TL.nil ?_
  refine TQ.thenC ?_
  refine TC.seq ?_
  refine TC.seq ?_
  refine TC.region ?_
  refine TL.pure (PV.fieldAddr rfl Tb.fo_89_0) rfl (by decide) ?_
  refine TL.pure (PV.load rfl Tb.one_25 (by repeat (first | exact List.Mem.head _ | refine List.Mem.tail _ ?_ | refine List.mem_append_right _ ?_)) rfl) rfl (by decide) ?_
  refine TL.pure (PV.len rfl Tb.sl_25) rfl (by decide) ?_
  refine TL.pure (PV.eql rfl rfl) rfl (by decide) ?_
  refine TL.pure (PV.move rfl) rfl (by decide) ?_
  first | refine TL.splitD 12 rfl (fun a1 => ?_) (fun a1 => ?_) | refine TL.split 12 rfl (fun a1 => ?_) (fun a1 => ?_)
  · skip
    refine TL.skip rfl (fun k hk => by cases hk; decide) ?_
    refine TL.skip rfl (fun k hk => by cases hk; decide) ?_
    refine TL.skip rfl (fun k hk => by cases hk; decide) ?_
    refine TL.pure (PV.pickT rfl rfl) rfl (by decide) ?_
    refine TL.pure (PV.move rfl) rfl (by decide) ?_
    refine TL.skip rfl (fun k hk => by cases hk; decide) ?_
    refine TL.skip rfl (fun k hk => by cases hk; decide) ?_
    refine TL.skip rfl (fun k hk => by cases hk; decide) ?_
    refine TL.pure (PV.pickT rfl rfl) rfl (by decide) ?_
    refine TL.nil ?_
    refine TQ.thenC ?_
    refine TC.condT rfl ?_
    refine TC.seq ?_
    refine TC.region ?_
    refine TL.pure (PV.assign rfl) rfl (by decide) ?_
    refine TL.nil ?_
    refine TQ.thenC ?_
    refine TC.ret ?_
    refine TQ.thenR ?_
    refine TQ.retE1 rfl rfl ?_
    exact ⟨(), by rw [pth_no (fun h9 => by have := List.length_pos_iff.2 h9.1; omega)], trivial, List.nil_sublist _⟩
  · skip
    refine TL.pure (PV.fieldAddr rfl Tb.fo_89_1) rfl (by decide) ?_
    refine TL.pure (PV.load rfl Tb.one_3 (by repeat (first | exact List.Mem.head _ | refine List.Mem.tail _ ?_ | refine List.mem_append_right _ ?_)) rfl) rfl (by decide) ?_
    refine TL.pure (PV.lss rfl rfl) rfl (by decide) ?_
    refine TL.pure (PV.pickF rfl rfl) rfl (by decide) ?_
    refine TL.pure (PV.move rfl) rfl (by decide) ?_
    first | refine TL.splitD 17 rfl (fun a2 => ?_) (fun a2 => ?_) | refine TL.split 17 rfl (fun a2 => ?_) (fun a2 => ?_)
    · skip
      refine TL.skip rfl (fun k hk => by cases hk; decide) ?_
      refine TL.skip rfl (fun k hk => by cases hk; decide) ?_
      refine TL.skip rfl (fun k hk => by cases hk; decide) ?_
      refine TL.pure (PV.pickT rfl rfl) rfl (by decide) ?_
      refine TL.nil ?_
      refine TQ.thenC ?_
      refine TC.condT rfl ?_
      refine TC.seq ?_
      refine TC.region ?_
      refine TL.pure (PV.assign rfl) rfl (by decide) ?_
      refine TL.nil ?_
      refine TQ.thenC ?_
      refine TC.ret ?_
      refine TQ.thenR ?_
      refine TQ.retE1 rfl rfl ?_
      exact ⟨(), by rw [pth_no (fun h9 => by have := List.length_pos_iff.2 h9.1; omega)], trivial, List.nil_sublist _⟩
    · skip
      refine TL.pure (PV.fieldAddr rfl Tb.fo_89_1) rfl (by decide) ?_
      refine TL.pure (PV.load rfl Tb.one_3 (by repeat (first | exact List.Mem.head _ | refine List.Mem.tail _ ?_ | refine List.mem_append_right _ ?_)) rfl) rfl (by decide) ?_
      refine TL.pure (PV.gtr rfl rfl) rfl (by decide) ?_
      refine TL.pure (PV.pickF rfl rfl) rfl (by decide) ?_
      refine TL.nil ?_
      refine TQ.thenC ?_
      first | refine TC.condD rfl (fun hbad => ?_) (fun hbad => ?_) | refine TC.cond rfl (fun hbad => ?_) (fun hbad => ?_)
      · skip
        refine TC.seq ?_
        refine TC.region ?_
        refine TL.pure (PV.assign rfl) rfl (by decide) ?_
        refine TL.nil ?_
        refine TQ.thenC ?_
        refine TC.ret ?_
        refine TQ.thenR ?_
        refine TQ.retE1 rfl rfl ?_
        exact ⟨(), by rw [pth_no (fun h9 => by have := List.length_pos_iff.2 h9.1; omega)], trivial, List.nil_sublist _⟩
      · skip
        have hgd : ks ≠ [] ∧ 1 ≤ am ∧ am ≤ 20 := ⟨fun e => a1 (by rw [e]; rfl), by omega, by omega⟩
        refine TC.skip ?_
        refine TQ.thenC ?_
        refine TC.seq ?_
        refine TC.region ?_
        refine TL.pure (PV.fieldAddr rfl Tb.fo_24_3) rfl (by decide) ?_
        refine TL.pure (PV.load rfl Tb.one_22 (by repeat (first | exact List.Mem.head _ | refine List.Mem.tail _ ?_ | refine List.mem_append_right _ ?_)) rfl) rfl (by decide) ?_
        refine TL.pure (PV.len rfl Tb.sl_22) rfl (by decide) ?_
        refine TL.makeB (k := rs.length) rfl rfl Tb.sl_70 Tb.zi_4 rfl (by omega) (by omega) rfl (by decide) (fun bH hbH => ?_)
        refine TL.pure (PV.assign rfl) rfl (by decide) ?_
        refine TL.nil ?_
        refine TQ.thenC ?_
        refine TC.seq ?_
        refine TC.seq ?_
        refine TC.region ?_
        refine TL.pure (PV.fieldAddr rfl Tb.fo_89_0) rfl (by decide) ?_
        refine TL.pure (PV.load rfl Tb.one_25 (by repeat (first | exact List.Mem.head _ | refine List.Mem.tail _ ?_ | refine List.mem_append_right _ ?_)) rfl) rfl (by decide) ?_
        refine TL.pure (PV.len rfl Tb.sl_25) rfl (by decide) ?_
        refine TL.pure (PV.move rfl) rfl (by decide) ?_
        refine TL.nil ?_
        refine TQ.thenC ?_
        refine TC.block ?_
        -- live and written in the loop, not told: [4]
        refine TC.lit [(2, _), (3, _), (5, _), (27, _), (28, _), (29, _)] (by repeat (first | exact True.intro | refine And.intro rfl ?_)) ?_
        refine TC.loopK [2, 3, 5, 27, 28] (X := Nat × List Bool) (fun y => y.1 ≤ ks.length ∧ (List.range y.1).all (okT rs ks) = true ∧ HadI ks rs.length y.1 y.2) (fun y => [(29, .int .i64 (y.1 : Nat))]) (fun y => [(bH, Obj.cells (boolsA y.2) 4 (0, 0)), (b1, Obj.cells #[.slice tp ks.length tc, .int .i64 am] 89 (0, 0)), (b0, Obj.cells #[.int .i64 (n : Nat), .int .i64 (s : Nat), .int .i64 (t : Nat), .slice p rs.length cap] 24 (0, 0))]) (fun y => ks.length - y.1) (0, List.replicate rs.length false) ⟨Nat.zero_le _, rfl, HadI.zero _ _⟩ (by repeat (first | exact True.intro | refine And.intro rfl ?_)) (by repeat (first | exact List.Sublist.slnil | exact List.nil_sublist _ | exact List.Sublist.refl _ | refine List.Sublist.cons_cons _ ?_ | refine List.Sublist.cons _ ?_ | refine List.Sublist.trans ?_ (List.sublist_append_right _ _))) ?_
        intro y hy
        have hy1 := hy.1
        refine TC.lit [(2, _), (3, _), (5, _), (27, _), (28, _), (29, _)] (by repeat (first | exact True.intro | refine And.intro rfl ?_)) ?_
        refine TC.seq ?_
        refine TC.region ?_
        refine TL.pure (PV.lss rfl rfl) rfl (by decide) ?_
        refine TL.nil ?_
        refine TQ.thenC ?_
        refine TC.seq ?_
        first | refine TC.condD rfl (fun hlt => ?_) (fun hlt => ?_) | refine TC.cond rfl (fun hlt => ?_) (fun hlt => ?_)
        · skip
          refine TC.skip ?_
          refine TQ.thenC ?_
          refine TC.seq ?_
          refine TC.block ?_
          refine TC.seq ?_
          have hyl : y.1 < ks.length := by omega
          obtain ⟨q1, q1p, q1v⟩ := hx y.1 hyl
          obtain ⟨q2, q2h⟩ := ixX hx (y.1 - 1)
          obtain ⟨r1, r1h⟩ := rdX hr (ks.getD y.1 0)
          obtain ⟨r2, r2h⟩ := rdX hr (ks.getD (y.1 - 1) 0)
          have hpv : 0 < y.1 → 0 ≤ ks.getD (y.1 - 1) 0 ∧ ks.getD (y.1 - 1) 0 < rs.length := fun h => (okT_spec (all_get hy.2.1 (show y.1 - 1 < y.1 by omega))).1
          refine TC.region ?_
          refine TL.pure (PV.move rfl) rfl (by decide) ?_
          refine TL.pure (PV.indexA rfl q1p rfl Tb.elm_25 rfl (by omega)) rfl (by decide) ?_
          refine TL.pure (PV.loadOld rfl Tb.one_3 q1v) rfl (by decide) ?_
          refine TL.pure (PV.assign rfl) rfl (by decide) ?_
          refine TL.pure (PV.assign rfl) rfl (by decide) ?_
          refine TL.nil ?_
          refine TQ.thenC ?_
          refine TC.seq ?_
          refine TC.seq ?_
          refine TC.mixV [true, true, false, true, true, true, true, true, true, true, true, true, true, true, true, true, true, true, true, true, true, true, true, true, true, true, true, true, true, true, true, true, true, true] [(bH, Obj.cells (boolsA y.2) 4 (0, 0)), (b1, Obj.cells #[.slice tp ks.length tc, .int .i64 am] 89 (0, 0)), (b0, Obj.cells #[.int .i64 (n : Nat), .int .i64 (s : Nat), .int .i64 (t : Nat), .slice p rs.length cap] 24 (0, 0))] 34 Tb.mixed rfl (by kernel_rfl) (by kernel_rfl) (by kernel_rfl) (by kernel_rfl) (by repeat (first | exact List.Sublist.slnil | exact List.nil_sublist _ | exact List.Sublist.refl _ | refine List.Sublist.cons_cons _ ?_ | refine List.Sublist.cons _ ?_ | refine List.Sublist.trans ?_ (List.sublist_append_right _ _))) ?_
          refine TV.virt 0 rfl rfl (by decide) rfl (by kernel_rfl) (SOK.pure (PV.loadBox rfl Tb.agg_24 (by repeat (first | exact List.Mem.head _ | refine List.Mem.tail _ ?_ | refine List.mem_append_right _ ?_)) rfl) rfl) ?_
          refine TV.virt 1 rfl rfl (by decide) rfl (by kernel_rfl) (SOK.pure (PV.move rfl) rfl) ?_
          refine TV.step [2] (by kernel_rfl) (by decide) rfl ⟨⟨_, rfl, ?_⟩, trivial⟩
          refine TL.call rfl Tb.gofn_76 (fun a w hs => isDrain_ok _ _ _ _ _ _ _ _) rfl (by decide) (fun _ _ => ?_)
          refine TL.nil ?_
          refine TV.next (.inl (by repeat (first | exact List.Sublist.slnil | exact List.nil_sublist _ | exact List.Sublist.refl _ | refine List.Sublist.cons_cons _ ?_ | refine List.Sublist.cons _ ?_ | refine List.Sublist.trans ?_ (List.sublist_append_right _ _)))) ?_
          refine TV.virt 3 rfl rfl (by decide) rfl (by kernel_rfl) (SOK.pure ((by first | exact PV.notD rfl | exact PV.not rfl)) rfl) ?_
          refine TV.virt 4 rfl rfl (by decide) rfl (by kernel_rfl) (SOK.pure (PV.move rfl) rfl) ?_
          first | refine TV.splitD 38 rfl (fun c1 => ?_) (fun c1 => ?_) | refine TV.split 38 rfl (fun c1 => ?_) (fun c1 => ?_)
          · skip
            refine TV.virt 5 rfl rfl (by decide) rfl (by kernel_rfl) (SOK.skip rfl) ?_
            refine TV.virt 6 rfl rfl (by decide) rfl (by kernel_rfl) (SOK.skip rfl) ?_
            refine TV.virt 7 rfl rfl (by decide) rfl (by kernel_rfl) (SOK.skip rfl) ?_
            refine TV.virt 8 rfl rfl (by decide) rfl (by kernel_rfl) (SOK.skip rfl) ?_
            refine TV.virt 9 rfl rfl (by decide) rfl (by kernel_rfl) (SOK.pure (PV.pickT rfl rfl) rfl) ?_
            refine TV.virt 10 rfl rfl (by decide) rfl (by kernel_rfl) (SOK.pure (PV.move rfl) rfl) ?_
            refine TV.virt 11 rfl rfl (by decide) rfl (by kernel_rfl) (SOK.skip rfl) ?_
            refine TV.virt 12 rfl rfl (by decide) rfl (by kernel_rfl) (SOK.skip rfl) ?_
            refine TV.virt 13 rfl rfl (by decide) rfl (by kernel_rfl) (SOK.skip rfl) ?_
            refine TV.virt 14 rfl rfl (by decide) rfl (by kernel_rfl) (SOK.skipU rfl) ?_
            refine TV.virt 15 rfl rfl (by decide) rfl (by kernel_rfl) (SOK.skipU rfl) ?_
            refine TV.virt 16 rfl rfl (by decide) rfl (by kernel_rfl) (SOK.skipU rfl) ?_
            refine TV.virt 17 rfl rfl (by decide) rfl (by kernel_rfl) (SOK.skipU rfl) ?_
            refine TV.virt 18 rfl rfl (by decide) rfl (by kernel_rfl) (SOK.skipU rfl) ?_
            refine TV.virt 19 rfl rfl (by decide) rfl (by kernel_rfl) (SOK.skipU rfl) ?_
            refine TV.virt 20 rfl rfl (by decide) rfl (by kernel_rfl) (SOK.skipU rfl) ?_
            refine TV.virt 21 rfl rfl (by decide) rfl (by kernel_rfl) (SOK.skipU rfl) ?_
            refine TV.virt 22 rfl rfl (by decide) rfl (by kernel_rfl) (SOK.skipU rfl) ?_
            refine TV.virt 23 rfl rfl (by decide) rfl (by kernel_rfl) (SOK.skipU rfl) ?_
            refine TV.virt 24 rfl rfl (by decide) rfl (by kernel_rfl) (SOK.skipU rfl) ?_
            refine TV.virt 25 rfl rfl (by decide) rfl (by kernel_rfl) (SOK.skipU rfl) ?_
            refine TV.virt 26 rfl rfl (by decide) rfl (by kernel_rfl) (SOK.skipU rfl) ?_
            refine TV.virt 27 rfl rfl (by decide) rfl (by kernel_rfl) (SOK.skipU rfl) ?_
            refine TV.virt 28 rfl rfl (by decide) rfl (by kernel_rfl) (SOK.skipU rfl) ?_
            refine TV.virt 29 rfl rfl (by decide) rfl (by kernel_rfl) (SOK.skipU rfl) ?_
            refine TV.virt 30 rfl rfl (by decide) rfl (by kernel_rfl) (SOK.skipU rfl) ?_
            refine TV.virt 31 rfl rfl (by decide) rfl (by kernel_rfl) (SOK.skipU rfl) ?_
            refine TV.virt 32 rfl rfl (by decide) rfl (by kernel_rfl) (SOK.skip rfl) ?_
            refine TV.virt 33 rfl rfl (by decide) rfl (by kernel_rfl) (SOK.pure (PV.pickT rfl rfl) rfl) ?_
            refine TV.done (by kernel_rfl) ?_
            refine TQ.thenC ?_
            refine TC.condT rfl ?_
            refine TC.seq ?_
            refine TC.region ?_
            refine TL.pure (PV.assign rfl) rfl (by decide) ?_
            refine TL.nil ?_
            refine TQ.thenC ?_
            refine TC.ret ?_
            refine TQ.thenR ?_
            refine TQ.blkR ?_
            refine TQ.thenR ?_
            refine TQ.thenR ?_
            refine TQ.blkR ?_
            refine TQ.thenR ?_
            refine TQ.retE1 rfl rfl ?_
            exact ⟨(), by rw [pth_bad hyl (fun h9 => c1 h9.1)], trivial, List.nil_sublist _⟩
          · skip
            refine TV.virt 5 rfl rfl (by decide) rfl (by kernel_rfl) (SOK.pure (PV.move rfl) rfl) ?_
            refine TV.virt 6 rfl rfl (by decide) rfl (by kernel_rfl) (SOK.pure (PV.move rfl) rfl) ?_
            refine TV.virt 7 rfl rfl (by decide) rfl (by kernel_rfl) (SOK.pure (PV.index (j := (ks.getD y.1 0).toNat) rfl rfl Tb.elm_70 (by omega) (by omega)) rfl) ?_
            refine TV.virt 8 rfl rfl (by decide) rfl (by kernel_rfl) (SOK.pure (PV.loadBo' (v := decide (ks.getD y.1 0 ∈ ks.take y.1)) (ks.getD y.1 0).toNat rfl (off1 _) Tb.one_4 (by repeat (first | exact List.Mem.head _ | refine List.Mem.tail _ ?_ | refine List.mem_append_right _ ?_)) (by have := hy.2.2.1; omega) (hy.2.2.get (by omega))) rfl) ?_
            refine TV.virt 9 rfl rfl (by decide) rfl (by kernel_rfl) (SOK.pure (PV.pickF rfl rfl) rfl) ?_
            refine TV.virt 10 rfl rfl (by decide) rfl (by kernel_rfl) (SOK.pure (PV.move rfl) rfl) ?_
            first | refine TV.splitD 44 rfl (fun c2 => ?_) (fun c2 => ?_) | refine TV.split 44 rfl (fun c2 => ?_) (fun c2 => ?_)
            · skip
              refine TV.virt 11 rfl rfl (by decide) rfl (by kernel_rfl) (SOK.skip rfl) ?_
              refine TV.virt 12 rfl rfl (by decide) rfl (by kernel_rfl) (SOK.skip rfl) ?_
              refine TV.virt 13 rfl rfl (by decide) rfl (by kernel_rfl) (SOK.skip rfl) ?_
              refine TV.virt 14 rfl rfl (by decide) rfl (by kernel_rfl) (SOK.skipU rfl) ?_
              refine TV.virt 15 rfl rfl (by decide) rfl (by kernel_rfl) (SOK.skipU rfl) ?_
              refine TV.virt 16 rfl rfl (by decide) rfl (by kernel_rfl) (SOK.skipU rfl) ?_
              refine TV.virt 17 rfl rfl (by decide) rfl (by kernel_rfl) (SOK.skipU rfl) ?_
              refine TV.virt 18 rfl rfl (by decide) rfl (by kernel_rfl) (SOK.skipU rfl) ?_
              refine TV.virt 19 rfl rfl (by decide) rfl (by kernel_rfl) (SOK.skipU rfl) ?_
              refine TV.virt 20 rfl rfl (by decide) rfl (by kernel_rfl) (SOK.skipU rfl) ?_
              refine TV.virt 21 rfl rfl (by decide) rfl (by kernel_rfl) (SOK.skipU rfl) ?_
              refine TV.virt 22 rfl rfl (by decide) rfl (by kernel_rfl) (SOK.skipU rfl) ?_
              refine TV.virt 23 rfl rfl (by decide) rfl (by kernel_rfl) (SOK.skipU rfl) ?_
              refine TV.virt 24 rfl rfl (by decide) rfl (by kernel_rfl) (SOK.skipU rfl) ?_
              refine TV.virt 25 rfl rfl (by decide) rfl (by kernel_rfl) (SOK.skipU rfl) ?_
              refine TV.virt 26 rfl rfl (by decide) rfl (by kernel_rfl) (SOK.skipU rfl) ?_
              refine TV.virt 27 rfl rfl (by decide) rfl (by kernel_rfl) (SOK.skipU rfl) ?_
              refine TV.virt 28 rfl rfl (by decide) rfl (by kernel_rfl) (SOK.skipU rfl) ?_
              refine TV.virt 29 rfl rfl (by decide) rfl (by kernel_rfl) (SOK.skipU rfl) ?_
              refine TV.virt 30 rfl rfl (by decide) rfl (by kernel_rfl) (SOK.skipU rfl) ?_
              refine TV.virt 31 rfl rfl (by decide) rfl (by kernel_rfl) (SOK.skipU rfl) ?_
              refine TV.virt 32 rfl rfl (by decide) rfl (by kernel_rfl) (SOK.skip rfl) ?_
              refine TV.virt 33 rfl rfl (by decide) rfl (by kernel_rfl) (SOK.pure (PV.pickT rfl rfl) rfl) ?_
              refine TV.done (by kernel_rfl) ?_
              refine TQ.thenC ?_
              refine TC.condT rfl ?_
              refine TC.seq ?_
              refine TC.region ?_
              refine TL.pure (PV.assign rfl) rfl (by decide) ?_
              refine TL.nil ?_
              refine TQ.thenC ?_
              refine TC.ret ?_
              refine TQ.thenR ?_
              refine TQ.blkR ?_
              refine TQ.thenR ?_
              refine TQ.thenR ?_
              refine TQ.blkR ?_
              refine TQ.thenR ?_
              refine TQ.retE1 rfl rfl ?_
              exact ⟨(), by rw [pth_bad hyl (fun h9 => h9.2.1 (by simpa using c2))], trivial, List.nil_sublist _⟩
            · skip
              refine TV.virt 11 rfl rfl (by decide) rfl (by kernel_rfl) (SOK.pure (PV.move rfl) rfl) ?_
              refine TV.virt 12 rfl rfl (by decide) rfl (by kernel_rfl) (SOK.pure (PV.gtr rfl rfl) rfl) ?_
              refine TV.virt 13 rfl rfl (by decide) rfl (by kernel_rfl) (SOK.pure (PV.move rfl) rfl) ?_
              first | refine TV.splitD 47 rfl (fun c3 => ?_) (fun c3 => ?_) | refine TV.split 47 rfl (fun c3 => ?_) (fun c3 => ?_)
              · skip
                refine TV.virt 14 rfl rfl (by decide) rfl (by kernel_rfl) (SOK.pure (PV.fieldAddr rfl Tb.fo_24_3) rfl) ?_
                refine TV.virt 15 rfl rfl (by decide) rfl (by kernel_rfl) (SOK.pure (PV.load rfl Tb.one_22 (by repeat (first | exact List.Mem.head _ | refine List.Mem.tail _ ?_ | refine List.mem_append_right _ ?_)) rfl) rfl) ?_
                refine TV.virt 16 rfl rfl (by decide) rfl (by kernel_rfl) (SOK.pure (PV.move rfl) rfl) ?_
                refine TV.virt 17 rfl rfl (by decide) rfl (by kernel_rfl) (SOK.pure (PV.indexA (j := (ks.getD y.1 0).toNat) rfl (r1h (by omega)).1 rfl Tb.elm_22 (by omega) (by omega)) rfl) ?_
                refine TV.virt 18 rfl rfl (by decide) rfl (by kernel_rfl) (SOK.pure (PV.fieldAddrA rfl Tb.fo_40_0) rfl) ?_
                refine TV.virt 19 rfl rfl (by decide) rfl (by kernel_rfl) (SOK.pure (PV.loadOld rfl Tb.one_3 ((r1h (by omega)).2 0 _ rfl)) rfl) ?_
                refine TV.virt 20 rfl rfl (by decide) rfl (by kernel_rfl) (SOK.pure (PV.fieldAddr rfl Tb.fo_24_3) rfl) ?_
                refine TV.virt 21 rfl rfl (by decide) rfl (by kernel_rfl) (SOK.pure (PV.load rfl Tb.one_22 (by repeat (first | exact List.Mem.head _ | refine List.Mem.tail _ ?_ | refine List.mem_append_right _ ?_)) rfl) rfl) ?_
                refine TV.virt 22 rfl rfl (by decide) rfl (by kernel_rfl) (SOK.pure (PV.fieldAddr rfl Tb.fo_89_0) rfl) ?_
                refine TV.virt 23 rfl rfl (by decide) rfl (by kernel_rfl) (SOK.pure (PV.load rfl Tb.one_25 (by repeat (first | exact List.Mem.head _ | refine List.Mem.tail _ ?_ | refine List.mem_append_right _ ?_)) rfl) rfl) ?_
                refine TV.virt 24 rfl rfl (by decide) rfl (by kernel_rfl) (SOK.pure (PV.move rfl) rfl) ?_
                refine TV.virt 25 rfl rfl (by decide) rfl (by kernel_rfl) (SOK.pure (PV.sub rfl rfl (by omega)) rfl) ?_
                refine TV.virt 26 rfl rfl (by decide) rfl (by kernel_rfl) (SOK.pure (PV.indexA (j := y.1 - 1) rfl (q2h (by omega)).1 rfl Tb.elm_25 (by omega) (by omega)) rfl) ?_
                refine TV.virt 27 rfl rfl (by decide) rfl (by kernel_rfl) (SOK.pure (PV.loadOld rfl Tb.one_3 (q2h (by omega)).2) rfl) ?_
                refine TV.virt 28 rfl rfl (by decide) rfl (by kernel_rfl) (SOK.pure (PV.indexA (j := (ks.getD (y.1 - 1) 0).toNat) rfl (r2h (hpv (by omega))).1 rfl Tb.elm_22 (by have := hpv (by omega); omega) (by have := hpv (by omega); omega)) rfl) ?_
                refine TV.virt 29 rfl rfl (by decide) rfl (by kernel_rfl) (SOK.pure (PV.fieldAddrA rfl Tb.fo_40_1) rfl) ?_
                refine TV.virt 30 rfl rfl (by decide) rfl (by kernel_rfl) (SOK.pure (PV.loadOld rfl Tb.one_3 ((r2h (hpv (by omega))).2 1 _ rfl)) rfl) ?_
                refine TV.virt 31 rfl rfl (by decide) rfl (by kernel_rfl) (SOK.pure (PV.neq rfl rfl) rfl) ?_
                refine TV.virt 32 rfl rfl (by decide) rfl (by kernel_rfl) (SOK.pure (PV.pickT rfl rfl) rfl) ?_
                refine TV.virt 33 rfl rfl (by decide) rfl (by kernel_rfl) (SOK.pure (PV.pickF rfl rfl) rfl) ?_
                refine TV.done (by kernel_rfl) ?_
                refine TQ.thenC ?_
                first | refine TC.condD rfl (fun hno => ?_) (fun hno => ?_) | refine TC.cond rfl (fun hno => ?_) (fun hno => ?_)
                · skip
                  refine TC.seq ?_
                  refine TC.region ?_
                  refine TL.pure (PV.assign rfl) rfl (by decide) ?_
                  refine TL.nil ?_
                  refine TQ.thenC ?_
                  refine TC.ret ?_
                  refine TQ.thenR ?_
                  refine TQ.blkR ?_
                  refine TQ.thenR ?_
                  refine TQ.thenR ?_
                  refine TQ.blkR ?_
                  refine TQ.thenR ?_
                  refine TQ.retE1 rfl rfl ?_
                  exact ⟨(), by rw [pth_bad hyl (fun h9 => h9.2.2.elim (fun h8 => absurd h8 (by omega)) (fun h8 => hno (show (rs.getD (ks.getD (y.1 - 1) 0).toNat default).b = (rs.getD (ks.getD y.1 0).toNat default).a from h8).symm))], trivial, List.nil_sublist _⟩
                · skip
                  have hok : okT rs ks y.1 = true := decide_eq_true ⟨by omega, c2, .inr (show (rs.getD (ks.getD (y.1 - 1) 0).toNat default).b = (rs.getD (ks.getD y.1 0).toNat default).a from by omega)⟩
                  refine TC.skip ?_
                  refine TQ.thenC ?_
                  refine TC.region ?_
                  refine TL.pure (PV.move rfl) rfl (by decide) ?_
                  refine TL.pure (PV.move rfl) rfl (by decide) ?_
                  refine TL.pure (PV.index (j := (ks.getD y.1 0).toNat) rfl rfl Tb.elm_70 (by omega) (by omega)) rfl (by decide) ?_
                  refine TL.storeBo (bs := y.2) (ks.getD y.1 0).toNat rfl (off1 _) rfl Tb.cells_4 (by repeat (first | exact Upd.head _ | apply Upd.tail | apply Upd.appR)) (by have := hy.2.2.1; omega) rfl rfl ?_
                  refine TL.nil ?_
                  refine TQ.blkN ?_
                  refine TQ.thenC ?_
                  refine TC.region ?_
                  refine TL.pure (PV.add rfl rfl (by omega)) rfl (by decide) ?_
                  refine TL.pure (PV.move rfl) rfl (by decide) ?_
                  refine TL.nil ?_
                  refine TQ.thenN ?_
                  refine TQ.backK (y.1 + 1, y.2.set (ks.getD y.1 0).toNat true) (by repeat (first | exact True.intro | refine And.intro rfl ?_)) (by repeat (first | exact True.intro | refine And.intro rfl ?_)) (by repeat (first | exact List.Sublist.slnil | exact List.nil_sublist _ | exact List.Sublist.refl _ | refine List.Sublist.cons_cons _ ?_ | refine List.Sublist.cons _ ?_ | refine List.Sublist.trans ?_ (List.sublist_append_right _ _))) ⟨by simp only; omega, all_next hy.2.1 hok, hy.2.2.put hyl (by omega)⟩ (by simp only; omega)
              · skip
                refine TV.virt 14 rfl rfl (by decide) rfl (by kernel_rfl) (SOK.skip rfl) ?_
                refine TV.virt 15 rfl rfl (by decide) rfl (by kernel_rfl) (SOK.skip rfl) ?_
                refine TV.virt 16 rfl rfl (by decide) rfl (by kernel_rfl) (SOK.skip rfl) ?_
                refine TV.virt 17 rfl rfl (by decide) rfl (by kernel_rfl) (SOK.skip rfl) ?_
                refine TV.virt 18 rfl rfl (by decide) rfl (by kernel_rfl) (SOK.skip rfl) ?_
                refine TV.virt 19 rfl rfl (by decide) rfl (by kernel_rfl) (SOK.skip rfl) ?_
                refine TV.virt 20 rfl rfl (by decide) rfl (by kernel_rfl) (SOK.skip rfl) ?_
                refine TV.virt 21 rfl rfl (by decide) rfl (by kernel_rfl) (SOK.skip rfl) ?_
                refine TV.virt 22 rfl rfl (by decide) rfl (by kernel_rfl) (SOK.skip rfl) ?_
                refine TV.virt 23 rfl rfl (by decide) rfl (by kernel_rfl) (SOK.skip rfl) ?_
                refine TV.virt 24 rfl rfl (by decide) rfl (by kernel_rfl) (SOK.skip rfl) ?_
                refine TV.virt 25 rfl rfl (by decide) rfl (by kernel_rfl) (SOK.skip rfl) ?_
                refine TV.virt 26 rfl rfl (by decide) rfl (by kernel_rfl) (SOK.skip rfl) ?_
                refine TV.virt 27 rfl rfl (by decide) rfl (by kernel_rfl) (SOK.skip rfl) ?_
                refine TV.virt 28 rfl rfl (by decide) rfl (by kernel_rfl) (SOK.skip rfl) ?_
                refine TV.virt 29 rfl rfl (by decide) rfl (by kernel_rfl) (SOK.skip rfl) ?_
                refine TV.virt 30 rfl rfl (by decide) rfl (by kernel_rfl) (SOK.skip rfl) ?_
                refine TV.virt 31 rfl rfl (by decide) rfl (by kernel_rfl) (SOK.skip rfl) ?_
                refine TV.virt 32 rfl rfl (by decide) rfl (by kernel_rfl) (SOK.pure (PV.pickF rfl rfl) rfl) ?_
                refine TV.virt 33 rfl rfl (by decide) rfl (by kernel_rfl) (SOK.pure (PV.pickF rfl rfl) rfl) ?_
                refine TV.done (by kernel_rfl) ?_
                refine TQ.thenC ?_
                refine TC.condF rfl ?_
                have hok : okT rs ks y.1 = true := decide_eq_true ⟨by omega, c2, .inl (by omega)⟩
                refine TC.skip ?_
                refine TQ.thenC ?_
                refine TC.region ?_
                refine TL.pure (PV.move rfl) rfl (by decide) ?_
                refine TL.pure (PV.move rfl) rfl (by decide) ?_
                refine TL.pure (PV.index (j := (ks.getD y.1 0).toNat) rfl rfl Tb.elm_70 (by omega) (by omega)) rfl (by decide) ?_
                refine TL.storeBo (bs := y.2) (ks.getD y.1 0).toNat rfl (off1 _) rfl Tb.cells_4 (by repeat (first | exact Upd.head _ | apply Upd.tail | apply Upd.appR)) (by have := hy.2.2.1; omega) rfl rfl ?_
                refine TL.nil ?_
                refine TQ.blkN ?_
                refine TQ.thenC ?_
                refine TC.region ?_
                refine TL.pure (PV.add rfl rfl (by omega)) rfl (by decide) ?_
                refine TL.pure (PV.move rfl) rfl (by decide) ?_
                refine TL.nil ?_
                refine TQ.thenN ?_
                refine TQ.backK (y.1 + 1, y.2.set (ks.getD y.1 0).toNat true) (by repeat (first | exact True.intro | refine And.intro rfl ?_)) (by repeat (first | exact True.intro | refine And.intro rfl ?_)) (by repeat (first | exact List.Sublist.slnil | exact List.nil_sublist _ | exact List.Sublist.refl _ | refine List.Sublist.cons_cons _ ?_ | refine List.Sublist.cons _ ?_ | refine List.Sublist.trans ?_ (List.sublist_append_right _ _))) ⟨by simp only; omega, all_next hy.2.1 hok, hy.2.2.put hyl (by omega)⟩ (by simp only; omega)
        · skip
          refine TC.exit ?_
          refine TQ.thenE ?_
          refine TQ.thenE ?_
          refine TQ.blkS ?_
          refine TQ.thenC ?_
          refine TC.seq ?_
          have hye : y.1 = ks.length := by have := hy.1; omega
          refine TC.region ?_
          refine TL.pure (PV.assign rfl) rfl (by decide) ?_
          refine TL.nil ?_
          refine TQ.thenC ?_
          refine TC.ret ?_
          refine TQ.retE1 rfl rfl ?_
          exact ⟨(), by rw [pth_yes hgd (hye ▸ hy.2.1)], trivial, List.nil_sublist _⟩

end Go.Proofs.Ytnlbngbbddhgeaa
