/- A flow put into ways and rounds: contract. -/
import Derived.Test.YtnlbngbbddhgeaaQHs
import Derived.Test.YtnlbngbbddhgeaaQHf
import Derived.Test.YtnlbngbbddhgeaaQHd
set_option linter.unusedVariables false
set_option linter.unusedSimpArgs false
namespace Go.Proofs.Ytnlbngbbddhgeaa
open Go.Sx Go.RowKit


theorem perm_of {A B : Heap} (h : ∀ c : (Nat × Obj) → Nat, (A.map c).sum = (B.map c).sum) : List.Perm A B := by
  classical
  rw [List.perm_iff_count]
  intro a
  have hc : ∀ l : Heap, (l.map fun x => if x = a then 1 else 0).sum = l.count a := fun l => by
    induction l with
    | nil => rfl
    | cons x l ih =>
      rw [List.map_cons, List.sum_cons, ih, List.count_cons]
      by_cases e : x = a
      · subst e; simp; omega
      · simp [e]
  rw [← hc A, ← hc B]
  exact h _

theorem IntsAt.cutL {w : World} {p : Option Addr} {xs : List Int} {C l : Nat} (h : IntsAt w p xs) (hl : l ≤ xs.length) (hc : xs.length ≤ C) : IntsAt w (cutA p C l 1) (xs.drop l) := fun j hj => by
  rw [List.length_drop] at hj
  obtain ⟨q, h1, h2⟩ := h (l + j) (by omega)
  unfold Go.Proofs.Ytnlbngbbddhgeaa.cutA
  rw [if_neg (by omega), h1]
  refine ⟨_, rfl, ?_⟩
  rw [addr_add_add, show l * 1 + j * 1 = (l + j) * 1 from by omega, h2]
  simp [List.getD, List.getElem?_drop]
theorem IntsAt.cutH {w : World} {p : Option Addr} {xs : List Int} {C l : Nat} (h : IntsAt w p xs) (hl : l ≤ xs.length) : IntsAt w (cutA p C 0 1) (xs.take l) := fun j hj => by
  rw [List.length_take] at hj
  obtain ⟨q, h1, h2⟩ := h j (by omega)
  have e : (xs.take l).getD j 0 = xs.getD j 0 := by simp [List.getD, List.getElem?_take, show j < l by omega]
  rw [e]
  unfold Go.Proofs.Ytnlbngbbddhgeaa.cutA
  split
  · exact ⟨q, h1, h2⟩
  · rw [h1]
    refine ⟨_, rfl, ?_⟩
    rw [addr_add_add, show 0 * 1 + j * 1 = j * 1 from by omega, h2]
theorem rw_ints {w0 w : World} {G : Heap} {y : RW} (hn : New w0 w G) (hm : ∀ q ∈ gbI (some (y.b, y.cap, y.sp), nI y.W), q ∈ G) : IntsAt w (some ⟨y.b, y.i, none⟩) (nI (y.W.drop y.i)) := fun j hj => by
  rw [nI_len] at hj
  refine ⟨_, rfl, ?_⟩
  rw [add_off, nI_get hj]
  exact hn.cell (hm _ (.head _)) (rw_get hj)
theorem rw_TB {y : RW} {am : Int} {c : Nat} : TB (gbI (some (y.b, y.cap, y.sp), nI y.W)) ⟨some ⟨y.b, y.i, none⟩, c, nI (y.W.drop y.i), am⟩ :=
  ⟨y.b, y.i, _, _, _, .head _, rfl, fun j hj => by
    have hj2 : j < (nI (y.W.drop y.i)).length := hj
    rw [nI_len] at hj2
    show _ = some (Value.int .i64 ((nI (y.W.drop y.i)).getD j 0))
    rw [nI_get hj2]
    exact rw_get hj2⟩
theorem roundOf_g {w0 w : World} {G : Heap} {hr : HD} {L : List Fl.E} {K N9 : Nat} (hK : L.length = K) (hok : goR R4 hr L) (hn : New w0 w G) (hm : ∀ y ∈ gbR R4 92 hr L, y ∈ G) (hKl : K ≤ 100) (hC : Fl.Cir N9 L) (hn8 : N9 ≤ 8) :
    Calls Try.prog 85 #[gval hr K] w (Post (X := Option RW) rwV (rwF L) rwD w) := by
  have h9 := roundOf_ok w (gp hr) (gc hr) K L hK (RecsAt.s hn hm hok) hKl N9 hC hn8
  have e : gval hr K = .slice (gp hr) K (gc hr) := by subst hK; exact gval_eq hok
  rw [e]; exact h9
theorem restsOf_g (w0 : World) (n s t : Int) (p : Option Addr) (cap : Nat) (rs : List Bd) (hr : BdsAt w0 p rs) (hv : Vd n s t rs) (pf : Option Addr) (cf m : Nat) (fs : List Int) (hf : IntsAt w0 pf fs) (hm : fs.length = m) (hl : fs.length = rs.length) :
    Calls Try.prog 61 #[dnV n s t p rs.length cap, .slice pf m cf] w0 (Post (X := Nat) (fun b => gval (some (b, rs.length, [])) rs.length) (fun _ => True) (fun b => gbR R4 92 (some (b, rs.length, [])) (cfL rs fs)) w0) := by
  subst hm
  refine (restsOf_ok w0 n s t p cap rs hr hv pf cf fs hf hl).mono fun e w' ⟨b, h1, h2, h3⟩ => ⟨b, h1, h2, ?_⟩
  have e9 : gbR R4 92 (some (b, rs.length, [])) (cfL rs fs) = [(b, rsO (mkL rs fun j => fs.getD j 0))] := by
    unfold gbR gblk rsO
    rw [recA_rcs]; simp [cfL]
  show New w0 w' (gbR R4 92 (some (b, rs.length, [])) (cfL rs fs))
  rw [e9]; exact h3
theorem go_rests (b : Nat) (rs : List Bd) (fs : List Int) : goR R4 (some (b, rs.length, [])) (cfL rs fs) := by
  have h := rcs_len (R := R4) (cfL rs fs)
  rw [cfL_len] at h
  have e : R4.sz = 4 := rfl
  rw [e] at h
  refine ⟨by rw [rcs_len], ?_, ?_⟩
  · simp only [h, e, List.length_nil, Nat.add_zero]
  · rw [cfL_len]; exact Nat.le_refl _
theorem concat2 {w0 w : World} {G : Heap} {bV : Nat} {p1 p2 : Option Addr} {c1 c2 l1 l2 : Nat} {A B : List Nat} (hn : New w0 w G) (hm : (bV, Obj.cells #[.slice p1 l1 c1, .slice p2 l2 c2] 25 (0, 0)) ∈ G) (h1 : IntsAt w p1 (nI B)) (h2 : IntsAt w p2 (nI A)) (e1 : (nI B).length = l1) (e2 : (nI A).length = l2) (hl : l1 + l2 ≤ 100) :
    Calls Try.prog 88 #[.slice (some ⟨bV, 0, none⟩) 2 2] w (Post (X := HD) (fun h => gval h (nI (B ++ A)).length) (fun h => goI (h, nI (B ++ A))) (fun h => gbI (h, nI (B ++ A))) w) := by
  subst e1; subst e2
  have hcat : catK [(p1, c1, nI B), (p2, c2, nI A)] 2 = nI (B ++ A) := by simp [catK, nI]
  have h := concat_ok w ⟨bV, 0, none⟩ 2 [(p1, c1, nI B), (p2, c2, nI A)] (fun j hj => by
    match j, hj with
    | 0, _ => exact ⟨by rw [add_off]; exact hn.cell hm rfl, h1⟩
    | 1, _ => exact ⟨by rw [add_off]; exact hn.cell hm rfl, h2⟩) (by
    show (catK _ 2).length ≤ 100000
    rw [hcat]
    have h7 : (nI (B ++ A)).length = (nI B).length + (nI A).length := by simp [nI]
    omega) (by simp)
  have e : (catK [(p1, c1, nI B), (p2, c2, nI A)] [(p1, c1, nI B), (p2, c2, nI A)].length) = nI (B ++ A) := hcat
  rw [e] at h
  exact h
theorem fill_tv (v1 : Option Addr) (l c : Nat) (am : Int) : Instr.fill ([(0, 1), (1, 1)][·]?) #[.slice none 0 0, (Value.int .i64 0)] [(0, Value.slice v1 l c), (1, Value.int .i64 am)] = some #[.slice v1 l c, .int .i64 am] := by kernel_rfl
theorem fill_tvs (v1 : Option Addr) (l c : Nat) (am : Int) : Instr.fill (fun i => some (i * 2, 2)) ((Array.range (1 * 2)).map ((Value.agg #[.slice none 0 0, (Value.int .i64 0)]).cells[· % (Value.agg #[.slice none 0 0, (Value.int .i64 0)]).cells.size]!)) [(0, .agg #[.slice v1 l c, .int .i64 am])] = some #[.slice v1 l c, .int .i64 am] := by kernel_rfl
theorem fill_bk (f t w r : Int) : Instr.fill ([(0, 3), (3, 1)][·]?) #[(Value.int .i64 0), (Value.int .i64 0), (Value.int .i64 0), (Value.int .i64 0)] [(0, Value.agg #[.int .i64 f, .int .i64 t, .int .i64 w]), (1, Value.int .i64 r)] = some #[.int .i64 f, .int .i64 t, .int .i64 w, .int .i64 r] := by kernel_rfl
theorem fill_bks (f t w r : Int) : Instr.fill (fun i => some (i * 4, 4)) ((Array.range (1 * 4)).map ((Value.agg #[(.int .i64 0), (.int .i64 0), (.int .i64 0), (.int .i64 0)]).cells[· % (Value.agg #[(.int .i64 0), (.int .i64 0), (.int .i64 0), (.int .i64 0)]).cells.size]!)) [(0, .agg #[.int .i64 f, .int .i64 t, .int .i64 w, .int .i64 r])] = some #[.int .i64 f, .int .i64 t, .int .i64 w, .int .i64 r] := by kernel_rfl
structure SX where
  L : List Fl.E
  h : HD
  ts : List TV
  Gt : Heap
  o : Option RW
structure SF (n s t : Nat) (rs : List Bd) (fs : List Int) (hr : HD) (x : SX) : Prop where
  si : SI n s t rs fs x.L x.ts
  rw_ : rwF x.L x.o
  go : goR TVR x.h x.ts
  gr : goR R4 hr x.L
  tb : ∀ tv ∈ x.ts, TB x.Gt tv
def rwL : Option RW → Nat
  | none => 0
  | some y => y.W.length - y.i
theorem PV.lenRW {P : Program} {n : Nat} {w0 : World} {E : Env} {G : Heap} {d : Option Nat} {ty : TypeId} {pos : String} {aft : Array Edge} {g : Option (Nat × Bool)} {x : Operand} {o : Option RW} {t e : TypeId} (hx : evo E x = some (rwV o)) (ht : P.underlying t = some (.slice e)) :
    PV P n w0 E G ⟨d, .call { callee := .builtin .len, args := #[x], argTypes := #[t] }, ty, pos, aft, g⟩ (.int .i64 (rwL o)) := by
  cases o with
  | none => exact PV.len hx ht
  | some y => exact PV.len hx ht
theorem drop_split {m k : Nat} {ks : List Nat} (hk : k < ks.length) (h : ks.getD k 0 = m) : ks = ks.take k ++ m :: ks.drop (k + 1) := by
  have : ks.drop k = m :: ks.drop (k + 1) := by
    rw [List.drop_eq_getElem_cons hk, ← h]; simp [List.getD, hk]
  rw [← this, List.take_append_drop]
theorem TB.all {G G2 : Heap} {ts : List TV} {tv : TV} (h : ∀ x ∈ ts, TB G x) (h2 : TB G2 tv) : ∀ x ∈ ts ++ [tv], TB (G2 ++ G) x := fun x hx => by
  rcases List.mem_append.1 hx with h3 | h3
  · exact (h x h3).more fun y hy => List.mem_append_right _ hy
  · rw [List.mem_singleton.1 h3]; exact h2.more fun y hy => List.mem_append_left _ hy


set_option maxRecDepth 100000 in
theorem index2_ok (w0 : World) (vx : Value) (xs : List Int) (hv : IsI w0 vx xs) (v : Int) (hl : xs.length ≤ 1000000) :
    Calls Try.prog 87 #[vx, .int .i64 v] w0 (Post (X := Int) (fun i => .int .i64 i) (FindP xs.length (fun j => decide (xs.getD j 0 = v))) (fun _ => []) w0) := by
  obtain ⟨p1, c1, rfl, hx⟩ := hv
  refine calls Try.func87 rfl (n := 19) rfl (by simp) ?_
  refine TC.seq ?_
  refine TC.region ?_
  refine TL.pure (PV.assign rfl) rfl (by decide) ?_
  refine TL.nil ?_
  refine TQ.thenC ?_
  refine TC.seq ?_
  refine TC.seq ?_
  refine TC.region ?_
  refine TL.pure (PV.move rfl) rfl (by decide) ?_
  refine TL.pure (PV.len rfl Tb.sl_25) rfl (by decide) ?_
  refine TL.pure (PV.move rfl) rfl (by decide) ?_
  refine TL.nil ?_
  refine TQ.thenC ?_
  refine TC.block ?_
  -- live and written in the loop, not told: [4]
  refine TC.loopK [0, 1, 7] (X := Nat) (fun k => k ≤ xs.length ∧ ∀ j, j < k → xs.getD j 0 ≠ v) (fun k => [(8, .int .i64 k)]) (fun k => []) (fun k => xs.length - k) 0 ⟨Nat.zero_le _, fun j h => absurd h (Nat.not_lt_zero _)⟩ (by repeat (first | exact True.intro | refine And.intro rfl ?_)) (by repeat (first | exact List.Sublist.slnil | exact List.nil_sublist _ | exact List.Sublist.refl _ | refine List.Sublist.cons_cons _ ?_ | refine List.Sublist.cons _ ?_ | refine List.Sublist.trans ?_ (List.sublist_append_right _ _))) ?_
  intro k hk
  refine TC.seq ?_
  refine TC.region ?_
  refine TL.pure (PV.lss rfl rfl) rfl (by decide) ?_
  refine TL.nil ?_
  refine TQ.thenC ?_
  refine TC.seq ?_
  first | refine TC.condD rfl (fun hlt => ?_) (fun hlt => ?_) | refine TC.cond rfl (fun hlt => ?_) (fun hlt => ?_)
  · skip
    refine TC.skip ?_
    refine TQ.thenC ?_
    refine TC.seq ?_
    refine TC.block ?_
    refine TC.seq ?_
    refine TC.region ?_
    refine TL.pure (PV.move rfl) rfl (by decide) ?_
    refine TL.pure (PV.assign rfl) rfl (by decide) ?_
    refine TL.nil ?_
    refine TQ.thenC ?_
    refine TC.seq ?_
    obtain ⟨q, hqp, hq⟩ := hx k (by omega)
    refine TC.region ?_
    refine TL.pure (PV.move rfl) rfl (by decide) ?_
    refine TL.pure (PV.move rfl) rfl (by decide) ?_
    refine TL.pure (PV.move rfl) rfl (by decide) ?_
    refine TL.pure (PV.indexA rfl hqp rfl Tb.elm_25 rfl (by omega)) rfl (by decide) ?_
    refine TL.pure (PV.loadOld rfl Tb.one_3 hq) rfl (by decide) ?_
    refine TL.pure (PV.eql rfl rfl) rfl (by decide) ?_
    refine TL.nil ?_
    refine TQ.thenC ?_
    first | refine TC.condD rfl (fun heq => ?_) (fun heq => ?_) | refine TC.cond rfl (fun heq => ?_) (fun heq => ?_)
    · skip
      refine TC.seq ?_
      refine TC.region ?_
      refine TL.pure (PV.move rfl) rfl (by decide) ?_
      refine TL.pure (PV.assign rfl) rfl (by decide) ?_
      refine TL.nil ?_
      refine TQ.thenC ?_
      refine TC.ret ?_
      refine TQ.blkR ?_
      refine TQ.thenR ?_
      refine TQ.thenR ?_
      refine TQ.blkR ?_
      refine TQ.thenR ?_
      refine TQ.retE1 rfl rfl ?_
      exact ⟨(k : Int), rfl, .inr ⟨k, by omega, rfl, decide_eq_true (by omega), fun j hj => decide_eq_false (hk.2 j hj)⟩, List.nil_sublist _⟩
    · skip
      refine TC.skip ?_
      refine TQ.blkN ?_
      refine TQ.thenC ?_
      refine TC.region ?_
      refine TL.pure (PV.add rfl rfl (by omega)) rfl (by decide) ?_
      refine TL.pure (PV.move rfl) rfl (by decide) ?_
      refine TL.nil ?_
      refine TQ.thenN ?_
      refine TQ.backK (k + 1) (by repeat (first | exact True.intro | refine And.intro rfl ?_)) (by repeat (first | exact True.intro | refine And.intro rfl ?_)) (by repeat (first | exact List.Sublist.slnil | exact List.nil_sublist _ | exact List.Sublist.refl _ | refine List.Sublist.cons_cons _ ?_ | refine List.Sublist.cons _ ?_ | refine List.Sublist.trans ?_ (List.sublist_append_right _ _))) ⟨by omega, fun j hj => by
        by_cases e9 : j = k
        · subst e9; intro e8; exact heq e8.symm
        · exact hk.2 j (by omega)⟩ (by omega)
  · skip
    refine TC.exit ?_
    refine TQ.thenE ?_
    refine TQ.thenE ?_
    refine TQ.blkS ?_
    refine TQ.thenC ?_
    refine TC.seq ?_
    have hke : k = xs.length := by omega
    refine TC.region ?_
    refine TL.pure (PV.assign rfl) rfl (by decide) ?_
    refine TL.nil ?_
    refine TQ.thenC ?_
    refine TC.ret ?_
    refine TQ.retE1 rfl rfl ?_
    exact ⟨-1, rfl, .inl ⟨rfl, fun j hj => decide_eq_false (hk.2 j (by omega))⟩, List.nil_sublist _⟩

set_option maxRecDepth 100000 in
set_option maxHeartbeats 1000000 in
theorem Split_v (w0 : World) (n s t : Nat) (p : Option Addr) (cap : Nat) (rs : List Bd) (hr : BdsAt w0 p rs) (hv : Vd n s t rs) (hd0 : dI n s t rs = 0) (pf : Option Addr) (cf : Nat) (fs : List Int) (hf : IntsAt w0 pf fs) (hl9 : fs.length = rs.length) (hc0 : (cfV n s t rs fs).2 = 0) (hb20 : ∀ j, j < rs.length → 0 ≤ fs.getD j 0 ∧ fs.getD j 0 ≤ 20) (hv0 : 0 ≤ (cfV n s t rs fs).1) :
    Calls Try.prog 53 #[dnV n s t p rs.length cap, .slice pf fs.length cf] w0 (Post (X := HD × List TV × Heap) (fun x => .tuple #[gval x.1 x.2.1.length, .int .i64 0]) (fun x => goR TVR x.1 x.2.1 ∧ (∀ tv ∈ x.2.1, TB x.2.2 tv) ∧ sumE s t rs x.2.1 = 0 ∧ sumT rs x.2.1 = fs ∧ x.2.1.length ≤ 17 ∧ ∀ tv ∈ x.2.1, tv.ks.length ≤ 16) (fun x => gbR TVR 89 x.1 x.2.1 ++ x.2.2) w0) := by
  have hw := hv.w1
  have hlen := hv.len
  have hn8 := hw.n8
  have hsn := hw.sn
  have htn := hw.tn
  have h256 := p2_256 hn8
  have hpos := Nat.two_pow_pos n
  obtain ⟨hfl, hfv⟩ := cfV_flow hv hc0
  have hlb : (cfL rs fs).length = rs.length := cfL_len _ _
  refine calls Try.func53 rfl (n := 71) rfl (by simp) ?_
  refine TC.seq ?_
  refine TC.region ?_
  refine TL.box rfl rfl (by decide) (fun b0 hb0 => ?_)
  refine TL.pure (PV.assign rfl) rfl (by decide) ?_
  refine TL.pure (PV.assign rfl) rfl (by decide) ?_
  refine TL.nil ?_
  refine TQ.thenC ?_
  refine TC.seq ?_
  refine TC.region ?_
  refine TL.pure (PV.loadBox rfl Tb.agg_24 (by repeat (first | exact List.Mem.head _ | refine List.Mem.tail _ ?_ | refine List.mem_append_right _ ?_)) rfl) rfl (by decide) ?_
  refine TL.pure (PV.move rfl) rfl (by decide) ?_
  refine TL.call rfl Tb.gofn_18 (fun a w hs => CheckFlow_v w n s t p cap rs (hr.new hs.new) hv hd0 pf cf fs (hf.new hs.new) (by omega)) rfl (by decide) (fun _ _ => ?_)
  refine TL.pure (PV.move rfl) rfl (by decide) ?_
  refine TL.pure (PV.extract rfl rfl) rfl (by decide) ?_
  refine TL.pure (PV.extract rfl rfl) rfl (by decide) ?_
  refine TL.pure (PV.assign rfl) rfl (by decide) ?_
  refine TL.pure (PV.assign rfl) rfl (by decide) ?_
  refine TL.nil ?_
  refine TQ.thenC ?_
  refine TC.seq ?_
  refine TC.seq ?_
  refine TC.region ?_
  refine TL.pure (PV.move rfl) rfl (by decide) ?_
  refine TL.pure (PV.neq rfl rfl) rfl (by decide) ?_
  refine TL.nil ?_
  refine TQ.thenC ?_
  first | refine TC.condD rfl (fun hv9 => ?_) (fun hv9 => ?_) | refine TC.cond rfl (fun hv9 => ?_) (fun hv9 => ?_)
  · skip
    refine TC.seq ?_
    refine TC.region ?_
    refine TL.pure (PV.move rfl) rfl (by decide) ?_
    refine TL.pure (PV.assign rfl) rfl (by decide) ?_
    refine TL.pure (PV.assign rfl) rfl (by decide) ?_
    refine TL.nil ?_
    refine TQ.thenC ?_
    refine TC.ret ?_
    refine TQ.thenR ?_
    refine TQ.retE2 rfl rfl rfl ?_
    exact absurd hc0 hv9
  · skip
    refine TC.skip ?_
    refine TQ.thenC ?_
    refine TC.seq ?_
    refine TC.seq ?_
    refine TC.region ?_
    refine TL.pure (PV.move rfl) rfl (by decide) ?_
    refine TL.pure (PV.lss rfl rfl) rfl (by decide) ?_
    refine TL.nil ?_
    refine TQ.thenC ?_
    first | refine TC.condD rfl (fun hneg => ?_) (fun hneg => ?_) | refine TC.cond rfl (fun hneg => ?_) (fun hneg => ?_)
    · skip
      refine TC.seq ?_
      refine TC.region ?_
      refine TL.pure (PV.assign rfl) rfl (by decide) ?_
      refine TL.pure (PV.assign rfl) rfl (by decide) ?_
      refine TL.nil ?_
      refine TQ.thenC ?_
      refine TC.ret ?_
      refine TQ.thenR ?_
      refine TQ.retE2 rfl rfl rfl ?_
      exact absurd hv0 (by omega)
    · skip
      refine TC.skip ?_
      refine TQ.thenC ?_
      refine TC.seq ?_
      refine TC.region ?_
      refine TL.pure (PV.move rfl) rfl (by decide) ?_
      refine TL.pure (PV.len rfl Tb.sl_25) rfl (by decide) ?_
      refine TL.pure (PV.assign rfl) rfl (by decide) ?_
      refine TL.nil ?_
      refine TQ.thenC ?_
      refine TC.seq ?_
      rw [hl9]
      refine TC.mixV [true, true, false, true, true, true, true, true, true, true, true, false, false, true] [(b0, Obj.cells #[.int .i64 (n : Nat), .int .i64 (s : Nat), .int .i64 (t : Nat), .slice p rs.length cap] 24 (0, 0))] 14 Tb.mixed rfl (by kernel_rfl) (by kernel_rfl) (by kernel_rfl) (by kernel_rfl) (by repeat (first | exact List.Sublist.slnil | exact List.nil_sublist _ | exact List.Sublist.refl _ | refine List.Sublist.cons_cons _ ?_ | refine List.Sublist.cons _ ?_ | refine List.Sublist.trans ?_ (List.sublist_append_right _ _))) ?_
      refine TV.virt 0 rfl rfl (by decide) rfl (by kernel_rfl) (SOK.pure (PV.loadBox rfl Tb.agg_24 (by repeat (first | exact List.Mem.head _ | refine List.Mem.tail _ ?_ | refine List.mem_append_right _ ?_)) rfl) rfl) ?_
      refine TV.virt 1 rfl rfl (by decide) rfl (by kernel_rfl) (SOK.pure (PV.move rfl) rfl) ?_
      refine TV.virt 3 rfl rfl (by decide) rfl (by kernel_rfl) (SOK.pure (PV.fieldAddr rfl Tb.fo_24_2) rfl) ?_
      refine TV.virt 4 rfl rfl (by decide) rfl (by kernel_rfl) (SOK.pure (PV.load rfl Tb.one_3 (by repeat (first | exact List.Mem.head _ | refine List.Mem.tail _ ?_ | refine List.mem_append_right _ ?_)) rfl) rfl) ?_
      refine TV.virt 5 rfl rfl (by decide) rfl (by kernel_rfl) (SOK.pure (PV.fieldAddr rfl Tb.fo_24_1) rfl) ?_
      refine TV.virt 6 rfl rfl (by decide) rfl (by kernel_rfl) (SOK.pure (PV.load rfl Tb.one_3 (by repeat (first | exact List.Mem.head _ | refine List.Mem.tail _ ?_ | refine List.mem_append_right _ ?_)) rfl) rfl) ?_
      refine TV.virt 7 rfl rfl (by decide) rfl (by kernel_rfl) (SOK.pure (PV.move rfl) rfl) ?_
      refine TV.virt 8 rfl rfl (by decide) rfl (by kernel_rfl) (SOK.pure (PV.build rfl Tb.zero_40 Tb.pl_40 (fill_d _ _ _)) rfl) ?_
      refine TV.virt 9 rfl rfl (by decide) rfl (by kernel_rfl) (SOK.pure (PV.move rfl) rfl) ?_
      refine TV.virt 10 rfl rfl (by decide) rfl (by kernel_rfl) (SOK.pure (PV.build rfl Tb.zero_92 Tb.pl_92 (fill_bk _ _ _ _)) rfl) ?_
      refine TV.step [2, 11] (by kernel_rfl) (by decide) rfl ⟨⟨_, rfl, ?_⟩, ⟨_, rfl, ?_⟩, trivial⟩
      · skip
        refine TL.call rfl Tb.gofn_61 (fun a w hs => restsOf_g w n s t p cap rs (hr.new hs.new) hv pf cf rs.length fs (hf.new hs.new) hl9 hl9) rfl (by decide) (fun b9 _ => ?_)
        refine TL.nil ?_
        refine TV.next (.inl (by repeat (first | exact List.Sublist.slnil | exact List.nil_sublist _ | exact List.Sublist.refl _ | refine List.Sublist.cons_cons _ ?_ | refine List.Sublist.cons _ ?_ | refine List.Sublist.trans ?_ (List.sublist_append_right _ _)))) ?_
        refine TV.step [11] (by kernel_rfl) (by decide) rfl ⟨⟨_, rfl, ?_⟩, trivial⟩
        refine TL.buildSlice (cs := (R4.cells (bkE s t (Fl.out s (cfL rs fs)))).toArray) rfl Tb.sl_65 Tb.zi_92 (by decide) (by rw [hfv]; exact fill_bks _ _ _ _) (by decide) rfl (by decide) (fun bE hbE => ?_)
        refine TL.nil ?_
        refine TV.next (.inl (by repeat (first | exact List.Sublist.slnil | exact List.nil_sublist _ | exact List.Sublist.refl _ | refine List.Sublist.cons_cons _ ?_ | refine List.Sublist.cons _ ?_ | refine List.Sublist.trans ?_ (List.sublist_append_right _ _)))) ?_
        refine TV.step [12] (by kernel_rfl) (by decide) rfl ⟨⟨_, rfl, ?_⟩, trivial⟩
        refine TL.appendRec (R := R4) (h0 := some (b9, rs.length, [])) (ys := cfL rs fs) (r := bkE s t (Fl.out s (cfL rs fs))) Tb.sl_65 Tb.zi_92 rfl (by show some (gval (some (b9, rs.length, [])) rs.length) = some (gval (some (b9, rs.length, [])) (cfL rs fs).length); rw [hlb]) rfl (by repeat (first | exact List.Mem.head _ | refine List.Mem.tail _ ?_ | refine List.mem_append_right _ ?_)) (go_rests b9 rs fs) (by repeat (first | exact TakeH.here _ _ _ _ | apply TakeH.tail | apply TakeH.app)) (by rw [hlb]; omega) (by rw [hlb]; omega) rfl (by decide) (fun hr9 hgr => ?_)
        refine TL.nil ?_
        refine TV.next (.inl (by repeat (first | exact List.Sublist.slnil | exact List.nil_sublist _ | exact List.Sublist.refl _ | refine List.Sublist.cons_cons _ ?_ | refine List.Sublist.cons _ ?_ | refine List.Sublist.trans ?_ (List.sublist_append_right _ _)))) ?_
        have hK9 : (cfL rs fs ++ [bkE s t (Fl.out s (cfL rs fs))]).length = rs.length + 1 := spL_len s t rs fs
        have hL9 : cfL rs fs ++ [bkE s t (Fl.out s (cfL rs fs))] = spL s t rs fs := rfl
        rw [hK9, hL9]
        rw [hL9] at hgr
        refine TV.virt 13 rfl rfl (by decide) rfl (by kernel_rfl) (SOK.pure (PV.assign rfl) rfl) ?_
        refine TV.done (by kernel_rfl) ?_
        refine TQ.thenC ?_
        refine TC.seq ?_
        have hsi : SI n s t rs fs (spL s t rs fs) [] := SI.start hv hfl (by omega) hb20
        refine TC.region ?_
        refine TL.pure (PV.assign rfl) rfl (by decide) ?_
        refine TL.nil ?_
        refine TQ.thenC ?_
        refine TC.seq ?_
        refine TC.seq ?_
        refine TC.region ?_
        refine TL.pure (PV.move rfl) rfl (by decide) ?_
        refine TL.call rfl Tb.gofn_85 (fun a w hs => roundOf_g (K := rs.length + 1) (N9 := n) (spL_len s t rs fs) hgr hs.new (fun y9 hy9 => by repeat (first | exact List.mem_append_left _ hy9 | refine List.mem_append_right _ ?_ | refine List.Mem.tail _ ?_)) (by omega) hsi.cir hn8) rfl (by decide) (fun o ho => ?_)
        refine TL.pure (PV.assign rfl) rfl (by decide) ?_
        refine TL.nil ?_
        refine TQ.thenC ?_
        refine TC.block ?_
        refine TC.lit [(4, _), (5, _), (8, _), (9, _), (10, _), (11, _)] (by repeat (first | exact True.intro | refine And.intro rfl ?_)) ?_
        refine TC.perm (G' := (gbR R4 92 hr9 (spL s t rs fs) ++ (rwD o ++ [(b0, Obj.cells #[.int .i64 (n : Nat), .int .i64 (s : Nat), .int .i64 (t : Nat), .slice p rs.length cap] 24 (0, 0))])) ++ [(bE, Obj.cells (R4.cells (bkE s t (Fl.out s (cfL rs fs)))).toArray 92 (0, 0))]) (perm_of fun c9 => by simp only [List.map_append, List.sum_append, List.map_cons, List.sum_cons, List.map_nil, List.sum_nil, Value.cells]; omega) ?_
        refine TC.loopK [4, 5, 8, 9] (X := SX) (fun x => SF n s t rs fs hr9 x) (fun x => [(10, gval x.h x.ts.length), (11, rwV x.o)]) (fun x => gbR R4 92 hr9 (x.L) ++ (rwD x.o ++ (gbR TVR 89 x.h (x.ts) ++ (x.Gt ++ [(b0, Obj.cells #[.int .i64 (n : Nat), .int .i64 (s : Nat), .int .i64 (t : Nat), .slice p rs.length cap] 24 (0, 0))])))) (fun x => Fl.cntR x.L) ⟨spL s t rs fs, none, [], [], o⟩ ⟨hsi, ho, ⟨rfl, rfl⟩, hgr, fun tv h => absurd h List.not_mem_nil⟩ (by exact ⟨rfl, rfl, trivial⟩) (List.sublist_append_left _ _) ?_
        intro x hx
        refine TC.lit [(4, _), (5, _), (8, _), (9, _), (10, _), (11, _)] (by repeat (first | exact True.intro | refine And.intro rfl ?_)) ?_
        refine TC.seq ?_
        refine TC.seq ?_
        refine TC.region ?_
        refine TL.pure (PV.move rfl) rfl (by decide) ?_
        refine TL.pure (PV.lenRW rfl Tb.sl_25) rfl (by decide) ?_
        refine TL.pure (PV.gtr rfl rfl) rfl (by decide) ?_
        refine TL.nil ?_
        refine TQ.thenC ?_
        first | refine TC.condD rfl (fun hgo => ?_) (fun hgo => ?_) | refine TC.cond rfl (fun hgo => ?_) (fun hgo => ?_)
        · skip
          obtain ⟨L, h, ts, Gt, o⟩ := x
          obtain ⟨y, rfl⟩ : ∃ y, o = some y := by
            cases o with
            | none => exact absurd hgo (by show ¬ (0 : Int) < ((0 : Nat) : Int); omega)
            | some y => exact ⟨y, rfl⟩
          have hrw := hx.rw_
          have hcn : ts.length + Fl.cntR L ≤ rs.length + 1 := hx.si.cnt
          obtain ⟨hyi, hyR, hy8, hyg⟩ := hrw
          have hkl : (y.W.drop y.i).length = y.W.length - y.i := List.length_drop
          have hcap9 : y.W.length ≤ y.cap := by have h9 := hyg.2.2; simp only [nI_len] at h9; exact h9
          refine TC.congrG (G' := gbR R4 92 hr9 (L) ++ (gbI (some (y.b, y.cap, y.sp), nI y.W) ++ (gbR TVR 89 h (ts) ++ (Gt ++ [(b0, Obj.cells #[.int .i64 (n : Nat), .int .i64 (s : Nat), .int .i64 (t : Nat), .slice p rs.length cap] 24 (0, 0))])))) rfl ?_
          refine TC.skip ?_
          refine TQ.thenC ?_
          refine TC.seq ?_
          refine TC.block ?_
          refine TC.seq ?_
          refine TC.region ?_
          refine TL.pure (PV.move rfl) rfl (by decide) ?_
          refine TL.pure (PV.move rfl) rfl (by decide) ?_
          refine TL.callW (X := Unit) (fun _ => .int .i64 (Fl.mnR L (y.W.drop y.i))) (fun _ => True) (fun _ => gbR R4 92 hr9 ((Fl.tak (Fl.mnR L (y.W.drop y.i)) L (y.W.drop y.i))) ++ (gbI (some (y.b, y.cap, y.sp), nI y.W) ++ (gbR TVR 89 h (ts) ++ (Gt ++ [(b0, Obj.cells #[.int .i64 (n : Nat), .int .i64 (s : Nat), .int .i64 (t : Nat), .slice p rs.length cap] 24 (0, 0))])))) rfl Tb.gofn_86 (fun a w hs => takeOut_ok w0 w hr9 L (rs.length + 1) hx.si.len y _ hx.gr hx.rw_.2.2.2 hx.rw_.1 hx.rw_.2.1 hx.si.b400 hx.rw_.2.2.1 hs.new) rfl (by decide) (fun _ _ => ?_)
          refine TL.pure (PV.assign rfl) rfl (by decide) ?_
          refine TL.nil ?_
          refine TQ.thenC ?_
          refine TC.seq ?_
          refine TC.seq ?_
          refine TC.region ?_
          refine TL.pure (PV.move rfl) rfl (by decide) ?_
          refine TL.pure (PV.move rfl) rfl (by decide) ?_
          refine TL.call rfl Tb.gofn_87 (fun a w hs => index2_ok w _ (nI (y.W.drop y.i)) (IsI.ofl (by rw [nI_len, List.length_drop]) (rw_ints hs.new (fun y9 hy9 => by repeat (first | exact List.mem_append_left _ hy9 | refine List.mem_append_right _ ?_ | refine List.Mem.tail _ ?_)))) (rs.length : Nat) (by rw [nI_len, List.length_drop]; omega)) rfl (by decide) (fun i1 hi1 => ?_)
          refine TL.pure (PV.assign rfl) rfl (by decide) ?_
          refine TL.nil ?_
          refine TQ.thenC ?_
          refine TC.seq ?_
          refine TC.region ?_
          refine TL.pure (PV.move rfl) rfl (by decide) ?_
          refine TL.pure (PV.geq rfl rfl) rfl (by decide) ?_
          refine TL.nil ?_
          refine TQ.thenC ?_
          first | refine TC.condD rfl (fun hge => ?_) (fun hge => ?_) | refine TC.cond rfl (fun hge => ?_) (fun hge => ?_)
          · skip
            obtain ⟨k1, hk1, e1, hg1⟩ := hi1.some (by omega)
            subst e1
            rw [nI_len] at hk1
            have hg2 : (y.W.drop y.i).getD k1 0 = rs.length := by have h9 := of_decide_eq_true hg1; rw [nI_get hk1] at h9; omega
            obtain ⟨A9, hA9e⟩ : ∃ A9, A9 = (y.W.drop y.i).take k1 := ⟨_, rfl⟩
            obtain ⟨B9, hB9e⟩ : ∃ B9, B9 = (y.W.drop y.i).drop (k1 + 1) := ⟨_, rfl⟩
            have hsp : (y.W.drop y.i) = A9 ++ rs.length :: B9 := by rw [hA9e, hB9e]; exact drop_split hk1 hg2
            have hB9 : nI B9 = (nI (y.W.drop y.i)).drop (k1 + 1) := by rw [hB9e]; simp [nI]
            have hA9 : nI A9 = (nI (y.W.drop y.i)).take k1 := by rw [hA9e]; simp [nI]
            have hL1 : (nI B9).length = y.W.length - y.i - (k1 + 1) := by rw [nI_len, hB9e, List.length_drop, hkl]
            have hL2 : (nI A9).length = k1 := by rw [nI_len, hA9e, List.length_take]; omega
            refine TC.draw 7 Tb.mixed (by kernel_rfl) ?_
            simp only [List.take_succ_cons, List.take_zero, List.drop_succ_cons, List.drop_zero]
            refine TS.pure (PV.move rfl) rfl (by decide) ?_
            refine TS.pure (PV.move rfl) rfl (by decide) ?_
            refine TS.pure (PV.add rfl rfl (by omega)) rfl (by decide) ?_
            refine TS.pure (PV.sliceL (l := k1 + 1) rfl rfl Tb.elm_25 (by push_cast; omega) (by omega)) rfl (by decide) ?_
            refine TS.pure (PV.move rfl) rfl (by decide) ?_
            refine TS.pure (PV.move rfl) rfl (by decide) ?_
            refine TS.pure (PV.sliceH (h := k1) rfl rfl Tb.elm_25 rfl (by omega)) rfl (by decide) ?_
            refine TS.nil ?_
            refine TL.buildSlice (cs := #[.slice (cutA (some ⟨y.b, y.i, none⟩) (y.cap - y.i) (k1 + 1) 1) (y.W.length - y.i - (k1 + 1)) (y.cap - y.i - (k1 + 1)), .slice (cutA (some ⟨y.b, y.i, none⟩) (y.cap - y.i) 0 1) k1 (y.cap - y.i)]) rfl Tb.sl_107 Tb.zi_25 (by decide) (by kernel_rfl) (by decide) rfl (by decide) (fun bV hbV => ?_)
            refine TL.call rfl Tb.gofn_88 (fun a w hs => concat2 (A := A9) (B := B9) hs.new (by repeat (first | exact List.Mem.head _ | refine List.Mem.tail _ ?_ | refine List.mem_append_right _ ?_)) (by rw [hB9]; exact IntsAt.cutL (rw_ints hs.new (fun y9 hy9 => by repeat (first | exact List.mem_append_left _ hy9 | refine List.mem_append_right _ ?_ | refine List.Mem.tail _ ?_))) (by rw [nI_len, List.length_drop]; omega) (by rw [nI_len, List.length_drop]; omega)) (by rw [hA9]; exact IntsAt.cutH (rw_ints hs.new (fun y9 hy9 => by repeat (first | exact List.mem_append_left _ hy9 | refine List.mem_append_right _ ?_ | refine List.Mem.tail _ ?_))) (by rw [nI_len, List.length_drop]; omega)) hL1 hL2 (by omega)) rfl (by decide) (fun hc hhc => ?_)
            refine TL.pure (PV.assign rfl) rfl (by decide) ?_
            refine TL.nil ?_
            refine TQ.thenC ?_
            rw [gval_eq hhc]
            refine TC.region ?_
            refine TL.pure (PV.move rfl) rfl (by decide) ?_
            refine TL.pure (PV.move rfl) rfl (by decide) ?_
            refine TL.pure (PV.move rfl) rfl (by decide) ?_
            refine TL.pure (PV.build rfl Tb.zero_89 Tb.pl_89 (fill_tv _ _ _ _)) rfl (by decide) ?_
            refine TL.buildSlice (cs := (TVR.cells (⟨gp hc, gc hc, nI (B9 ++ A9), (Fl.mnR L (y.W.drop y.i))⟩ : TV)).toArray) rfl Tb.sl_52 Tb.zi_89 (by decide) (fill_tvs _ _ _ _) (by decide) rfl (by decide) (fun bF hbF => ?_)
            refine TL.appendRec (R := TVR) (h0 := h) (ys := ts) (r := (⟨gp hc, gc hc, nI (B9 ++ A9), (Fl.mnR L (y.W.drop y.i))⟩ : TV)) Tb.sl_52 Tb.zi_89 rfl rfl rfl (by repeat (first | exact List.Mem.head _ | refine List.Mem.tail _ ?_ | refine List.mem_append_right _ ?_)) hx.go (by repeat (first | exact TakeH.here _ _ _ _ | apply TakeH.tail | apply TakeH.app)) (by omega) (by omega) rfl (by decide) (fun h2 hh2 => ?_)
            refine TL.pure (PV.assign rfl) rfl (by decide) ?_
            refine TL.nil ?_
            refine TQ.blkN ?_
            refine TQ.thenC ?_
            have hsi2 : SI n s t rs fs (Fl.tak (Fl.mnR L (y.W.drop y.i)) L (y.W.drop y.i)) (ts ++ [(⟨gp hc, gc hc, nI (B9 ++ A9), (Fl.mnR L (y.W.drop y.i))⟩ : TV)]) := by have h9 := SI.way (A := A9) (B := B9) hv hx.si (hsp ▸ hyR) (gp hc) (gc hc); rw [← hsp] at h9; exact h9
            have htb2 := TB.all (tv := (⟨gp hc, gc hc, nI (B9 ++ A9), (Fl.mnR L (y.W.drop y.i))⟩ : TV)) hx.tb (TB.gI hhc (by have h8 := (hsi2.ok (⟨gp hc, gc hc, nI (B9 ++ A9), (Fl.mnR L (y.W.drop y.i))⟩ : TV) (List.mem_append_right _ (List.mem_singleton.2 rfl))).1; unfold trOK at h8; rw [Bool.and_eq_true] at h8; exact pth_len h8.1))
            refine TC.region ?_
            refine TL.pure (PV.move rfl) rfl (by decide) ?_
            refine TL.call rfl Tb.gofn_85 (fun a w hs => roundOf_g (K := rs.length + 1) (N9 := n) hsi2.len (goR_len hx.gr (Fl.tak_len _ _ _)) hs.new (fun y9 hy9 => by repeat (first | exact List.mem_append_left _ hy9 | refine List.mem_append_right _ ?_ | refine List.Mem.tail _ ?_)) (by omega) hsi2.cir hn8) rfl (by decide) (fun o2 ho2 => ?_)
            refine TL.pure (PV.assign rfl) rfl (by decide) ?_
            refine TL.nil ?_
            refine TQ.thenN ?_
            refine TQ.perm (G' := (gbR R4 92 hr9 ((Fl.tak (Fl.mnR L (y.W.drop y.i)) L (y.W.drop y.i))) ++ (rwD o2 ++ (gbR TVR 89 h2 (ts ++ [(⟨gp hc, gc hc, nI (B9 ++ A9), (Fl.mnR L (y.W.drop y.i))⟩ : TV)]) ++ ((gbI (hc, nI (B9 ++ A9)) ++ Gt) ++ [(b0, Obj.cells #[.int .i64 (n : Nat), .int .i64 (s : Nat), .int .i64 (t : Nat), .slice p rs.length cap] 24 (0, 0))])))) ++ ((bF, Obj.cells (TVR.cells (⟨gp hc, gc hc, nI (B9 ++ A9), (Fl.mnR L (y.W.drop y.i))⟩ : TV)).toArray 89 (0, 0)) :: (bV, Obj.cells #[.slice (cutA (some ⟨y.b, y.i, none⟩) (y.cap - y.i) (k1 + 1) 1) (y.W.length - y.i - (k1 + 1)) (y.cap - y.i - (k1 + 1)), .slice (cutA (some ⟨y.b, y.i, none⟩) (y.cap - y.i) 0 1) k1 (y.cap - y.i)] 25 (0, 0)) :: gbI (some (y.b, y.cap, y.sp), nI y.W))) (perm_of fun c9 => by have hgY : (List.map c9 (gbI (some (y.b, y.cap, y.sp), nI y.W))).sum = c9 (y.b, Obj.cells (ival (nI y.W) ++ y.sp).toArray 3 (0, 0)) + 0 := rfl; simp only [List.map_append, List.sum_append, List.map_cons, List.sum_cons, List.map_nil, List.sum_nil, Value.cells]; omega) ?_
            refine TQ.backK ⟨(Fl.tak (Fl.mnR L (y.W.drop y.i)) L (y.W.drop y.i)), h2, ts ++ [(⟨gp hc, gc hc, nI (B9 ++ A9), (Fl.mnR L (y.W.drop y.i))⟩ : TV)], gbI (hc, nI (B9 ++ A9)) ++ Gt, o2⟩ (by exact ⟨rfl, rfl, trivial⟩) (by repeat (first | exact True.intro | refine And.intro rfl ?_)) (List.sublist_append_left _ _) ⟨hsi2, ho2, hh2, goR_len hx.gr (Fl.tak_len _ _ _), htb2⟩ (by simp only; exact hx.rw_.2.1.less)
          · skip
            have hnm : rs.length ∉ (y.W.drop y.i) := fun hm => by
              obtain ⟨j, hj, e9⟩ := List.getElem_of_mem hm
              have h9 := of_decide_eq_false (hi1.none (by omega) j (by rw [nI_len]; exact hj))
              rw [nI_get hj] at h9
              exact h9 (by rw [List.getD_eq_getElem?_getD, List.getElem?_eq_getElem hj]; exact congrArg _ e9)
            refine TC.skip ?_
            refine TQ.thenC ?_
            have hrv : rwV (some y) = .slice (some ⟨y.b, y.i, none⟩) (nI (y.W.drop y.i)).length (y.cap - y.i) := by rw [nI_len, hkl]; rfl
            rw [hrv]
            refine TC.region ?_
            refine TL.pure (PV.move rfl) rfl (by decide) ?_
            refine TL.pure (PV.move rfl) rfl (by decide) ?_
            refine TL.pure (PV.move rfl) rfl (by decide) ?_
            refine TL.pure (PV.build rfl Tb.zero_89 Tb.pl_89 (fill_tv _ _ _ _)) rfl (by decide) ?_
            refine TL.buildSlice (cs := (TVR.cells (⟨some ⟨y.b, y.i, none⟩, y.cap - y.i, nI (y.W.drop y.i), (Fl.mnR L (y.W.drop y.i))⟩ : TV)).toArray) rfl Tb.sl_52 Tb.zi_89 (by decide) (fill_tvs _ _ _ _) (by decide) rfl (by decide) (fun bF hbF => ?_)
            refine TL.appendRec (R := TVR) (h0 := h) (ys := ts) (r := (⟨some ⟨y.b, y.i, none⟩, y.cap - y.i, nI (y.W.drop y.i), (Fl.mnR L (y.W.drop y.i))⟩ : TV)) Tb.sl_52 Tb.zi_89 rfl rfl rfl (by repeat (first | exact List.Mem.head _ | refine List.Mem.tail _ ?_ | refine List.mem_append_right _ ?_)) hx.go (by repeat (first | exact TakeH.here _ _ _ _ | apply TakeH.tail | apply TakeH.app)) (by omega) (by omega) rfl (by decide) (fun h2 hh2 => ?_)
            refine TL.pure (PV.assign rfl) rfl (by decide) ?_
            refine TL.nil ?_
            refine TQ.blkN ?_
            refine TQ.thenC ?_
            have hsi2 : SI n s t rs fs (Fl.tak (Fl.mnR L (y.W.drop y.i)) L (y.W.drop y.i)) (ts ++ [(⟨some ⟨y.b, y.i, none⟩, y.cap - y.i, nI (y.W.drop y.i), (Fl.mnR L (y.W.drop y.i))⟩ : TV)]) := SI.round hv hx.si hyR hnm (some ⟨y.b, y.i, none⟩) (y.cap - y.i)
            have htb2 := TB.all (tv := (⟨some ⟨y.b, y.i, none⟩, y.cap - y.i, nI (y.W.drop y.i), (Fl.mnR L (y.W.drop y.i))⟩ : TV)) hx.tb rw_TB
            refine TC.region ?_
            refine TL.pure (PV.move rfl) rfl (by decide) ?_
            refine TL.call rfl Tb.gofn_85 (fun a w hs => roundOf_g (K := rs.length + 1) (N9 := n) hsi2.len (goR_len hx.gr (Fl.tak_len _ _ _)) hs.new (fun y9 hy9 => by repeat (first | exact List.mem_append_left _ hy9 | refine List.mem_append_right _ ?_ | refine List.Mem.tail _ ?_)) (by omega) hsi2.cir hn8) rfl (by decide) (fun o2 ho2 => ?_)
            refine TL.pure (PV.assign rfl) rfl (by decide) ?_
            refine TL.nil ?_
            refine TQ.thenN ?_
            refine TQ.perm (G' := (gbR R4 92 hr9 ((Fl.tak (Fl.mnR L (y.W.drop y.i)) L (y.W.drop y.i))) ++ (rwD o2 ++ (gbR TVR 89 h2 (ts ++ [(⟨some ⟨y.b, y.i, none⟩, y.cap - y.i, nI (y.W.drop y.i), (Fl.mnR L (y.W.drop y.i))⟩ : TV)]) ++ ((gbI (some (y.b, y.cap, y.sp), nI y.W) ++ Gt) ++ [(b0, Obj.cells #[.int .i64 (n : Nat), .int .i64 (s : Nat), .int .i64 (t : Nat), .slice p rs.length cap] 24 (0, 0))])))) ++ [(bF, Obj.cells (TVR.cells (⟨some ⟨y.b, y.i, none⟩, y.cap - y.i, nI (y.W.drop y.i), (Fl.mnR L (y.W.drop y.i))⟩ : TV)).toArray 89 (0, 0))]) (perm_of fun c9 => by have hgY : (List.map c9 (gbI (some (y.b, y.cap, y.sp), nI y.W))).sum = c9 (y.b, Obj.cells (ival (nI y.W) ++ y.sp).toArray 3 (0, 0)) + 0 := rfl; simp only [List.map_append, List.sum_append, List.map_cons, List.sum_cons, List.map_nil, List.sum_nil, Value.cells]; omega) ?_
            refine TQ.backK ⟨(Fl.tak (Fl.mnR L (y.W.drop y.i)) L (y.W.drop y.i)), h2, ts ++ [(⟨some ⟨y.b, y.i, none⟩, y.cap - y.i, nI (y.W.drop y.i), (Fl.mnR L (y.W.drop y.i))⟩ : TV)], gbI (some (y.b, y.cap, y.sp), nI y.W) ++ Gt, o2⟩ (by exact ⟨rfl, rfl, trivial⟩) (by repeat (first | exact True.intro | refine And.intro rfl ?_)) (List.sublist_append_left _ _) ⟨hsi2, ho2, hh2, goR_len hx.gr (Fl.tak_len _ _ _), htb2⟩ (by simp only; exact hx.rw_.2.1.less)
        · skip
          refine TC.exit ?_
          refine TQ.thenE ?_
          refine TQ.thenE ?_
          refine TQ.blkS ?_
          refine TQ.thenC ?_
          refine TC.seq ?_
          refine TC.region ?_
          refine TL.pure (PV.move rfl) rfl (by decide) ?_
          refine TL.pure (PV.assign rfl) rfl (by decide) ?_
          refine TL.pure (PV.assign rfl) rfl (by decide) ?_
          refine TL.nil ?_
          refine TQ.thenC ?_
          refine TC.ret ?_
          refine TQ.retE2 rfl rfl rfl ?_
          obtain ⟨L, h, ts, Gt, o⟩ := x
          have hon : o = none := by
            cases o with
            | none => rfl
            | some y => exfalso; have h1 := hx.rw_.1; exact hgo (by show (0 : Int) < ((y.W.length - y.i : Nat) : Int); omega)
          subst hon
          obtain ⟨hE, hS, h17⟩ := hx.si.done hl9 hx.rw_ hlen
          exact ⟨(h, ts, Gt), rfl, ⟨hx.go, hx.tb, hE, hS, h17, fun tv htv => (hx.si.ok tv htv).2⟩, by show List.Sublist (gbR TVR 89 h ts ++ Gt) (gbR R4 92 hr9 L ++ ([] ++ (gbR TVR 89 h ts ++ (Gt ++ [(b0, Obj.cells #[.int .i64 (n : Nat), .int .i64 (s : Nat), .int .i64 (t : Nat), .slice p rs.length cap] 24 (0, 0))])))); rw [List.nil_append, ← List.append_assoc (gbR TVR 89 h ts)]; exact List.Sublist.trans (List.sublist_append_left _ _) (List.sublist_append_right _ _)⟩
      · skip
        refine TL.buildSlice (cs := (R4.cells (bkE s t (Fl.out s (cfL rs fs)))).toArray) rfl Tb.sl_65 Tb.zi_92 (by decide) (by rw [hfv]; exact fill_bks _ _ _ _) (by decide) rfl (by decide) (fun bE hbE => ?_)
        refine TL.nil ?_
        refine TV.next (.inl (by repeat (first | exact List.Sublist.slnil | exact List.nil_sublist _ | exact List.Sublist.refl _ | refine List.Sublist.cons_cons _ ?_ | refine List.Sublist.cons _ ?_ | refine List.Sublist.trans ?_ (List.sublist_append_right _ _)))) ?_
        refine TV.step [2] (by kernel_rfl) (by decide) rfl ⟨⟨_, rfl, ?_⟩, trivial⟩
        refine TL.call rfl Tb.gofn_61 (fun a w hs => restsOf_g w n s t p cap rs (hr.new hs.new) hv pf cf rs.length fs (hf.new hs.new) hl9 hl9) rfl (by decide) (fun b9 _ => ?_)
        refine TL.nil ?_
        refine TV.next (.inl (by repeat (first | exact List.Sublist.slnil | exact List.nil_sublist _ | exact List.Sublist.refl _ | refine List.Sublist.cons_cons _ ?_ | refine List.Sublist.cons _ ?_ | refine List.Sublist.trans ?_ (List.sublist_append_right _ _)))) ?_
        refine TV.step [12] (by kernel_rfl) (by decide) rfl ⟨⟨_, rfl, ?_⟩, trivial⟩
        refine TL.appendRec (R := R4) (h0 := some (b9, rs.length, [])) (ys := cfL rs fs) (r := bkE s t (Fl.out s (cfL rs fs))) Tb.sl_65 Tb.zi_92 rfl (by show some (gval (some (b9, rs.length, [])) rs.length) = some (gval (some (b9, rs.length, [])) (cfL rs fs).length); rw [hlb]) rfl (by repeat (first | exact List.Mem.head _ | refine List.Mem.tail _ ?_ | refine List.mem_append_right _ ?_)) (go_rests b9 rs fs) (by repeat (first | exact TakeH.here _ _ _ _ | apply TakeH.tail | apply TakeH.app)) (by rw [hlb]; omega) (by rw [hlb]; omega) rfl (by decide) (fun hr9 hgr => ?_)
        refine TL.nil ?_
        refine TV.next (.inl (by repeat (first | exact List.Sublist.slnil | exact List.nil_sublist _ | exact List.Sublist.refl _ | refine List.Sublist.cons_cons _ ?_ | refine List.Sublist.cons _ ?_ | refine List.Sublist.trans ?_ (List.sublist_append_right _ _)))) ?_
        have hK9 : (cfL rs fs ++ [bkE s t (Fl.out s (cfL rs fs))]).length = rs.length + 1 := spL_len s t rs fs
        have hL9 : cfL rs fs ++ [bkE s t (Fl.out s (cfL rs fs))] = spL s t rs fs := rfl
        rw [hK9, hL9]
        rw [hL9] at hgr
        refine TV.virt 13 rfl rfl (by decide) rfl (by kernel_rfl) (SOK.pure (PV.assign rfl) rfl) ?_
        refine TV.done (by kernel_rfl) ?_
        refine TQ.thenC ?_
        refine TC.seq ?_
        have hsi : SI n s t rs fs (spL s t rs fs) [] := SI.start hv hfl (by omega) hb20
        refine TC.region ?_
        refine TL.pure (PV.assign rfl) rfl (by decide) ?_
        refine TL.nil ?_
        refine TQ.thenC ?_
        refine TC.seq ?_
        refine TC.seq ?_
        refine TC.region ?_
        refine TL.pure (PV.move rfl) rfl (by decide) ?_
        refine TL.call rfl Tb.gofn_85 (fun a w hs => roundOf_g (K := rs.length + 1) (N9 := n) (spL_len s t rs fs) hgr hs.new (fun y9 hy9 => by repeat (first | exact List.mem_append_left _ hy9 | refine List.mem_append_right _ ?_ | refine List.Mem.tail _ ?_)) (by omega) hsi.cir hn8) rfl (by decide) (fun o ho => ?_)
        refine TL.pure (PV.assign rfl) rfl (by decide) ?_
        refine TL.nil ?_
        refine TQ.thenC ?_
        refine TC.block ?_
        refine TC.lit [(4, _), (5, _), (8, _), (9, _), (10, _), (11, _)] (by repeat (first | exact True.intro | refine And.intro rfl ?_)) ?_
        refine TC.perm (G' := (gbR R4 92 hr9 (spL s t rs fs) ++ (rwD o ++ [(b0, Obj.cells #[.int .i64 (n : Nat), .int .i64 (s : Nat), .int .i64 (t : Nat), .slice p rs.length cap] 24 (0, 0))])) ++ [(bE, Obj.cells (R4.cells (bkE s t (Fl.out s (cfL rs fs)))).toArray 92 (0, 0))]) (perm_of fun c9 => by simp only [List.map_append, List.sum_append, List.map_cons, List.sum_cons, List.map_nil, List.sum_nil, Value.cells]; omega) ?_
        refine TC.loopK [4, 5, 8, 9] (X := SX) (fun x => SF n s t rs fs hr9 x) (fun x => [(10, gval x.h x.ts.length), (11, rwV x.o)]) (fun x => gbR R4 92 hr9 (x.L) ++ (rwD x.o ++ (gbR TVR 89 x.h (x.ts) ++ (x.Gt ++ [(b0, Obj.cells #[.int .i64 (n : Nat), .int .i64 (s : Nat), .int .i64 (t : Nat), .slice p rs.length cap] 24 (0, 0))])))) (fun x => Fl.cntR x.L) ⟨spL s t rs fs, none, [], [], o⟩ ⟨hsi, ho, ⟨rfl, rfl⟩, hgr, fun tv h => absurd h List.not_mem_nil⟩ (by exact ⟨rfl, rfl, trivial⟩) (List.sublist_append_left _ _) ?_
        intro x hx
        refine TC.lit [(4, _), (5, _), (8, _), (9, _), (10, _), (11, _)] (by repeat (first | exact True.intro | refine And.intro rfl ?_)) ?_
        refine TC.seq ?_
        refine TC.seq ?_
        refine TC.region ?_
        refine TL.pure (PV.move rfl) rfl (by decide) ?_
        refine TL.pure (PV.lenRW rfl Tb.sl_25) rfl (by decide) ?_
        refine TL.pure (PV.gtr rfl rfl) rfl (by decide) ?_
        refine TL.nil ?_
        refine TQ.thenC ?_
        first | refine TC.condD rfl (fun hgo => ?_) (fun hgo => ?_) | refine TC.cond rfl (fun hgo => ?_) (fun hgo => ?_)
        · skip
          obtain ⟨L, h, ts, Gt, o⟩ := x
          obtain ⟨y, rfl⟩ : ∃ y, o = some y := by
            cases o with
            | none => exact absurd hgo (by show ¬ (0 : Int) < ((0 : Nat) : Int); omega)
            | some y => exact ⟨y, rfl⟩
          have hrw := hx.rw_
          have hcn : ts.length + Fl.cntR L ≤ rs.length + 1 := hx.si.cnt
          obtain ⟨hyi, hyR, hy8, hyg⟩ := hrw
          have hkl : (y.W.drop y.i).length = y.W.length - y.i := List.length_drop
          have hcap9 : y.W.length ≤ y.cap := by have h9 := hyg.2.2; simp only [nI_len] at h9; exact h9
          refine TC.congrG (G' := gbR R4 92 hr9 (L) ++ (gbI (some (y.b, y.cap, y.sp), nI y.W) ++ (gbR TVR 89 h (ts) ++ (Gt ++ [(b0, Obj.cells #[.int .i64 (n : Nat), .int .i64 (s : Nat), .int .i64 (t : Nat), .slice p rs.length cap] 24 (0, 0))])))) rfl ?_
          refine TC.skip ?_
          refine TQ.thenC ?_
          refine TC.seq ?_
          refine TC.block ?_
          refine TC.seq ?_
          refine TC.region ?_
          refine TL.pure (PV.move rfl) rfl (by decide) ?_
          refine TL.pure (PV.move rfl) rfl (by decide) ?_
          refine TL.callW (X := Unit) (fun _ => .int .i64 (Fl.mnR L (y.W.drop y.i))) (fun _ => True) (fun _ => gbR R4 92 hr9 ((Fl.tak (Fl.mnR L (y.W.drop y.i)) L (y.W.drop y.i))) ++ (gbI (some (y.b, y.cap, y.sp), nI y.W) ++ (gbR TVR 89 h (ts) ++ (Gt ++ [(b0, Obj.cells #[.int .i64 (n : Nat), .int .i64 (s : Nat), .int .i64 (t : Nat), .slice p rs.length cap] 24 (0, 0))])))) rfl Tb.gofn_86 (fun a w hs => takeOut_ok w0 w hr9 L (rs.length + 1) hx.si.len y _ hx.gr hx.rw_.2.2.2 hx.rw_.1 hx.rw_.2.1 hx.si.b400 hx.rw_.2.2.1 hs.new) rfl (by decide) (fun _ _ => ?_)
          refine TL.pure (PV.assign rfl) rfl (by decide) ?_
          refine TL.nil ?_
          refine TQ.thenC ?_
          refine TC.seq ?_
          refine TC.seq ?_
          refine TC.region ?_
          refine TL.pure (PV.move rfl) rfl (by decide) ?_
          refine TL.pure (PV.move rfl) rfl (by decide) ?_
          refine TL.call rfl Tb.gofn_87 (fun a w hs => index2_ok w _ (nI (y.W.drop y.i)) (IsI.ofl (by rw [nI_len, List.length_drop]) (rw_ints hs.new (fun y9 hy9 => by repeat (first | exact List.mem_append_left _ hy9 | refine List.mem_append_right _ ?_ | refine List.Mem.tail _ ?_)))) (rs.length : Nat) (by rw [nI_len, List.length_drop]; omega)) rfl (by decide) (fun i1 hi1 => ?_)
          refine TL.pure (PV.assign rfl) rfl (by decide) ?_
          refine TL.nil ?_
          refine TQ.thenC ?_
          refine TC.seq ?_
          refine TC.region ?_
          refine TL.pure (PV.move rfl) rfl (by decide) ?_
          refine TL.pure (PV.geq rfl rfl) rfl (by decide) ?_
          refine TL.nil ?_
          refine TQ.thenC ?_
          first | refine TC.condD rfl (fun hge => ?_) (fun hge => ?_) | refine TC.cond rfl (fun hge => ?_) (fun hge => ?_)
          · skip
            obtain ⟨k1, hk1, e1, hg1⟩ := hi1.some (by omega)
            subst e1
            rw [nI_len] at hk1
            have hg2 : (y.W.drop y.i).getD k1 0 = rs.length := by have h9 := of_decide_eq_true hg1; rw [nI_get hk1] at h9; omega
            obtain ⟨A9, hA9e⟩ : ∃ A9, A9 = (y.W.drop y.i).take k1 := ⟨_, rfl⟩
            obtain ⟨B9, hB9e⟩ : ∃ B9, B9 = (y.W.drop y.i).drop (k1 + 1) := ⟨_, rfl⟩
            have hsp : (y.W.drop y.i) = A9 ++ rs.length :: B9 := by rw [hA9e, hB9e]; exact drop_split hk1 hg2
            have hB9 : nI B9 = (nI (y.W.drop y.i)).drop (k1 + 1) := by rw [hB9e]; simp [nI]
            have hA9 : nI A9 = (nI (y.W.drop y.i)).take k1 := by rw [hA9e]; simp [nI]
            have hL1 : (nI B9).length = y.W.length - y.i - (k1 + 1) := by rw [nI_len, hB9e, List.length_drop, hkl]
            have hL2 : (nI A9).length = k1 := by rw [nI_len, hA9e, List.length_take]; omega
            refine TC.draw 7 Tb.mixed (by kernel_rfl) ?_
            simp only [List.take_succ_cons, List.take_zero, List.drop_succ_cons, List.drop_zero]
            refine TS.pure (PV.move rfl) rfl (by decide) ?_
            refine TS.pure (PV.move rfl) rfl (by decide) ?_
            refine TS.pure (PV.add rfl rfl (by omega)) rfl (by decide) ?_
            refine TS.pure (PV.sliceL (l := k1 + 1) rfl rfl Tb.elm_25 (by push_cast; omega) (by omega)) rfl (by decide) ?_
            refine TS.pure (PV.move rfl) rfl (by decide) ?_
            refine TS.pure (PV.move rfl) rfl (by decide) ?_
            refine TS.pure (PV.sliceH (h := k1) rfl rfl Tb.elm_25 rfl (by omega)) rfl (by decide) ?_
            refine TS.nil ?_
            refine TL.buildSlice (cs := #[.slice (cutA (some ⟨y.b, y.i, none⟩) (y.cap - y.i) (k1 + 1) 1) (y.W.length - y.i - (k1 + 1)) (y.cap - y.i - (k1 + 1)), .slice (cutA (some ⟨y.b, y.i, none⟩) (y.cap - y.i) 0 1) k1 (y.cap - y.i)]) rfl Tb.sl_107 Tb.zi_25 (by decide) (by kernel_rfl) (by decide) rfl (by decide) (fun bV hbV => ?_)
            refine TL.call rfl Tb.gofn_88 (fun a w hs => concat2 (A := A9) (B := B9) hs.new (by repeat (first | exact List.Mem.head _ | refine List.Mem.tail _ ?_ | refine List.mem_append_right _ ?_)) (by rw [hB9]; exact IntsAt.cutL (rw_ints hs.new (fun y9 hy9 => by repeat (first | exact List.mem_append_left _ hy9 | refine List.mem_append_right _ ?_ | refine List.Mem.tail _ ?_))) (by rw [nI_len, List.length_drop]; omega) (by rw [nI_len, List.length_drop]; omega)) (by rw [hA9]; exact IntsAt.cutH (rw_ints hs.new (fun y9 hy9 => by repeat (first | exact List.mem_append_left _ hy9 | refine List.mem_append_right _ ?_ | refine List.Mem.tail _ ?_))) (by rw [nI_len, List.length_drop]; omega)) hL1 hL2 (by omega)) rfl (by decide) (fun hc hhc => ?_)
            refine TL.pure (PV.assign rfl) rfl (by decide) ?_
            refine TL.nil ?_
            refine TQ.thenC ?_
            rw [gval_eq hhc]
            refine TC.region ?_
            refine TL.pure (PV.move rfl) rfl (by decide) ?_
            refine TL.pure (PV.move rfl) rfl (by decide) ?_
            refine TL.pure (PV.move rfl) rfl (by decide) ?_
            refine TL.pure (PV.build rfl Tb.zero_89 Tb.pl_89 (fill_tv _ _ _ _)) rfl (by decide) ?_
            refine TL.buildSlice (cs := (TVR.cells (⟨gp hc, gc hc, nI (B9 ++ A9), (Fl.mnR L (y.W.drop y.i))⟩ : TV)).toArray) rfl Tb.sl_52 Tb.zi_89 (by decide) (fill_tvs _ _ _ _) (by decide) rfl (by decide) (fun bF hbF => ?_)
            refine TL.appendRec (R := TVR) (h0 := h) (ys := ts) (r := (⟨gp hc, gc hc, nI (B9 ++ A9), (Fl.mnR L (y.W.drop y.i))⟩ : TV)) Tb.sl_52 Tb.zi_89 rfl rfl rfl (by repeat (first | exact List.Mem.head _ | refine List.Mem.tail _ ?_ | refine List.mem_append_right _ ?_)) hx.go (by repeat (first | exact TakeH.here _ _ _ _ | apply TakeH.tail | apply TakeH.app)) (by omega) (by omega) rfl (by decide) (fun h2 hh2 => ?_)
            refine TL.pure (PV.assign rfl) rfl (by decide) ?_
            refine TL.nil ?_
            refine TQ.blkN ?_
            refine TQ.thenC ?_
            have hsi2 : SI n s t rs fs (Fl.tak (Fl.mnR L (y.W.drop y.i)) L (y.W.drop y.i)) (ts ++ [(⟨gp hc, gc hc, nI (B9 ++ A9), (Fl.mnR L (y.W.drop y.i))⟩ : TV)]) := by have h9 := SI.way (A := A9) (B := B9) hv hx.si (hsp ▸ hyR) (gp hc) (gc hc); rw [← hsp] at h9; exact h9
            have htb2 := TB.all (tv := (⟨gp hc, gc hc, nI (B9 ++ A9), (Fl.mnR L (y.W.drop y.i))⟩ : TV)) hx.tb (TB.gI hhc (by have h8 := (hsi2.ok (⟨gp hc, gc hc, nI (B9 ++ A9), (Fl.mnR L (y.W.drop y.i))⟩ : TV) (List.mem_append_right _ (List.mem_singleton.2 rfl))).1; unfold trOK at h8; rw [Bool.and_eq_true] at h8; exact pth_len h8.1))
            refine TC.region ?_
            refine TL.pure (PV.move rfl) rfl (by decide) ?_
            refine TL.call rfl Tb.gofn_85 (fun a w hs => roundOf_g (K := rs.length + 1) (N9 := n) hsi2.len (goR_len hx.gr (Fl.tak_len _ _ _)) hs.new (fun y9 hy9 => by repeat (first | exact List.mem_append_left _ hy9 | refine List.mem_append_right _ ?_ | refine List.Mem.tail _ ?_)) (by omega) hsi2.cir hn8) rfl (by decide) (fun o2 ho2 => ?_)
            refine TL.pure (PV.assign rfl) rfl (by decide) ?_
            refine TL.nil ?_
            refine TQ.thenN ?_
            refine TQ.perm (G' := (gbR R4 92 hr9 ((Fl.tak (Fl.mnR L (y.W.drop y.i)) L (y.W.drop y.i))) ++ (rwD o2 ++ (gbR TVR 89 h2 (ts ++ [(⟨gp hc, gc hc, nI (B9 ++ A9), (Fl.mnR L (y.W.drop y.i))⟩ : TV)]) ++ ((gbI (hc, nI (B9 ++ A9)) ++ Gt) ++ [(b0, Obj.cells #[.int .i64 (n : Nat), .int .i64 (s : Nat), .int .i64 (t : Nat), .slice p rs.length cap] 24 (0, 0))])))) ++ ((bF, Obj.cells (TVR.cells (⟨gp hc, gc hc, nI (B9 ++ A9), (Fl.mnR L (y.W.drop y.i))⟩ : TV)).toArray 89 (0, 0)) :: (bV, Obj.cells #[.slice (cutA (some ⟨y.b, y.i, none⟩) (y.cap - y.i) (k1 + 1) 1) (y.W.length - y.i - (k1 + 1)) (y.cap - y.i - (k1 + 1)), .slice (cutA (some ⟨y.b, y.i, none⟩) (y.cap - y.i) 0 1) k1 (y.cap - y.i)] 25 (0, 0)) :: gbI (some (y.b, y.cap, y.sp), nI y.W))) (perm_of fun c9 => by have hgY : (List.map c9 (gbI (some (y.b, y.cap, y.sp), nI y.W))).sum = c9 (y.b, Obj.cells (ival (nI y.W) ++ y.sp).toArray 3 (0, 0)) + 0 := rfl; simp only [List.map_append, List.sum_append, List.map_cons, List.sum_cons, List.map_nil, List.sum_nil, Value.cells]; omega) ?_
            refine TQ.backK ⟨(Fl.tak (Fl.mnR L (y.W.drop y.i)) L (y.W.drop y.i)), h2, ts ++ [(⟨gp hc, gc hc, nI (B9 ++ A9), (Fl.mnR L (y.W.drop y.i))⟩ : TV)], gbI (hc, nI (B9 ++ A9)) ++ Gt, o2⟩ (by exact ⟨rfl, rfl, trivial⟩) (by repeat (first | exact True.intro | refine And.intro rfl ?_)) (List.sublist_append_left _ _) ⟨hsi2, ho2, hh2, goR_len hx.gr (Fl.tak_len _ _ _), htb2⟩ (by simp only; exact hx.rw_.2.1.less)
          · skip
            have hnm : rs.length ∉ (y.W.drop y.i) := fun hm => by
              obtain ⟨j, hj, e9⟩ := List.getElem_of_mem hm
              have h9 := of_decide_eq_false (hi1.none (by omega) j (by rw [nI_len]; exact hj))
              rw [nI_get hj] at h9
              exact h9 (by rw [List.getD_eq_getElem?_getD, List.getElem?_eq_getElem hj]; exact congrArg _ e9)
            refine TC.skip ?_
            refine TQ.thenC ?_
            have hrv : rwV (some y) = .slice (some ⟨y.b, y.i, none⟩) (nI (y.W.drop y.i)).length (y.cap - y.i) := by rw [nI_len, hkl]; rfl
            rw [hrv]
            refine TC.region ?_
            refine TL.pure (PV.move rfl) rfl (by decide) ?_
            refine TL.pure (PV.move rfl) rfl (by decide) ?_
            refine TL.pure (PV.move rfl) rfl (by decide) ?_
            refine TL.pure (PV.build rfl Tb.zero_89 Tb.pl_89 (fill_tv _ _ _ _)) rfl (by decide) ?_
            refine TL.buildSlice (cs := (TVR.cells (⟨some ⟨y.b, y.i, none⟩, y.cap - y.i, nI (y.W.drop y.i), (Fl.mnR L (y.W.drop y.i))⟩ : TV)).toArray) rfl Tb.sl_52 Tb.zi_89 (by decide) (fill_tvs _ _ _ _) (by decide) rfl (by decide) (fun bF hbF => ?_)
            refine TL.appendRec (R := TVR) (h0 := h) (ys := ts) (r := (⟨some ⟨y.b, y.i, none⟩, y.cap - y.i, nI (y.W.drop y.i), (Fl.mnR L (y.W.drop y.i))⟩ : TV)) Tb.sl_52 Tb.zi_89 rfl rfl rfl (by repeat (first | exact List.Mem.head _ | refine List.Mem.tail _ ?_ | refine List.mem_append_right _ ?_)) hx.go (by repeat (first | exact TakeH.here _ _ _ _ | apply TakeH.tail | apply TakeH.app)) (by omega) (by omega) rfl (by decide) (fun h2 hh2 => ?_)
            refine TL.pure (PV.assign rfl) rfl (by decide) ?_
            refine TL.nil ?_
            refine TQ.blkN ?_
            refine TQ.thenC ?_
            have hsi2 : SI n s t rs fs (Fl.tak (Fl.mnR L (y.W.drop y.i)) L (y.W.drop y.i)) (ts ++ [(⟨some ⟨y.b, y.i, none⟩, y.cap - y.i, nI (y.W.drop y.i), (Fl.mnR L (y.W.drop y.i))⟩ : TV)]) := SI.round hv hx.si hyR hnm (some ⟨y.b, y.i, none⟩) (y.cap - y.i)
            have htb2 := TB.all (tv := (⟨some ⟨y.b, y.i, none⟩, y.cap - y.i, nI (y.W.drop y.i), (Fl.mnR L (y.W.drop y.i))⟩ : TV)) hx.tb rw_TB
            refine TC.region ?_
            refine TL.pure (PV.move rfl) rfl (by decide) ?_
            refine TL.call rfl Tb.gofn_85 (fun a w hs => roundOf_g (K := rs.length + 1) (N9 := n) hsi2.len (goR_len hx.gr (Fl.tak_len _ _ _)) hs.new (fun y9 hy9 => by repeat (first | exact List.mem_append_left _ hy9 | refine List.mem_append_right _ ?_ | refine List.Mem.tail _ ?_)) (by omega) hsi2.cir hn8) rfl (by decide) (fun o2 ho2 => ?_)
            refine TL.pure (PV.assign rfl) rfl (by decide) ?_
            refine TL.nil ?_
            refine TQ.thenN ?_
            refine TQ.perm (G' := (gbR R4 92 hr9 ((Fl.tak (Fl.mnR L (y.W.drop y.i)) L (y.W.drop y.i))) ++ (rwD o2 ++ (gbR TVR 89 h2 (ts ++ [(⟨some ⟨y.b, y.i, none⟩, y.cap - y.i, nI (y.W.drop y.i), (Fl.mnR L (y.W.drop y.i))⟩ : TV)]) ++ ((gbI (some (y.b, y.cap, y.sp), nI y.W) ++ Gt) ++ [(b0, Obj.cells #[.int .i64 (n : Nat), .int .i64 (s : Nat), .int .i64 (t : Nat), .slice p rs.length cap] 24 (0, 0))])))) ++ [(bF, Obj.cells (TVR.cells (⟨some ⟨y.b, y.i, none⟩, y.cap - y.i, nI (y.W.drop y.i), (Fl.mnR L (y.W.drop y.i))⟩ : TV)).toArray 89 (0, 0))]) (perm_of fun c9 => by have hgY : (List.map c9 (gbI (some (y.b, y.cap, y.sp), nI y.W))).sum = c9 (y.b, Obj.cells (ival (nI y.W) ++ y.sp).toArray 3 (0, 0)) + 0 := rfl; simp only [List.map_append, List.sum_append, List.map_cons, List.sum_cons, List.map_nil, List.sum_nil, Value.cells]; omega) ?_
            refine TQ.backK ⟨(Fl.tak (Fl.mnR L (y.W.drop y.i)) L (y.W.drop y.i)), h2, ts ++ [(⟨some ⟨y.b, y.i, none⟩, y.cap - y.i, nI (y.W.drop y.i), (Fl.mnR L (y.W.drop y.i))⟩ : TV)], gbI (some (y.b, y.cap, y.sp), nI y.W) ++ Gt, o2⟩ (by exact ⟨rfl, rfl, trivial⟩) (by repeat (first | exact True.intro | refine And.intro rfl ?_)) (List.sublist_append_left _ _) ⟨hsi2, ho2, hh2, goR_len hx.gr (Fl.tak_len _ _ _), htb2⟩ (by simp only; exact hx.rw_.2.1.less)
        · skip
          refine TC.exit ?_
          refine TQ.thenE ?_
          refine TQ.thenE ?_
          refine TQ.blkS ?_
          refine TQ.thenC ?_
          refine TC.seq ?_
          refine TC.region ?_
          refine TL.pure (PV.move rfl) rfl (by decide) ?_
          refine TL.pure (PV.assign rfl) rfl (by decide) ?_
          refine TL.pure (PV.assign rfl) rfl (by decide) ?_
          refine TL.nil ?_
          refine TQ.thenC ?_
          refine TC.ret ?_
          refine TQ.retE2 rfl rfl rfl ?_
          obtain ⟨L, h, ts, Gt, o⟩ := x
          have hon : o = none := by
            cases o with
            | none => rfl
            | some y => exfalso; have h1 := hx.rw_.1; exact hgo (by show (0 : Int) < ((y.W.length - y.i : Nat) : Int); omega)
          subst hon
          obtain ⟨hE, hS, h17⟩ := hx.si.done hl9 hx.rw_ hlen
          exact ⟨(h, ts, Gt), rfl, ⟨hx.go, hx.tb, hE, hS, h17, fun tv htv => (hx.si.ok tv htv).2⟩, by show List.Sublist (gbR TVR 89 h ts ++ Gt) (gbR R4 92 hr9 L ++ ([] ++ (gbR TVR 89 h ts ++ (Gt ++ [(b0, Obj.cells #[.int .i64 (n : Nat), .int .i64 (s : Nat), .int .i64 (t : Nat), .slice p rs.length cap] 24 (0, 0))])))); rw [List.nil_append, ← List.append_assoc (gbR TVR 89 h ts)]; exact List.Sublist.trans (List.sublist_append_left _ _) (List.sublist_append_right _ _)⟩

end Go.Proofs.Ytnlbngbbddhgeaa
