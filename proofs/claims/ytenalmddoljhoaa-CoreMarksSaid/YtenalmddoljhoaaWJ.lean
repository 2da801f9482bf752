/- The latest and the earliest dates: the statement's own function. -/
import Derived.Test.YtenalmddoljhoaaWG
import Derived.Test.YtenalmddoljhoaaRe
namespace Go.Proofs.Ytenalmddoljhoaa
open Go.Sx Go.RowKit

structure Mk where
  k : Bool
  d : Int
  deriving Inhabited, DecidableEq
def MR : Rec Mk where
  cells r := [.bool r.k, .int .i64 r.d]
  sz := 2
  len _ := rfl
  one r v hv := by
    simp at hv
    rcases hv with rfl | rfl <;> rfl
  pos := by decide
theorem fill_md (r : Mk) : Instr.fill (fun i => some (i * 2, 2)) ((Array.range (1 * 2)).map ((Value.agg #[(.bool false), (.int .i64 0)]).cells[· % (Value.agg #[(.bool false), (.int .i64 0)]).cells.size]!)) [(0, rval MR r)] = some (MR.cells r).toArray := by kernel_rfl
theorem eq87n_guard (x y : Operand) (r s : Mk) (w : World) : (eqGuard .neq 87 x y (rval MR r) (rval MR s)).run Try.prog w = .ok () w :=
  run_eqGuard_agg (w := w) .neq 87 x y _ _ (by kernel_rfl)
theorem eq87_fs : ((Try.prog.fieldsOf 87).toList.map fun f => (f.name != "_", f.type, f.offset)) = [(true, 4, 0), (true, 3, 1)] := by kernel_rfl
theorem eqF2 {P : Program} (w : World) (d : Nat) (a0 c0 : Bool) (a1 c1 : Int) (t u : TypeId) {k : IntKind} (ht : P.underlying t = some (.int k)) (hu : P.underlying u = some .bool) (ha : (isAgg t).run P w = .ok false w) (hb : (isAgg u).run P w = .ok false w) {fs : List Field} (h : (fs.map fun f => (f.name != "_", f.type, f.offset)) = [(true, u, 0), (true, t, 1)]) :
   (Op.eqFields (d + 1) #[.bool a0, .int .i64 a1] #[.bool c0, .int .i64 c1] fs).run P w = .ok (decide (a0 = c0 ∧ a1 = c1)) w := by
  rcases fs with _ | ⟨f, _ | ⟨g, _ | ⟨f3, fs⟩⟩⟩ <;> simp at h
  obtain ⟨⟨h1, h2, h3⟩, h4, h5, h6⟩ := h
  by_cases e0 : a0 = c0
  · by_cases e1 : a1 = c1 <;> simp [Op.eqFields, h1, h2, h3, h4, h5, h6, part, ha, hb, run_equalIn_int w _ _ _ _ _ _ ht, run_equalIn_bool w _ _ _ _ hu, e0, e1]
  · simp [Op.eqFields, h1, h2, h3, part, hb, run_equalIn_bool w _ _ _ _ hu, e0]
theorem eq87n (r s : Mk) (w : World) : (binOp .neq 87 (rval MR r) (rval MR s)).run Try.prog w = .ok (.bool (decide (¬ r = s))) w := by
  rw [run_neq_struct, show (10000 : Nat) = 9998 + 1 + 1 from rfl, run_equalIn_agg w _ _ _ _ (by kernel_rfl) (by kernel_rfl), show (MR.cells r).toArray = #[.bool r.k, .int .i64 r.d] from rfl, show (MR.cells s).toArray = #[.bool s.k, .int .i64 s.d] from rfl, eqF2 w _ _ _ _ _ 3 4 (k := .i64) (by kernel_rfl) (by kernel_rfl) (by simp [isAgg, run_underlying (show Try.prog.underlying 3 = some (.int .i64) by kernel_rfl)]) (by simp [isAgg, run_underlying (show Try.prog.underlying 4 = some .bool by kernel_rfl)]) eq87_fs]
  have e : (r.k = s.k ∧ r.d = s.d) ↔ r = s := by
    constructor
    · obtain ⟨a, b⟩ := r
      obtain ⟨a', b'⟩ := s
      rintro ⟨h1, h2⟩
      simp at h1 h2
      subst h1; subst h2; rfl
    · rintro rfl; exact ⟨rfl, rfl⟩
  simp [e]
def fM (f : Nat → Mk) (N k : Nat) : List Mk := (List.range N).map fun j => if j < k then f j else default
theorem fM_len (f : Nat → Mk) (N k : Nat) : (fM f N k).length = N := by simp [fM]
theorem fM_set {f : Nat → Mk} {N k : Nat} (h : k < N) : (fM f N k).set k (f k) = fM f N (k + 1) := by
  apply List.ext_getElem
  · simp [fM]
  · intro j h1 h2
    simp only [List.getElem_set, fM, List.getElem_map, List.getElem_range]
    by_cases e : k = j
    · subst e; simp
    · rw [if_neg e]
      by_cases e2 : j < k
      · rw [if_pos e2, if_pos (by omega)]
      · rw [if_neg e2, if_neg (by omega)]
theorem fM_all (f : Nat → Mk) (N : Nat) : fM f N N = (List.range N).map f := by
  unfold fM
  refine List.map_congr_left fun j hj => ?_
  rw [if_pos (List.mem_range.1 hj)]
theorem made_M (f : Nat → Mk) (N b : Nat) : gbR MR 87 (some (b, N, [])) (fM f N 0) = [(b, Obj.cells (recA (List.replicate N [Value.bool false, Value.int .i64 0])) 87 (0, 0))] := by
  have e : rcs MR (fM f N 0) = (List.replicate N [Value.bool false, Value.int .i64 0]).flatten := by
    rw [rcs_flat]
    congr 1
    apply List.ext_getElem
    · simp [fM]
    · intro j h1 h2
      simp [fM, MR]
      exact ⟨rfl, rfl⟩
  simp [gblk, recA, e]
theorem made_ok (f : Nat → Mk) (N b k : Nat) : gok (some (b, N, [])) N 2 (rcs MR (fM f N k)) := by
  have h := rcs_len (R := MR) (fM f N k)
  rw [fM_len] at h
  exact ⟨h, by rw [h]; rfl, Nat.le_refl _⟩
theorem made_go (f : Nat → Mk) (N b k : Nat) : goR MR (some (b, N, [])) (fM f N k) := by
  have h := made_ok f N b k
  have e := fM_len f N k
  show gok _ (fM f N k).length 2 _
  rw [e]
  exact h
def mkF (l : List Bd) (a : Int) (b : Nat) : Mk := ⟨fndB l a b, fndM l a b⟩
def mkW (N : Nat) (rs : List Bd) (a b : Nat) : Mk := ⟨wK N rs a b, if wK N rs a b = true then wS N rs a b else 0⟩
def latL (n : Int) (rs : List Bd) (a : Int) : List Mk := if pofI n rs [a] = 0 then (List.range n.toNat).map (mkF (plainB n.toNat rs) a) else []
theorem latL_no {n : Int} {rs : List Bd} {a : Int} (h : pofI n rs [a] ≠ 0) : latL n rs a = [] := if_neg h
theorem lay_one {n : Int} {rs : List Bd} {a : Int} : layI n rs [a, a] = layI n rs [a] := by
  unfold layI
  simp
theorem pof_one {n : Int} {rs : List Bd} {a : Int} : pofI n rs [a, a] = pofI n rs [a] := by
  unfold pofI
  rw [lay_one]
theorem pof_rng1 {n : Int} {rs : List Bd} {a : Int} (h : pofI n rs [a] = 0) : 0 ≤ a ∧ a < n := (pof_rng2 (b := a) (pof_one.trans h)).1
theorem mkF_W {N : Nat} {rs : List Bd} (hd : dOk (N : Int) rs = true) {a : Int} (ha : 0 ≤ a ∧ a < N) {b : Nat} (hb : b < N) : mkF (plainB N rs) a b = mkW N rs a.toNat b := by
  have h := fnd_pl hd ha (b := (b : Int)) (by omega)
  rw [Int.toNat_natCast, Int.toNat_natCast] at h
  unfold mkF mkW
  rw [h.1, h.2]
theorem latL_F {N : Nat} {rs : List Bd} {a : Int} (h : pofI (N : Int) rs [a] = 0) : latL (N : Int) rs a = (List.range N).map (mkF (pofL (N : Int) rs [a]) a) := by
  unfold latL
  rw [if_pos h, pofL_is h, Int.toNat_natCast]
theorem latL_W {N : Nat} {rs : List Bd} {a : Int} (h : pofI (N : Int) rs [a] = 0) : latL (N : Int) rs a = (List.range N).map (mkW N rs a.toNat) := by
  unfold latL
  rw [if_pos h, Int.toNat_natCast]
  exact List.map_congr_left fun b hb => mkF_W (pof_dok h) (pof_rng1 h) (List.mem_range.1 hb)
/-- A list filled by appending. -/
structure LS (f : Nat → Mk) (N k : Nat) (x : HD × List Mk) : Prop where
  le : k ≤ N
  eq : x.2 = (List.range k).map f
  ok : goR MR x.1 x.2
theorem LS.zero (f : Nat → Mk) (N : Nat) : LS f N 0 (none, []) := ⟨Nat.zero_le _, rfl, ⟨rfl, rfl⟩⟩
theorem LS.len {f : Nat → Mk} {N k : Nat} {x : HD × List Mk} (h : LS f N k x) : x.2.length = k := by rw [h.eq]; simp
theorem LS.put {f : Nat → Mk} {N k : Nat} {x : HD × List Mk} {h' : HD} {r : Mk} (h : LS f N k x) (hk : k < N) (hr : r = f k) (ho : goR MR h' (x.2 ++ [r])) : LS f N (k + 1) (h', x.2 ++ [r]) :=
  ⟨hk, by show x.2 ++ [r] = _; rw [h.eq, hr, List.range_succ, List.map_append]; rfl, ho⟩
theorem mk_yes {N : Nat} {rs : List Bd} {a b : Nat} (h : wK N rs a b = true) : (⟨wK N rs a b, wS N rs a b⟩ : Mk) = mkW N rs a b := by unfold mkW; rw [if_pos h]
theorem mk_no {N : Nat} {rs : List Bd} {a b : Nat} (h : wK N rs a b = false) : (⟨wK N rs a b, 0⟩ : Mk) = mkW N rs a b := by unfold mkW; rw [if_neg (by rw [h]; decide)]
theorem mk_y {N : Nat} {rs : List Bd} {a b : Nat} {k : Bool} (hk : k = true) (h : k = wK N rs a b) : (⟨k, wS N rs a b⟩ : Mk) = mkW N rs a b := by rw [h, mk_yes (h ▸ hk)]
theorem mk_n {N : Nat} {rs : List Bd} {a b : Nat} {k : Bool} (hk : k = false) (h : k = wK N rs a b) : (⟨k, 0⟩ : Mk) = mkW N rs a b := by rw [h, mk_no (h ▸ hk)]


set_option maxRecDepth 100000 in
set_option maxHeartbeats 1000000 in
theorem sameM_ok (w0 : World) (p1 p2 : Option Addr) (c1 c2 : Nat) (rs1 rs2 : List Mk) (h1 : RecsAt MR w0 p1 rs1) (h2 : RecsAt MR w0 p2 rs2) (hl : rs1.length ≤ 100000) (hl2 : rs2.length ≤ 100000) :
    Calls Try.prog 39 #[.slice p1 rs1.length c1, .slice p2 rs2.length c2] w0 (Post (X := Unit) (fun _ => .bool (decide (rs1 = rs2))) (fun _ => True) (fun _ => []) w0) := by
  refine calls Try.func39 rfl (n := 26) rfl (by simp) ?_
  refine TC.seq ?_
  refine TC.region ?_
  refine TL.pure (PV.assign rfl) rfl (by decide) ?_
  refine TL.nil ?_
  refine TQ.thenC ?_
  refine TC.seq ?_
  refine TC.seq ?_
  refine TC.region ?_
  refine TL.pure (PV.move rfl) rfl (by decide) ?_
  refine TL.pure (PV.len rfl Tb.sl_46) rfl (by decide) ?_
  refine TL.pure (PV.move rfl) rfl (by decide) ?_
  refine TL.pure (PV.len rfl Tb.sl_46) rfl (by decide) ?_
  refine TL.pure (PV.neq rfl rfl) rfl (by decide) ?_
  refine TL.nil ?_
  refine TQ.thenC ?_
  first | refine TC.condD rfl (fun hne => ?_) (fun hne => ?_) | refine TC.cond rfl (fun hne => ?_) (fun hne => ?_)
  · skip
    refine TC.seq ?_
    refine TC.region ?_
    refine TL.pure (PV.assign rfl) rfl (by decide) ?_
    refine TL.nil ?_
    refine TQ.thenC ?_
    refine TC.ret ?_
    refine TQ.thenR ?_
    refine TQ.retE1 rfl rfl ?_
    exact ⟨(), by rw [decide_eq_false (fun h => by subst h; omega)], trivial, List.nil_sublist _⟩
  · skip
    refine TC.skip ?_
    refine TQ.thenC ?_
    refine TC.seq ?_
    refine TC.seq ?_
    refine TC.region ?_
    refine TL.pure (PV.assign rfl) rfl (by decide) ?_
    refine TL.nil ?_
    refine TQ.thenC ?_
    refine TC.block ?_
    -- live and written in the loop, not told: [4]
    refine TC.loopG [0, 1] (X := Nat) (fun k => k ≤ rs1.length ∧ ∀ j, j < k → rs1.getD j default = rs2.getD j default) (fun k => [(5, .int .i64 k)]) (fun k => rs1.length - k) 0 ⟨Nat.zero_le _, fun j hj => by omega⟩ (by repeat (first | exact True.intro | refine And.intro rfl ?_)) ?_
    intro k hk
    refine TC.seq ?_
    refine TC.seq ?_
    refine TC.region ?_
    refine TL.pure (PV.move rfl) rfl (by decide) ?_
    refine TL.pure (PV.move rfl) rfl (by decide) ?_
    refine TL.pure (PV.len rfl Tb.sl_46) rfl (by decide) ?_
    refine TL.pure (PV.lss rfl rfl) rfl (by decide) ?_
    refine TL.nil ?_
    refine TQ.thenC ?_
    first | refine TC.condD rfl (fun hlt => ?_) (fun hlt => ?_) | refine TC.cond rfl (fun hlt => ?_) (fun hlt => ?_)
    · skip
      refine TC.skip ?_
      refine TQ.thenC ?_
      refine TC.seq ?_
      refine TC.block ?_
      refine TC.seq ?_
      obtain ⟨q, hqp, hq⟩ := h1 k (by omega)
      obtain ⟨q2, hq2p, hq2⟩ := h2 k (by omega)
      refine TC.any Tb.mixed rfl rfl ?_
      refine TA.op (OpOK.pure (PV.move rfl) rfl (by decide)) (by decide) ?_
      refine TA.op (OpOK.pure (PV.move rfl) rfl (by decide)) (by decide) ?_
      refine TA.op (OpOK.pure (PV.indexA rfl hqp rfl Tb.elm_46 rfl (by omega)) rfl (by decide)) (by decide) ?_
      refine TA.op (OpOK.pure (PV.loadAggA rfl Tb.agg_87 rfl hq) rfl (by decide)) (by decide) ?_
      refine TA.op (OpOK.pure (PV.move rfl) rfl (by decide)) (by decide) ?_
      refine TA.op (OpOK.pure (PV.move rfl) rfl (by decide)) (by decide) ?_
      refine TA.op (OpOK.pure (PV.indexA rfl hq2p rfl Tb.elm_46 rfl (by omega)) rfl (by decide)) (by decide) ?_
      refine TA.op (OpOK.pure (PV.loadAggA rfl Tb.agg_87 rfl hq2) rfl (by decide)) (by decide) ?_
      refine TA.op (OpOK.pure (PV.cmp rfl rfl (eq87n_guard _ _ (rs1.getD k default) (rs2.getD k default)) (eq87n (rs1.getD k default) (rs2.getD k default))) rfl (by decide)) (by decide) ?_
      show TQ _ _ _ _ _
      refine TQ.thenC ?_
      first | refine TC.condD rfl (fun heq => ?_) (fun heq => ?_) | refine TC.cond rfl (fun heq => ?_) (fun heq => ?_)
      · skip
        refine TC.seq ?_
        refine TC.region ?_
        refine TL.pure (PV.assign rfl) rfl (by decide) ?_
        refine TL.nil ?_
        refine TQ.thenC ?_
        refine TC.ret ?_
        refine TQ.blkR ?_
        refine TQ.thenR ?_
        refine TQ.thenR ?_
        refine TQ.blkR ?_
        refine TQ.thenR ?_
        refine TQ.retE1 rfl rfl ?_
        exact ⟨(), by rw [decide_eq_false (fun h => heq (by rw [h]))], trivial, List.nil_sublist _⟩
      · skip
        refine TC.skip ?_
        refine TQ.blkN ?_
        refine TQ.thenC ?_
        refine TC.region ?_
        refine TL.pure (PV.move rfl) rfl (by decide) ?_
        refine TL.pure (PV.add rfl rfl (by omega)) rfl (by decide) ?_
        refine TL.pure (PV.assign rfl) rfl (by decide) ?_
        refine TL.nil ?_
        refine TQ.thenN ?_
        refine TQ.backK (k + 1) (by repeat (first | exact True.intro | refine And.intro rfl ?_)) (by repeat (first | exact True.intro | refine And.intro rfl ?_)) (by repeat (first | exact List.Sublist.slnil | exact List.nil_sublist _ | exact List.Sublist.refl _ | refine List.Sublist.cons_cons _ ?_ | refine List.Sublist.cons _ ?_ | refine List.Sublist.trans ?_ (List.sublist_append_right _ _))) ⟨by omega, fun j hj => by by_cases h : j = k; · { rw [h]; exact Decidable.of_not_not heq }; · { exact hk.2 j (by omega) }⟩ (by omega)
    · skip
      refine TC.exit ?_
      refine TQ.thenE ?_
      refine TQ.thenE ?_
      refine TQ.blkS ?_
      refine TQ.thenC ?_
      refine TC.seq ?_
      refine TC.region ?_
      refine TL.pure (PV.assign rfl) rfl (by decide) ?_
      refine TL.nil ?_
      refine TQ.thenC ?_
      refine TC.ret ?_
      refine TQ.retE1 rfl rfl ?_
      exact ⟨(), by rw [decide_eq_true (take_all_eq default (by omega) (fun j hj => hk.2 j (by omega)))], trivial, List.nil_sublist _⟩

theorem sameMG {w : World} {h1 h2 : HD} {l1 l2 : List Mk} (o1 : goR MR h1 l1) (o2 : goR MR h2 l2) (g1 : RecsAt MR w (gp h1) l1) (g2 : RecsAt MR w (gp h2) l2) (b1 : l1.length ≤ 100000) (b2 : l2.length ≤ 100000) :
    Calls Try.prog 39 #[gval h1 l1.length, gval h2 l2.length] w (Post (X := Unit) (fun _ => .bool (decide (l1 = l2))) (fun _ => True) (fun _ => []) w) := by
  rw [gval_eq o1, gval_eq o2]
  exact sameM_ok w _ _ _ _ l1 l2 g1 g2 b1 b2

set_option maxRecDepth 100000 in
set_option maxHeartbeats 2000000 in
theorem Latest_ok (w0 : World) (n : Int) (p : Option Addr) (cap : Nat) (rs : List Bd) (hr : BdsAt w0 p rs) (aa : Int) :
    Calls Try.prog 35 #[cv n p rs.length cap, .int .i64 aa] w0 (Post (X := HD) (fun h => .tuple #[gval h (latL n rs aa).length, .int .i64 (pofI n rs [aa])]) (fun h => goR MR h (latL n rs aa)) (fun h => gbR MR 87 h (latL n rs aa)) w0) := by
  refine calls Try.func35 rfl (n := 45) rfl (by simp) ?_
  refine TC.seq ?_
  refine TC.region ?_
  refine TL.box rfl rfl (by decide) (fun b0 hb0 => ?_)
  refine TL.pure (PV.assign rfl) rfl (by decide) ?_
  refine TL.pure (PV.assign rfl) rfl (by decide) ?_
  refine TL.nil ?_
  refine TQ.thenC ?_
  refine TC.seq ?_
  refine TC.region ?_
  refine TL.pure (PV.loadBox rfl Tb.agg_24 (by repeat (first | exact List.Mem.head _ | refine fB_T ?_ _ | refine List.Mem.tail _ ?_ | refine List.mem_append_right _ ?_)) rfl) rfl (by decide) ?_
  refine TL.pure (PV.move rfl) rfl (by decide) ?_
  refine TL.buildSlice (cs := #[.int .i64 aa]) rfl Tb.sl_25 Tb.zi_3 (by decide) (fill_i _) (by decide) rfl (by decide) (fun bS hbS => ?_)
  refine TL.call rfl Tb.gofn_69 (fun a w hs => plainOfG_ok w _ _ _ _ (hr.new hs.new) _ 1 [aa] (IntsAt.arr (xs := [aa]) hs.new (by repeat (first | exact List.Mem.head _ | refine List.Mem.tail _ ?_ | refine List.mem_append_right _ ?_))) (show (1 : Nat) ≤ 1000 by decide)) rfl (by decide) (fun h9 hh9 => ?_)
  refine TL.pure (PV.move rfl) rfl (by decide) ?_
  refine TL.pure (PV.extract rfl rfl) rfl (by decide) ?_
  refine TL.pure (PV.extract rfl rfl) rfl (by decide) ?_
  refine TL.pure (PV.assign rfl) rfl (by decide) ?_
  refine TL.pure (PV.assign rfl) rfl (by decide) ?_
  refine TL.nil ?_
  refine TQ.thenC ?_
  refine TC.seq ?_
  refine TC.seq ?_
  refine TC.region ?_
  refine TL.pure (PV.move rfl) rfl (by decide) ?_
  refine TL.pure (PV.neq rfl rfl) rfl (by decide) ?_
  refine TL.nil ?_
  refine TQ.thenC ?_
  first | refine TC.condD rfl (fun hbad => ?_) (fun hbad => ?_) | refine TC.cond rfl (fun hbad => ?_) (fun hbad => ?_)
  · skip
    refine TC.seq ?_
    refine TC.region ?_
    refine TL.pure (PV.move rfl) rfl (by decide) ?_
    refine TL.pure (PV.assign rfl) rfl (by decide) ?_
    refine TL.pure (PV.assign rfl) rfl (by decide) ?_
    refine TL.nil ?_
    refine TQ.thenC ?_
    refine TC.ret ?_
    refine TQ.thenR ?_
    refine TQ.retE2 rfl rfl rfl ?_
    exact ⟨none, by rw [latL_no hbad]; rfl, by rw [latL_no hbad]; exact ⟨rfl, rfl⟩, List.nil_sublist _⟩
  · skip
    refine TC.skip ?_
    refine TQ.thenC ?_
    refine TC.seq ?_
    have e0 := Decidable.of_not_not hbad
    have hdk := pof_dok e0
    have hv := dok_valid hdk
    have hp := hv.pts
    have hra := pof_rng1 e0
    obtain ⟨N, rfl⟩ : ∃ N : Nat, n = N := ⟨n.toNat, by omega⟩
    refine TC.region ?_
    refine TL.pure (PV.fieldAddr rfl Tb.fo_24_0) rfl (by decide) ?_
    refine TL.pure (PV.load rfl Tb.one_3 (by repeat (first | exact List.Mem.head _ | refine fB_T ?_ _ | refine List.Mem.tail _ ?_ | refine List.mem_append_right _ ?_)) rfl) rfl (by decide) ?_
    refine TL.makeR (k := N) (zs := [.bool false, .int .i64 0]) rfl rfl Tb.sl_46 Tb.zi_87 rfl (by simp) rfl (by omega) (by omega) rfl (by decide) (fun bM hbM => ?_)
    refine TL.pure (PV.assign rfl) rfl (by decide) ?_
    refine TL.nil ?_
    refine TQ.thenC ?_
    refine TC.seq ?_
    refine TC.seq ?_
    refine TC.region ?_
    refine TL.pure (PV.move rfl) rfl (by decide) ?_
    refine TL.pure (PV.len rfl Tb.sl_46) rfl (by decide) ?_
    refine TL.pure (PV.move rfl) rfl (by decide) ?_
    refine TL.nil ?_
    refine TQ.thenC ?_
    refine TC.block ?_
    refine TC.lit [(1, _), (4, _), (5, _), (6, _), (8, _), (26, _), (27, _)] (by repeat (first | exact True.intro | refine And.intro rfl ?_)) ?_
    refine TC.loopK [1, 4, 5, 6, 8, 26] (X := Nat) (fun k => k ≤ N) (fun k => [(27, .int .i64 k)]) (fun k => gbR MR 87 (some (bM, N, [])) (fM (mkF (pofL (N : Int) rs [aa]) aa) N k) ++ (gbB 88 h9 (pofL (N : Int) rs [aa]) ++ [(b0, Obj.cells #[.int .i64 N, .slice p rs.length cap] 24 (0, 0))])) (fun k => N - k) 0 (Nat.zero_le _) (by repeat (first | exact True.intro | refine And.intro rfl ?_)) (by rw [made_M]; repeat (first | exact List.Sublist.slnil | exact List.nil_sublist _ | exact List.Sublist.refl _ | exact List.sublist_append_left _ _ | refine List.Sublist.cons_cons _ ?_ | refine (List.append_sublist_append_left _).2 ?_ | refine List.Sublist.cons _ ?_ | refine List.Sublist.trans ?_ (List.sublist_append_right _ _))) ?_
    intro k hk
    refine TC.lit [(1, _), (4, _), (5, _), (6, _), (8, _), (26, _), (27, _)] (by repeat (first | exact True.intro | refine And.intro rfl ?_)) ?_
    refine TC.seq ?_
    refine TC.region ?_
    refine TL.pure (PV.lss rfl rfl) rfl (by decide) ?_
    refine TL.nil ?_
    refine TQ.thenC ?_
    refine TC.seq ?_
    first | refine TC.condD rfl (fun hlt => ?_) (fun hlt => ?_) | refine TC.cond rfl (fun hlt => ?_) (fun hlt => ?_)
    · skip
      refine TC.skip ?_
      refine TQ.thenC ?_
      refine TC.seq ?_
      refine TC.block ?_
      refine TC.seq ?_
      refine TC.region ?_
      refine TL.pure (PV.move rfl) rfl (by decide) ?_
      refine TL.pure (PV.assign rfl) rfl (by decide) ?_
      refine TL.nil ?_
      refine TQ.thenC ?_
      refine TC.seq ?_
      refine TC.region ?_
      refine TL.pure (PV.move rfl) rfl (by decide) ?_
      refine TL.pure (PV.move rfl) rfl (by decide) ?_
      refine TL.pure (PV.move rfl) rfl (by decide) ?_
      refine TL.call rfl Tb.gofn_70 (fun a w hs => find_g w h9 _ hh9 (BdsAt.s hs.new (fun yy hyy => by repeat (first | exact hyy | exact List.mem_append_left _ hyy | refine List.mem_append_right _ ?_ | refine List.Mem.tail _ ?_)) hh9) pofL_few aa (k : Int)) rfl (by decide) (fun _ _ => ?_)
      refine TL.pure (PV.move rfl) rfl (by decide) ?_
      refine TL.pure (PV.extract rfl rfl) rfl (by decide) ?_
      refine TL.pure (PV.extract rfl rfl) rfl (by decide) ?_
      refine TL.pure (PV.assign rfl) rfl (by decide) ?_
      refine TL.pure (PV.assign rfl) rfl (by decide) ?_
      refine TL.nil ?_
      refine TQ.thenC ?_
      refine TC.region ?_
      refine TL.pure (PV.move rfl) rfl (by decide) ?_
      refine TL.pure (PV.move rfl) rfl (by decide) ?_
      refine TL.pure (PV.move rfl) rfl (by decide) ?_
      refine TL.pure (PV.move rfl) rfl (by decide) ?_
      refine TL.pure (PV.build (cs := (MR.cells ((mkF (pofL (N : Int) rs [aa]) aa) k)).toArray) rfl Tb.zero_87 Tb.pl_87 rfl) rfl (by decide) ?_
      refine TL.pure (PV.indexG (h := some (bM, N, [])) (len := N) (j := k) rfl rfl (made_ok (mkF (pofL (N : Int) rs [aa]) aa) N bM k) Tb.elm_46 rfl (by omega)) rfl (by decide) ?_
      refine TL.putRec (R := MR) (h := some (bM, N, [])) (l0 := fM (mkF (pofL (N : Int) rs [aa]) aa) N k) (j := k) (r := (mkF (pofL (N : Int) rs [aa]) aa) k) rfl rfl Tb.cells_87 (made_go _ _ _ _) (by repeat (first | exact PutH.here _ _ _ _ | apply PutH.tail | apply PutH.app)) (by rw [fM_len]; omega) rfl rfl ?_
      rw [fM_set (by omega)]
      refine TL.nil ?_
      refine TQ.blkN ?_
      refine TQ.thenC ?_
      refine TC.region ?_
      refine TL.pure (PV.add rfl rfl (by omega)) rfl (by decide) ?_
      refine TL.pure (PV.move rfl) rfl (by decide) ?_
      refine TL.nil ?_
      refine TQ.thenN ?_
      refine TQ.backK (k + 1) (by repeat (first | exact True.intro | refine And.intro rfl ?_)) (by repeat (first | exact True.intro | refine And.intro rfl ?_)) (List.Sublist.refl _) (by omega) (by omega)
    · skip
      refine TC.exit ?_
      refine TQ.thenE ?_
      refine TQ.thenE ?_
      refine TQ.blkS ?_
      refine TQ.thenC ?_
      refine TC.seq ?_
      refine TC.region ?_
      refine TL.pure (PV.move rfl) rfl (by decide) ?_
      refine TL.pure (PV.assign rfl) rfl (by decide) ?_
      refine TL.pure (PV.assign rfl) rfl (by decide) ?_
      refine TL.nil ?_
      refine TQ.thenC ?_
      refine TC.ret ?_
      refine TQ.retE2 rfl rfl rfl ?_
      have hkN : k = N := by omega
      have hl9 := latL_F e0
      rw [← fM_all] at hl9
      subst hkN
      exact ⟨some (bM, k, []), by rw [hl9, fM_len, e0]; rfl, by rw [hl9]; exact made_go _ _ _ _, by rw [hl9]; exact List.sublist_append_left _ _⟩

end Go.Proofs.Ytenalmddoljhoaa
