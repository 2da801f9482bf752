/- Add: contracts; sums settle in any order. -/
import Derived.Test.YtgafpkcnhpoobaaEk
set_option linter.unusedVariables false
set_option linter.unusedSimpArgs false
namespace Go.Proofs.Ytgafpkcnhpoobaa
open Go.Sx Go.RowKit Go.Sand

theorem fill_i (v : Int) : Instr.fill (fun i => some (i * 1, 1)) ((Array.range (1 * 1)).map ((Value.int .i64 0).cells[· % (Value.int .i64 0).cells.size]!)) [(0, .int .i64 v)] = some #[.int .i64 v] := by kernel_rfl
theorem mk_succ (n : Nat) (f : Nat → Int) : mk (n + 1) f = mk n f ++ [f n] := by simp [mk, List.range_succ]
structure ApK (f : Nat → Int) (n k : Nat) (x : HD × List Int) : Prop where
  le : k ≤ n
  eq : x.2 = mk k f
  ok : goI x
theorem ApK.zero (f : Nat → Int) (n : Nat) : ApK f n 0 (none, []) := ⟨Nat.zero_le _, rfl, goI_nil⟩
theorem ApK.step {f : Nat → Int} {n k : Nat} {x : HD × List Int} {h' : HD} {v : Int} (h : ApK f n k x) (hk : k < n) (hv : v = f k) (ho : goI (h', x.2 ++ [v])) : ApK f n (k + 1) (h', x.2 ++ [v]) :=
  ⟨hk, by show x.2 ++ [v] = _; rw [h.eq, hv, mk_succ], ho⟩
theorem ApK.len {f : Nat → Int} {n k : Nat} {x : HD × List Int} (h : ApK f n k x) : x.2.length = k := by rw [h.eq, mk_len]
theorem ad_mk (xs ys : List Int) : mk xs.length (fun j => xs.getD j 0 + ys.getD j 0) = adN xs ys 1 := mk_congr fun j _ => by omega
theorem ad_comm {xs ys : List Int} (h : xs.length = ys.length) : adN xs ys 1 = adN ys xs 1 := mk_eq (by rw [ad_len, h]) fun j hj => by rw [ad_at (by omega)]; omega
theorem giv_comm (ls : List (List Int)) (gs xs ys : List Int) : givI ls gs [xs, ys] = givI ls gs [ys, xs] := by
  have e : [xs, ys].all (numB gs.length 30) = [ys, xs].all (numB gs.length 30) := by
    simp only [List.all_cons, List.all_nil, Bool.and_true]
    exact Bool.and_comm _ _
  unfold givI
  rw [e]
structure AddP (ls : List (List Int)) (gs xs ys c : List Int) : Prop where
  bad : givI ls gs [xs, ys] ≠ 0 → c = []
  ok : ¬ givI ls gs [xs, ys] ≠ 0 → ∃ m, StbL ls gs (adN xs ys 1) c m
theorem AddP.unique {ls : List (List Int)} {gs xs ys c d : List Int} (h : AddP ls gs xs ys c) (k : AddP ls gs xs ys d) : c = d := by
  by_cases h0 : givI ls gs [xs, ys] ≠ 0
  · rw [h.bad h0, k.bad h0]
  · obtain ⟨m, h1⟩ := h.ok h0
    obtain ⟨m2, h2⟩ := k.ok h0
    exact (h1.unique h2).1
theorem AddP.comm {ls : List (List Int)} {gs xs ys c : List Int} (h : AddP ls gs xs ys c) : AddP ls gs ys xs c :=
  ⟨fun h0 => h.bad (by rw [giv_comm]; exact h0), fun h0 => by
    have h1 : ¬ givI ls gs [xs, ys] ≠ 0 := by rw [giv_comm]; exact h0
    obtain ⟨⟨e1, _⟩, e2, _⟩ := giv_two h1
    rw [ad_comm (by omega)]
    exact h.ok h1⟩
theorem AddP.len {ls : List (List Int)} {gs xs ys c : List Int} (h : AddP ls gs xs ys c) : c.length ≤ 1000000 := by
  by_cases h0 : givI ls gs [xs, ys] ≠ 0
  · rw [h.bad h0]; exact Nat.zero_le _
  · obtain ⟨m, h1⟩ := h.ok h0
    have := h1.1
    have := (giv_hb h0).1.n
    omega
/-- First some turves settle, then with more ones. -/
theorem stbL_comp {ls : List (List Int)} {gs t c m r d m2 : List Int} (ht : t.length = gs.length) (hr : ∀ k, 0 ≤ r.getD k 0) (h : StbL ls gs t c m) (h2 : StbL ls gs (adN c r 1) d m2) : StbL ls gs (adN t r 1) d (adN m m2 1) := by
  refine ⟨h2.1, by rw [ad_len]; exact h.2.1, ?_⟩
  have h3 := h.2.2.toRun.comp (r := gd r) (fun i _ => hr i) (h2.2.2.congr (t' := fun i => gd c i + gd r i) (fun i hi => by
    show c.getD i 0 + r.getD i 0 = (adN c r 1).getD i 0
    rw [ad_at (by rw [h.1]; exact hi)]; omega) (fun _ _ => rfl) (fun _ _ => rfl))
  exact h3.congr (fun i hi => by
    show (adN t r 1).getD i 0 = t.getD i 0 + r.getD i 0
    rw [ad_at (by omega)]; omega) (fun _ _ => rfl) (fun i hi => by
    show (adN m m2 1).getD i 0 = m.getD i 0 + m2.getD i 0
    rw [ad_at (by rw [h.2.1]; exact hi)]; omega)
theorem giv_yes {ls : List (List Int)} {gs : List Int} {xss : List (List Int)} (hv : ¬ validI ls gs ≠ 0) (h : ∀ x ∈ xss, x.length = gs.length ∧ ∀ k, 0 ≤ x.getD k 0 ∧ x.getD k 0 ≤ 30) : givI ls gs xss = 0 :=
  giv_0 hv fun k hk => by
    have hm : xss.getD k [] ∈ xss := by simp [List.getD, hk]
    obtain ⟨h1, h2⟩ := h _ hm
    exact num_3 (by omega) fun j _ => h2 j
theorem giv_val {ls : List (List Int)} {gs : List Int} {xss : List (List Int)} (h : ¬ givI ls gs xss ≠ 0) : ¬ validI ls gs ≠ 0 := fun h1 => by rw [giv_bad h1] at h; exact h h1
theorem stb_30 {ls : List (List Int)} {gs xs c m : List Int} (hB : HB ls gs) (h : StbL ls gs xs c m) : c.length = gs.length ∧ ∀ k, 0 ≤ c.getD k 0 ∧ c.getD k 0 ≤ 30 := ⟨h.1, fun k => by have := stb_c hB h k; omega⟩
theorem Sml.x0 {ls : List (List Int)} {gs x : List Int} {xss : List (List Int)} (h : Sml ls gs (x :: xss)) : x.length ≤ 400 := by simpa using h.x 0
theorem Sml.x1 {ls : List (List Int)} {gs x y : List Int} {xss : List (List Int)} (h : Sml ls gs (x :: y :: xss)) : y.length ≤ 400 := by simpa using h.x 1
theorem Sml.x2 {ls : List (List Int)} {gs x y z : List Int} {xss : List (List Int)} (h : Sml ls gs (x :: y :: z :: xss)) : z.length ≤ 400 := by simpa using h.x 2
theorem SetP.len {ls : List (List Int)} {gs xs c m : List Int} (h : SetP ls gs xs c m) : c.length ≤ 1000000 ∧ m.length ≤ 1000000 := by
  by_cases h0 : givI ls gs [xs] ≠ 0
  · obtain ⟨h1, h2⟩ := h.bad h0
    rw [h1, h2]; exact ⟨Nat.zero_le _, Nat.zero_le _⟩
  · have h1 := h.ok h0
    have := (giv_hb h0).1.n
    have := h1.1
    have := h1.2.1
    omega
theorem LsAt.three {w0 w : World} {G : Heap} {bO cl c2 c3 : Nat} {e : TypeId} {pl p2 p3 : Option Addr} {xs ys zs : List Int} (hn : New w0 w G) (hO : (bO, Obj.cells #[.slice pl xs.length cl, .slice p2 ys.length c2, .slice p3 zs.length c3] e (0, 0)) ∈ G) (hx : IntsAt w pl xs) (hy : IntsAt w p2 ys) (hz : IntsAt w p3 zs) : LsAt w (some ⟨bO, 0, none⟩) [xs, ys, zs] := by
  intro j hj
  have e : j = 0 ∨ j = 1 ∨ j = 2 := by simp only [List.length_cons, List.length_nil] at hj; omega
  rcases e with rfl | rfl | rfl
  · refine ⟨_, rfl, pl, cl, ?_, hx⟩
    rw [add_off]
    exact hn.cell hO rfl
  · refine ⟨_, rfl, p2, c2, ?_, hy⟩
    rw [add_off]
    exact hn.cell hO rfl
  · refine ⟨_, rfl, p3, c3, ?_, hz⟩
    rw [add_off]
    exact hn.cell hO rfl
theorem fill_ooo (x y z : Option Addr) (n c m d k f : Nat) : Instr.fill (fun i => some (i * 1, 1)) ((Array.range (3 * 1)).map ((Value.slice none 0 0).cells[· % (Value.slice none 0 0).cells.size]!)) [(0, .slice x n c), (1, .slice y m d), (2, .slice z k f)] = some #[.slice x n c, .slice y m d, .slice z k f] := by kernel_rfl


set_option maxRecDepth 100000 in
set_option maxHeartbeats 1000000 in
theorem radd_ok (w0 : World) (p : Option Addr) (cp : Nat) (ls : List (List Int)) (hr : LsAt w0 p ls) (q : Option Addr) (cq : Nat) (gs : List Int) (hg : IntsAt w0 q gs) (hB : HB ls gs) (pl : Option Addr) (cl : Nat) (xs : List Int) (hx : IntsAt w0 pl xs) (N : Nat) (hN : xs.length = N) (p2 : Option Addr) (c2 : Nat) (ys : List Int) (hy : IntsAt w0 p2 ys) (M : Nat) (hM : ys.length = M) (hxl : xs.length = gs.length) (hyl : ys.length = gs.length) (hx0 : ∀ k, 0 ≤ xs.getD k 0 ∧ xs.getD k 0 ≤ 500) (hy0 : ∀ k, 0 ≤ ys.getD k 0 ∧ ys.getD k 0 ≤ 500) :
    Calls Try.prog 83 #[hv p ls.length cp q gs.length cq, .slice pl N cl, .slice p2 M c2] w0 (Post (X := HD × List Int × List Int) (fun y => gval y.1 gs.length) (fun y => StbL ls gs (adN xs ys 1) y.2.1 y.2.2 ∧ gok y.1 gs.length 1 (ival y.2.1)) (fun y => gbI (y.1, y.2.1)) w0) := by
  have hn9 := hB.n
  refine calls Try.func83 rfl (n := 38) rfl (by simp) ?_
  refine TC.seq ?_
  refine TC.region ?_
  refine TL.box rfl rfl (by decide) (fun b0 hb0 => ?_)
  refine TL.pure (PV.assign rfl) rfl (by decide) ?_
  refine TL.nil ?_
  refine TQ.thenC ?_
  refine TC.seq ?_
  refine TC.region ?_
  refine TL.pure (PV.assign rfl) rfl (by decide) ?_
  refine TL.nil ?_
  refine TQ.thenC ?_
  refine TC.seq ?_
  refine TC.seq ?_
  refine TC.region ?_
  refine TL.pure (PV.assign rfl) rfl (by decide) ?_
  refine TL.nil ?_
  refine TQ.thenC ?_
  refine TC.block ?_
  refine TC.loopK [1, 2, 3, 6] (X := Nat × HD × List Int) (fun x => ApK (fun j => xs.getD j 0 + ys.getD j 0) gs.length x.1 x.2) (fun x => [(8, .int .i64 x.1), (7, gvI x.2)]) (fun x => gbI x.2 ++ [(b0, Obj.cells #[.slice p ls.length cp, .slice q gs.length cq] 25 (0, 0))]) (fun x => gs.length - x.1) (0, none, []) (ApK.zero _ _) (by repeat (first | exact True.intro | refine And.intro rfl ?_)) (List.Sublist.refl _) ?_
  intro x hx9
  have hle := hx9.le
  have hlen := hx9.len
  refine TC.seq ?_
  refine TC.seq ?_
  refine TC.region ?_
  refine TL.pure (PV.move rfl) rfl (by decide) ?_
  refine TL.pure (PV.move rfl) rfl (by decide) ?_
  refine TL.pure (PV.len rfl Tb.sl_23) rfl (by decide) ?_
  refine TL.pure (PV.lss rfl rfl) rfl (by decide) ?_
  refine TL.nil ?_
  refine TQ.thenC ?_
  first | refine TC.condD rfl (fun h0 => ?_) (fun h0 => ?_) | refine TC.cond rfl (fun h0 => ?_) (fun h0 => ?_)
  · skip
    refine TC.skip ?_
    refine TQ.thenC ?_
    refine TC.seq ?_
    refine TC.block ?_
    obtain ⟨q2, hq2p, hq2⟩ := hx x.1 (by omega)
    obtain ⟨q3, hq3p, hq3⟩ := hy x.1 (by omega)
    have hb1 := hx0 x.1
    have hb2 := hy0 x.1
    refine TC.mixE [false, true, true, true, true, true, true, true, true, true, false, false, false] [(b0, Obj.cells #[.slice p ls.length cp, .slice q gs.length cq] 25 (0, 0))] 4 Tb.mixed rfl (by kernel_rfl) (by kernel_rfl) (by kernel_rfl) (by kernel_rfl) (by repeat (first | exact List.Sublist.slnil | exact List.nil_sublist _ | exact List.Sublist.refl _ | refine List.Sublist.cons_cons _ ?_ | refine List.Sublist.cons _ ?_ | refine List.Sublist.trans ?_ (List.sublist_append_right _ _))) ?_
    refine TY.no ?_
    refine TY.op (SOK.pure (PV.move rfl) rfl) (by decide) ?_
    refine TY.op (SOK.pure (PV.move rfl) rfl) (by decide) ?_
    refine TY.op (SOK.pure (PV.indexA rfl hq2p rfl Tb.elm_23 rfl (by omega)) rfl) (by decide) ?_
    refine TY.op (SOK.pure (PV.loadOld rfl Tb.one_3 hq2) rfl) (by decide) ?_
    refine TY.op (SOK.pure (PV.move rfl) rfl) (by decide) ?_
    refine TY.op (SOK.pure (PV.move rfl) rfl) (by decide) ?_
    refine TY.op (SOK.pure (PV.indexA rfl hq3p rfl Tb.elm_23 rfl (by omega)) rfl) (by decide) ?_
    refine TY.op (SOK.pure (PV.loadOld rfl Tb.one_3 hq3) rfl) (by decide) ?_
    refine TY.op (SOK.pure (PV.add rfl rfl (by omega)) rfl) (by decide) ?_
    refine TY.no ?_
    refine TY.no ?_
    refine TY.no ?_
    refine TY.fin ?_
    refine TX.step [0, 10] (by kernel_rfl) (by decide) ⟨⟨_, rfl, ?_⟩, ⟨_, rfl, ?_⟩, trivial⟩
    · skip
      refine TL.pure (PV.move rfl) rfl (by decide) ?_
      refine TL.nil ?_
      refine TX.next (.inl (by repeat (first | exact List.Sublist.slnil | exact List.nil_sublist _ | exact List.Sublist.refl _ | refine List.Sublist.cons_cons _ ?_ | refine List.Sublist.cons _ ?_ | refine List.Sublist.trans ?_ (List.sublist_append_right _ _)))) ?_
      refine TX.step [10] (by kernel_rfl) (by decide) ⟨⟨_, rfl, ?_⟩, trivial⟩
      refine TL.buildSlice (cs := #[.int .i64 (xs.getD x.1 0 + ys.getD x.1 0)]) rfl Tb.sl_23 Tb.zi_3 (by decide) (fill_i _) (by decide) rfl (by decide) (fun bE hbE => ?_)
      refine TL.nil ?_
      refine TX.next (.inl (by repeat (first | exact List.Sublist.slnil | exact List.nil_sublist _ | exact List.Sublist.refl _ | refine List.Sublist.cons_cons _ ?_ | refine List.Sublist.cons _ ?_ | refine List.Sublist.trans ?_ (List.sublist_append_right _ _)))) ?_
      refine TX.step [11] (by kernel_rfl) (by decide) ⟨⟨_, rfl, ?_⟩, trivial⟩
      refine TL.appendI (x0 := x.2) rfl rfl (by repeat (first | exact List.Mem.head _ | refine List.Mem.tail _ ?_ | refine List.mem_append_right _ ?_)) hx9.ok (by repeat (first | exact TakeH.here _ _ _ _ | apply TakeH.tail | apply TakeH.app)) (by omega) rfl (by decide) (fun hh hho => ?_)
      refine TL.nil ?_
      refine TX.next (.inl (by repeat (first | exact List.Sublist.slnil | exact List.nil_sublist _ | exact List.Sublist.refl _ | refine List.Sublist.cons_cons _ ?_ | refine List.Sublist.cons _ ?_ | refine List.Sublist.trans ?_ (List.sublist_append_right _ _)))) ?_
      refine TX.step [12] (by kernel_rfl) (by decide) ⟨⟨_, rfl, ?_⟩, trivial⟩
      refine TL.pure (PV.assign rfl) rfl (by decide) ?_
      refine TL.nil ?_
      refine TX.next (.inr (by kernel_rfl)) ?_
      refine TX.done (by kernel_rfl) ?_
      refine TQ.blkN ?_
      refine TQ.thenC ?_
      refine TC.region ?_
      refine TL.pure (PV.move rfl) rfl (by decide) ?_
      refine TL.pure (PV.add rfl rfl (by omega)) rfl (by decide) ?_
      refine TL.pure (PV.assign rfl) rfl (by decide) ?_
      refine TL.nil ?_
      refine TQ.thenN ?_
      refine TQ.backK (x.1 + 1, hh, x.2.2 ++ [xs.getD x.1 0 + ys.getD x.1 0]) (by repeat (first | exact True.intro | refine And.intro rfl ?_)) (by repeat (first | exact True.intro | refine And.intro rfl ?_)) (List.Sublist.append_left (List.Sublist.cons _ (List.Sublist.refl _)) _) (hx9.step (by omega) rfl hho) (by simp only; omega)
    · skip
      refine TL.buildSlice (cs := #[.int .i64 (xs.getD x.1 0 + ys.getD x.1 0)]) rfl Tb.sl_23 Tb.zi_3 (by decide) (fill_i _) (by decide) rfl (by decide) (fun bE hbE => ?_)
      refine TL.nil ?_
      refine TX.next (.inl (by repeat (first | exact List.Sublist.slnil | exact List.nil_sublist _ | exact List.Sublist.refl _ | refine List.Sublist.cons_cons _ ?_ | refine List.Sublist.cons _ ?_ | refine List.Sublist.trans ?_ (List.sublist_append_right _ _)))) ?_
      refine TX.step [0] (by kernel_rfl) (by decide) ⟨⟨_, rfl, ?_⟩, trivial⟩
      refine TL.pure (PV.move rfl) rfl (by decide) ?_
      refine TL.nil ?_
      refine TX.next (.inl (by repeat (first | exact List.Sublist.slnil | exact List.nil_sublist _ | exact List.Sublist.refl _ | refine List.Sublist.cons_cons _ ?_ | refine List.Sublist.cons _ ?_ | refine List.Sublist.trans ?_ (List.sublist_append_right _ _)))) ?_
      refine TX.step [11] (by kernel_rfl) (by decide) ⟨⟨_, rfl, ?_⟩, trivial⟩
      refine TL.appendI (x0 := x.2) rfl rfl (by repeat (first | exact List.Mem.head _ | refine List.Mem.tail _ ?_ | refine List.mem_append_right _ ?_)) hx9.ok (by repeat (first | exact TakeH.here _ _ _ _ | apply TakeH.tail | apply TakeH.app)) (by omega) rfl (by decide) (fun hh hho => ?_)
      refine TL.nil ?_
      refine TX.next (.inl (by repeat (first | exact List.Sublist.slnil | exact List.nil_sublist _ | exact List.Sublist.refl _ | refine List.Sublist.cons_cons _ ?_ | refine List.Sublist.cons _ ?_ | refine List.Sublist.trans ?_ (List.sublist_append_right _ _)))) ?_
      refine TX.step [12] (by kernel_rfl) (by decide) ⟨⟨_, rfl, ?_⟩, trivial⟩
      refine TL.pure (PV.assign rfl) rfl (by decide) ?_
      refine TL.nil ?_
      refine TX.next (.inr (by kernel_rfl)) ?_
      refine TX.done (by kernel_rfl) ?_
      refine TQ.blkN ?_
      refine TQ.thenC ?_
      refine TC.region ?_
      refine TL.pure (PV.move rfl) rfl (by decide) ?_
      refine TL.pure (PV.add rfl rfl (by omega)) rfl (by decide) ?_
      refine TL.pure (PV.assign rfl) rfl (by decide) ?_
      refine TL.nil ?_
      refine TQ.thenN ?_
      refine TQ.backK (x.1 + 1, hh, x.2.2 ++ [xs.getD x.1 0 + ys.getD x.1 0]) (by repeat (first | exact True.intro | refine And.intro rfl ?_)) (by repeat (first | exact True.intro | refine And.intro rfl ?_)) (List.Sublist.append_left (List.Sublist.cons _ (List.Sublist.refl _)) _) (hx9.step (by omega) rfl hho) (by simp only; omega)
  · skip
    refine TC.exit ?_
    refine TQ.thenE ?_
    refine TQ.thenE ?_
    refine TQ.blkS ?_
    refine TQ.thenC ?_
    refine TC.seq ?_
    have he : x.2.2 = adN xs ys 1 := hx9.eq.trans ((congrArg (fun n => mk n fun j => xs.getD j 0 + ys.getD j 0) (show x.1 = xs.length by omega)).trans (ad_mk xs ys))
    refine TC.region ?_
    refine TL.pure (PV.loadBox rfl Tb.agg_25 (by repeat (first | exact List.Mem.head _ | refine List.Mem.tail _ ?_ | refine List.mem_append_right _ ?_)) rfl) rfl (by decide) ?_
    refine TL.pure (PV.move rfl) rfl (by decide) ?_
    refine TL.call rfl Tb.gofn_77 (fun a w hs => (by rw [show gvI x.2 = .slice (gp x.2.1) x.2.2.length (gc x.2.1) from gval_eq hx9.ok]; exact (rsettle_ok w _ _ _ (hr.new hs.new) _ _ _ (hg.new hs.new) hB _ _ x.2.2 (IntsAt.g (x := x.2) hs.new (fun yy hyy => by repeat (first | exact List.mem_append_left _ hyy | exact List.mem_append_left _ (List.mem_append_right _ hyy) | exact List.mem_append_left _ (List.mem_append_left _ hyy) | refine List.mem_append_right _ ?_ | refine List.Mem.tail _ ?_)) hx9.ok) _ rfl (by omega) (fun k => by rw [he]; have := ad_bd rfl hx0 hy0 k; omega)))) rfl (by decide) (fun y9 hy9 => ?_)
    refine TL.pure (PV.move rfl) rfl (by decide) ?_
    refine TL.pure (PV.extract rfl rfl) rfl (by decide) ?_
    refine TL.pure (PV.extract rfl rfl) rfl (by decide) ?_
    refine TL.pure (PV.extract rfl rfl) rfl (by decide) ?_
    refine TL.pure (PV.assign rfl) rfl (by decide) ?_
    refine TL.pure (PV.assign rfl) rfl (by decide) ?_
    refine TL.pure (PV.assign rfl) rfl (by decide) ?_
    refine TL.nil ?_
    refine TQ.thenC ?_
    refine TC.seq ?_
    refine TC.region ?_
    refine TL.pure (PV.move rfl) rfl (by decide) ?_
    refine TL.pure (PV.assign rfl) rfl (by decide) ?_
    refine TL.nil ?_
    refine TQ.thenC ?_
    refine TC.ret ?_
    refine TQ.retE1 rfl rfl ?_
    exact ⟨(y9.1, y9.2.2.1, y9.2.2.2), rfl, ⟨he ▸ hy9.1, hy9.2⟩, List.Sublist.trans (List.sublist_append_left _ _) (List.sublist_append_left _ _)⟩

set_option maxRecDepth 100000 in
set_option maxHeartbeats 1000000 in
theorem Add_ok (w0 : World) (p : Option Addr) (cp : Nat) (ls : List (List Int)) (hr : LsAt w0 p ls) (q : Option Addr) (cq : Nat) (gs : List Int) (hg : IntsAt w0 q gs) (hlo : ∀ k, (ls.getD k []).length ≤ 1000000) (pl : Option Addr) (cl : Nat) (xs : List Int) (hx : IntsAt w0 pl xs) (hxo : xs.length ≤ 1000000) (p2 : Option Addr) (c2 : Nat) (ys : List Int) (hy : IntsAt w0 p2 ys) (hyo : ys.length ≤ 1000000) :
    Calls Try.prog 39 #[hv p ls.length cp q gs.length cq, .slice pl xs.length cl, .slice p2 ys.length c2] w0 (Post (X := HD × List Int) (fun y => .tuple #[gval y.1 y.2.length, .int .i64 (givI ls gs [xs, ys])]) (fun y => AddP ls gs xs ys y.2 ∧ goI y) (fun y => gbI y) w0) := by
  refine calls Try.func39 rfl (n := 21) rfl (by simp) ?_
  refine TC.seq ?_
  refine TC.region ?_
  refine TL.box rfl rfl (by decide) (fun b0 hb0 => ?_)
  refine TL.pure (PV.assign rfl) rfl (by decide) ?_
  refine TL.pure (PV.assign rfl) rfl (by decide) ?_
  refine TL.nil ?_
  refine TQ.thenC ?_
  refine TC.seq ?_
  refine TC.seq ?_
  refine TC.region ?_
  refine TL.pure (PV.loadBox rfl Tb.agg_25 (by repeat (first | exact List.Mem.head _ | refine List.Mem.tail _ ?_ | refine List.mem_append_right _ ?_)) rfl) rfl (by decide) ?_
  refine TL.pure (PV.move rfl) rfl (by decide) ?_
  refine TL.pure (PV.move rfl) rfl (by decide) ?_
  refine TL.buildSlice (cs := #[.slice pl xs.length cl, .slice p2 ys.length c2]) rfl Tb.sl_22 Tb.zi_23 (by decide) (fill_oo _ _ _ _ _ _) (by decide) rfl (by decide) (fun bS hbS => ?_)
  refine TL.call rfl Tb.gofn_67 (fun a w hs => validateHeapings_ok w _ _ _ (hr.new hs.new) _ _ _ (hg.new hs.new) hlo _ 2 [xs, ys] (LsAt.two hs.new (by repeat (first | exact List.Mem.head _ | refine List.Mem.tail _ ?_ | refine List.mem_append_right _ ?_)) (hx.new hs.new) (hy.new hs.new)) (by simp) (two_len hxo hyo)) rfl (by decide) (fun _ _ => ?_)
  refine TL.pure (PV.assign rfl) rfl (by decide) ?_
  refine TL.nil ?_
  refine TQ.thenC ?_
  refine TC.seq ?_
  refine TC.region ?_
  refine TL.pure (PV.move rfl) rfl (by decide) ?_
  refine TL.pure (PV.neq rfl rfl) rfl (by decide) ?_
  refine TL.nil ?_
  refine TQ.thenC ?_
  first | refine TC.condD rfl (fun hbad => ?_) (fun hbad => ?_) | refine TC.cond rfl (fun hbad => ?_) (fun hbad => ?_)
  · skip
    refine TC.seq ?_
    refine TC.region ?_
    refine TL.pure (PV.move rfl) rfl (by decide) ?_
    refine TL.pure (PV.assign rfl) rfl (by decide) ?_
    refine TL.pure (PV.assign rfl) rfl (by decide) ?_
    refine TL.nil ?_
    refine TQ.thenC ?_
    refine TC.ret ?_
    refine TQ.thenR ?_
    refine TQ.retE2 rfl rfl rfl ?_
    exact ⟨(none, []), rfl, ⟨⟨fun _ => rfl, fun h2 => absurd hbad h2⟩, goI_nil⟩, List.nil_sublist _⟩
  · skip
    refine TC.skip ?_
    refine TQ.thenC ?_
    refine TC.seq ?_
    have hB := (giv_hb hbad).1
    have hn9 := hB.n
    obtain ⟨⟨hxl, hx0⟩, hyl, hy0⟩ := giv_two hbad
    refine TC.region ?_
    refine TL.pure (PV.loadBox rfl Tb.agg_25 (by repeat (first | exact List.Mem.head _ | refine List.Mem.tail _ ?_ | refine List.mem_append_right _ ?_)) rfl) rfl (by decide) ?_
    refine TL.pure (PV.move rfl) rfl (by decide) ?_
    refine TL.pure (PV.move rfl) rfl (by decide) ?_
    refine TL.call rfl Tb.gofn_82 (fun a w hs => add_ok w _ _ _ (hr.new hs.new) _ _ _ (hg.new hs.new) hB _ _ _ (hx.new hs.new) _ rfl _ _ _ (hy.new hs.new) _ rfl hxl hyl (fun k => by have := hx0 k; omega) (fun k => by have := hy0 k; omega)) rfl (by decide) (fun y9 hy9 => ?_)
    refine TL.pure (PV.assign rfl) rfl (by decide) ?_
    refine TL.pure (PV.assign rfl) rfl (by decide) ?_
    refine TL.nil ?_
    refine TQ.thenC ?_
    refine TC.ret ?_
    refine TQ.retE2 rfl rfl rfl ?_
    exact ⟨(some (y9.1, gs.length, []), y9.2.1), by rw [Decidable.of_not_not hbad, hy9.1]; rfl, ⟨⟨fun h2 => absurd h2 hbad, fun _ => ⟨_, hy9⟩⟩, goI_arr hy9.1⟩, by rw [gbI_blk]; exact List.Sublist.cons_cons _ (List.nil_sublist _)⟩

set_option maxRecDepth 100000 in
set_option maxHeartbeats 1000000 in
theorem rAdd_ok (w0 : World) (p : Option Addr) (cp : Nat) (ls : List (List Int)) (hr : LsAt w0 p ls) (q : Option Addr) (cq : Nat) (gs : List Int) (hg : IntsAt w0 q gs) (hlo : ∀ k, (ls.getD k []).length ≤ 1000000) (pl : Option Addr) (cl : Nat) (xs : List Int) (hx : IntsAt w0 pl xs) (hxo : xs.length ≤ 1000000) (p2 : Option Addr) (c2 : Nat) (ys : List Int) (hy : IntsAt w0 p2 ys) (hyo : ys.length ≤ 1000000) :
    Calls Try.prog 40 #[hv p ls.length cp q gs.length cq, .slice pl xs.length cl, .slice p2 ys.length c2] w0 (Post (X := HD × List Int) (fun y => .tuple #[gval y.1 y.2.length, .int .i64 (givI ls gs [xs, ys])]) (fun y => AddP ls gs xs ys y.2 ∧ goI y) (fun y => gbI y) w0) := by
  refine calls Try.func40 rfl (n := 21) rfl (by simp) ?_
  refine TC.seq ?_
  refine TC.region ?_
  refine TL.box rfl rfl (by decide) (fun b0 hb0 => ?_)
  refine TL.pure (PV.assign rfl) rfl (by decide) ?_
  refine TL.pure (PV.assign rfl) rfl (by decide) ?_
  refine TL.nil ?_
  refine TQ.thenC ?_
  refine TC.seq ?_
  refine TC.region ?_
  refine TL.pure (PV.loadBox rfl Tb.agg_25 (by repeat (first | exact List.Mem.head _ | refine List.Mem.tail _ ?_ | refine List.mem_append_right _ ?_)) rfl) rfl (by decide) ?_
  refine TL.pure (PV.move rfl) rfl (by decide) ?_
  refine TL.pure (PV.move rfl) rfl (by decide) ?_
  refine TL.buildSlice (cs := #[.slice pl xs.length cl, .slice p2 ys.length c2]) rfl Tb.sl_22 Tb.zi_23 (by decide) (fill_oo _ _ _ _ _ _) (by decide) rfl (by decide) (fun bS hbS => ?_)
  refine TL.call rfl Tb.gofn_69 (fun a w hs => given_ok w _ _ _ (hr.new hs.new) _ _ _ (hg.new hs.new) hlo _ 2 [xs, ys] (LsAt.two hs.new (by repeat (first | exact List.Mem.head _ | refine List.Mem.tail _ ?_ | refine List.mem_append_right _ ?_)) (hx.new hs.new) (hy.new hs.new)) (by simp) (two_len hxo hyo)) rfl (by decide) (fun _ _ => ?_)
  refine TL.pure (PV.assign rfl) rfl (by decide) ?_
  refine TL.nil ?_
  refine TQ.thenC ?_
  refine TC.seq ?_
  refine TC.seq ?_
  refine TC.region ?_
  refine TL.pure (PV.move rfl) rfl (by decide) ?_
  refine TL.pure (PV.neq rfl rfl) rfl (by decide) ?_
  refine TL.nil ?_
  refine TQ.thenC ?_
  first | refine TC.condD rfl (fun hbad => ?_) (fun hbad => ?_) | refine TC.cond rfl (fun hbad => ?_) (fun hbad => ?_)
  · skip
    refine TC.seq ?_
    refine TC.region ?_
    refine TL.pure (PV.move rfl) rfl (by decide) ?_
    refine TL.pure (PV.assign rfl) rfl (by decide) ?_
    refine TL.pure (PV.assign rfl) rfl (by decide) ?_
    refine TL.nil ?_
    refine TQ.thenC ?_
    refine TC.ret ?_
    refine TQ.thenR ?_
    refine TQ.retE2 rfl rfl rfl ?_
    exact ⟨(none, []), rfl, ⟨⟨fun _ => rfl, fun h2 => absurd hbad h2⟩, goI_nil⟩, List.nil_sublist _⟩
  · skip
    refine TC.skip ?_
    refine TQ.thenC ?_
    refine TC.seq ?_
    have hB := (giv_hb hbad).1
    have hn9 := hB.n
    obtain ⟨⟨hxl, hx0⟩, hyl, hy0⟩ := giv_two hbad
    refine TC.region ?_
    refine TL.pure (PV.loadBox rfl Tb.agg_25 (by repeat (first | exact List.Mem.head _ | refine List.Mem.tail _ ?_ | refine List.mem_append_right _ ?_)) rfl) rfl (by decide) ?_
    refine TL.pure (PV.move rfl) rfl (by decide) ?_
    refine TL.pure (PV.move rfl) rfl (by decide) ?_
    refine TL.call rfl Tb.gofn_83 (fun a w hs => radd_ok w _ _ _ (hr.new hs.new) _ _ _ (hg.new hs.new) hB _ _ _ (hx.new hs.new) _ rfl _ _ _ (hy.new hs.new) _ rfl hxl hyl (fun k => by have := hx0 k; omega) (fun k => by have := hy0 k; omega)) rfl (by decide) (fun y9 hy9 => ?_)
    refine TL.pure (PV.assign rfl) rfl (by decide) ?_
    refine TL.pure (PV.assign rfl) rfl (by decide) ?_
    refine TL.nil ?_
    refine TQ.thenC ?_
    refine TC.ret ?_
    refine TQ.retE2 rfl rfl rfl ?_
    exact ⟨(y9.1, y9.2.1), by rw [Decidable.of_not_not hbad, hy9.1.1], ⟨⟨fun h2 => absurd h2 hbad, fun _ => ⟨_, hy9.1⟩⟩, go_lenI hy9.2 hy9.1.1⟩, List.sublist_append_left _ _⟩

end Go.Proofs.Ytgafpkcnhpoobaa
