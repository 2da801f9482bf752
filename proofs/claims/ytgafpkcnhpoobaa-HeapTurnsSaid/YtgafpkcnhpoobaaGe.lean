/- Heapings taken several times, Lasting, Back, Turns, and how the reference does them: contracts. -/
import Derived.Test.YtgafpkcnhpoobaaGd
set_option linter.unusedVariables false
set_option linter.unusedSimpArgs false
namespace Go.Proofs.Ytgafpkcnhpoobaa
open Go.Sx Go.RowKit Go.Sand

structure TmS where
  n : Int
  o : HD × List Int
  p : Option Addr
  c : Nat
  ys : List Int
  B : Heap
structure TuS where
  n : Int
  p : Option Addr
  c : Nat
  ys : List Int
  B : Heap
/-- Numbers that lie in these blocks, or lay there before. -/
def Lies (w0 : World) (B : Heap) (p : Option Addr) (ys : List Int) : Prop := ∀ w G, New w0 w G → (∀ y ∈ B, y ∈ G) → IntsAt w p ys
open Classical in
noncomputable def vlI (ls : List (List Int)) (gs xs : List Int) : Int := if givI ls gs [xs] ≠ 0 then givI ls gs [xs] else if Lst gs.length (lk ls) (gd gs) (gd xs) then 0 else 8
theorem vl_bad {ls : List (List Int)} {gs xs : List Int} (h : givI ls gs [xs] ≠ 0) : vlI ls gs xs = givI ls gs [xs] := if_pos h
theorem vl_8 {ls : List (List Int)} {gs xs : List Int} (h : ¬ givI ls gs [xs] ≠ 0) (h2 : ¬ Lst gs.length (lk ls) (gd gs) (gd xs)) : vlI ls gs xs = 8 := by unfold vlI; rw [if_neg h, if_neg h2]
theorem vl_0 {ls : List (List Int)} {gs xs : List Int} (h : ¬ givI ls gs [xs] ≠ 0) (h2 : Lst gs.length (lk ls) (gd gs) (gd xs)) : vlI ls gs xs = 0 := by unfold vlI; rw [if_neg h, if_pos h2]
theorem vl_of {ls : List (List Int)} {gs xs : List Int} (h : ¬ vlI ls gs xs ≠ 0) : ¬ givI ls gs [xs] ≠ 0 ∧ Lst gs.length (lk ls) (gd gs) (gd xs) := by
  by_cases h1 : givI ls gs [xs] ≠ 0
  · rw [vl_bad h1] at h; exact absurd h1 h
  · by_cases h2 : Lst gs.length (lk ls) (gd gs) (gd xs)
    · exact ⟨h1, h2⟩
    · rw [vl_8 h1 h2] at h; exact absurd (by decide) h
/-- What Lasting says. -/
structure LagP (ls : List (List Int)) (gs xs c : List Int) : Prop where
  bad : givI ls gs [xs] ≠ 0 → c = []
  ok : ¬ givI ls gs [xs] ≠ 0 → LasP ls gs xs c
theorem LagP.unique {ls : List (List Int)} {gs xs c d : List Int} (h : LagP ls gs xs c) (k : LagP ls gs xs d) : c = d := by
  by_cases h0 : givI ls gs [xs] ≠ 0
  · rw [h.bad h0, k.bad h0]
  · exact (h.ok h0).unique (giv_hb h0).1 (k.ok h0)
theorem LagP.len {ls : List (List Int)} {gs xs c : List Int} (h : LagP ls gs xs c) : c.length ≤ 1000000 := by
  by_cases h0 : givI ls gs [xs] ≠ 0
  · rw [h.bad h0]; exact Nat.zero_le _
  · have := (h.ok h0).1.1
    have := (giv_hb h0).1.n
    omega
/-- What Back says. -/
structure BagP (ls : List (List Int)) (gs xs c : List Int) : Prop where
  bad : vlI ls gs xs ≠ 0 → c = []
  ok : ¬ vlI ls gs xs ≠ 0 → BacP ls gs xs c
theorem BagP.unique {ls : List (List Int)} {gs xs c d : List Int} (h : BagP ls gs xs c) (k : BagP ls gs xs d) : c = d := by
  by_cases h0 : vlI ls gs xs ≠ 0
  · rw [h.bad h0, k.bad h0]
  · exact TimP.unique (giv_hb (vl_of h0).1).1 (h.ok h0) (k.ok h0)
theorem BagP.len {ls : List (List Int)} {gs xs c : List Int} (h : BagP ls gs xs c) : c.length ≤ 1000000 := by
  by_cases h0 : vlI ls gs xs ≠ 0
  · rw [h.bad h0]; exact Nat.zero_le _
  · have := (h.ok h0).1.1
    have := (giv_hb (vl_of h0).1).1.n
    omega
/-- What Turns says. -/
structure TurP (ls : List (List Int)) (gs xs : List Int) (n : Int) : Prop where
  bad : vlI ls gs xs ≠ 0 → n = 0
  ok : ¬ vlI ls gs xs ≠ 0 → OrdP ls gs xs n
theorem TurP.unique {ls : List (List Int)} {gs xs : List Int} {n k : Int} (h : TurP ls gs xs n) (h2 : TurP ls gs xs k) : n = k := by
  by_cases h0 : vlI ls gs xs ≠ 0
  · rw [h.bad h0, h2.bad h0]
  · exact (h.ok h0).unique (h2.ok h0)
theorem las_radd {ls : List (List Int)} {gs xs z c m : List Int} (hB : HB ls gs) (hxl : xs.length = gs.length) (hx0 : ∀ k, 0 ≤ xs.getD k 0) (hz : LasP ls gs (List.replicate gs.length 0) z) (h : StbL ls gs (adN xs z 1) c m) : LasP ls gs xs c := by
  have h1 : StbL ls gs (adN z xs 1) c m := by rw [ad_comm (by rw [hxl, hz.1.1])]; exact h
  have h2 : alk ls gs (fun _ => 0) (gd z) := hz.2.congr (fun i _ => (rep_at _ _).symm) (fun _ _ => rfl)
  refine ⟨las_add hB hz.1 hx0 h1, ?_⟩
  have h3 := (h2.add (Alk.refl (n := gs.length) (l := lk ls) (g := gd gs) (gd xs))).congr (a' := gd xs) (fun i _ => by omega) (fun _ _ => rfl)
  exact h3.trans (alk_add hz.1.1 h1)
theorem bac_las {ls : List (List Int)} {gs xs a c : List Int} (ha : AmpP ls gs a) (h : LasP ls gs (adN a xs (-1)) c) : BacP ls gs xs c := by
  refine ⟨h.1, ?_⟩
  have h1 := (ha.alk.add (Alk.refl (n := gs.length) (l := lk ls) (g := gd gs) (fun i => -1 * gd xs i))).congr (a' := fun i => -1 * gd xs i) (b' := gd (adN a xs (-1))) (fun i _ => by omega) (fun i hi => by
    show (adN a xs (-1)).getD i 0 = a.getD i 0 + -1 * xs.getD i 0
    rw [ad_at (by rw [ha.len]; exact hi)])
  exact h1.trans h.2
theorem am_bd {ls : List (List Int)} {gs xs a : List Int} (hB : HB ls gs) (ha : AmpP ls gs a) (hx0 : ∀ k, 0 ≤ xs.getD k 0) (h : Lst gs.length (lk ls) (gd gs) (gd xs)) (k : Nat) : 0 ≤ (adN a xs (-1)).getD k 0 ∧ (adN a xs (-1)).getD k 0 ≤ 24 := by
  by_cases hk : k < gs.length
  · rw [ad_at (by rw [ha.len]; exact hk)]
    have h1 := ha.lo k hk
    have h2 := ha.hi k
    have h3 : xs.getD k 0 < limI ls gs k := h.calm k hk
    have h4 := hx0 k
    omega
  · have e : (adN a xs (-1)).getD k 0 = 0 := by simp [List.getD, ad_len, ha.len, hk]
    omega
theorem gog {x : HD × List Int} {n : Nat} (ho : goI x) (hl : x.2.length = n) : gok x.1 n 1 (ival x.2) := by subst hl; exact ho
theorem tur_start {ls : List (List Int)} {gs xs : List Int} (hxl : xs.length = gs.length) (h : Lst gs.length (lk ls) (gd gs) (gd xs)) : TimP ls gs xs 1 xs := ⟨⟨hxl, h⟩, Alk.of_eq fun i _ => by show gd xs i = 1 * gd xs i; omega⟩
structure TuI (ls : List (List Int)) (gs xs : List Int) (n : Int) (ys : List Int) : Prop where
  n1 : 1 ≤ n
  nD : n ≤ detF gs.length (mF ls gs)
  t : TimP ls gs xs n ys
  m : ∀ j : Int, 1 ≤ j → j < n → ¬ alk ls gs (fun _ => 0) (fun i => j * gd xs i)
theorem TuI.step {ls : List (List Int)} {gs xs z ys c m : List Int} {n : Int} (hB : HB ls gs) (hx0 : ∀ k, 0 ≤ xs.getD k 0) (hz : LasP ls gs (List.replicate gs.length 0) z) (h : TuI ls gs xs n ys) (hne : ¬ ys = z) (hs : StbL ls gs (adN ys xs 1) c m) : TuI ls gs xs (n + 1) c := by
  have h1 : ¬ alk ls gs (fun _ => 0) (fun i => n * gd xs i) := fun h2 => hne ((zero_iff hB hz h.t).2 h2)
  have h2 := h.n1
  refine ⟨by omega, ?_, tim_add hB h.t (Alk.refl _) hx0 hs, fun j hj hjn => ?_⟩
  · have h3 := h.nD
    have h4 : n ≠ detF gs.length (mF ls gs) := fun e => h1 (by rw [e]; exact det_alk hB xs)
    omega
  · by_cases e : j = n
    · rw [e]; exact h1
    · exact h.m j hj (by omega)
theorem TuI.fin {ls : List (List Int)} {gs xs z ys : List Int} {n : Int} (hB : HB ls gs) (hz : LasP ls gs (List.replicate gs.length 0) z) (h : TuI ls gs xs n ys) (he : ys = z) : OrdP ls gs xs n := ⟨h.n1, (zero_iff hB hz h.t).1 he, h.m⟩
/-- Before the first divisor that gives Zero. -/
structure DvI (ls : List (List Int)) (gs xs : List Int) (n : Int) : Prop where
  n1 : 1 ≤ n
  nD : n ≤ detF gs.length (mF ls gs)
  m : ∀ j : Int, 1 ≤ j → j < n → ¬ alk ls gs (fun _ => 0) (fun i => j * gd xs i)
theorem ord_ex {ls : List (List Int)} {gs : List Int} (hB : HB ls gs) (xs : List Int) {n : Int} (h : DvI ls gs xs n) : ¬ alk ls gs (fun _ => 0) (fun i => n * gd xs i) ∨ OrdP ls gs xs n := by
  by_cases h1 : alk ls gs (fun _ => 0) (fun i => n * gd xs i)
  · exact .inr ⟨h.n1, h1, h.m⟩
  · exact .inl h1
theorem DvI.step {ls : List (List Int)} {gs xs : List Int} {n : Int} (h : DvI ls gs xs n) (hlt : n < detF gs.length (mF ls gs)) (h1 : ¬ alk ls gs (fun _ => 0) (fun i => n * gd xs i)) : DvI ls gs xs (n + 1) :=
  ⟨by have := h.n1; omega, by omega, fun j hj hjn => by
    by_cases e : j = n
    · rw [e]; exact h1
    · exact h.m j hj (by omega)⟩
theorem DvI.no {ls : List (List Int)} {gs xs : List Int} {n : Int} (hB : HB ls gs) (h : DvI ls gs xs n) (hd : ¬ (detF gs.length (mF ls gs)).tmod n = 0) : ¬ alk ls gs (fun _ => 0) (fun i => n * gd xs i) := fun h1 => by
  have h2 : OrdP ls gs xs n := ⟨h.n1, h1, h.m⟩
  have := det_1 hB
  exact hd (h2.dvd (by omega) (det_alk hB xs))
theorem DvI.fin {ls : List (List Int)} {gs xs : List Int} {n : Int} (hB : HB ls gs) (h : DvI ls gs xs n) (hlt : ¬ n < detF gs.length (mF ls gs)) : OrdP ls gs xs (detF gs.length (mF ls gs)) := by
  have h1 := h.nD
  obtain rfl : n = detF gs.length (mF ls gs) := by omega
  exact ⟨h.n1, det_alk hB xs, h.m⟩
theorem DvI.start {ls : List (List Int)} {gs : List Int} (hB : HB ls gs) (xs : List Int) : DvI ls gs xs 1 := ⟨by omega, det_1 hB, fun j h1 h2 => by omega⟩


set_option maxRecDepth 100000 in
set_option maxHeartbeats 2000000 in
theorem rtimes_ok (w0 : World) (p : Option Addr) (cp : Nat) (ls : List (List Int)) (hr : LsAt w0 p ls) (q : Option Addr) (cq : Nat) (gs : List Int) (hg : IntsAt w0 q gs) (hB : HB ls gs) (pl : Option Addr) (cl : Nat) (xs : List Int) (hx : IntsAt w0 pl xs) (N : Nat) (hN : xs.length = N) (hxl : xs.length = gs.length) (hx0 : ∀ k, 0 ≤ xs.getD k 0 ∧ xs.getD k 0 ≤ 30) (NN : Int) (hNN : 0 ≤ NN ∧ NN ≤ 3000000000) :
    Calls Try.prog 97 #[hv p ls.length cp q gs.length cq, .slice pl N cl, .int .i64 NN] w0 (Post (X := HD × List Int) (fun y => gval y.1 gs.length) (fun y => TimP ls gs xs NN y.2 ∧ goI y) (fun y => gbI y) w0) := by
  have hn9 := hB.n
  obtain rfl : N = gs.length := by omega
  refine calls Try.func97 rfl (n := 28) rfl (by simp) ?_
  refine TC.seq ?_
  refine TC.region ?_
  refine TL.box rfl rfl (by decide) (fun b0 hb0 => ?_)
  refine TL.pure (PV.assign rfl) rfl (by decide) ?_
  refine TL.nil ?_
  refine TQ.thenC ?_
  refine TC.seq ?_
  refine TC.region ?_
  refine TL.pure (PV.loadBox rfl Tb.agg_25 (by repeat (first | exact List.Mem.head _ | refine List.Mem.tail _ ?_ | refine List.mem_append_right _ ?_)) rfl) rfl (by decide) ?_
  refine TL.call rfl Tb.gofn_92 (fun a w hs => rzero_ok w _ _ _ (hr.new hs.new) _ _ _ (hg.new hs.new) hB) rfl (by decide) (fun z9 hz9 => ?_)
  refine TL.pure (PV.move rfl) rfl (by decide) ?_
  refine TL.pure (PV.assign rfl) rfl (by decide) ?_
  refine TL.pure (PV.assign rfl) rfl (by decide) ?_
  refine TL.nil ?_
  refine TQ.thenC ?_
  refine TC.seq ?_
  refine TC.block ?_
  refine TC.loopK [3, 6] (X := TmS) (fun x => TmI ls gs xs NN x.n x.o.2 x.ys ∧ gok x.o.1 gs.length 1 (ival x.o.2) ∧ Lies w0 x.B x.p x.ys) (fun x => [(2, .int .i64 x.n), (7, gval x.o.1 gs.length), (8, .slice x.p gs.length x.c)]) (fun x => x.B ++ (gbI x.o ++ [(b0, Obj.cells #[.slice p ls.length cp, .slice q gs.length cq] 25 (0, 0))])) (fun x => x.n.toNat) ⟨NN, z9, pl, cl, xs, []⟩ ⟨TmI.start hNN.1 hz9.1 hxl hx0, gog hz9.2 hz9.1.1.1, fun w G hn _ => hx.new hn⟩ (by repeat (first | exact True.intro | refine And.intro rfl ?_)) (List.Sublist.refl _) ?_
  intro x hx9
  have hol : x.o.2.length = gs.length := hx9.1.ol.1
  have hob := lst_c hB hx9.1.ol
  have hyl := hx9.1.yl
  have hyb := hx9.1.y0
  have hnn := hx9.1.n0
  have hnN := hx9.1.nN
  have hmd := Int.tmod_def x.n 2
  have hm5 := Int.tmod_nonneg 2 hnn
  have hm6 := Int.tmod_lt_of_pos x.n (show (0 : Int) < 2 by omega)
  refine TC.seq ?_
  refine TC.seq ?_
  refine TC.region ?_
  refine TL.pure (PV.move rfl) rfl (by decide) ?_
  refine TL.pure (PV.gtr rfl rfl) rfl (by decide) ?_
  refine TL.nil ?_
  refine TQ.thenC ?_
  first | refine TC.condD rfl (fun hlt => ?_) (fun hlt => ?_) | refine TC.cond rfl (fun hlt => ?_) (fun hlt => ?_)
  · skip
    refine TC.skip ?_
    refine TQ.thenC ?_
    refine TC.block ?_
    refine TC.seq ?_
    refine TC.seq ?_
    refine TC.region ?_
    refine TL.pure (PV.move rfl) rfl (by decide) ?_
    refine TL.pure (PV.rem rfl rfl (by omega) (by omega)) rfl (by decide) ?_
    refine TL.pure (PV.eql rfl rfl) rfl (by decide) ?_
    refine TL.nil ?_
    refine TQ.thenC ?_
    first | refine TC.condD rfl (fun hodd => ?_) (fun hodd => ?_) | refine TC.cond rfl (fun hodd => ?_) (fun hodd => ?_)
    · skip
      refine TC.region ?_
      refine TL.pure (PV.loadBox rfl Tb.agg_25 (by repeat (first | exact List.Mem.head _ | refine List.Mem.tail _ ?_ | refine List.mem_append_right _ ?_)) rfl) rfl (by decide) ?_
      refine TL.pure (PV.move rfl) rfl (by decide) ?_
      refine TL.pure (PV.move rfl) rfl (by decide) ?_
      refine TL.call rfl Tb.gofn_83 (fun a w hs => (by rw [gval_eq hx9.2.1]; exact radd_ok w _ _ _ (hr.new hs.new) _ _ _ (hg.new hs.new) hB _ _ x.o.2 (IntsAt.g (x := x.o) hs.new (fun yy hyy => by repeat (first | exact List.mem_append_left _ hyy | exact List.mem_append_left _ (List.mem_append_right _ hyy) | exact List.mem_append_left _ (List.mem_append_left _ hyy) | refine List.mem_append_right _ ?_ | refine List.Mem.tail _ ?_)) (go_lenI hx9.2.1 hol)) _ hol _ _ x.ys (hx9.2.2 w _ hs.new (fun yy hyy => by repeat (first | exact List.mem_append_left _ hyy | exact List.mem_append_left _ (List.mem_append_right _ hyy) | exact List.mem_append_left _ (List.mem_append_left _ hyy) | refine List.mem_append_right _ ?_ | refine List.Mem.tail _ ?_))) _ hyl hol hyl (fun k => by have := hob k; omega) (fun k => by have := hyb k; omega))) rfl (by decide) (fun a9 ha9 => ?_)
      let o9 : HD × List Int := (a9.1, a9.2.1)
      have ho9 : gok o9.1 gs.length 1 (ival o9.2) := ha9.2
      have hstep : ∀ d k, StbL ls gs (adN x.ys x.ys 1) d k → TmI ls gs xs NN (x.n.tdiv 2) o9.2 d := fun d k h => hx9.1.odd hB hodd ha9.1 h
      refine TL.pure (PV.assign rfl) rfl (by decide) ?_
      refine TL.nil ?_
      refine TQ.thenC ?_
      refine TC.seq ?_
      refine TC.region ?_
      refine TL.pure (PV.loadBox rfl Tb.agg_25 (by repeat (first | exact List.Mem.head _ | refine List.Mem.tail _ ?_ | refine List.mem_append_right _ ?_)) rfl) rfl (by decide) ?_
      refine TL.pure (PV.move rfl) rfl (by decide) ?_
      refine TL.pure (PV.move rfl) rfl (by decide) ?_
      refine TL.call rfl Tb.gofn_83 (fun a w hs => radd_ok w _ _ _ (hr.new hs.new) _ _ _ (hg.new hs.new) hB _ _ x.ys (hx9.2.2 w _ hs.new (fun yy hyy => by repeat (first | exact List.mem_append_left _ hyy | exact List.mem_append_left _ (List.mem_append_right _ hyy) | exact List.mem_append_left _ (List.mem_append_left _ hyy) | refine List.mem_append_right _ ?_ | refine List.Mem.tail _ ?_))) _ hyl _ _ x.ys (hx9.2.2 w _ hs.new (fun yy hyy => by repeat (first | exact List.mem_append_left _ hyy | exact List.mem_append_left _ (List.mem_append_right _ hyy) | exact List.mem_append_left _ (List.mem_append_left _ hyy) | refine List.mem_append_right _ ?_ | refine List.Mem.tail _ ?_))) _ hyl hyl hyl (fun k => by have := hyb k; omega) (fun k => by have := hyb k; omega)) rfl (by decide) (fun d9 hd9 => ?_)
      refine TL.pure (PV.assign rfl) rfl (by decide) ?_
      refine TL.nil ?_
      refine TQ.thenC ?_
      refine TC.region ?_
      refine TL.pure (PV.move rfl) rfl (by decide) ?_
      refine TL.pure (PV.quo rfl rfl (by omega) (by omega)) rfl (by decide) ?_
      refine TL.pure (PV.assign rfl) rfl (by decide) ?_
      refine TL.nil ?_
      refine TQ.blkN ?_
      refine TQ.thenN ?_
      refine TQ.backK ⟨x.n.tdiv 2, o9, gp d9.1, gc d9.1, d9.2.1, gbI (d9.1, d9.2.1)⟩ (And.intro rfl (And.intro rfl (And.intro (congrArg some (gval_eq hd9.2)) True.intro))) (by repeat (first | exact True.intro | refine And.intro rfl ?_)) (by first | exact List.Sublist.append_left (List.Sublist.append_left (List.Sublist.trans (List.sublist_append_right _ _) (List.sublist_append_right _ _)) _) _ | exact List.Sublist.append_left (List.sublist_append_right _ _) _) ⟨hstep _ _ hd9.1, ho9, fun w G hn hm => IntsAt.g (x := (d9.1, d9.2.1)) hn hm (go_lenI hd9.2 hd9.1.1)⟩ (by have e := Int.tmod_def x.n 2; have h5 := Int.tmod_nonneg 2 hnn; simp only; omega)
    · skip
      let o9 : HD × List Int := x.o
      have ho9 : gok o9.1 gs.length 1 (ival o9.2) := hx9.2.1
      have hstep : ∀ d k, StbL ls gs (adN x.ys x.ys 1) d k → TmI ls gs xs NN (x.n.tdiv 2) o9.2 d := fun d k h => hx9.1.even hB hodd h
      refine TC.skip ?_
      refine TQ.thenC ?_
      refine TC.seq ?_
      refine TC.region ?_
      refine TL.pure (PV.loadBox rfl Tb.agg_25 (by repeat (first | exact List.Mem.head _ | refine List.Mem.tail _ ?_ | refine List.mem_append_right _ ?_)) rfl) rfl (by decide) ?_
      refine TL.pure (PV.move rfl) rfl (by decide) ?_
      refine TL.pure (PV.move rfl) rfl (by decide) ?_
      refine TL.call rfl Tb.gofn_83 (fun a w hs => radd_ok w _ _ _ (hr.new hs.new) _ _ _ (hg.new hs.new) hB _ _ x.ys (hx9.2.2 w _ hs.new (fun yy hyy => by repeat (first | exact List.mem_append_left _ hyy | exact List.mem_append_left _ (List.mem_append_right _ hyy) | exact List.mem_append_left _ (List.mem_append_left _ hyy) | refine List.mem_append_right _ ?_ | refine List.Mem.tail _ ?_))) _ hyl _ _ x.ys (hx9.2.2 w _ hs.new (fun yy hyy => by repeat (first | exact List.mem_append_left _ hyy | exact List.mem_append_left _ (List.mem_append_right _ hyy) | exact List.mem_append_left _ (List.mem_append_left _ hyy) | refine List.mem_append_right _ ?_ | refine List.Mem.tail _ ?_))) _ hyl hyl hyl (fun k => by have := hyb k; omega) (fun k => by have := hyb k; omega)) rfl (by decide) (fun d9 hd9 => ?_)
      refine TL.pure (PV.assign rfl) rfl (by decide) ?_
      refine TL.nil ?_
      refine TQ.thenC ?_
      refine TC.region ?_
      refine TL.pure (PV.move rfl) rfl (by decide) ?_
      refine TL.pure (PV.quo rfl rfl (by omega) (by omega)) rfl (by decide) ?_
      refine TL.pure (PV.assign rfl) rfl (by decide) ?_
      refine TL.nil ?_
      refine TQ.blkN ?_
      refine TQ.thenN ?_
      refine TQ.backK ⟨x.n.tdiv 2, o9, gp d9.1, gc d9.1, d9.2.1, gbI (d9.1, d9.2.1)⟩ (And.intro rfl (And.intro rfl (And.intro (congrArg some (gval_eq hd9.2)) True.intro))) (by repeat (first | exact True.intro | refine And.intro rfl ?_)) (by first | exact List.Sublist.append_left (List.Sublist.append_left (List.Sublist.trans (List.sublist_append_right _ _) (List.sublist_append_right _ _)) _) _ | exact List.Sublist.append_left (List.sublist_append_right _ _) _) ⟨hstep _ _ hd9.1, ho9, fun w G hn hm => IntsAt.g (x := (d9.1, d9.2.1)) hn hm (go_lenI hd9.2 hd9.1.1)⟩ (by have e := Int.tmod_def x.n 2; have h5 := Int.tmod_nonneg 2 hnn; simp only; omega)
  · skip
    refine TC.exit ?_
    refine TQ.thenE ?_
    refine TQ.thenE ?_
    refine TQ.blkS ?_
    refine TQ.thenC ?_
    refine TC.seq ?_
    refine TC.region ?_
    refine TL.pure (PV.move rfl) rfl (by decide) ?_
    refine TL.pure (PV.assign rfl) rfl (by decide) ?_
    refine TL.nil ?_
    refine TQ.thenC ?_
    refine TC.ret ?_
    refine TQ.retE1 rfl rfl ?_
    exact ⟨x.o, rfl, ⟨hx9.1.fin hlt, go_lenI hx9.2.1 hol⟩, List.Sublist.trans (List.sublist_append_left _ _) (List.sublist_append_right _ _)⟩

set_option maxRecDepth 100000 in
theorem validateLasting_ok (w0 : World) (p : Option Addr) (cp : Nat) (ls : List (List Int)) (hr : LsAt w0 p ls) (q : Option Addr) (cq : Nat) (gs : List Int) (hg : IntsAt w0 q gs) (hlo : ∀ k, (ls.getD k []).length ≤ 1000000) (pl : Option Addr) (cl : Nat) (xs : List Int) (hx : IntsAt w0 pl xs) (hxo : xs.length ≤ 1000000) :
    Calls Try.prog 94 #[hv p ls.length cp q gs.length cq, .slice pl xs.length cl] w0 (Post (X := Unit) (fun _ => .int .i64 (vlI ls gs xs)) (fun _ => True) (fun _ => []) w0) := by
  refine calls Try.func94 rfl (n := 17) rfl (by simp) ?_
  refine TC.seq ?_
  refine TC.region ?_
  refine TL.box rfl rfl (by decide) (fun b0 hb0 => ?_)
  refine TL.pure (PV.assign rfl) rfl (by decide) ?_
  refine TL.nil ?_
  refine TQ.thenC ?_
  refine TC.seq ?_
  refine TC.seq ?_
  refine TC.region ?_
  refine TL.pure (PV.loadBox rfl Tb.agg_25 (by repeat (first | exact List.Mem.head _ | refine List.Mem.tail _ ?_ | refine List.mem_append_right _ ?_)) rfl) rfl (by decide) ?_
  refine TL.pure (PV.move rfl) rfl (by decide) ?_
  refine TL.buildSlice (cs := #[.slice pl xs.length cl]) rfl Tb.sl_22 Tb.zi_23 (by decide) (fill_o _ _ _) (by decide) rfl (by decide) (fun bS hbS => ?_)
  refine TL.call rfl Tb.gofn_67 (fun a w hs => validateHeapings_ok w _ _ _ (hr.new hs.new) _ _ _ (hg.new hs.new) hlo _ 1 [xs] (LsAt.one hs.new (by repeat (first | exact List.Mem.head _ | refine List.Mem.tail _ ?_ | refine List.mem_append_right _ ?_)) (hx.new hs.new)) (by simp) (one_len hxo)) rfl (by decide) (fun _ _ => ?_)
  refine TL.pure (PV.assign rfl) rfl (by decide) ?_
  refine TL.nil ?_
  refine TQ.thenC ?_
  refine TC.seq ?_
  refine TC.region ?_
  refine TL.pure (PV.move rfl) rfl (by decide) ?_
  refine TL.pure (PV.neq rfl rfl) rfl (by decide) ?_
  refine TL.nil ?_
  refine TQ.thenC ?_
  first | refine TC.condD rfl (fun hbad => ?_) (fun hbad => ?_) | refine TC.cond rfl (fun hbad => ?_) (fun hbad => ?_)
  · skip
    refine TC.seq ?_
    refine TC.region ?_
    refine TL.pure (PV.move rfl) rfl (by decide) ?_
    refine TL.pure (PV.assign rfl) rfl (by decide) ?_
    refine TL.nil ?_
    refine TQ.thenC ?_
    refine TC.ret ?_
    refine TQ.thenR ?_
    refine TQ.retE1 rfl rfl ?_
    exact ⟨(), by rw [vl_bad hbad], trivial, List.nil_sublist _⟩
  · skip
    refine TC.skip ?_
    refine TQ.thenC ?_
    refine TC.seq ?_
    refine TC.seq ?_
    have hB := (giv_hb hbad).1
    obtain ⟨hxl, hx0⟩ := giv_ne hbad
    refine TC.region ?_
    refine TL.pure (PV.loadBox rfl Tb.agg_25 (by repeat (first | exact List.Mem.head _ | refine List.Mem.tail _ ?_ | refine List.mem_append_right _ ?_)) rfl) rfl (by decide) ?_
    refine TL.pure (PV.move rfl) rfl (by decide) ?_
    refine TL.call rfl Tb.gofn_84 (fun a w hs => lasts_ok w _ _ _ (hr.new hs.new) _ _ _ (hg.new hs.new) hB _ _ _ (hx.new hs.new) _ rfl hxl hx0) rfl (by decide) (fun b9 hb9 => ?_)
    refine TL.pure ((by first | exact PV.notD rfl | exact PV.not rfl)) rfl (by decide) ?_
    refine TL.nil ?_
    refine TQ.thenC ?_
    first | refine TC.condD rfl (fun hl9 => ?_) (fun hl9 => ?_) | refine TC.cond rfl (fun hl9 => ?_) (fun hl9 => ?_)
    · skip
      refine TC.seq ?_
      refine TC.region ?_
      refine TL.pure (PV.assign rfl) rfl (by decide) ?_
      refine TL.nil ?_
      refine TQ.thenC ?_
      refine TC.ret ?_
      refine TQ.thenR ?_
      refine TQ.retE1 rfl rfl ?_
      exact ⟨(), by rw [vl_8 hbad (fun h => by rw [hb9.2 h] at hl9; exact absurd hl9 (by decide))], trivial, List.nil_sublist _⟩
    · skip
      refine TC.skip ?_
      refine TQ.thenC ?_
      refine TC.seq ?_
      refine TC.region ?_
      refine TL.pure (PV.assign rfl) rfl (by decide) ?_
      refine TL.nil ?_
      refine TQ.thenC ?_
      refine TC.ret ?_
      refine TQ.retE1 rfl rfl ?_
      exact ⟨(), by rw [vl_0 hbad (hb9.1 (by simpa using hl9))], trivial, List.nil_sublist _⟩

set_option maxRecDepth 100000 in
set_option maxHeartbeats 1000000 in
theorem Lasting_ok (w0 : World) (p : Option Addr) (cp : Nat) (ls : List (List Int)) (hr : LsAt w0 p ls) (q : Option Addr) (cq : Nat) (gs : List Int) (hg : IntsAt w0 q gs) (hlo : ∀ k, (ls.getD k []).length ≤ 1000000) (pl : Option Addr) (cl : Nat) (xs : List Int) (hx : IntsAt w0 pl xs) (hxo : xs.length ≤ 1000000) :
    Calls Try.prog 49 #[hv p ls.length cp q gs.length cq, .slice pl xs.length cl] w0 (Post (X := HD × List Int) (fun y => .tuple #[gval y.1 y.2.length, .int .i64 (givI ls gs [xs])]) (fun y => LagP ls gs xs y.2 ∧ goI y) (fun y => gbI y) w0) := by
  refine calls Try.func49 rfl (n := 17) rfl (by simp) ?_
  refine TC.seq ?_
  refine TC.region ?_
  refine TL.box rfl rfl (by decide) (fun b0 hb0 => ?_)
  refine TL.pure (PV.assign rfl) rfl (by decide) ?_
  refine TL.pure (PV.assign rfl) rfl (by decide) ?_
  refine TL.nil ?_
  refine TQ.thenC ?_
  refine TC.seq ?_
  refine TC.seq ?_
  refine TC.region ?_
  refine TL.pure (PV.loadBox rfl Tb.agg_25 (by repeat (first | exact List.Mem.head _ | refine List.Mem.tail _ ?_ | refine List.mem_append_right _ ?_)) rfl) rfl (by decide) ?_
  refine TL.pure (PV.move rfl) rfl (by decide) ?_
  refine TL.buildSlice (cs := #[.slice pl xs.length cl]) rfl Tb.sl_22 Tb.zi_23 (by decide) (fill_o _ _ _) (by decide) rfl (by decide) (fun bS hbS => ?_)
  refine TL.call rfl Tb.gofn_67 (fun a w hs => validateHeapings_ok w _ _ _ (hr.new hs.new) _ _ _ (hg.new hs.new) hlo _ 1 [xs] (LsAt.one hs.new (by repeat (first | exact List.Mem.head _ | refine List.Mem.tail _ ?_ | refine List.mem_append_right _ ?_)) (hx.new hs.new)) (by simp) (one_len hxo)) rfl (by decide) (fun _ _ => ?_)
  refine TL.pure (PV.assign rfl) rfl (by decide) ?_
  refine TL.nil ?_
  refine TQ.thenC ?_
  refine TC.seq ?_
  refine TC.region ?_
  refine TL.pure (PV.move rfl) rfl (by decide) ?_
  refine TL.pure (PV.neq rfl rfl) rfl (by decide) ?_
  refine TL.nil ?_
  refine TQ.thenC ?_
  first | refine TC.condD rfl (fun hbad => ?_) (fun hbad => ?_) | refine TC.cond rfl (fun hbad => ?_) (fun hbad => ?_)
  · skip
    refine TC.seq ?_
    refine TC.region ?_
    refine TL.pure (PV.move rfl) rfl (by decide) ?_
    refine TL.pure (PV.assign rfl) rfl (by decide) ?_
    refine TL.pure (PV.assign rfl) rfl (by decide) ?_
    refine TL.nil ?_
    refine TQ.thenC ?_
    refine TC.ret ?_
    refine TQ.thenR ?_
    refine TQ.retE2 rfl rfl rfl ?_
    exact ⟨(none, []), rfl, ⟨⟨fun _ => rfl, fun h2 => absurd hbad h2⟩, goI_nil⟩, List.nil_sublist _⟩
  · skip
    refine TC.skip ?_
    refine TQ.thenC ?_
    refine TC.seq ?_
    have hB := (giv_hb hbad).1
    obtain ⟨hxl, hx0⟩ := giv_ne hbad
    refine TC.region ?_
    refine TL.pure (PV.loadBox rfl Tb.agg_25 (by repeat (first | exact List.Mem.head _ | refine List.Mem.tail _ ?_ | refine List.mem_append_right _ ?_)) rfl) rfl (by decide) ?_
    refine TL.pure (PV.move rfl) rfl (by decide) ?_
    refine TL.call rfl Tb.gofn_93 (fun a w hs => lasting_ok w _ _ _ (hr.new hs.new) _ _ _ (hg.new hs.new) hB _ _ _ (hx.new hs.new) _ rfl hxl (fun k => by have := hx0 k; omega)) rfl (by decide) (fun y9 hy9 => ?_)
    refine TL.pure (PV.assign rfl) rfl (by decide) ?_
    refine TL.pure (PV.assign rfl) rfl (by decide) ?_
    refine TL.nil ?_
    refine TQ.thenC ?_
    refine TC.ret ?_
    refine TQ.retE2 rfl rfl rfl ?_
    exact ⟨(some (y9.1, gs.length, []), y9.2), by rw [Decidable.of_not_not hbad, hy9.1.1]; rfl, ⟨⟨fun h2 => absurd h2 hbad, fun _ => hy9⟩, goI_arr hy9.1.1⟩, by rw [gbI_blk]; exact List.Sublist.cons_cons _ (List.nil_sublist _)⟩

set_option maxRecDepth 100000 in
set_option maxHeartbeats 1000000 in
theorem rLasting_ok (w0 : World) (p : Option Addr) (cp : Nat) (ls : List (List Int)) (hr : LsAt w0 p ls) (q : Option Addr) (cq : Nat) (gs : List Int) (hg : IntsAt w0 q gs) (hlo : ∀ k, (ls.getD k []).length ≤ 1000000) (pl : Option Addr) (cl : Nat) (xs : List Int) (hx : IntsAt w0 pl xs) (hxo : xs.length ≤ 1000000) :
    Calls Try.prog 54 #[hv p ls.length cp q gs.length cq, .slice pl xs.length cl] w0 (Post (X := HD × List Int) (fun y => .tuple #[gval y.1 y.2.length, .int .i64 (givI ls gs [xs])]) (fun y => LagP ls gs xs y.2 ∧ goI y) (fun y => gbI y) w0) := by
  refine calls Try.func54 rfl (n := 19) rfl (by simp) ?_
  refine TC.seq ?_
  refine TC.region ?_
  refine TL.box rfl rfl (by decide) (fun b0 hb0 => ?_)
  refine TL.pure (PV.assign rfl) rfl (by decide) ?_
  refine TL.pure (PV.assign rfl) rfl (by decide) ?_
  refine TL.nil ?_
  refine TQ.thenC ?_
  refine TC.seq ?_
  refine TC.region ?_
  refine TL.pure (PV.loadBox rfl Tb.agg_25 (by repeat (first | exact List.Mem.head _ | refine List.Mem.tail _ ?_ | refine List.mem_append_right _ ?_)) rfl) rfl (by decide) ?_
  refine TL.pure (PV.move rfl) rfl (by decide) ?_
  refine TL.buildSlice (cs := #[.slice pl xs.length cl]) rfl Tb.sl_22 Tb.zi_23 (by decide) (fill_o _ _ _) (by decide) rfl (by decide) (fun bS hbS => ?_)
  refine TL.call rfl Tb.gofn_69 (fun a w hs => given_ok w _ _ _ (hr.new hs.new) _ _ _ (hg.new hs.new) hlo _ 1 [xs] (LsAt.one hs.new (by repeat (first | exact List.Mem.head _ | refine List.Mem.tail _ ?_ | refine List.mem_append_right _ ?_)) (hx.new hs.new)) (by simp) (one_len hxo)) rfl (by decide) (fun _ _ => ?_)
  refine TL.pure (PV.assign rfl) rfl (by decide) ?_
  refine TL.nil ?_
  refine TQ.thenC ?_
  refine TC.seq ?_
  refine TC.seq ?_
  refine TC.region ?_
  refine TL.pure (PV.move rfl) rfl (by decide) ?_
  refine TL.pure (PV.neq rfl rfl) rfl (by decide) ?_
  refine TL.nil ?_
  refine TQ.thenC ?_
  first | refine TC.condD rfl (fun hbad => ?_) (fun hbad => ?_) | refine TC.cond rfl (fun hbad => ?_) (fun hbad => ?_)
  · skip
    refine TC.seq ?_
    refine TC.region ?_
    refine TL.pure (PV.move rfl) rfl (by decide) ?_
    refine TL.pure (PV.assign rfl) rfl (by decide) ?_
    refine TL.pure (PV.assign rfl) rfl (by decide) ?_
    refine TL.nil ?_
    refine TQ.thenC ?_
    refine TC.ret ?_
    refine TQ.thenR ?_
    refine TQ.retE2 rfl rfl rfl ?_
    exact ⟨(none, []), rfl, ⟨⟨fun _ => rfl, fun h2 => absurd hbad h2⟩, goI_nil⟩, List.nil_sublist _⟩
  · skip
    refine TC.skip ?_
    refine TQ.thenC ?_
    refine TC.seq ?_
    have hB := (giv_hb hbad).1
    obtain ⟨hxl, hx0⟩ := giv_ne hbad
    refine TC.mix [true, true, true, false, false, false, false] _ 4 Tb.mixed rfl (by kernel_rfl) (by kernel_rfl) (by kernel_rfl) (by kernel_rfl) (List.Sublist.refl _) ?_
    refine TB.op (SOK.pure (PV.loadBox rfl Tb.agg_25 (by repeat (first | exact List.Mem.head _ | refine List.Mem.tail _ ?_ | refine List.mem_append_right _ ?_)) rfl) rfl) (by decide) ?_
    refine TB.op (SOK.pure (PV.move rfl) rfl) (by decide) ?_
    refine TB.op (SOK.pure (PV.loadBox rfl Tb.agg_25 (by repeat (first | exact List.Mem.head _ | refine List.Mem.tail _ ?_ | refine List.mem_append_right _ ?_)) rfl) rfl) (by decide) ?_
    refine TB.no ?_
    refine TB.no ?_
    refine TB.no ?_
    refine TB.no ?_
    refine TB.fin ?_
    refine TX.step [3] (by kernel_rfl) (by decide) ⟨⟨_, rfl, ?_⟩, trivial⟩
    refine TL.call rfl Tb.gofn_92 (fun a w hs => rzero_ok w _ _ _ (hr.new hs.new) _ _ _ (hg.new hs.new) hB) rfl (by decide) (fun z9 hz9 => ?_)
    refine TL.nil ?_
    refine TX.next (.inl (by repeat (first | exact List.Sublist.slnil | exact List.nil_sublist _ | exact List.Sublist.refl _ | refine List.Sublist.cons_cons _ ?_ | refine List.Sublist.cons _ ?_ | refine List.Sublist.trans ?_ (List.sublist_append_right _ _)))) ?_
    refine TX.step [4] (by kernel_rfl) (by decide) ⟨⟨_, rfl, ?_⟩, trivial⟩
    refine TL.call rfl Tb.gofn_83 (fun a w hs => (by rw [gval_eq (gog hz9.2 hz9.1.1.1)]; exact radd_ok w _ _ _ (hr.new hs.new) _ _ _ (hg.new hs.new) hB _ _ _ (hx.new hs.new) _ rfl _ _ z9.2 (IntsAt.g (x := z9) hs.new (fun yy hyy => by repeat (first | exact List.mem_append_left _ hyy | exact List.mem_append_left _ (List.mem_append_right _ hyy) | exact List.mem_append_left _ (List.mem_append_left _ hyy) | refine List.mem_append_right _ ?_ | refine List.Mem.tail _ ?_)) hz9.2) _ hz9.1.1.1 hxl hz9.1.1.1 (fun k => by have := hx0 k; omega) (fun k => by have := lst_c hB hz9.1.1 k; omega))) rfl (by decide) (fun y9 hy9 => ?_)
    refine TL.nil ?_
    refine TX.next (.inl (by repeat (first | exact List.Sublist.slnil | exact List.nil_sublist _ | exact List.Sublist.refl _ | refine List.Sublist.cons_cons _ ?_ | refine List.Sublist.cons _ ?_ | refine List.Sublist.trans ?_ (List.sublist_append_right _ _)))) ?_
    refine TX.step [5] (by kernel_rfl) (by decide) ⟨⟨_, rfl, ?_⟩, trivial⟩
    refine TL.pure (PV.assign rfl) rfl (by decide) ?_
    refine TL.nil ?_
    refine TX.next (.inr (by kernel_rfl)) ?_
    refine TX.step [6] (by kernel_rfl) (by decide) ⟨⟨_, rfl, ?_⟩, trivial⟩
    refine TL.pure (PV.assign rfl) rfl (by decide) ?_
    refine TL.nil ?_
    refine TX.next (.inr (by kernel_rfl)) ?_
    refine TX.done (by kernel_rfl) ?_
    refine TQ.thenC ?_
    refine TC.ret ?_
    refine TQ.retE2 rfl rfl rfl ?_
    exact ⟨(y9.1, y9.2.1), by rw [Decidable.of_not_not hbad, hy9.1.1], ⟨⟨fun h2 => absurd h2 hbad, fun _ => las_radd hB hxl (fun k => (hx0 k).1) hz9.1 hy9.1⟩, go_lenI hy9.2 hy9.1.1⟩, List.sublist_append_left _ _⟩

set_option maxRecDepth 100000 in
set_option maxHeartbeats 1000000 in
theorem Back_ok (w0 : World) (p : Option Addr) (cp : Nat) (ls : List (List Int)) (hr : LsAt w0 p ls) (q : Option Addr) (cq : Nat) (gs : List Int) (hg : IntsAt w0 q gs) (hlo : ∀ k, (ls.getD k []).length ≤ 1000000) (pl : Option Addr) (cl : Nat) (xs : List Int) (hx : IntsAt w0 pl xs) (hxo : xs.length ≤ 1000000) :
    Calls Try.prog 50 #[hv p ls.length cp q gs.length cq, .slice pl xs.length cl] w0 (Post (X := HD × List Int) (fun y => .tuple #[gval y.1 y.2.length, .int .i64 (vlI ls gs xs)]) (fun y => BagP ls gs xs y.2 ∧ goI y) (fun y => gbI y) w0) := by
  refine calls Try.func50 rfl (n := 19) rfl (by simp) ?_
  refine TC.seq ?_
  refine TC.region ?_
  refine TL.box rfl rfl (by decide) (fun b0 hb0 => ?_)
  refine TL.pure (PV.assign rfl) rfl (by decide) ?_
  refine TL.pure (PV.assign rfl) rfl (by decide) ?_
  refine TL.nil ?_
  refine TQ.thenC ?_
  refine TC.seq ?_
  refine TC.seq ?_
  refine TC.region ?_
  refine TL.pure (PV.loadBox rfl Tb.agg_25 (by repeat (first | exact List.Mem.head _ | refine List.Mem.tail _ ?_ | refine List.mem_append_right _ ?_)) rfl) rfl (by decide) ?_
  refine TL.pure (PV.move rfl) rfl (by decide) ?_
  refine TL.call rfl Tb.gofn_94 (fun a w hs => validateLasting_ok w _ _ _ (hr.new hs.new) _ _ _ (hg.new hs.new) hlo _ _ _ (hx.new hs.new) hxo) rfl (by decide) (fun _ _ => ?_)
  refine TL.pure (PV.assign rfl) rfl (by decide) ?_
  refine TL.nil ?_
  refine TQ.thenC ?_
  refine TC.seq ?_
  refine TC.region ?_
  refine TL.pure (PV.move rfl) rfl (by decide) ?_
  refine TL.pure (PV.neq rfl rfl) rfl (by decide) ?_
  refine TL.nil ?_
  refine TQ.thenC ?_
  first | refine TC.condD rfl (fun hbad => ?_) (fun hbad => ?_) | refine TC.cond rfl (fun hbad => ?_) (fun hbad => ?_)
  · skip
    refine TC.seq ?_
    refine TC.region ?_
    refine TL.pure (PV.move rfl) rfl (by decide) ?_
    refine TL.pure (PV.assign rfl) rfl (by decide) ?_
    refine TL.pure (PV.assign rfl) rfl (by decide) ?_
    refine TL.nil ?_
    refine TQ.thenC ?_
    refine TC.ret ?_
    refine TQ.thenR ?_
    refine TQ.retE2 rfl rfl rfl ?_
    exact ⟨(none, []), rfl, ⟨⟨fun _ => rfl, fun h2 => absurd hbad h2⟩, goI_nil⟩, List.nil_sublist _⟩
  · skip
    refine TC.skip ?_
    refine TQ.thenC ?_
    refine TC.seq ?_
    obtain ⟨hgv, hLs⟩ := vl_of hbad
    have hB := (giv_hb hgv).1
    have hn9 := hB.n
    obtain ⟨hxl, hx0⟩ := giv_ne hgv
    refine TC.mix [true, true, false, true, false, false, false, false] _ 5 Tb.mixed rfl (by kernel_rfl) (by kernel_rfl) (by kernel_rfl) (by kernel_rfl) (List.Sublist.refl _) ?_
    refine TB.op (SOK.pure (PV.loadBox rfl Tb.agg_25 (by repeat (first | exact List.Mem.head _ | refine List.Mem.tail _ ?_ | refine List.mem_append_right _ ?_)) rfl) rfl) (by decide) ?_
    refine TB.op (SOK.pure (PV.loadBox rfl Tb.agg_25 (by repeat (first | exact List.Mem.head _ | refine List.Mem.tail _ ?_ | refine List.mem_append_right _ ?_)) rfl) rfl) (by decide) ?_
    refine TB.no ?_
    refine TB.op (SOK.pure (PV.move rfl) rfl) (by decide) ?_
    refine TB.no ?_
    refine TB.no ?_
    refine TB.no ?_
    refine TB.no ?_
    refine TB.fin ?_
    refine TX.step [2] (by kernel_rfl) (by decide) ⟨⟨_, rfl, ?_⟩, trivial⟩
    refine TL.call rfl Tb.gofn_96 (fun a w hs => ample_ok w _ _ _ (hr.new hs.new) _ _ _ (hg.new hs.new) hB) rfl (by decide) (fun a9 ha9 => ?_)
    refine TL.nil ?_
    refine TX.next (.inl (by repeat (first | exact List.Sublist.slnil | exact List.nil_sublist _ | exact List.Sublist.refl _ | refine List.Sublist.cons_cons _ ?_ | refine List.Sublist.cons _ ?_ | refine List.Sublist.trans ?_ (List.sublist_append_right _ _)))) ?_
    refine TX.step [4] (by kernel_rfl) (by decide) ⟨⟨_, rfl, ?_⟩, trivial⟩
    refine TL.call rfl Tb.gofn_95 (fun a w hs => added_ok w _ _ a9.2 (IntsAt.arr hs.new (by repeat (first | exact List.Mem.head _ | refine List.Mem.tail _ ?_ | refine List.mem_append_right _ ?_))) _ ha9.len _ _ _ (hx.new hs.new) _ rfl hxl.symm (by omega) (-1) (by omega) (fun k => by have := ha9.hi k; omega) (fun k => by have := hx0 k; omega)) rfl (by decide) (fun b9 _ => ?_)
    refine TL.nil ?_
    refine TX.next (.inl (by repeat (first | exact List.Sublist.slnil | exact List.nil_sublist _ | exact List.Sublist.refl _ | refine List.Sublist.cons_cons _ ?_ | refine List.Sublist.cons _ ?_ | refine List.Sublist.trans ?_ (List.sublist_append_right _ _)))) ?_
    refine TX.step [5] (by kernel_rfl) (by decide) ⟨⟨_, rfl, ?_⟩, trivial⟩
    refine TL.call rfl Tb.gofn_93 (fun a w hs => lasting_ok w _ _ _ (hr.new hs.new) _ _ _ (hg.new hs.new) hB _ _ (adN a9.2 xs (-1)) (IntsAt.arr hs.new (by repeat (first | exact List.Mem.head _ | refine List.Mem.tail _ ?_ | refine List.mem_append_right _ ?_))) _ ((ad_len _ _ _).trans ha9.len) ((ad_len _ _ _).trans ha9.len) (fun k => by have := am_bd hB ha9 (fun k => (hx0 k).1) hLs k; omega)) rfl (by decide) (fun y9 hy9 => ?_)
    refine TL.nil ?_
    refine TX.next (.inl (by repeat (first | exact List.Sublist.slnil | exact List.nil_sublist _ | exact List.Sublist.refl _ | refine List.Sublist.cons_cons _ ?_ | refine List.Sublist.cons _ ?_ | refine List.Sublist.trans ?_ (List.sublist_append_right _ _)))) ?_
    refine TX.step [6] (by kernel_rfl) (by decide) ⟨⟨_, rfl, ?_⟩, trivial⟩
    refine TL.pure (PV.assign rfl) rfl (by decide) ?_
    refine TL.nil ?_
    refine TX.next (.inr (by kernel_rfl)) ?_
    refine TX.step [7] (by kernel_rfl) (by decide) ⟨⟨_, rfl, ?_⟩, trivial⟩
    refine TL.pure (PV.assign rfl) rfl (by decide) ?_
    refine TL.nil ?_
    refine TX.next (.inr (by kernel_rfl)) ?_
    refine TX.done (by kernel_rfl) ?_
    refine TQ.thenC ?_
    refine TC.ret ?_
    refine TQ.retE2 rfl rfl rfl ?_
    exact ⟨(some (y9.1, gs.length, []), y9.2), by rw [Decidable.of_not_not hbad, hy9.1.1]; rfl, ⟨⟨fun h2 => absurd h2 hbad, fun _ => bac_las ha9 hy9⟩, goI_arr hy9.1.1⟩, by rw [gbI_blk]; exact List.Sublist.cons_cons _ (List.nil_sublist _)⟩

set_option maxRecDepth 100000 in
set_option maxHeartbeats 2000000 in
theorem rBack_ok (w0 : World) (p : Option Addr) (cp : Nat) (ls : List (List Int)) (hr : LsAt w0 p ls) (q : Option Addr) (cq : Nat) (gs : List Int) (hg : IntsAt w0 q gs) (hlo : ∀ k, (ls.getD k []).length ≤ 1000000) (pl : Option Addr) (cl : Nat) (xs : List Int) (hx : IntsAt w0 pl xs) (hxo : xs.length ≤ 1000000) :
    Calls Try.prog 51 #[hv p ls.length cp q gs.length cq, .slice pl xs.length cl] w0 (Post (X := HD × List Int) (fun y => .tuple #[gval y.1 y.2.length, .int .i64 (vlI ls gs xs)]) (fun y => BagP ls gs xs y.2 ∧ goI y) (fun y => gbI y) w0) := by
  refine calls Try.func51 rfl (n := 25) rfl (by simp) ?_
  refine TC.seq ?_
  refine TC.region ?_
  refine TL.box rfl rfl (by decide) (fun b0 hb0 => ?_)
  refine TL.pure (PV.assign rfl) rfl (by decide) ?_
  refine TL.pure (PV.assign rfl) rfl (by decide) ?_
  refine TL.nil ?_
  refine TQ.thenC ?_
  refine TC.seq ?_
  refine TC.region ?_
  refine TL.pure (PV.loadBox rfl Tb.agg_25 (by repeat (first | exact List.Mem.head _ | refine List.Mem.tail _ ?_ | refine List.mem_append_right _ ?_)) rfl) rfl (by decide) ?_
  refine TL.pure (PV.move rfl) rfl (by decide) ?_
  refine TL.buildSlice (cs := #[.slice pl xs.length cl]) rfl Tb.sl_22 Tb.zi_23 (by decide) (fill_o _ _ _) (by decide) rfl (by decide) (fun bS hbS => ?_)
  refine TL.call rfl Tb.gofn_69 (fun a w hs => given_ok w _ _ _ (hr.new hs.new) _ _ _ (hg.new hs.new) hlo _ 1 [xs] (LsAt.one hs.new (by repeat (first | exact List.Mem.head _ | refine List.Mem.tail _ ?_ | refine List.mem_append_right _ ?_)) (hx.new hs.new)) (by simp) (one_len hxo)) rfl (by decide) (fun _ _ => ?_)
  refine TL.pure (PV.assign rfl) rfl (by decide) ?_
  refine TL.nil ?_
  refine TQ.thenC ?_
  refine TC.seq ?_
  refine TC.seq ?_
  refine TC.region ?_
  refine TL.pure (PV.move rfl) rfl (by decide) ?_
  refine TL.pure (PV.neq rfl rfl) rfl (by decide) ?_
  refine TL.nil ?_
  refine TQ.thenC ?_
  first | refine TC.condD rfl (fun hbad => ?_) (fun hbad => ?_) | refine TC.cond rfl (fun hbad => ?_) (fun hbad => ?_)
  · skip
    refine TC.seq ?_
    refine TC.region ?_
    refine TL.pure (PV.move rfl) rfl (by decide) ?_
    refine TL.pure (PV.assign rfl) rfl (by decide) ?_
    refine TL.pure (PV.assign rfl) rfl (by decide) ?_
    refine TL.nil ?_
    refine TQ.thenC ?_
    refine TC.ret ?_
    refine TQ.thenR ?_
    refine TQ.retE2 rfl rfl rfl ?_
    exact ⟨(none, []), by rw [vl_bad hbad]; rfl, ⟨⟨fun _ => rfl, fun h2 => absurd hbad (by rw [vl_bad hbad] at h2; exact h2)⟩, goI_nil⟩, List.nil_sublist _⟩
  · skip
    refine TC.skip ?_
    refine TQ.thenC ?_
    refine TC.seq ?_
    refine TC.seq ?_
    have hB := (giv_hb hbad).1
    obtain ⟨hxl, hx0⟩ := giv_ne hbad
    refine TC.region ?_
    refine TL.pure (PV.loadBox rfl Tb.agg_25 (by repeat (first | exact List.Mem.head _ | refine List.Mem.tail _ ?_ | refine List.mem_append_right _ ?_)) rfl) rfl (by decide) ?_
    refine TL.pure (PV.move rfl) rfl (by decide) ?_
    refine TL.call rfl Tb.gofn_85 (fun a w hs => rlasts_ok w _ _ _ (hr.new hs.new) _ _ _ (hg.new hs.new) hB _ _ _ (hx.new hs.new) _ rfl hxl hx0) rfl (by decide) (fun b9 hb9 => ?_)
    refine TL.pure ((by first | exact PV.notD rfl | exact PV.not rfl)) rfl (by decide) ?_
    refine TL.nil ?_
    refine TQ.thenC ?_
    first | refine TC.condD rfl (fun hl9 => ?_) (fun hl9 => ?_) | refine TC.cond rfl (fun hl9 => ?_) (fun hl9 => ?_)
    · skip
      refine TC.seq ?_
      refine TC.region ?_
      refine TL.pure (PV.assign rfl) rfl (by decide) ?_
      refine TL.pure (PV.assign rfl) rfl (by decide) ?_
      refine TL.nil ?_
      refine TQ.thenC ?_
      refine TC.ret ?_
      refine TQ.thenR ?_
      refine TQ.retE2 rfl rfl rfl ?_
      have h8 := vl_8 hbad (fun h => by rw [hb9.2 h] at hl9; exact absurd hl9 (by decide))
      exact ⟨(none, []), by rw [h8]; rfl, ⟨⟨fun _ => rfl, fun h2 => absurd (by rw [h8]; decide) h2⟩, goI_nil⟩, List.nil_sublist _⟩
    · skip
      refine TC.skip ?_
      refine TQ.thenC ?_
      refine TC.seq ?_
      have hvl := vl_0 hbad (hb9.1 (by simpa using hl9))
      have hd1 := det_1 hB
      have hd2 := det_hi hB
      refine TC.mix [true, true, true, false, false, false, false, false, false] _ 6 Tb.mixed rfl (by kernel_rfl) (by kernel_rfl) (by kernel_rfl) (by kernel_rfl) (List.Sublist.refl _) ?_
      refine TB.op (SOK.pure (PV.loadBox rfl Tb.agg_25 (by repeat (first | exact List.Mem.head _ | refine List.Mem.tail _ ?_ | refine List.mem_append_right _ ?_)) rfl) rfl) (by decide) ?_
      refine TB.op (SOK.pure (PV.move rfl) rfl) (by decide) ?_
      refine TB.op (SOK.pure (PV.loadBox rfl Tb.agg_25 (by repeat (first | exact List.Mem.head _ | refine List.Mem.tail _ ?_ | refine List.mem_append_right _ ?_)) rfl) rfl) (by decide) ?_
      refine TB.no ?_
      refine TB.no ?_
      refine TB.no ?_
      refine TB.no ?_
      refine TB.no ?_
      refine TB.no ?_
      refine TB.fin ?_
      refine TX.step [3] (by kernel_rfl) (by decide) ⟨⟨_, rfl, ?_⟩, trivial⟩
      refine TL.call rfl Tb.gofn_90 (fun a w hs => rmatrix_ok w _ _ _ (hr.new hs.new) _ _ _ (hg.new hs.new) hB) rfl (by decide) (fun m9 hm9 => ?_)
      refine TL.nil ?_
      refine TX.next (.inl (by repeat (first | exact List.Sublist.slnil | exact List.nil_sublist _ | exact List.Sublist.refl _ | refine List.Sublist.cons_cons _ ?_ | refine List.Sublist.cons _ ?_ | refine List.Sublist.trans ?_ (List.sublist_append_right _ _)))) ?_
      refine TX.step [4] (by kernel_rfl) (by decide) ⟨⟨_, rfl, ?_⟩, trivial⟩
      refine TL.call rfl Tb.gofn_89 (fun a w hs => rdet_mx hB hm9 hs.new (fun yy hyy => by repeat (first | exact List.mem_append_left _ hyy | exact List.mem_append_left _ (List.mem_append_right _ hyy) | exact List.mem_append_left _ (List.mem_append_left _ hyy) | refine List.mem_append_right _ ?_ | refine List.Mem.tail _ ?_)) (fun yy hyy => by repeat (first | exact List.mem_append_left _ hyy | exact List.mem_append_left _ (List.mem_append_right _ hyy) | exact List.mem_append_left _ (List.mem_append_left _ hyy) | refine List.mem_append_right _ ?_ | refine List.Mem.tail _ ?_))) rfl (by decide) (fun _ _ => ?_)
      refine TL.nil ?_
      refine TX.next (.inl (by repeat (first | exact List.Sublist.slnil | exact List.nil_sublist _ | exact List.Sublist.refl _ | refine List.Sublist.cons_cons _ ?_ | refine List.Sublist.cons _ ?_ | refine List.Sublist.trans ?_ (List.sublist_append_right _ _)))) ?_
      refine TX.step [5] (by kernel_rfl) (by decide) ⟨⟨_, rfl, ?_⟩, trivial⟩
      refine TL.pure (PV.sub rfl rfl (by omega)) rfl (by decide) ?_
      refine TL.nil ?_
      refine TX.next (.inl (by repeat (first | exact List.Sublist.slnil | exact List.nil_sublist _ | exact List.Sublist.refl _ | refine List.Sublist.cons_cons _ ?_ | refine List.Sublist.cons _ ?_ | refine List.Sublist.trans ?_ (List.sublist_append_right _ _)))) ?_
      refine TX.step [6] (by kernel_rfl) (by decide) ⟨⟨_, rfl, ?_⟩, trivial⟩
      refine TL.call rfl Tb.gofn_97 (fun a w hs => rtimes_ok w _ _ _ (hr.new hs.new) _ _ _ (hg.new hs.new) hB _ _ _ (hx.new hs.new) _ rfl hxl hx0 _ (by omega)) rfl (by decide) (fun y9 hy9 => ?_)
      refine TL.nil ?_
      refine TX.next (.inl (by repeat (first | exact List.Sublist.slnil | exact List.nil_sublist _ | exact List.Sublist.refl _ | refine List.Sublist.cons_cons _ ?_ | refine List.Sublist.cons _ ?_ | refine List.Sublist.trans ?_ (List.sublist_append_right _ _)))) ?_
      refine TX.step [7] (by kernel_rfl) (by decide) ⟨⟨_, rfl, ?_⟩, trivial⟩
      refine TL.pure (PV.assign rfl) rfl (by decide) ?_
      refine TL.nil ?_
      refine TX.next (.inr (by kernel_rfl)) ?_
      refine TX.step [8] (by kernel_rfl) (by decide) ⟨⟨_, rfl, ?_⟩, trivial⟩
      refine TL.pure (PV.assign rfl) rfl (by decide) ?_
      refine TL.nil ?_
      refine TX.next (.inr (by kernel_rfl)) ?_
      refine TX.done (by kernel_rfl) ?_
      refine TQ.thenC ?_
      refine TC.ret ?_
      refine TQ.retE2 rfl rfl rfl ?_
      exact ⟨y9, by rw [hvl, hy9.1.1.1], ⟨⟨fun h2 => absurd hvl h2, fun _ => bac_tim hB hy9.1⟩, hy9.2⟩, List.sublist_append_left _ _⟩

set_option maxRecDepth 100000 in
set_option maxHeartbeats 2000000 in
theorem Turns_ok (w0 : World) (p : Option Addr) (cp : Nat) (ls : List (List Int)) (hr : LsAt w0 p ls) (q : Option Addr) (cq : Nat) (gs : List Int) (hg : IntsAt w0 q gs) (hlo : ∀ k, (ls.getD k []).length ≤ 1000000) (pl : Option Addr) (cl : Nat) (xs : List Int) (hx : IntsAt w0 pl xs) (hxo : xs.length ≤ 1000000) :
    Calls Try.prog 52 #[hv p ls.length cp q gs.length cq, .slice pl xs.length cl] w0 (Post (X := Int) (fun n => .tuple #[.int .i64 n, .int .i64 (vlI ls gs xs)]) (fun n => TurP ls gs xs n) (fun _ => []) w0) := by
  refine calls Try.func52 rfl (n := 30) rfl (by simp) ?_
  refine TC.seq ?_
  refine TC.region ?_
  refine TL.box rfl rfl (by decide) (fun b0 hb0 => ?_)
  refine TL.pure (PV.assign rfl) rfl (by decide) ?_
  refine TL.pure (PV.assign rfl) rfl (by decide) ?_
  refine TL.nil ?_
  refine TQ.thenC ?_
  refine TC.seq ?_
  refine TC.seq ?_
  refine TC.region ?_
  refine TL.pure (PV.loadBox rfl Tb.agg_25 (by repeat (first | exact List.Mem.head _ | refine List.Mem.tail _ ?_ | refine List.mem_append_right _ ?_)) rfl) rfl (by decide) ?_
  refine TL.pure (PV.move rfl) rfl (by decide) ?_
  refine TL.call rfl Tb.gofn_94 (fun a w hs => validateLasting_ok w _ _ _ (hr.new hs.new) _ _ _ (hg.new hs.new) hlo _ _ _ (hx.new hs.new) hxo) rfl (by decide) (fun _ _ => ?_)
  refine TL.pure (PV.assign rfl) rfl (by decide) ?_
  refine TL.nil ?_
  refine TQ.thenC ?_
  refine TC.seq ?_
  refine TC.region ?_
  refine TL.pure (PV.move rfl) rfl (by decide) ?_
  refine TL.pure (PV.neq rfl rfl) rfl (by decide) ?_
  refine TL.nil ?_
  refine TQ.thenC ?_
  first | refine TC.condD rfl (fun hbad => ?_) (fun hbad => ?_) | refine TC.cond rfl (fun hbad => ?_) (fun hbad => ?_)
  · skip
    refine TC.seq ?_
    refine TC.region ?_
    refine TL.pure (PV.move rfl) rfl (by decide) ?_
    refine TL.pure (PV.assign rfl) rfl (by decide) ?_
    refine TL.pure (PV.assign rfl) rfl (by decide) ?_
    refine TL.nil ?_
    refine TQ.thenC ?_
    refine TC.ret ?_
    refine TQ.thenR ?_
    refine TQ.retE2 rfl rfl rfl ?_
    exact ⟨0, rfl, ⟨fun _ => rfl, fun h2 => absurd hbad h2⟩, List.nil_sublist _⟩
  · skip
    refine TC.skip ?_
    refine TQ.thenC ?_
    refine TC.seq ?_
    obtain ⟨hgv, hLs⟩ := vl_of hbad
    have hB := (giv_hb hgv).1
    have hn9 := hB.n
    obtain ⟨hxl, hx0⟩ := giv_ne hgv
    have hd2 := det_hi hB
    refine TC.region ?_
    refine TL.pure (PV.loadBox rfl Tb.agg_25 (by repeat (first | exact List.Mem.head _ | refine List.Mem.tail _ ?_ | refine List.mem_append_right _ ?_)) rfl) rfl (by decide) ?_
    refine TL.call rfl Tb.gofn_91 (fun a w hs => zero_ok w _ _ _ (hr.new hs.new) _ _ _ (hg.new hs.new) hB) rfl (by decide) (fun z9 hz9 => ?_)
    refine TL.pure (PV.assign rfl) rfl (by decide) ?_
    refine TL.pure (PV.assign rfl) rfl (by decide) ?_
    refine TL.nil ?_
    refine TQ.thenC ?_
    refine TC.seq ?_
    refine TC.seq ?_
    refine TC.region ?_
    refine TL.pure (PV.move rfl) rfl (by decide) ?_
    refine TL.pure (PV.assign rfl) rfl (by decide) ?_
    refine TL.nil ?_
    refine TQ.thenC ?_
    refine TC.block ?_
    refine TC.loopK [1, 2, 4, 5, 7] (X := TuS) (fun x => TuI ls gs xs x.n x.ys ∧ Lies w0 x.B x.p x.ys) (fun x => [(8, .int .i64 x.n), (9, .slice x.p gs.length x.c)]) (fun x => x.B ++ [(z9.1, Obj.cells (intsA z9.2) 3 (0, 0)), (b0, Obj.cells #[.slice p ls.length cp, .slice q gs.length cq] 25 (0, 0))]) (fun x => ((detF gs.length (mF ls gs)) - x.n).toNat) ⟨1, pl, cl, xs, []⟩ ⟨⟨Int.le_refl _, det_1 hB, tur_start hxl hLs, fun j h1 h2 => by (try simp only at h2); omega⟩, fun w G hn _ => hx.new hn⟩ (And.intro rfl (And.intro (by rw [← hxl]; rfl) True.intro)) (List.Sublist.refl _) ?_
    intro x hx9
    have hyl := hx9.1.t.1.1
    have hyb := lst_c hB hx9.1.t.1
    have hn1 := hx9.1.n1
    have hnD := hx9.1.nD
    refine TC.seq ?_
    refine TC.seq ?_
    refine TC.region ?_
    refine TL.pure (PV.move rfl) rfl (by decide) ?_
    refine TL.pure (PV.move rfl) rfl (by decide) ?_
    refine TL.call rfl Tb.gofn_79 (fun a w hs => equal_ok w _ _ x.ys (hx9.2 w _ hs.new (fun yy hyy => by repeat (first | exact List.mem_append_left _ hyy | exact List.mem_append_left _ (List.mem_append_right _ hyy) | exact List.mem_append_left _ (List.mem_append_left _ hyy) | refine List.mem_append_right _ ?_ | refine List.Mem.tail _ ?_))) _ hyl _ _ z9.2 (IntsAt.arr (b := z9.1) hs.new (by repeat (first | exact List.Mem.head _ | refine List.Mem.tail _ ?_ | refine List.mem_append_right _ ?_))) _ hz9.1.1 (by omega) (by omega)) rfl (by decide) (fun _ _ => ?_)
    refine TL.pure ((by first | exact PV.notD rfl | exact PV.not rfl)) rfl (by decide) ?_
    refine TL.nil ?_
    refine TQ.thenC ?_
    first | refine TC.condD rfl (fun hne => ?_) (fun hne => ?_) | refine TC.cond rfl (fun hne => ?_) (fun hne => ?_)
    · skip
      refine TC.skip ?_
      refine TQ.thenC ?_
      refine TC.seq ?_
      refine TC.block ?_
      refine TC.region ?_
      refine TL.pure (PV.loadBox rfl Tb.agg_25 (by repeat (first | exact List.Mem.head _ | refine List.Mem.tail _ ?_ | refine List.mem_append_right _ ?_)) rfl) rfl (by decide) ?_
      refine TL.pure (PV.move rfl) rfl (by decide) ?_
      refine TL.pure (PV.move rfl) rfl (by decide) ?_
      refine TL.call rfl Tb.gofn_82 (fun a w hs => add_ok w _ _ _ (hr.new hs.new) _ _ _ (hg.new hs.new) hB _ _ x.ys (hx9.2 w _ hs.new (fun yy hyy => by repeat (first | exact List.mem_append_left _ hyy | exact List.mem_append_left _ (List.mem_append_right _ hyy) | exact List.mem_append_left _ (List.mem_append_left _ hyy) | refine List.mem_append_right _ ?_ | refine List.Mem.tail _ ?_))) _ hyl _ _ _ (hx.new hs.new) _ rfl hyl hxl (fun k => by have := hyb k; omega) (fun k => by have := hx0 k; omega)) rfl (by decide) (fun y9 hy9 => ?_)
      have hnx := hx9.1.step hB (fun k => (hx0 k).1) hz9 (by simpa using hne) hy9
      refine TL.pure (PV.assign rfl) rfl (by decide) ?_
      refine TL.nil ?_
      refine TQ.blkN ?_
      refine TQ.thenC ?_
      refine TC.region ?_
      refine TL.pure (PV.move rfl) rfl (by decide) ?_
      refine TL.pure (PV.add rfl rfl (by omega)) rfl (by decide) ?_
      refine TL.pure (PV.assign rfl) rfl (by decide) ?_
      refine TL.nil ?_
      refine TQ.thenN ?_
      refine TQ.backK ⟨x.n + 1, some ⟨y9.1, 0, none⟩, gs.length, y9.2.1, [(y9.1, Obj.cells (intsA y9.2.1) 3 (0, 0))]⟩ (And.intro rfl (And.intro rfl True.intro)) (by repeat (first | exact True.intro | refine And.intro rfl ?_)) (List.Sublist.cons_cons _ (List.sublist_append_right _ _)) ⟨hnx, fun w G hn hm => IntsAt.arr hn (hm _ (.head _))⟩ (by have := hnx.nD; simp only; omega)
    · skip
      refine TC.exit ?_
      refine TQ.thenE ?_
      refine TQ.thenE ?_
      refine TQ.blkS ?_
      refine TQ.thenC ?_
      refine TC.seq ?_
      refine TC.region ?_
      refine TL.pure (PV.move rfl) rfl (by decide) ?_
      refine TL.pure (PV.assign rfl) rfl (by decide) ?_
      refine TL.pure (PV.assign rfl) rfl (by decide) ?_
      refine TL.nil ?_
      refine TQ.thenC ?_
      refine TC.ret ?_
      refine TQ.retE2 rfl rfl rfl ?_
      exact ⟨x.n, by rw [Decidable.of_not_not hbad], ⟨fun h2 => absurd h2 hbad, fun _ => hx9.1.fin hB hz9 (by simpa using hne)⟩, List.nil_sublist _⟩

end Go.Proofs.Ytgafpkcnhpoobaa
