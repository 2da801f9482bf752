/- A heaping ends alike however it topples and is added to: the law's contract. -/
import Derived.Test.YtgafpkcnhpoobaaGh
import Derived.Test.YtgafpkcnhpoobaaFb
import Derived.Test.YtgafpkcnhpoobaaFy
set_option linter.unusedVariables false
set_option linter.unusedSimpArgs false
namespace Go.Proofs.Ytgafpkcnhpoobaa
open Go.Sx Go.RowKit Go.Sand

theorem Sml.x3 {ls : List (List Int)} {gs x y z u : List Int} {xss : List (List Int)} (h : Sml ls gs (x :: y :: z :: u :: xss)) : u.length ≤ 400 := by simpa using h.x 3
theorem LsAt.four {w0 w : World} {G : Heap} {bO cl c2 c3 c4 : Nat} {e : TypeId} {pl p2 p3 p4 : Option Addr} {xs ys zs us : List Int} (hn : New w0 w G) (hO : (bO, Obj.cells #[.slice pl xs.length cl, .slice p2 ys.length c2, .slice p3 zs.length c3, .slice p4 us.length c4] e (0, 0)) ∈ G) (hx : IntsAt w pl xs) (hy : IntsAt w p2 ys) (hz : IntsAt w p3 zs) (hu : IntsAt w p4 us) : LsAt w (some ⟨bO, 0, none⟩) [xs, ys, zs, us] := by
  intro j hj
  have e : j = 0 ∨ j = 1 ∨ j = 2 ∨ j = 3 := by simp only [List.length_cons, List.length_nil] at hj; omega
  rcases e with rfl | rfl | rfl | rfl
  · refine ⟨_, rfl, pl, cl, ?_, hx⟩
    rw [add_off]
    exact hn.cell hO rfl
  · refine ⟨_, rfl, p2, c2, ?_, hy⟩
    rw [add_off]
    exact hn.cell hO rfl
  · refine ⟨_, rfl, p3, c3, ?_, hz⟩
    rw [add_off]
    exact hn.cell hO rfl
  · refine ⟨_, rfl, p4, c4, ?_, hu⟩
    rw [add_off]
    exact hn.cell hO rfl
theorem fill_oooo (x y z u : Option Addr) (n c m d k f a b : Nat) : Instr.fill (fun i => some (i * 1, 1)) ((Array.range (4 * 1)).map ((Value.slice none 0 0).cells[· % (Value.slice none 0 0).cells.size]!)) [(0, .slice x n c), (1, .slice y m d), (2, .slice z k f), (3, .slice u a b)] = some #[.slice x n c, .slice y m d, .slice z k f, .slice u a b] := by kernel_rfl
theorem shp1 : Shp [[0]] [2] where
  n := by decide
  len := rfl
  row := fun k hk => by
    match k, hk with
    | 0, _ => decide
  gr := by decide
  mu := fun i j hi hj => by
    match i, hi, j, hj with
    | 0, _, 0, _ => decide
theorem joi1 : JoiP [[0]] [2] := fun i hi => .gr i hi (by
  match i, hi with
  | 0, _ => decide)
theorem val1 : validI [[0]] [2] = 0 := valid_0 shp1 joi1
theorem kLimit (w : World) (p : Option Addr) (cp : Nat) (hr : LsAt w p [[0]]) (q : Option Addr) (cq : Nat) (hg : IntsAt w q [2]) :
    Calls Try.prog 22 #[hv p 1 cp q 1 cq, .int .i64 0] w (Post (X := Unit) (fun _ => .tuple #[.int .i64 2, .int .i64 0]) (fun _ => True) (fun _ => []) w) := by
  have h := Limit_ok w p cp [[0]] hr q cq [2] hg (len_of fun j hj => by
    match j, hj with
    | 0, _ => decide) ((0 : Nat) : Int)
  have e := limE_0 (ls := [[0]]) (gs := [2]) (i := ((0 : Nat) : Int)) (by rw [val1]; decide) (by decide)
  rw [limV_0 e, e, show limI [[0]] [2] 0 = 2 by decide] at h
  exact h
theorem giv_cases (ls : List (List Int)) (gs : List Int) (xss : List (List Int)) : (validI ls gs ≠ 0 ∧ givI ls gs xss = validI ls gs) ∨ (¬ validI ls gs ≠ 0 ∧ (givI ls gs xss = 0 ∨ givI ls gs xss = 1)) := by
  by_cases h : validI ls gs ≠ 0
  · exact .inl ⟨h, giv_bad h⟩
  · refine .inr ⟨h, ?_⟩
    by_cases h2 : givI ls gs xss ≠ 0
    · exact .inr (giv_one h h2)
    · exact .inl (Decidable.of_not_not h2)
theorem giv_tail {ls : List (List Int)} {gs xs ys : List Int} (h : givI ls gs [xs, ys] = 0) : givI ls gs [xs] = 0 ∧ givI ls gs [ys] = 0 := by
  have hg : ¬ givI ls gs [xs, ys] ≠ 0 := by rw [h]; decide
  obtain ⟨g1, g2⟩ := giv_two hg
  exact ⟨giv_yes (giv_val hg) fun x hx => by
    obtain rfl : x = xs := by simpa using hx
    exact g1, giv_yes (giv_val hg) fun x hx => by
    obtain rfl : x = ys := by simpa using hx
    exact g2⟩
theorem giv_bth {ls : List (List Int)} {gs xs ys : List Int} (h1 : ¬ givI ls gs [xs] ≠ 0) (h2 : ¬ givI ls gs [ys] ≠ 0) : givI ls gs [xs, ys] = 0 := giv_yes (giv_val h1) fun x hx => by
  rcases List.mem_cons.1 hx with rfl | hx
  · exact giv_ne h1
  · obtain rfl : x = ys := by simpa using hx
    exact giv_ne h2
/-- Where one of two heapings is none. -/
theorem top_bad2 {ls : List (List Int)} {gs xs ys : List Int} (h : givI ls gs [xs] ≠ 0 ∨ givI ls gs [ys] ≠ 0) : (validI ls gs ≠ 0 ∧ givI ls gs [xs, ys] = validI ls gs) ∨ (¬ validI ls gs ≠ 0 ∧ givI ls gs [xs, ys] = 1) := by
  rcases giv_cases ls gs [xs, ys] with h1 | ⟨h1, h2 | h2⟩
  · exact .inl h1
  · obtain ⟨e1, e2⟩ := giv_tail h2
    rcases h with h | h
    · exact absurd e1 h
    · exact absurd e2 h
  · exact .inr ⟨h1, h2⟩
theorem tops {ls : List (List Int)} {gs xs ys s l m c mm ag bu : List Int} {b : Bool} (g1 : ¬ givI ls gs [xs] ≠ 0) (g2 : ¬ givI ls gs [ys] ≠ 0) (hs : ScrP ls gs xs ys s b) (hl : LagP ls gs xs l) (hm : LagP ls gs ys m) (hc : SetP ls gs xs c mm) (ha : LagP ls gs c ag) (hb : BuP ls gs l bu) :
    givI ls gs [xs, ys] = 0 ∧ decide (l = m) = b ∧ givI ls gs [c] = 0 ∧ ag = l ∧ givI ls gs [l] = 0 ∧ bu.length = l.length := by
  have hB := (giv_hb g1).1
  have hv := giv_val g1
  have e0 := giv_bth g1 g2
  obtain ⟨_, _, e1⟩ := scripts (by rw [e0]; decide) hs hl hm
  have h1 := hl.ok g1
  have h2 := hc.ok g1
  have e2 : givI ls gs [c] = 0 := giv_yes hv fun x hx => by
    obtain rfl : x = c := by simpa using hx
    exact stb_30 hB h2
  have e3 : givI ls gs [l] = 0 := giv_yes hv fun x hx => by
    obtain rfl : x = l := by simpa using hx
    exact lst_giv hB hv h1.1
  have h3 := ha.ok (by rw [e2]; decide)
  have h4 := hb.ok (by rw [e3]; decide)
  refine ⟨e0, e1, e2, h3.unique hB ⟨h1.1, h2.2.2.toRun.alk.symm.trans h1.2⟩, e3, ?_⟩
  exact (lst_iff hB h1.1.1 (fun k => (lst_c hB h1.1 k).1) h4 (lst_calm h1.1.1 h1.1.2)).2 h1.1.2


set_option maxRecDepth 100000 in
set_option maxHeartbeats 4000000 in
theorem topHeaps_ok (w0 : World) (p : Option Addr) (cp : Nat) (ls : List (List Int)) (hr : LsAt w0 p ls) (q : Option Addr) (cq : Nat) (gs : List Int) (hg : IntsAt w0 q gs) (hln : ls.length ≤ 9223372036854775807) (pl : Option Addr) (cl : Nat) (xs : List Int) (hx : IntsAt w0 pl xs) (p2 : Option Addr) (c2 : Nat) (ys : List Int) (hy : IntsAt w0 p2 ys) (p3 : Option Addr) (c3 : Nat) (zs : List Int) (hz : IntsAt w0 p3 zs) (p4 : Option Addr) (c4 : Nat) (us : List Int) (hu : IntsAt w0 p4 us) :
    Calls Try.prog 19 #[hv p ls.length cp q gs.length cq, .agg #[.slice pl xs.length cl, .slice p2 ys.length c2, .slice p3 zs.length c3], .slice p4 us.length c4] w0 (Post (X := Unit) (fun _ => .bool true) (fun _ => True) (fun _ => []) w0) := by
  refine calls Try.func19 rfl (n := 164) rfl (by simp) ?_
  refine TC.seq ?_
  refine TC.region ?_
  refine TL.box rfl rfl (by decide) (fun b0 hb0 => ?_)
  refine TL.box rfl rfl (by decide) (fun b1 hb1 => ?_)
  refine TL.pure (PV.assign rfl) rfl (by decide) ?_
  refine TL.nil ?_
  refine TQ.thenC ?_
  refine TC.seq ?_
  refine TC.region ?_
  refine TL.buildSlice (cs := intsA [0]) rfl Tb.sl_23 Tb.zi_3 (by decide) (fill_i _) (by decide) rfl (by decide) (fun d1 hd1 => ?_)
  refine TL.buildSlice (cs := #[.slice (some ⟨d1, 0, none⟩) 1 1]) rfl Tb.sl_22 Tb.zi_23 (by decide) (fill_o _ _ _) (by decide) rfl (by decide) (fun d2 hd2 => ?_)
  refine TL.buildSlice (cs := intsA [2]) rfl Tb.sl_23 Tb.zi_3 (by decide) (fill_i _) (by decide) rfl (by decide) (fun d3 hd3 => ?_)
  refine TL.pure (PV.build (cs := #[.slice (some ⟨d2, 0, none⟩) 1 1, .slice (some ⟨d3, 0, none⟩) 1 1]) rfl Tb.zero_25 Tb.pl_25 (fill_hv _ _ _ _ _ _)) rfl (by decide) ?_
  refine TL.call rfl Tb.gofn_22 (fun a w hs => kLimit w _ _ (LsAt.one (bO := d2) (xs := [0]) hs.new (by repeat (first | exact List.Mem.head _ | refine List.Mem.tail _ ?_ | refine List.mem_append_right _ ?_)) (IntsAt.arr (b := d1) (xs := [0]) hs.new (by repeat (first | exact List.Mem.head _ | refine List.Mem.tail _ ?_ | refine List.mem_append_right _ ?_)))) _ _ (IntsAt.arr (b := d3) (xs := [2]) hs.new (by repeat (first | exact List.Mem.head _ | refine List.Mem.tail _ ?_ | refine List.mem_append_right _ ?_)))) rfl (by decide) (fun _ _ => ?_)
  refine TL.pure (PV.move rfl) rfl (by decide) ?_
  refine TL.pure (PV.extract rfl rfl) rfl (by decide) ?_
  refine TL.pure (PV.extract rfl rfl) rfl (by decide) ?_
  refine TL.pure (PV.assign rfl) rfl (by decide) ?_
  refine TL.pure (PV.assign rfl) rfl (by decide) ?_
  refine TL.nil ?_
  refine TQ.thenC ?_
  refine TC.seq ?_
  refine TC.seq ?_
  refine TC.region ?_
  refine TL.pure (PV.move rfl) rfl (by decide) ?_
  refine TL.pure (PV.neq rfl rfl) rfl (by decide) ?_
  refine TL.pure (PV.move rfl) rfl (by decide) ?_
  first | refine TL.splitD 32 rfl (fun h0 => ?_) (fun h0 => ?_) | refine TL.split 32 rfl (fun h0 => ?_) (fun h0 => ?_)
  · skip
    refine TL.skip rfl (fun k hk => by cases hk; decide) ?_
    refine TL.skip rfl (fun k hk => by cases hk; decide) ?_
    refine TL.pure (PV.pickT rfl rfl) rfl (by decide) ?_
    refine TL.nil ?_
    refine TQ.thenC ?_
    refine TC.condT rfl ?_
    refine TC.seq ?_
    refine TC.region ?_
    refine TL.pure (PV.assign rfl) rfl (by decide) ?_
    refine TL.nil ?_
    refine TQ.thenC ?_
    refine TC.ret ?_
    refine TQ.thenR ?_
    refine TQ.retE1 rfl rfl ?_
    first | exact ⟨(), rfl, trivial, List.nil_sublist _⟩ | (refine ⟨(), ?_, trivial, List.nil_sublist _⟩; simp [e6]; done) | (exfalso; omega) | (exfalso; clear hS hsC hab hcd hy9 hag hbu k3 k4 g1_; simp_all; done) | (rcases htb with ⟨h7, h8⟩ | ⟨h7, h8⟩ <;> first | exact ⟨(), rfl, trivial, List.nil_sublist _⟩ | (exfalso; simp_all; done) | (refine ⟨(), ?_, trivial, List.nil_sublist _⟩; simp_all; done)) | (exfalso; simp_all; done)
  · skip
    refine TL.pure (PV.move rfl) rfl (by decide) ?_
    refine TL.pure (PV.neq rfl rfl) rfl (by decide) ?_
    refine TL.pure (PV.pickF rfl rfl) rfl (by decide) ?_
    refine TL.nil ?_
    refine TQ.thenC ?_
    first | refine TC.condD rfl (fun h1 => ?_) (fun h1 => ?_) | refine TC.cond rfl (fun h1 => ?_) (fun h1 => ?_)
    · skip
      refine TC.seq ?_
      refine TC.region ?_
      refine TL.pure (PV.assign rfl) rfl (by decide) ?_
      refine TL.nil ?_
      refine TQ.thenC ?_
      refine TC.ret ?_
      refine TQ.thenR ?_
      refine TQ.retE1 rfl rfl ?_
      first | exact ⟨(), rfl, trivial, List.nil_sublist _⟩ | (refine ⟨(), ?_, trivial, List.nil_sublist _⟩; simp [e6]; done) | (exfalso; omega) | (exfalso; clear hS hsC hab hcd hy9 hag hbu k3 k4 g1_; simp_all; done) | (rcases htb with ⟨h7, h8⟩ | ⟨h7, h8⟩ <;> first | exact ⟨(), rfl, trivial, List.nil_sublist _⟩ | (exfalso; simp_all; done) | (refine ⟨(), ?_, trivial, List.nil_sublist _⟩; simp_all; done)) | (exfalso; simp_all; done)
    · skip
      refine TC.skip ?_
      refine TQ.thenC ?_
      refine TC.seq ?_
      refine TC.seq ?_
      refine TC.region ?_
      refine TL.pure (PV.loadBox rfl Tb.agg_25 (by repeat (first | exact List.Mem.head _ | refine List.Mem.tail _ ?_ | refine List.mem_append_right _ ?_)) rfl) rfl (by decide) ?_
      refine TL.pure (PV.fieldAddr rfl Tb.fo_53_0) rfl (by decide) ?_
      refine TL.pure (PV.load rfl Tb.one_23 (by repeat (first | exact List.Mem.head _ | refine List.Mem.tail _ ?_ | refine List.mem_append_right _ ?_)) rfl) rfl (by decide) ?_
      refine TL.pure (PV.fieldAddr rfl Tb.fo_53_1) rfl (by decide) ?_
      refine TL.pure (PV.load rfl Tb.one_23 (by repeat (first | exact List.Mem.head _ | refine List.Mem.tail _ ?_ | refine List.mem_append_right _ ?_)) rfl) rfl (by decide) ?_
      refine TL.pure (PV.fieldAddr rfl Tb.fo_53_2) rfl (by decide) ?_
      refine TL.pure (PV.load rfl Tb.one_23 (by repeat (first | exact List.Mem.head _ | refine List.Mem.tail _ ?_ | refine List.mem_append_right _ ?_)) rfl) rfl (by decide) ?_
      refine TL.pure (PV.move rfl) rfl (by decide) ?_
      refine TL.buildSlice (cs := #[.slice pl xs.length cl, .slice p2 ys.length c2, .slice p3 zs.length c3, .slice p4 us.length c4]) rfl Tb.sl_22 Tb.zi_23 (by decide) (fill_oooo _ _ _ _ _ _ _ _ _ _ _ _) (by decide) rfl (by decide) (fun bS hbS => ?_)
      refine TL.call rfl Tb.gofn_20 (fun a w hs => long_ok w _ _ _ (hr.new hs.new) _ _ _ (hg.new hs.new) _ 4 [xs, ys, zs, us] (LsAt.four hs.new (by repeat (first | exact List.Mem.head _ | refine List.Mem.tail _ ?_ | refine List.mem_append_right _ ?_)) (hx.new hs.new) (hy.new hs.new) (hz.new hs.new) (hu.new hs.new)) hln (by simp)) rfl (by decide) (fun bl hbl => ?_)
      refine TL.nil ?_
      refine TQ.thenC ?_
      first | refine TC.condD rfl (fun hlong => ?_) (fun hlong => ?_) | refine TC.cond rfl (fun hlong => ?_) (fun hlong => ?_)
      · skip
        refine TC.seq ?_
        refine TC.region ?_
        refine TL.pure (PV.assign rfl) rfl (by decide) ?_
        refine TL.nil ?_
        refine TQ.thenC ?_
        refine TC.ret ?_
        refine TQ.thenR ?_
        refine TQ.retE1 rfl rfl ?_
        first | exact ⟨(), rfl, trivial, List.nil_sublist _⟩ | (refine ⟨(), ?_, trivial, List.nil_sublist _⟩; simp [e6]; done) | (exfalso; omega) | (exfalso; clear hS hsC hab hcd hy9 hag hbu k3 k4 g1_; simp_all; done) | (rcases htb with ⟨h7, h8⟩ | ⟨h7, h8⟩ <;> first | exact ⟨(), rfl, trivial, List.nil_sublist _⟩ | (exfalso; simp_all; done) | (refine ⟨(), ?_, trivial, List.nil_sublist _⟩; simp_all; done)) | (exfalso; simp_all; done)
      · skip
        refine TC.skip ?_
        refine TQ.thenC ?_
        refine TC.seq ?_
        refine TC.seq ?_
        have hS := hbl hlong
        have hxo : xs.length ≤ 1000000 := by have := hS.x0; omega
        have hyo : ys.length ≤ 1000000 := by have := hS.x1; omega
        refine TC.region ?_
        refine TL.pure (PV.loadBox rfl Tb.agg_25 (by repeat (first | exact List.Mem.head _ | refine List.Mem.tail _ ?_ | refine List.mem_append_right _ ?_)) rfl) rfl (by decide) ?_
        refine TL.pure (PV.fieldAddr rfl Tb.fo_53_0) rfl (by decide) ?_
        refine TL.pure (PV.load rfl Tb.one_23 (by repeat (first | exact List.Mem.head _ | refine List.Mem.tail _ ?_ | refine List.mem_append_right _ ?_)) rfl) rfl (by decide) ?_
        refine TL.pure (PV.move rfl) rfl (by decide) ?_
        refine TL.call rfl Tb.gofn_7 (fun a w hs => heapAnyOrder_ok w _ _ _ (hr.new hs.new) _ _ _ (hg.new hs.new) hln _ _ _ (hx.new hs.new) _ _ _ (hu.new hs.new)) rfl (by decide) (fun _ _ => ?_)
        refine TL.pure ((by first | exact PV.notD rfl | exact PV.not rfl)) rfl (by decide) ?_
        refine TL.pure (PV.move rfl) rfl (by decide) ?_
        first | refine TL.splitD 52 rfl (fun h3 => ?_) (fun h3 => ?_) | refine TL.split 52 rfl (fun h3 => ?_) (fun h3 => ?_)
        · skip
          refine TL.skip rfl (fun k hk => by cases hk; decide) ?_
          refine TL.skip rfl (fun k hk => by cases hk; decide) ?_
          refine TL.skip rfl (fun k hk => by cases hk; decide) ?_
          refine TL.skip rfl (fun k hk => by cases hk; decide) ?_
          refine TL.pure (PV.pickT rfl rfl) rfl (by decide) ?_
          refine TL.nil ?_
          refine TQ.thenC ?_
          refine TC.condT rfl ?_
          refine TC.seq ?_
          refine TC.region ?_
          refine TL.pure (PV.assign rfl) rfl (by decide) ?_
          refine TL.nil ?_
          refine TQ.thenC ?_
          refine TC.ret ?_
          refine TQ.thenR ?_
          refine TQ.retE1 rfl rfl ?_
          first | exact ⟨(), rfl, trivial, List.nil_sublist _⟩ | (refine ⟨(), ?_, trivial, List.nil_sublist _⟩; simp [e6]; done) | (exfalso; omega) | (exfalso; clear hS hsC hab hcd hy9 hag hbu k3 k4 g1_; simp_all; done) | (rcases htb with ⟨h7, h8⟩ | ⟨h7, h8⟩ <;> first | exact ⟨(), rfl, trivial, List.nil_sublist _⟩ | (exfalso; simp_all; done) | (refine ⟨(), ?_, trivial, List.nil_sublist _⟩; simp_all; done)) | (exfalso; simp_all; done)
        · skip
          refine TL.pure (PV.loadBox rfl Tb.agg_25 (by repeat (first | exact List.Mem.head _ | refine List.Mem.tail _ ?_ | refine List.mem_append_right _ ?_)) rfl) rfl (by decide) ?_
          refine TL.pure (PV.loadBox rfl Tb.agg_53 (by repeat (first | exact List.Mem.head _ | refine List.Mem.tail _ ?_ | refine List.mem_append_right _ ?_)) rfl) rfl (by decide) ?_
          refine TL.call rfl Tb.gofn_10 (fun a w hs => heapSums_ok w _ _ _ (hr.new hs.new) _ _ _ (hg.new hs.new) hln _ _ _ (hx.new hs.new) _ _ _ (hy.new hs.new) _ _ _ (hz.new hs.new)) rfl (by decide) (fun _ _ => ?_)
          refine TL.pure ((by first | exact PV.notD rfl | exact PV.not rfl)) rfl (by decide) ?_
          refine TL.pure (PV.pickF rfl rfl) rfl (by decide) ?_
          refine TL.nil ?_
          refine TQ.thenC ?_
          first | refine TC.condD rfl (fun h4 => ?_) (fun h4 => ?_) | refine TC.cond rfl (fun h4 => ?_) (fun h4 => ?_)
          · skip
            refine TC.seq ?_
            refine TC.region ?_
            refine TL.pure (PV.assign rfl) rfl (by decide) ?_
            refine TL.nil ?_
            refine TQ.thenC ?_
            refine TC.ret ?_
            refine TQ.thenR ?_
            refine TQ.retE1 rfl rfl ?_
            first | exact ⟨(), rfl, trivial, List.nil_sublist _⟩ | (refine ⟨(), ?_, trivial, List.nil_sublist _⟩; simp [e6]; done) | (exfalso; omega) | (exfalso; clear hS hsC hab hcd hy9 hag hbu k3 k4 g1_; simp_all; done) | (rcases htb with ⟨h7, h8⟩ | ⟨h7, h8⟩ <;> first | exact ⟨(), rfl, trivial, List.nil_sublist _⟩ | (exfalso; simp_all; done) | (refine ⟨(), ?_, trivial, List.nil_sublist _⟩; simp_all; done)) | (exfalso; simp_all; done)
          · skip
            refine TC.skip ?_
            refine TQ.thenC ?_
            refine TC.seq ?_
            refine TC.region ?_
            refine TL.pure (PV.loadBox rfl Tb.agg_25 (by repeat (first | exact List.Mem.head _ | refine List.Mem.tail _ ?_ | refine List.mem_append_right _ ?_)) rfl) rfl (by decide) ?_
            refine TL.pure (PV.fieldAddr rfl Tb.fo_53_0) rfl (by decide) ?_
            refine TL.pure (PV.load rfl Tb.one_23 (by repeat (first | exact List.Mem.head _ | refine List.Mem.tail _ ?_ | refine List.mem_append_right _ ?_)) rfl) rfl (by decide) ?_
            refine TL.call rfl Tb.gofn_49 (fun a w hs => Lasting_ok w _ _ _ (hr.new hs.new) _ _ _ (hg.new hs.new) hS.lo _ _ _ (hx.new hs.new) hxo) rfl (by decide) (fun ab hab => ?_)
            refine TL.pure (PV.move rfl) rfl (by decide) ?_
            refine TL.pure (PV.extract rfl rfl) rfl (by decide) ?_
            refine TL.pure (PV.extract rfl rfl) rfl (by decide) ?_
            refine TL.pure (PV.assign rfl) rfl (by decide) ?_
            refine TL.pure (PV.assign rfl) rfl (by decide) ?_
            refine TL.nil ?_
            refine TQ.thenC ?_
            refine TC.seq ?_
            refine TC.region ?_
            refine TL.pure (PV.loadBox rfl Tb.agg_25 (by repeat (first | exact List.Mem.head _ | refine List.Mem.tail _ ?_ | refine List.mem_append_right _ ?_)) rfl) rfl (by decide) ?_
            refine TL.pure (PV.fieldAddr rfl Tb.fo_53_1) rfl (by decide) ?_
            refine TL.pure (PV.load rfl Tb.one_23 (by repeat (first | exact List.Mem.head _ | refine List.Mem.tail _ ?_ | refine List.mem_append_right _ ?_)) rfl) rfl (by decide) ?_
            refine TL.call rfl Tb.gofn_49 (fun a w hs => Lasting_ok w _ _ _ (hr.new hs.new) _ _ _ (hg.new hs.new) hS.lo _ _ _ (hy.new hs.new) hyo) rfl (by decide) (fun cd hcd => ?_)
            refine TL.pure (PV.move rfl) rfl (by decide) ?_
            refine TL.pure (PV.extract rfl rfl) rfl (by decide) ?_
            refine TL.pure (PV.extract rfl rfl) rfl (by decide) ?_
            refine TL.pure (PV.assign rfl) rfl (by decide) ?_
            refine TL.pure (PV.assign rfl) rfl (by decide) ?_
            refine TL.nil ?_
            refine TQ.thenC ?_
            refine TC.seq ?_
            refine TC.region ?_
            refine TL.pure (PV.loadBox rfl Tb.agg_25 (by repeat (first | exact List.Mem.head _ | refine List.Mem.tail _ ?_ | refine List.mem_append_right _ ?_)) rfl) rfl (by decide) ?_
            refine TL.pure (PV.fieldAddr rfl Tb.fo_53_0) rfl (by decide) ?_
            refine TL.pure (PV.load rfl Tb.one_23 (by repeat (first | exact List.Mem.head _ | refine List.Mem.tail _ ?_ | refine List.mem_append_right _ ?_)) rfl) rfl (by decide) ?_
            refine TL.pure (PV.fieldAddr rfl Tb.fo_53_1) rfl (by decide) ?_
            refine TL.pure (PV.load rfl Tb.one_23 (by repeat (first | exact List.Mem.head _ | refine List.Mem.tail _ ?_ | refine List.mem_append_right _ ?_)) rfl) rfl (by decide) ?_
            refine TL.call rfl Tb.gofn_55 (fun a w hs => Alike_ok w _ _ _ (hr.new hs.new) _ _ _ (hg.new hs.new) hS.lo _ _ _ (hx.new hs.new) hxo _ _ _ (hy.new hs.new) hyo) rfl (by decide) (fun sC hsC => ?_)
            refine TL.pure (PV.move rfl) rfl (by decide) ?_
            refine TL.pure (PV.extract rfl rfl) rfl (by decide) ?_
            refine TL.pure (PV.extract rfl rfl) rfl (by decide) ?_
            refine TL.pure (PV.assign rfl) rfl (by decide) ?_
            refine TL.pure (PV.assign rfl) rfl (by decide) ?_
            refine TL.nil ?_
            refine TQ.thenC ?_
            refine TC.seq ?_
            refine TC.seq ?_
            refine TC.region ?_
            refine TL.pure (PV.move rfl) rfl (by decide) ?_
            refine TL.pure (PV.neq rfl rfl) rfl (by decide) ?_
            refine TL.pure (PV.move rfl) rfl (by decide) ?_
            first | refine TL.splitD 83 rfl (fun g1 => ?_) (fun g1 => ?_) | refine TL.split 83 rfl (fun g1 => ?_) (fun g1 => ?_)
            · skip
              refine TL.skip rfl (fun k hk => by cases hk; decide) ?_
              refine TL.skip rfl (fun k hk => by cases hk; decide) ?_
              refine TL.pure (PV.pickT rfl rfl) rfl (by decide) ?_
              refine TL.nil ?_
              refine TQ.thenC ?_
              refine TC.condT rfl ?_
              refine TC.seq ?_
              have hno : givI ls gs [xs] ≠ 0 ∨ givI ls gs [ys] ≠ 0 := by first | exact .inl g1 | exact .inr g2 | (simp_all; done)
              have htb := top_bad2 hno
              refine TC.region ?_
              refine TL.pure (PV.loadBox rfl Tb.agg_25 (by repeat (first | exact List.Mem.head _ | refine List.Mem.tail _ ?_ | refine List.mem_append_right _ ?_)) rfl) rfl (by decide) ?_
              refine TL.call rfl Tb.gofn_24 (fun a w hs => validate_ok w _ _ _ (hr.new hs.new) _ _ _ (hg.new hs.new) hS.lo) rfl (by decide) (fun _ _ => ?_)
              refine TL.pure (PV.neq rfl rfl) rfl (by decide) ?_
              refine TL.pure (PV.move rfl) rfl (by decide) ?_
              first | refine TL.splitD 90 rfl (fun h6 => ?_) (fun h6 => ?_) | refine TL.split 90 rfl (fun h6 => ?_) (fun h6 => ?_)
              · skip
                refine TL.pure (PV.move rfl) rfl (by decide) ?_
                refine TL.pure (PV.loadBox rfl Tb.agg_25 (by repeat (first | exact List.Mem.head _ | refine List.Mem.tail _ ?_ | refine List.mem_append_right _ ?_)) rfl) rfl (by decide) ?_
                refine TL.call rfl Tb.gofn_24 (fun a w hs => validate_ok w _ _ _ (hr.new hs.new) _ _ _ (hg.new hs.new) hS.lo) rfl (by decide) (fun _ _ => ?_)
                refine TL.pure (PV.eql rfl rfl) rfl (by decide) ?_
                refine TL.pure (PV.pickT rfl rfl) rfl (by decide) ?_
                refine TL.pure (PV.move rfl) rfl (by decide) ?_
                first | refine TL.splitD 96 rfl (fun h7 => ?_) (fun h7 => ?_) | refine TL.split 96 rfl (fun h7 => ?_) (fun h7 => ?_)
                · skip
                  refine TL.skip rfl (fun k hk => by cases hk; decide) ?_
                  refine TL.skip rfl (fun k hk => by cases hk; decide) ?_
                  refine TL.pure (PV.pickT rfl rfl) rfl (by decide) ?_
                  refine TL.pure (PV.assign rfl) rfl (by decide) ?_
                  refine TL.nil ?_
                  refine TQ.thenC ?_
                  refine TC.ret ?_
                  refine TQ.thenR ?_
                  refine TQ.retE1 rfl rfl ?_
                  first | exact ⟨(), rfl, trivial, List.nil_sublist _⟩ | (refine ⟨(), ?_, trivial, List.nil_sublist _⟩; simp [e6]; done) | (exfalso; omega) | (exfalso; clear hS hsC hab hcd hy9 hag hbu k3 k4 g1_; simp_all; done) | (rcases htb with ⟨h7, h8⟩ | ⟨h7, h8⟩ <;> first | exact ⟨(), rfl, trivial, List.nil_sublist _⟩ | (exfalso; simp_all; done) | (refine ⟨(), ?_, trivial, List.nil_sublist _⟩; simp_all; done)) | (exfalso; simp_all; done)
                · skip
                  refine TL.pure (PV.move rfl) rfl (by decide) ?_
                  refine TL.pure (PV.eql rfl rfl) rfl (by decide) ?_
                  refine TL.pure (PV.pickF rfl rfl) rfl (by decide) ?_
                  refine TL.pure (PV.assign rfl) rfl (by decide) ?_
                  refine TL.nil ?_
                  refine TQ.thenC ?_
                  refine TC.ret ?_
                  refine TQ.thenR ?_
                  refine TQ.retE1 rfl rfl ?_
                  first | exact ⟨(), rfl, trivial, List.nil_sublist _⟩ | (refine ⟨(), ?_, trivial, List.nil_sublist _⟩; simp [e6]; done) | (exfalso; omega) | (exfalso; clear hS hsC hab hcd hy9 hag hbu k3 k4 g1_; simp_all; done) | (rcases htb with ⟨h7, h8⟩ | ⟨h7, h8⟩ <;> first | exact ⟨(), rfl, trivial, List.nil_sublist _⟩ | (exfalso; simp_all; done) | (refine ⟨(), ?_, trivial, List.nil_sublist _⟩; simp_all; done)) | (exfalso; simp_all; done)
              · skip
                refine TL.skip rfl (fun k hk => by cases hk; decide) ?_
                refine TL.skip rfl (fun k hk => by cases hk; decide) ?_
                refine TL.skip rfl (fun k hk => by cases hk; decide) ?_
                refine TL.skip rfl (fun k hk => by cases hk; decide) ?_
                refine TL.pure (PV.pickF rfl rfl) rfl (by decide) ?_
                refine TL.pure (PV.move rfl) rfl (by decide) ?_
                refine TL.pure (PV.move rfl) rfl (by decide) ?_
                refine TL.pure (PV.eql rfl rfl) rfl (by decide) ?_
                refine TL.pure (PV.pickF rfl rfl) rfl (by decide) ?_
                refine TL.pure (PV.assign rfl) rfl (by decide) ?_
                refine TL.nil ?_
                refine TQ.thenC ?_
                refine TC.ret ?_
                refine TQ.thenR ?_
                refine TQ.retE1 rfl rfl ?_
                first | exact ⟨(), rfl, trivial, List.nil_sublist _⟩ | (refine ⟨(), ?_, trivial, List.nil_sublist _⟩; simp [e6]; done) | (exfalso; omega) | (exfalso; clear hS hsC hab hcd hy9 hag hbu k3 k4 g1_; simp_all; done) | (rcases htb with ⟨h7, h8⟩ | ⟨h7, h8⟩ <;> first | exact ⟨(), rfl, trivial, List.nil_sublist _⟩ | (exfalso; simp_all; done) | (refine ⟨(), ?_, trivial, List.nil_sublist _⟩; simp_all; done)) | (exfalso; simp_all; done)
            · skip
              refine TL.pure (PV.move rfl) rfl (by decide) ?_
              refine TL.pure (PV.neq rfl rfl) rfl (by decide) ?_
              refine TL.pure (PV.pickF rfl rfl) rfl (by decide) ?_
              refine TL.nil ?_
              refine TQ.thenC ?_
              first | refine TC.condD rfl (fun g2 => ?_) (fun g2 => ?_) | refine TC.cond rfl (fun g2 => ?_) (fun g2 => ?_)
              · skip
                refine TC.seq ?_
                have hno : givI ls gs [xs] ≠ 0 ∨ givI ls gs [ys] ≠ 0 := by first | exact .inl g1 | exact .inr g2 | (simp_all; done)
                have htb := top_bad2 hno
                refine TC.region ?_
                refine TL.pure (PV.loadBox rfl Tb.agg_25 (by repeat (first | exact List.Mem.head _ | refine List.Mem.tail _ ?_ | refine List.mem_append_right _ ?_)) rfl) rfl (by decide) ?_
                refine TL.call rfl Tb.gofn_24 (fun a w hs => validate_ok w _ _ _ (hr.new hs.new) _ _ _ (hg.new hs.new) hS.lo) rfl (by decide) (fun _ _ => ?_)
                refine TL.pure (PV.neq rfl rfl) rfl (by decide) ?_
                refine TL.pure (PV.move rfl) rfl (by decide) ?_
                first | refine TL.splitD 90 rfl (fun h9 => ?_) (fun h9 => ?_) | refine TL.split 90 rfl (fun h9 => ?_) (fun h9 => ?_)
                · skip
                  refine TL.pure (PV.move rfl) rfl (by decide) ?_
                  refine TL.pure (PV.loadBox rfl Tb.agg_25 (by repeat (first | exact List.Mem.head _ | refine List.Mem.tail _ ?_ | refine List.mem_append_right _ ?_)) rfl) rfl (by decide) ?_
                  refine TL.call rfl Tb.gofn_24 (fun a w hs => validate_ok w _ _ _ (hr.new hs.new) _ _ _ (hg.new hs.new) hS.lo) rfl (by decide) (fun _ _ => ?_)
                  refine TL.pure (PV.eql rfl rfl) rfl (by decide) ?_
                  refine TL.pure (PV.pickT rfl rfl) rfl (by decide) ?_
                  refine TL.pure (PV.move rfl) rfl (by decide) ?_
                  first | refine TL.splitD 96 rfl (fun h10 => ?_) (fun h10 => ?_) | refine TL.split 96 rfl (fun h10 => ?_) (fun h10 => ?_)
                  · skip
                    refine TL.skip rfl (fun k hk => by cases hk; decide) ?_
                    refine TL.skip rfl (fun k hk => by cases hk; decide) ?_
                    refine TL.pure (PV.pickT rfl rfl) rfl (by decide) ?_
                    refine TL.pure (PV.assign rfl) rfl (by decide) ?_
                    refine TL.nil ?_
                    refine TQ.thenC ?_
                    refine TC.ret ?_
                    refine TQ.thenR ?_
                    refine TQ.retE1 rfl rfl ?_
                    first | exact ⟨(), rfl, trivial, List.nil_sublist _⟩ | (refine ⟨(), ?_, trivial, List.nil_sublist _⟩; simp [e6]; done) | (exfalso; omega) | (exfalso; clear hS hsC hab hcd hy9 hag hbu k3 k4 g1_; simp_all; done) | (rcases htb with ⟨h7, h8⟩ | ⟨h7, h8⟩ <;> first | exact ⟨(), rfl, trivial, List.nil_sublist _⟩ | (exfalso; simp_all; done) | (refine ⟨(), ?_, trivial, List.nil_sublist _⟩; simp_all; done)) | (exfalso; simp_all; done)
                  · skip
                    refine TL.pure (PV.move rfl) rfl (by decide) ?_
                    refine TL.pure (PV.eql rfl rfl) rfl (by decide) ?_
                    refine TL.pure (PV.pickF rfl rfl) rfl (by decide) ?_
                    refine TL.pure (PV.assign rfl) rfl (by decide) ?_
                    refine TL.nil ?_
                    refine TQ.thenC ?_
                    refine TC.ret ?_
                    refine TQ.thenR ?_
                    refine TQ.retE1 rfl rfl ?_
                    first | exact ⟨(), rfl, trivial, List.nil_sublist _⟩ | (refine ⟨(), ?_, trivial, List.nil_sublist _⟩; simp [e6]; done) | (exfalso; omega) | (exfalso; clear hS hsC hab hcd hy9 hag hbu k3 k4 g1_; simp_all; done) | (rcases htb with ⟨h7, h8⟩ | ⟨h7, h8⟩ <;> first | exact ⟨(), rfl, trivial, List.nil_sublist _⟩ | (exfalso; simp_all; done) | (refine ⟨(), ?_, trivial, List.nil_sublist _⟩; simp_all; done)) | (exfalso; simp_all; done)
                · skip
                  refine TL.skip rfl (fun k hk => by cases hk; decide) ?_
                  refine TL.skip rfl (fun k hk => by cases hk; decide) ?_
                  refine TL.skip rfl (fun k hk => by cases hk; decide) ?_
                  refine TL.skip rfl (fun k hk => by cases hk; decide) ?_
                  refine TL.pure (PV.pickF rfl rfl) rfl (by decide) ?_
                  refine TL.pure (PV.move rfl) rfl (by decide) ?_
                  refine TL.pure (PV.move rfl) rfl (by decide) ?_
                  refine TL.pure (PV.eql rfl rfl) rfl (by decide) ?_
                  refine TL.pure (PV.pickF rfl rfl) rfl (by decide) ?_
                  refine TL.pure (PV.assign rfl) rfl (by decide) ?_
                  refine TL.nil ?_
                  refine TQ.thenC ?_
                  refine TC.ret ?_
                  refine TQ.thenR ?_
                  refine TQ.retE1 rfl rfl ?_
                  first | exact ⟨(), rfl, trivial, List.nil_sublist _⟩ | (refine ⟨(), ?_, trivial, List.nil_sublist _⟩; simp [e6]; done) | (exfalso; omega) | (exfalso; clear hS hsC hab hcd hy9 hag hbu k3 k4 g1_; simp_all; done) | (rcases htb with ⟨h7, h8⟩ | ⟨h7, h8⟩ <;> first | exact ⟨(), rfl, trivial, List.nil_sublist _⟩ | (exfalso; simp_all; done) | (refine ⟨(), ?_, trivial, List.nil_sublist _⟩; simp_all; done)) | (exfalso; simp_all; done)
              · skip
                refine TC.skip ?_
                refine TQ.thenC ?_
                refine TC.seq ?_
                refine TC.region ?_
                refine TL.pure (PV.loadBox rfl Tb.agg_25 (by repeat (first | exact List.Mem.head _ | refine List.Mem.tail _ ?_ | refine List.mem_append_right _ ?_)) rfl) rfl (by decide) ?_
                refine TL.pure (PV.fieldAddr rfl Tb.fo_53_0) rfl (by decide) ?_
                refine TL.pure (PV.load rfl Tb.one_23 (by repeat (first | exact List.Mem.head _ | refine List.Mem.tail _ ?_ | refine List.mem_append_right _ ?_)) rfl) rfl (by decide) ?_
                refine TL.call rfl Tb.gofn_31 (fun a w hs => Settle_ok w _ _ _ (hr.new hs.new) _ _ _ (hg.new hs.new) hS.lo _ _ _ (hx.new hs.new) hxo) rfl (by decide) (fun y9 hy9 => ?_)
                refine TL.pure (PV.move rfl) rfl (by decide) ?_
                refine TL.pure (PV.extract rfl rfl) rfl (by decide) ?_
                refine TL.pure (PV.extract rfl rfl) rfl (by decide) ?_
                refine TL.pure (PV.extract rfl rfl) rfl (by decide) ?_
                refine TL.pure (PV.extract rfl rfl) rfl (by decide) ?_
                refine TL.pure (PV.assign rfl) rfl (by decide) ?_
                refine TL.pure (PV.assign rfl) rfl (by decide) ?_
                refine TL.pure (PV.assign rfl) rfl (by decide) ?_
                refine TL.pure (PV.assign rfl) rfl (by decide) ?_
                refine TL.nil ?_
                refine TQ.thenC ?_
                refine TC.seq ?_
                refine TC.region ?_
                refine TL.pure (PV.loadBox rfl Tb.agg_25 (by repeat (first | exact List.Mem.head _ | refine List.Mem.tail _ ?_ | refine List.mem_append_right _ ?_)) rfl) rfl (by decide) ?_
                refine TL.pure (PV.move rfl) rfl (by decide) ?_
                refine TL.call rfl Tb.gofn_49 (fun a w hs => (by rw [gval_eq hy9.2.1]; exact Lasting_ok w _ _ _ (hr.new hs.new) _ _ _ (hg.new hs.new) hS.lo _ _ y9.2.2.1 (IntsAt.g (x := (y9.1, y9.2.2.1)) hs.new (fun yy hyy => by repeat (first | exact List.mem_append_left _ hyy | exact List.mem_append_left _ (List.mem_append_right _ hyy) | exact List.mem_append_left _ (List.mem_append_left _ hyy) | refine List.mem_append_right _ ?_ | refine List.Mem.tail _ ?_)) hy9.2.1) (hy9.1.len.1))) rfl (by decide) (fun ag hag => ?_)
                refine TL.pure (PV.move rfl) rfl (by decide) ?_
                refine TL.pure (PV.extract rfl rfl) rfl (by decide) ?_
                refine TL.pure (PV.extract rfl rfl) rfl (by decide) ?_
                refine TL.pure (PV.assign rfl) rfl (by decide) ?_
                refine TL.pure (PV.assign rfl) rfl (by decide) ?_
                refine TL.nil ?_
                refine TQ.thenC ?_
                refine TC.seq ?_
                refine TC.region ?_
                refine TL.pure (PV.loadBox rfl Tb.agg_25 (by repeat (first | exact List.Mem.head _ | refine List.Mem.tail _ ?_ | refine List.mem_append_right _ ?_)) rfl) rfl (by decide) ?_
                refine TL.pure (PV.move rfl) rfl (by decide) ?_
                refine TL.call rfl Tb.gofn_43 (fun a w hs => (by rw [gval_eq hab.2]; exact Burn_ok w _ _ _ (hr.new hs.new) _ _ _ (hg.new hs.new) hS.lo _ _ ab.2 (IntsAt.g (x := ab) hs.new (fun yy hyy => by repeat (first | exact List.mem_append_left _ hyy | exact List.mem_append_left _ (List.mem_append_right _ hyy) | exact List.mem_append_left _ (List.mem_append_left _ hyy) | refine List.mem_append_right _ ?_ | refine List.Mem.tail _ ?_)) hab.2) (hab.1.len))) rfl (by decide) (fun bu hbu => ?_)
                refine TL.pure (PV.move rfl) rfl (by decide) ?_
                refine TL.pure (PV.extract rfl rfl) rfl (by decide) ?_
                refine TL.pure (PV.extract rfl rfl) rfl (by decide) ?_
                refine TL.pure (PV.assign rfl) rfl (by decide) ?_
                refine TL.pure (PV.assign rfl) rfl (by decide) ?_
                refine TL.nil ?_
                refine TQ.thenC ?_
                refine TC.seq ?_
                have g1_ := g1
                obtain ⟨e1, e2, e3, e4, e5, e6⟩ := tops g1 (by first | exact g2 | simpa using g2) hsC hab.1 hcd.1 hy9.1 hag.1 hbu.1
                have k3 := (settles hy9.1 g1).1
                have k4 := hy9.1.bd
                refine TC.region ?_
                refine TL.pure (PV.move rfl) rfl (by decide) ?_
                refine TL.pure (PV.eql rfl rfl) rfl (by decide) ?_
                refine TL.pure (PV.move rfl) rfl (by decide) ?_
                first | refine TL.splitD 123 rfl (fun h11 => ?_) (fun h11 => ?_) | refine TL.split 123 rfl (fun h11 => ?_) (fun h11 => ?_)
                · skip
                  refine TL.pure (PV.move rfl) rfl (by decide) ?_
                  refine TL.pure (PV.move rfl) rfl (by decide) ?_
                  refine TL.pure (PV.move rfl) rfl (by decide) ?_
                  refine TL.call rfl Tb.gofn_30 (fun a w hs => sameGG w (ab.1) (ab.2) hab.2 (IntsAt.g (x := (ab.1, ab.2)) hs.new (fun yy hyy => by repeat (first | exact List.mem_append_left _ hyy | exact List.mem_append_left _ (List.mem_append_right _ hyy) | exact List.mem_append_left _ (List.mem_append_left _ hyy) | refine List.mem_append_right _ ?_ | refine List.Mem.tail _ ?_)) hab.2) (cd.1) (cd.2) hcd.2 (IntsAt.g (x := (cd.1, cd.2)) hs.new (fun yy hyy => by repeat (first | exact List.mem_append_left _ hyy | exact List.mem_append_left _ (List.mem_append_right _ hyy) | exact List.mem_append_left _ (List.mem_append_left _ hyy) | refine List.mem_append_right _ ?_ | refine List.Mem.tail _ ?_)) hcd.2) hab.1.len hcd.1.len) rfl (by decide) (fun _ _ => ?_)
                  refine TL.pure (PV.eqlB rfl rfl Tb.bool_4) rfl (by decide) ?_
                  refine TL.pure (PV.pickT rfl rfl) rfl (by decide) ?_
                  refine TL.pure (PV.move rfl) rfl (by decide) ?_
                  first | refine TL.splitD 130 rfl (fun h12 => ?_) (fun h12 => ?_) | refine TL.split 130 rfl (fun h12 => ?_) (fun h12 => ?_)
                  · skip
                    refine TL.pure (PV.move rfl) rfl (by decide) ?_
                    refine TL.pure (PV.eql rfl rfl) rfl (by decide) ?_
                    refine TL.pure (PV.pickT rfl rfl) rfl (by decide) ?_
                    refine TL.pure (PV.move rfl) rfl (by decide) ?_
                    first | refine TL.splitD 134 rfl (fun h13 => ?_) (fun h13 => ?_) | refine TL.split 134 rfl (fun h13 => ?_) (fun h13 => ?_)
                    · skip
                      refine TL.pure (PV.fieldAddr rfl Tb.fo_53_0) rfl (by decide) ?_
                      refine TL.pure (PV.load rfl Tb.one_23 (by repeat (first | exact List.Mem.head _ | refine List.Mem.tail _ ?_ | refine List.mem_append_right _ ?_)) rfl) rfl (by decide) ?_
                      refine TL.call rfl Tb.gofn_33 (fun a w hs => total_ok w _ _ xs (hx.new hs.new) _ rfl hxo (fun k => by have := (giv_ne g1).2 k; omega)) rfl (by decide) (fun _ _ => ?_)
                      refine TL.pure (PV.move rfl) rfl (by decide) ?_
                      refine TL.call rfl Tb.gofn_33 (fun a w hs => (by rw [gval_eq (show gok y9.1 y9.2.2.1.length 1 (ival y9.2.2.1) from hy9.2.1)]; exact total_ok w _ _ y9.2.2.1 (IntsAt.g (x := (y9.1, y9.2.2.1)) hs.new (fun yy hyy => by repeat (first | exact List.mem_append_left _ hyy | exact List.mem_append_left _ (List.mem_append_right _ hyy) | exact List.mem_append_left _ (List.mem_append_left _ hyy) | refine List.mem_append_right _ ?_ | refine List.Mem.tail _ ?_)) hy9.2.1) y9.2.2.1.length rfl hy9.1.len.1 (hy9.1.bd g1).1)) rfl (by decide) (fun _ _ => ?_)
                      refine TL.pure (PV.move rfl) rfl (by decide) ?_
                      refine TL.pure (PV.add rfl rfl (by have k5 := k4 g1; omega)) rfl (by decide) ?_
                      refine TL.pure (PV.eql rfl rfl) rfl (by decide) ?_
                      refine TL.pure (PV.pickT rfl rfl) rfl (by decide) ?_
                      refine TL.pure (PV.move rfl) rfl (by decide) ?_
                      first | refine TL.splitD 144 rfl (fun h14 => ?_) (fun h14 => ?_) | refine TL.split 144 rfl (fun h14 => ?_) (fun h14 => ?_)
                      · skip
                        refine TL.pure (PV.move rfl) rfl (by decide) ?_
                        refine TL.pure (PV.eql rfl rfl) rfl (by decide) ?_
                        refine TL.pure (PV.pickT rfl rfl) rfl (by decide) ?_
                        refine TL.pure (PV.move rfl) rfl (by decide) ?_
                        first | refine TL.splitD 148 rfl (fun h15 => ?_) (fun h15 => ?_) | refine TL.split 148 rfl (fun h15 => ?_) (fun h15 => ?_)
                        · skip
                          refine TL.pure (PV.move rfl) rfl (by decide) ?_
                          refine TL.pure (PV.move rfl) rfl (by decide) ?_
                          refine TL.call rfl Tb.gofn_30 (fun a w hs => sameGG w (ag.1) (ag.2) hag.2 (IntsAt.g (x := (ag.1, ag.2)) hs.new (fun yy hyy => by repeat (first | exact List.mem_append_left _ hyy | exact List.mem_append_left _ (List.mem_append_right _ hyy) | exact List.mem_append_left _ (List.mem_append_left _ hyy) | refine List.mem_append_right _ ?_ | refine List.Mem.tail _ ?_)) hag.2) (ab.1) (ab.2) hab.2 (IntsAt.g (x := (ab.1, ab.2)) hs.new (fun yy hyy => by repeat (first | exact List.mem_append_left _ hyy | exact List.mem_append_left _ (List.mem_append_right _ hyy) | exact List.mem_append_left _ (List.mem_append_left _ hyy) | refine List.mem_append_right _ ?_ | refine List.Mem.tail _ ?_)) hab.2) hag.1.len hab.1.len) rfl (by decide) (fun _ _ => ?_)
                          refine TL.pure (PV.pickT rfl rfl) rfl (by decide) ?_
                          refine TL.pure (PV.move rfl) rfl (by decide) ?_
                          first | refine TL.splitD 153 rfl (fun h16 => ?_) (fun h16 => ?_) | refine TL.split 153 rfl (fun h16 => ?_) (fun h16 => ?_)
                          · skip
                            refine TL.pure (PV.move rfl) rfl (by decide) ?_
                            refine TL.pure (PV.eql rfl rfl) rfl (by decide) ?_
                            refine TL.pure (PV.pickT rfl rfl) rfl (by decide) ?_
                            refine TL.pure (PV.move rfl) rfl (by decide) ?_
                            first | refine TL.splitD 157 rfl (fun h17 => ?_) (fun h17 => ?_) | refine TL.split 157 rfl (fun h17 => ?_) (fun h17 => ?_)
                            · skip
                              refine TL.pure (PV.move rfl) rfl (by decide) ?_
                              refine TL.pure (PV.lenG rfl hbu.2 Tb.sl_23) rfl (by decide) ?_
                              refine TL.pure (PV.move rfl) rfl (by decide) ?_
                              refine TL.pure (PV.lenG rfl hab.2 Tb.sl_23) rfl (by decide) ?_
                              refine TL.pure (PV.eql rfl rfl) rfl (by decide) ?_
                              refine TL.pure (PV.pickT rfl rfl) rfl (by decide) ?_
                              refine TL.pure (PV.assign rfl) rfl (by decide) ?_
                              refine TL.nil ?_
                              refine TQ.thenC ?_
                              refine TC.ret ?_
                              refine TQ.retE1 rfl rfl ?_
                              first | exact ⟨(), rfl, trivial, List.nil_sublist _⟩ | (refine ⟨(), ?_, trivial, List.nil_sublist _⟩; simp [e6]; done) | (exfalso; omega) | (exfalso; clear hS hsC hab hcd hy9 hag hbu k3 k4 g1_; simp_all; done) | (rcases htb with ⟨h7, h8⟩ | ⟨h7, h8⟩ <;> first | exact ⟨(), rfl, trivial, List.nil_sublist _⟩ | (exfalso; simp_all; done) | (refine ⟨(), ?_, trivial, List.nil_sublist _⟩; simp_all; done)) | (exfalso; simp_all; done)
                            · skip
                              refine TL.skip rfl (fun k hk => by cases hk; decide) ?_
                              refine TL.skip rfl (fun k hk => by cases hk; decide) ?_
                              refine TL.skip rfl (fun k hk => by cases hk; decide) ?_
                              refine TL.skip rfl (fun k hk => by cases hk; decide) ?_
                              refine TL.skip rfl (fun k hk => by cases hk; decide) ?_
                              refine TL.pure (PV.pickF rfl rfl) rfl (by decide) ?_
                              refine TL.pure (PV.assign rfl) rfl (by decide) ?_
                              refine TL.nil ?_
                              refine TQ.thenC ?_
                              refine TC.ret ?_
                              refine TQ.retE1 rfl rfl ?_
                              first | exact ⟨(), rfl, trivial, List.nil_sublist _⟩ | (refine ⟨(), ?_, trivial, List.nil_sublist _⟩; simp [e6]; done) | (exfalso; omega) | (exfalso; clear hS hsC hab hcd hy9 hag hbu k3 k4 g1_; simp_all; done) | (rcases htb with ⟨h7, h8⟩ | ⟨h7, h8⟩ <;> first | exact ⟨(), rfl, trivial, List.nil_sublist _⟩ | (exfalso; simp_all; done) | (refine ⟨(), ?_, trivial, List.nil_sublist _⟩; simp_all; done)) | (exfalso; simp_all; done)
                          · skip
                            refine TL.skip rfl (fun k hk => by cases hk; decide) ?_
                            refine TL.skip rfl (fun k hk => by cases hk; decide) ?_
                            refine TL.pure (PV.pickF rfl rfl) rfl (by decide) ?_
                            refine TL.pure (PV.move rfl) rfl (by decide) ?_
                            refine TL.skip rfl (fun k hk => by cases hk; decide) ?_
                            refine TL.skip rfl (fun k hk => by cases hk; decide) ?_
                            refine TL.skip rfl (fun k hk => by cases hk; decide) ?_
                            refine TL.skip rfl (fun k hk => by cases hk; decide) ?_
                            refine TL.skip rfl (fun k hk => by cases hk; decide) ?_
                            refine TL.pure (PV.pickF rfl rfl) rfl (by decide) ?_
                            refine TL.pure (PV.assign rfl) rfl (by decide) ?_
                            refine TL.nil ?_
                            refine TQ.thenC ?_
                            refine TC.ret ?_
                            refine TQ.retE1 rfl rfl ?_
                            first | exact ⟨(), rfl, trivial, List.nil_sublist _⟩ | (refine ⟨(), ?_, trivial, List.nil_sublist _⟩; simp [e6]; done) | (exfalso; omega) | (exfalso; clear hS hsC hab hcd hy9 hag hbu k3 k4 g1_; simp_all; done) | (rcases htb with ⟨h7, h8⟩ | ⟨h7, h8⟩ <;> first | exact ⟨(), rfl, trivial, List.nil_sublist _⟩ | (exfalso; simp_all; done) | (refine ⟨(), ?_, trivial, List.nil_sublist _⟩; simp_all; done)) | (exfalso; simp_all; done)
                        · skip
                          refine TL.skip rfl (fun k hk => by cases hk; decide) ?_
                          refine TL.skip rfl (fun k hk => by cases hk; decide) ?_
                          refine TL.skip rfl (fun k hk => by cases hk; decide) ?_
                          refine TL.pure (PV.pickF rfl rfl) rfl (by decide) ?_
                          refine TL.pure (PV.move rfl) rfl (by decide) ?_
                          refine TL.skip rfl (fun k hk => by cases hk; decide) ?_
                          refine TL.skip rfl (fun k hk => by cases hk; decide) ?_
                          refine TL.pure (PV.pickF rfl rfl) rfl (by decide) ?_
                          refine TL.pure (PV.move rfl) rfl (by decide) ?_
                          refine TL.skip rfl (fun k hk => by cases hk; decide) ?_
                          refine TL.skip rfl (fun k hk => by cases hk; decide) ?_
                          refine TL.skip rfl (fun k hk => by cases hk; decide) ?_
                          refine TL.skip rfl (fun k hk => by cases hk; decide) ?_
                          refine TL.skip rfl (fun k hk => by cases hk; decide) ?_
                          refine TL.pure (PV.pickF rfl rfl) rfl (by decide) ?_
                          refine TL.pure (PV.assign rfl) rfl (by decide) ?_
                          refine TL.nil ?_
                          refine TQ.thenC ?_
                          refine TC.ret ?_
                          refine TQ.retE1 rfl rfl ?_
                          first | exact ⟨(), rfl, trivial, List.nil_sublist _⟩ | (refine ⟨(), ?_, trivial, List.nil_sublist _⟩; simp [e6]; done) | (exfalso; omega) | (exfalso; clear hS hsC hab hcd hy9 hag hbu k3 k4 g1_; simp_all; done) | (rcases htb with ⟨h7, h8⟩ | ⟨h7, h8⟩ <;> first | exact ⟨(), rfl, trivial, List.nil_sublist _⟩ | (exfalso; simp_all; done) | (refine ⟨(), ?_, trivial, List.nil_sublist _⟩; simp_all; done)) | (exfalso; simp_all; done)
                      · skip
                        refine TL.skip rfl (fun k hk => by cases hk; decide) ?_
                        refine TL.skip rfl (fun k hk => by cases hk; decide) ?_
                        refine TL.pure (PV.pickF rfl rfl) rfl (by decide) ?_
                        refine TL.pure (PV.move rfl) rfl (by decide) ?_
                        refine TL.skip rfl (fun k hk => by cases hk; decide) ?_
                        refine TL.skip rfl (fun k hk => by cases hk; decide) ?_
                        refine TL.skip rfl (fun k hk => by cases hk; decide) ?_
                        refine TL.pure (PV.pickF rfl rfl) rfl (by decide) ?_
                        refine TL.pure (PV.move rfl) rfl (by decide) ?_
                        refine TL.skip rfl (fun k hk => by cases hk; decide) ?_
                        refine TL.skip rfl (fun k hk => by cases hk; decide) ?_
                        refine TL.pure (PV.pickF rfl rfl) rfl (by decide) ?_
                        refine TL.pure (PV.move rfl) rfl (by decide) ?_
                        refine TL.skip rfl (fun k hk => by cases hk; decide) ?_
                        refine TL.skip rfl (fun k hk => by cases hk; decide) ?_
                        refine TL.skip rfl (fun k hk => by cases hk; decide) ?_
                        refine TL.skip rfl (fun k hk => by cases hk; decide) ?_
                        refine TL.skip rfl (fun k hk => by cases hk; decide) ?_
                        refine TL.pure (PV.pickF rfl rfl) rfl (by decide) ?_
                        refine TL.pure (PV.assign rfl) rfl (by decide) ?_
                        refine TL.nil ?_
                        refine TQ.thenC ?_
                        refine TC.ret ?_
                        refine TQ.retE1 rfl rfl ?_
                        first | exact ⟨(), rfl, trivial, List.nil_sublist _⟩ | (refine ⟨(), ?_, trivial, List.nil_sublist _⟩; simp [e6]; done) | (exfalso; omega) | (exfalso; clear hS hsC hab hcd hy9 hag hbu k3 k4 g1_; simp_all; done) | (rcases htb with ⟨h7, h8⟩ | ⟨h7, h8⟩ <;> first | exact ⟨(), rfl, trivial, List.nil_sublist _⟩ | (exfalso; simp_all; done) | (refine ⟨(), ?_, trivial, List.nil_sublist _⟩; simp_all; done)) | (exfalso; simp_all; done)
                    · skip
                      refine TL.skip rfl (fun k hk => by cases hk; decide) ?_
                      refine TL.skip rfl (fun k hk => by cases hk; decide) ?_
                      refine TL.skip rfl (fun k hk => by cases hk; decide) ?_
                      refine TL.skip rfl (fun k hk => by cases hk; decide) ?_
                      refine TL.skip rfl (fun k hk => by cases hk; decide) ?_
                      refine TL.skip rfl (fun k hk => by cases hk; decide) ?_
                      refine TL.skip rfl (fun k hk => by cases hk; decide) ?_
                      refine TL.skip rfl (fun k hk => by cases hk; decide) ?_
                      refine TL.pure (PV.pickF rfl rfl) rfl (by decide) ?_
                      refine TL.pure (PV.move rfl) rfl (by decide) ?_
                      refine TL.skip rfl (fun k hk => by cases hk; decide) ?_
                      refine TL.skip rfl (fun k hk => by cases hk; decide) ?_
                      refine TL.pure (PV.pickF rfl rfl) rfl (by decide) ?_
                      refine TL.pure (PV.move rfl) rfl (by decide) ?_
                      refine TL.skip rfl (fun k hk => by cases hk; decide) ?_
                      refine TL.skip rfl (fun k hk => by cases hk; decide) ?_
                      refine TL.skip rfl (fun k hk => by cases hk; decide) ?_
                      refine TL.pure (PV.pickF rfl rfl) rfl (by decide) ?_
                      refine TL.pure (PV.move rfl) rfl (by decide) ?_
                      refine TL.skip rfl (fun k hk => by cases hk; decide) ?_
                      refine TL.skip rfl (fun k hk => by cases hk; decide) ?_
                      refine TL.pure (PV.pickF rfl rfl) rfl (by decide) ?_
                      refine TL.pure (PV.move rfl) rfl (by decide) ?_
                      refine TL.skip rfl (fun k hk => by cases hk; decide) ?_
                      refine TL.skip rfl (fun k hk => by cases hk; decide) ?_
                      refine TL.skip rfl (fun k hk => by cases hk; decide) ?_
                      refine TL.skip rfl (fun k hk => by cases hk; decide) ?_
                      refine TL.skip rfl (fun k hk => by cases hk; decide) ?_
                      refine TL.pure (PV.pickF rfl rfl) rfl (by decide) ?_
                      refine TL.pure (PV.assign rfl) rfl (by decide) ?_
                      refine TL.nil ?_
                      refine TQ.thenC ?_
                      refine TC.ret ?_
                      refine TQ.retE1 rfl rfl ?_
                      first | exact ⟨(), rfl, trivial, List.nil_sublist _⟩ | (refine ⟨(), ?_, trivial, List.nil_sublist _⟩; simp [e6]; done) | (exfalso; omega) | (exfalso; clear hS hsC hab hcd hy9 hag hbu k3 k4 g1_; simp_all; done) | (rcases htb with ⟨h7, h8⟩ | ⟨h7, h8⟩ <;> first | exact ⟨(), rfl, trivial, List.nil_sublist _⟩ | (exfalso; simp_all; done) | (refine ⟨(), ?_, trivial, List.nil_sublist _⟩; simp_all; done)) | (exfalso; simp_all; done)
                  · skip
                    refine TL.skip rfl (fun k hk => by cases hk; decide) ?_
                    refine TL.skip rfl (fun k hk => by cases hk; decide) ?_
                    refine TL.pure (PV.pickF rfl rfl) rfl (by decide) ?_
                    refine TL.pure (PV.move rfl) rfl (by decide) ?_
                    refine TL.skip rfl (fun k hk => by cases hk; decide) ?_
                    refine TL.skip rfl (fun k hk => by cases hk; decide) ?_
                    refine TL.skip rfl (fun k hk => by cases hk; decide) ?_
                    refine TL.skip rfl (fun k hk => by cases hk; decide) ?_
                    refine TL.skip rfl (fun k hk => by cases hk; decide) ?_
                    refine TL.skip rfl (fun k hk => by cases hk; decide) ?_
                    refine TL.skip rfl (fun k hk => by cases hk; decide) ?_
                    refine TL.skip rfl (fun k hk => by cases hk; decide) ?_
                    refine TL.pure (PV.pickF rfl rfl) rfl (by decide) ?_
                    refine TL.pure (PV.move rfl) rfl (by decide) ?_
                    refine TL.skip rfl (fun k hk => by cases hk; decide) ?_
                    refine TL.skip rfl (fun k hk => by cases hk; decide) ?_
                    refine TL.pure (PV.pickF rfl rfl) rfl (by decide) ?_
                    refine TL.pure (PV.move rfl) rfl (by decide) ?_
                    refine TL.skip rfl (fun k hk => by cases hk; decide) ?_
                    refine TL.skip rfl (fun k hk => by cases hk; decide) ?_
                    refine TL.skip rfl (fun k hk => by cases hk; decide) ?_
                    refine TL.pure (PV.pickF rfl rfl) rfl (by decide) ?_
                    refine TL.pure (PV.move rfl) rfl (by decide) ?_
                    refine TL.skip rfl (fun k hk => by cases hk; decide) ?_
                    refine TL.skip rfl (fun k hk => by cases hk; decide) ?_
                    refine TL.pure (PV.pickF rfl rfl) rfl (by decide) ?_
                    refine TL.pure (PV.move rfl) rfl (by decide) ?_
                    refine TL.skip rfl (fun k hk => by cases hk; decide) ?_
                    refine TL.skip rfl (fun k hk => by cases hk; decide) ?_
                    refine TL.skip rfl (fun k hk => by cases hk; decide) ?_
                    refine TL.skip rfl (fun k hk => by cases hk; decide) ?_
                    refine TL.skip rfl (fun k hk => by cases hk; decide) ?_
                    refine TL.pure (PV.pickF rfl rfl) rfl (by decide) ?_
                    refine TL.pure (PV.assign rfl) rfl (by decide) ?_
                    refine TL.nil ?_
                    refine TQ.thenC ?_
                    refine TC.ret ?_
                    refine TQ.retE1 rfl rfl ?_
                    first | exact ⟨(), rfl, trivial, List.nil_sublist _⟩ | (refine ⟨(), ?_, trivial, List.nil_sublist _⟩; simp [e6]; done) | (exfalso; omega) | (exfalso; clear hS hsC hab hcd hy9 hag hbu k3 k4 g1_; simp_all; done) | (rcases htb with ⟨h7, h8⟩ | ⟨h7, h8⟩ <;> first | exact ⟨(), rfl, trivial, List.nil_sublist _⟩ | (exfalso; simp_all; done) | (refine ⟨(), ?_, trivial, List.nil_sublist _⟩; simp_all; done)) | (exfalso; simp_all; done)
                · skip
                  refine TL.skip rfl (fun k hk => by cases hk; decide) ?_
                  refine TL.skip rfl (fun k hk => by cases hk; decide) ?_
                  refine TL.skip rfl (fun k hk => by cases hk; decide) ?_
                  refine TL.skip rfl (fun k hk => by cases hk; decide) ?_
                  refine TL.skip rfl (fun k hk => by cases hk; decide) ?_
                  refine TL.pure (PV.pickF rfl rfl) rfl (by decide) ?_
                  refine TL.pure (PV.move rfl) rfl (by decide) ?_
                  refine TL.skip rfl (fun k hk => by cases hk; decide) ?_
                  refine TL.skip rfl (fun k hk => by cases hk; decide) ?_
                  refine TL.pure (PV.pickF rfl rfl) rfl (by decide) ?_
                  refine TL.pure (PV.move rfl) rfl (by decide) ?_
                  refine TL.skip rfl (fun k hk => by cases hk; decide) ?_
                  refine TL.skip rfl (fun k hk => by cases hk; decide) ?_
                  refine TL.skip rfl (fun k hk => by cases hk; decide) ?_
                  refine TL.skip rfl (fun k hk => by cases hk; decide) ?_
                  refine TL.skip rfl (fun k hk => by cases hk; decide) ?_
                  refine TL.skip rfl (fun k hk => by cases hk; decide) ?_
                  refine TL.skip rfl (fun k hk => by cases hk; decide) ?_
                  refine TL.skip rfl (fun k hk => by cases hk; decide) ?_
                  refine TL.pure (PV.pickF rfl rfl) rfl (by decide) ?_
                  refine TL.pure (PV.move rfl) rfl (by decide) ?_
                  refine TL.skip rfl (fun k hk => by cases hk; decide) ?_
                  refine TL.skip rfl (fun k hk => by cases hk; decide) ?_
                  refine TL.pure (PV.pickF rfl rfl) rfl (by decide) ?_
                  refine TL.pure (PV.move rfl) rfl (by decide) ?_
                  refine TL.skip rfl (fun k hk => by cases hk; decide) ?_
                  refine TL.skip rfl (fun k hk => by cases hk; decide) ?_
                  refine TL.skip rfl (fun k hk => by cases hk; decide) ?_
                  refine TL.pure (PV.pickF rfl rfl) rfl (by decide) ?_
                  refine TL.pure (PV.move rfl) rfl (by decide) ?_
                  refine TL.skip rfl (fun k hk => by cases hk; decide) ?_
                  refine TL.skip rfl (fun k hk => by cases hk; decide) ?_
                  refine TL.pure (PV.pickF rfl rfl) rfl (by decide) ?_
                  refine TL.pure (PV.move rfl) rfl (by decide) ?_
                  refine TL.skip rfl (fun k hk => by cases hk; decide) ?_
                  refine TL.skip rfl (fun k hk => by cases hk; decide) ?_
                  refine TL.skip rfl (fun k hk => by cases hk; decide) ?_
                  refine TL.skip rfl (fun k hk => by cases hk; decide) ?_
                  refine TL.skip rfl (fun k hk => by cases hk; decide) ?_
                  refine TL.pure (PV.pickF rfl rfl) rfl (by decide) ?_
                  refine TL.pure (PV.assign rfl) rfl (by decide) ?_
                  refine TL.nil ?_
                  refine TQ.thenC ?_
                  refine TC.ret ?_
                  refine TQ.retE1 rfl rfl ?_
                  first | exact ⟨(), rfl, trivial, List.nil_sublist _⟩ | (refine ⟨(), ?_, trivial, List.nil_sublist _⟩; simp [e6]; done) | (exfalso; omega) | (exfalso; clear hS hsC hab hcd hy9 hag hbu k3 k4 g1_; simp_all; done) | (rcases htb with ⟨h7, h8⟩ | ⟨h7, h8⟩ <;> first | exact ⟨(), rfl, trivial, List.nil_sublist _⟩ | (exfalso; simp_all; done) | (refine ⟨(), ?_, trivial, List.nil_sublist _⟩; simp_all; done)) | (exfalso; simp_all; done)

end Go.Proofs.Ytgafpkcnhpoobaa
