/- A flow put into ways and rounds: what stays true from round to round. -/
import Derived.Test.YtnlbngbbddhgeaaQHb
import Derived.Test.YtnlbngbbddhgeaaQHe
set_option linter.unusedVariables false
set_option linter.unusedSimpArgs false
namespace Go.Proofs.Ytnlbngbbddhgeaa
open Go.Sx Go.RowKit

theorem cfL_len (rs : List Bd) (fs : List Int) : (cfL rs fs).length = rs.length := mkL_len _ _
def bkE (s t : Nat) (v : Int) : Fl.E := ⟨t, s, v, v⟩
/-- The flow and the drain that takes its value back. -/
def spL (s t : Nat) (rs : List Bd) (fs : List Int) : List Fl.E := cfL rs fs ++ [bkE s t (Fl.out s (cfL rs fs))]
theorem spL_len (s t : Nat) (rs : List Bd) (fs : List Int) : (spL s t rs fs).length = rs.length + 1 := by simp [spL, cfL_len]
theorem spL_at {s t : Nat} {rs : List Bd} {fs : List Int} {k : Nat} (hk : k < rs.length) : (spL s t rs fs).getD k default = mkE (rs.getD k default) (fs.getD k 0) := by
  unfold spL
  rw [List.getD_eq_getElem?_getD, List.getElem?_append_left (by rw [cfL_len]; exact hk), ← List.getD_eq_getElem?_getD]
  exact mkL_getD hk
theorem spL_bk {s t : Nat} {rs : List Bd} {fs : List Int} : (spL s t rs fs).getD rs.length default = bkE s t (Fl.out s (cfL rs fs)) := by
  unfold spL
  rw [List.getD_eq_getElem?_getD, List.getElem?_append_right (by rw [cfL_len]; exact Nat.le_refl _), cfL_len]; simp
theorem bal_not (t : Nat) : ∀ L : List Fl.E, Fl.bal (fun u => decide (u ≠ t)) L = -Fl.out t L
  | [] => rfl
  | e :: l => by
    have ih := bal_not t l
    simp only [Fl.bal, Fl.out, ih]
    by_cases h1 : e.f = t <;> by_cases h2 : e.t = t <;> simp [h1, h2] <;> omega
theorem out_sink {n s t : Nat} {L : List Fl.E} (h : Fl.Flow n s t L) (hst : s ≠ t) : Fl.out t L = -Fl.out s L := by
  have h1 := h.val (S := fun u => decide (u ≠ t)) (by simpa using hst) (by simp)
  rw [bal_not] at h1; omega
structure SI (n s t : Nat) (rs : List Bd) (fs : List Int) (L : List Fl.E) (ts : List TV) : Prop where
  len : L.length = rs.length + 1
  same : ∀ k, Fl.same (L.getD k default) ((spL s t rs fs).getD k default)
  cir : Fl.Cir n L
  cnt : ts.length + Fl.cntR L ≤ rs.length + 1
  ok : ∀ tv ∈ ts, trOK s t rs tv = true ∧ tv.ks.length ≤ 16
  sum : ∀ k, k < rs.length → (sumT rs ts).getD k 0 + (L.getD k default).r = fs.getD k 0
  b20 : ∀ k, k < rs.length → (L.getD k default).r ≤ 20
  b400 : ∀ k, 0 ≤ (L.getD k default).r ∧ (L.getD k default).r ≤ 400
theorem getD_r {L : List Fl.E} (h : ∀ e ∈ L, 0 ≤ e.r ∧ e.r ≤ 400) (k : Nat) : 0 ≤ (L.getD k default).r ∧ (L.getD k default).r ≤ 400 := by
  by_cases hk : k < L.length
  · exact h _ (Fl.mem_get hk)
  · have : L.getD k default = default := by simp [List.getD, hk]
    rw [this]
    exact ⟨Int.le_refl _, by decide⟩
theorem SI.start {n s t : Nat} {rs : List Bd} {fs : List Int} (hv : Vd n s t rs) (hf : Fl.Flow n s t (cfL rs fs)) (h0 : 0 ≤ Fl.out s (cfL rs fs)) (hb : ∀ j, j < rs.length → 0 ≤ fs.getD j 0 ∧ fs.getD j 0 ≤ 20) : SI n s t rs fs (spL s t rs fs) [] := by
  have hw := hv.w1
  have hle : Fl.out s (cfL rs fs) ≤ 320 := by
    have := take_bd hb rs.length s hv.len
    rw [List.take_of_length_le (by rw [mkL_len]; exact Nat.le_refl _)] at this
    exact this.2
  have hmem : ∀ e ∈ spL s t rs fs, (e.f < n ∧ e.t < n) ∧ e.f ≠ e.t ∧ 0 ≤ e.r ∧ e.r ≤ 400 := fun e he => by
    rcases List.mem_append.1 he with h | h
    · obtain ⟨k, hk, rfl⟩ := mkL_mem h
      have h1 := hv.at hk
      have h2 := hb k hk
      simp only [mkE]; omega
    · rw [List.mem_singleton.1 h]
      have := hw.sn; have := hw.tn; have := hw.st
      simp only [bkE]; omega
  refine ⟨spL_len _ _ _ _, fun k => ⟨rfl, rfl, rfl⟩, ⟨fun e he => (hmem e he).1, fun e he => (hmem e he).2.1, fun e he => (hmem e he).2.2.1, fun u hu => ?_⟩, ?_, fun tv h => absurd h List.not_mem_nil, fun k hk => ?_, fun k hk => ?_, getD_r fun e he => (hmem e he).2.2⟩
  · unfold spL
    rw [out_snoc]
    show Fl.out u (cfL rs fs) + ((if t = u then Fl.out s (cfL rs fs) else 0) - (if s = u then Fl.out s (cfL rs fs) else 0)) = 0
    have hst := hw.st
    by_cases e1 : u = s
    · subst e1; rw [if_neg (fun e => hst e.symm), if_pos rfl]; omega
    · by_cases e2 : u = t
      · subst e2; rw [if_pos rfl, if_neg (fun e => e1 e.symm), out_sink hf hst]; omega
      · rw [if_neg (fun e => e2 e.symm), if_neg (fun e => e1 e.symm), hf.kp u hu e1 e2]; rfl
  · have := Fl.cntR_len (spL s t rs fs)
    rw [spL_len] at this
    simpa using this
  · have e1 : (sumT rs []).getD k 0 = 0 := rep_0 _ _
    rw [e1, spL_at hk]; simp [mkE]
  · rw [spL_at hk]; exact (hb k hk).2
/-- The list of a trail: a round as it is, or what is left of it behind the drain m and before it. -/
def trK (m : Nat) (ks : List Nat) (A B : List Nat) (o : Bool) : List Nat := if o = true then B ++ A else ks
theorem pth_of {rs : List Bd} {L : List Fl.E} (hs : ∀ k, k < rs.length → (L.getD k default).f = (rs.getD k default).a.toNat ∧ (L.getD k default).t = (rs.getD k default).b.toNat) (hab : ∀ k, k < rs.length → 0 ≤ (rs.getD k default).a ∧ 0 ≤ (rs.getD k default).b)
    {u v : Nat} {tr : List Nat} (hp : Fl.Pt L u tr v) (h0 : 0 < tr.length) (hn : tr.Nodup) (hlt : ∀ k ∈ tr, k < rs.length) {am : Int} (ha : 1 ≤ am ∧ am ≤ 20) : pthB rs (nI tr) am = true ∧ eA rs (nI tr) = u ∧ eB rs (nI tr) = v := by
  have hg : ∀ j, j < tr.length → (nI tr).getD j 0 = (tr.getD j 0 : Nat) ∧ tr.getD j 0 < rs.length := fun j hj => ⟨nI_get hj, hlt _ (by simp [List.getD, hj])⟩
  refine ⟨pth_yes ⟨fun e => by have := congrArg List.length e; rw [nI_len] at this; simp at this; rw [this] at h0; simp at h0, ha⟩ (List.all_eq_true.2 fun j hj => ?_), ?_, ?_⟩
  · have hj1 := List.mem_range.1 hj
    rw [nI_len] at hj1
    obtain ⟨g1, g2⟩ := hg j hj1
    refine decide_eq_true ⟨by rw [g1]; omega, ?_, ?_⟩
    · rw [g1]
      intro hm
      unfold nI at hm
      rw [← List.map_take, List.mem_map] at hm
      obtain ⟨x, hx, e⟩ := hm
      have e2 : x = tr.getD j 0 := by omega
      rw [e2] at hx
      obtain ⟨i, hi, e3⟩ := List.getElem_of_mem hx
      rw [List.length_take] at hi
      rw [List.getElem_take] at e3
      refine absurd ?_ (List.pairwise_iff_getElem.1 hn i j (by omega) hj1 (by omega))
      rw [e3, List.getD_eq_getElem?_getD, List.getElem?_eq_getElem hj1]; rfl
    · by_cases e : j = 0
      · exact .inl e
      · right
        obtain ⟨g3, g4⟩ := hg (j - 1) (by omega)
        have h1 := hp.next (j - 1) (by omega)
        rw [show j - 1 + 1 = j from by omega, (hs _ g4).2, (hs _ g2).1] at h1
        have b1 := hab _ g4; have b2 := hab _ g2
        rw [g1, g3]
        show (rs.getD (((tr.getD (j - 1) 0 : Nat) : Int)).toNat default).b = (rs.getD (((tr.getD j 0 : Nat) : Int)).toNat default).a
        rw [Int.toNat_natCast, Int.toNat_natCast]; omega
  · obtain ⟨g1, g2⟩ := hg 0 h0
    have h1 := hp.first h0
    rw [(hs _ g2).1] at h1
    have b1 := hab _ g2
    unfold eA; rw [g1]
    show (rs.getD (((tr.getD 0 0 : Nat) : Int)).toNat default).a = _
    rw [Int.toNat_natCast]; omega
  · obtain ⟨g1, g2⟩ := hg (tr.length - 1) (by omega)
    have h1 := hp.last h0
    rw [(hs _ g2).2] at h1
    have b1 := hab _ g2
    unfold eB; rw [nI_len, g1]
    show (rs.getD (((tr.getD (tr.length - 1) 0 : Nat) : Int)).toNat default).b = _
    rw [Int.toNat_natCast]; omega
theorem addK_get {am : Int} {xs : List Int} {v k : Nat} (hv : v < xs.length) : (addK am xs (v : Int)).getD k 0 = xs.getD k 0 + if k = v then am else 0 := by
  unfold addK
  rw [Int.toNat_natCast, List.getD_eq_getElem?_getD, List.getElem?_set]
  by_cases e : v = k
  · subst e; rw [if_pos rfl, if_pos hv, if_pos rfl]; rfl
  · rw [if_neg e, if_neg (fun h => e h.symm), ← List.getD_eq_getElem?_getD]; omega
theorem addF_get (am : Int) : ∀ (tr : List Nat) (xs : List Int) (k : Nat), tr.Nodup → (∀ j ∈ tr, j < xs.length) → ((nI tr).foldl (addK am) xs).getD k 0 = xs.getD k 0 + if k ∈ tr then am else 0
  | [], xs, k, _, _ => by simp [nI]
  | v :: tr, xs, k, hn, hl => by
    have hn2 := List.nodup_cons.1 hn
    have hv := hl v List.mem_cons_self
    have e : (nI (v :: tr)).foldl (addK am) xs = (nI tr).foldl (addK am) (addK am xs (v : Int)) := rfl
    rw [e, addF_get am tr _ k hn2.2 (fun j hj => by unfold addK; rw [List.length_set]; exact hl j (List.mem_cons_of_mem _ hj)), addK_get hv]
    by_cases e1 : k = v
    · subst e1
      rw [if_pos rfl, if_neg hn2.1, if_pos List.mem_cons_self]; omega
    · rw [if_neg e1]
      by_cases h : k ∈ tr
      · rw [if_pos h, if_pos (List.mem_cons_of_mem _ h)]; omega
      · rw [if_neg h, if_neg (fun h9 => (List.mem_cons.1 h9).elim e1 h)]; omega
theorem sumT_snoc (rs : List Bd) (ts : List TV) (tv : TV) : sumT rs (ts ++ [tv]) = addT (sumT rs ts) tv := by unfold sumT; rw [List.foldl_append]; rfl
/-- One more trail. -/
theorem SI.step {n s t : Nat} {rs : List Bd} {fs : List Int} {L : List Fl.E} {ts : List TV} (hv : Vd n s t rs) (h : SI n s t rs fs L ts) {ks : List Nat} (hR : Fl.Rnd L ks) {tr : List Nat} {u v : Nat} {p : Option Addr} {c : Nat}
    (hp : Fl.Pt L u tr v) (huv : (u = s ∧ v = t) ∨ u = v) (h0 : 0 < tr.length) (hn : tr.Nodup) (hmem : ∀ k, k ∈ tr ↔ k ∈ ks ∧ k ≠ rs.length) :
    SI n s t rs fs (Fl.tak (Fl.mnR L ks) L ks) (ts ++ [⟨p, c, nI tr, Fl.mnR L ks⟩]) := by
  have hlt : ∀ k ∈ tr, k < rs.length := fun k hk => by
    have h1 := (hmem k).1 hk
    have h2 := hR.lt k h1.1
    have h3 := h.len
    omega
  have hs : ∀ k, k < rs.length → (L.getD k default).f = (rs.getD k default).a.toNat ∧ (L.getD k default).t = (rs.getD k default).b.toNat := fun k hk => by
    have h1 := h.same k
    rw [spL_at hk] at h1
    exact ⟨h1.1, h1.2.1⟩
  have hab : ∀ k, k < rs.length → 0 ≤ (rs.getD k default).a ∧ 0 ≤ (rs.getD k default).b := fun k hk => by have := hv.at hk; omega
  have ham : 1 ≤ Fl.mnR L ks ∧ Fl.mnR L ks ≤ 20 := by
    have h1 := hR.mn
    have hx : tr.getD 0 0 ∈ tr := by simp [List.getD, h0]
    have h2 := Fl.mnR_le (L := L) ((hmem _).1 hx).1
    have h3 := h.b20 _ (hlt _ hx)
    omega
  obtain ⟨p1, p2, p3⟩ := pth_of hs hab hp h0 hn hlt ham
  have hlen : tr.length ≤ 16 := by
    have := Fl.nodup_lt hn hlt
    have := hv.len; omega
  have htr := Fl.tak_r (Fl.mnR L ks) ks L
  have hr := fun j => htr j hR.wk.nodup hR.lt
  refine ⟨(Fl.tak_len _ _ _).trans h.len, fun k => ?_, h.cir.tak hR, ?_, fun tv htv => ?_, fun k hk => ?_, fun k hk => ?_, fun k => ?_⟩
  · have h1 := Fl.tak_same (Fl.mnR L ks) ks L k
    have h2 := h.same k
    exact ⟨h1.1.trans h2.1, h1.2.1.trans h2.2.1, h1.2.2.trans h2.2.2⟩
  · have h1 := hR.less
    have h2 := h.cnt
    rw [List.length_append, List.length_singleton]; omega
  · rcases List.mem_append.1 htv with h1 | h1
    · exact h.ok tv h1
    · rw [List.mem_singleton.1 h1]
      refine ⟨?_, by rw [nI_len]; exact hlen⟩
      unfold trOK
      rw [p1, Bool.true_and, Bool.or_eq_true]
      rcases huv with ⟨e1, e2⟩ | e
      · left; exact decide_eq_true ⟨by rw [p2, e1], by rw [p3, e2]⟩
      · right; exact decide_eq_true (by rw [p2, p3, e])
  · rw [sumT_snoc]
    show ((nI tr).foldl (addK (Fl.mnR L ks)) (sumT rs ts)).getD k 0 + _ = _
    rw [addF_get _ tr _ k hn (fun j hj => by rw [sumT_len]; exact hlt j hj), hr]
    have h1 := h.sum k hk
    by_cases e : k ∈ ks
    · rw [if_pos ((hmem k).2 ⟨e, by omega⟩), if_pos e]; omega
    · rw [if_neg (fun h9 => e ((hmem k).1 h9).1), if_neg e]; omega
  · rw [hr]; have := h.b20 k hk; split <;> omega
  · rw [hr]
    have h1 := h.b400 k
    by_cases e : k ∈ ks
    · rw [if_pos e]; have := Fl.mnR_le (L := L) e; omega
    · rw [if_neg e]; omega
theorem SI.round {n s t : Nat} {rs : List Bd} {fs : List Int} {L : List Fl.E} {ts : List TV} (hv : Vd n s t rs) (h : SI n s t rs fs L ts) {ks : List Nat} (hR : Fl.Rnd L ks) (hm : rs.length ∉ ks) (p : Option Addr) (c : Nat) :
    SI n s t rs fs (Fl.tak (Fl.mnR L ks) L ks) (ts ++ [⟨p, c, nI ks, Fl.mnR L ks⟩]) := by
  obtain ⟨u, hu⟩ := hR.cl
  exact h.step hv hR hu (.inr rfl) hR.ne hR.wk.nodup fun k => ⟨fun hk => ⟨hk, fun e => hm (e ▸ hk)⟩, fun hk => hk.1⟩
theorem SI.way {n s t : Nat} {rs : List Bd} {fs : List Int} {L : List Fl.E} {ts : List TV} (hv : Vd n s t rs) (h : SI n s t rs fs L ts) {A B : List Nat} (hR : Fl.Rnd L (A ++ rs.length :: B)) (p : Option Addr) (c : Nat) :
    SI n s t rs fs (Fl.tak (Fl.mnR L (A ++ rs.length :: B)) L (A ++ rs.length :: B)) (ts ++ [⟨p, c, nI (B ++ A), Fl.mnR L (A ++ rs.length :: B)⟩]) := by
  have hp := hR.cut
  have hb := h.same rs.length
  rw [spL_bk] at hb
  rw [hb.1, hb.2.1] at hp
  have hp2 : Fl.Pt L s (B ++ A) t := hp
  have hnd := hR.wk.nodup
  obtain ⟨n1, n2, n3⟩ := List.nodup_append.1 hnd
  obtain ⟨n4, n5⟩ := List.nodup_cons.1 n2
  refine h.step hv hR hp2 (.inl ⟨rfl, rfl⟩) ?_ ?_ fun k => ?_
  · rcases Nat.eq_zero_or_pos (B ++ A).length with h0 | h0
    · have : B ++ A = [] := List.length_eq_zero_iff.1 h0
      rw [this] at hp2
      exact absurd (show s = t from hp2) hv.w1.st
    · exact h0
  · exact List.nodup_append.2 ⟨n5, n1, fun a ha b hb9 e => n3 b hb9 a (List.mem_cons_of_mem _ ha) e.symm⟩
  · simp only [List.mem_append, List.mem_cons]
    constructor
    · rintro (hk | hk)
      · exact ⟨.inr (.inr hk), fun e => n4 (e ▸ hk)⟩
      · exact ⟨.inl hk, fun e => n3 k hk rs.length List.mem_cons_self e⟩
    · rintro ⟨hk | hk | hk, hne⟩
      · exact .inr hk
      · exact absurd hk hne
      · exact .inl hk
theorem SI.done {n s t : Nat} {rs : List Bd} {fs : List Int} {L : List Fl.E} {ts : List TV} (hl : fs.length = rs.length) (h : SI n s t rs fs L ts) (h0 : ∀ k, k < L.length → (L.getD k default).r ≤ 0) (hr : rs.length ≤ 16) :
    sumE s t rs ts = 0 ∧ sumT rs ts = fs ∧ ts.length ≤ 17 := by
  have h17 : ts.length ≤ 17 := by have := h.cnt; omega
  refine ⟨sumE_0 (by omega) (List.all_eq_true.2 fun tv htv => (h.ok tv htv).1), ints_ext (by rw [sumT_len, hl]) fun k hk => ?_, h17⟩
  rw [sumT_len] at hk
  have h1 := h.sum k hk
  have h2 := h0 k (by have := h.len; omega)
  have h3 := h.b400 k
  omega
/-- A trail's list stands in one of the blocks. -/
def TB (Gt : Heap) (tv : TV) : Prop := ∃ (b off : Nat) (cs : Array Value) (e : TypeId) (fr : Nat × Nat), (b, Obj.cells cs e fr) ∈ Gt ∧ tv.p = some ⟨b, off, none⟩ ∧ ∀ j, j < tv.ks.length → cs[off + j * 1]? = some (.int .i64 (tv.ks.getD j 0))
theorem TB.more {G G2 : Heap} {tv : TV} (h : TB G tv) (hs : ∀ x ∈ G, x ∈ G2) : TB G2 tv := by
  obtain ⟨b, off, cs, e, fr, h1, h2, h3⟩ := h
  exact ⟨b, off, cs, e, fr, hs _ h1, h2, h3⟩
theorem TB.ints {w0 w : World} {G : Heap} {tv : TV} (h : TB G tv) (hn : New w0 w G) : IntsAt w tv.p tv.ks := fun j hj => by
  obtain ⟨b, off, cs, e, fr, h1, h2, h3⟩ := h
  exact ⟨_, h2, by rw [add_off]; exact hn.cell h1 (h3 j hj)⟩
theorem TB.gI {h : HD} {xs : List Int} {am : Int} (ho : goI (h, xs)) (h0 : 0 < xs.length) : TB (gbI (h, xs)) ⟨gp h, gc h, xs, am⟩ := by
  cases h with
  | none => exact absurd ho.2 (by simp only [List.length_map]; omega)
  | some hh =>
    obtain ⟨b, cap, sp⟩ := hh
    refine ⟨b, 0, _, _, _, .head _, rfl, fun j hj => ?_⟩
    have hj2 : j < xs.length := hj
    rw [Nat.zero_add, Nat.mul_one]
    simp only [List.getElem?_toArray]
    rw [List.getElem?_append_left (by simpa [ival] using hj2)]
    simp [ival, List.getD, hj2]
end Go.Proofs.Ytnlbngbbddhgeaa
