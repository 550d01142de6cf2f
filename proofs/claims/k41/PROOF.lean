import PyProof.Rows.All
import Wide.All
import OpenK.AllK
import Wide.FinOn
import PyProof.EqAt
import PyProof.EqKinds
import PyProof.TupleCall
import HandS.ForMost
import HandS.Strs
import HandS.SetFor
import HandS.SortInts
import HandS.Star
import HandS.IsInst
import KE.GoesMore
import HandS.Codes
import PyProof.ReprRoads
import PyProof.StrLawsRepr
import PyProof.ReprLen
import HandS.Conv
import HandS.ForExc
import HandS.ExcInit
import HandS.ExcField
import HandS.CallSlots
import HandS.HotCalls
import KE.KExcIs
import HandS.SetBool
import PyProof.WalksMore
import HandS.TupAny
import HandS.ExcIs
import HandS.TryMany
import PySem.Challenge.RW_xorturns_k41_sums_of_lots
set_option Elab.async false
set_option linter.all false
set_option maxRecDepth 100000
set_option maxHeartbeats 4000000
namespace XT
open PySem PySem.Spec PyProof.Rows L2
/-! heaps -/
theorem same_new {H : Hp} {p : Addr} {o : HO} (h : H p = none) : Same H (upd H p o) := fun b x e => by
  rw [upd_ne (ne_of_none e h)]; exact e

/-- a stream: its own list, the list of its great cells, the list of its cells -/
structure Sm where
  s : Addr
  p : Addr
  q : Addr
  cs : List Int
structure StrmB (S : Sm) (H : Hp) (t : Int) (big : List Int) : Prop where
  hs : H S.s = some (.lst [.ref S.p, .ref S.q, .int t])
  hp : H S.p = some (.lst (big.map V.int))
  hq : H S.q = some (.lst (S.cs.map V.int))
  sp : S.s ≠ S.p
  sq : S.s ≠ S.q
  pq : S.p ≠ S.q
  ne : 0 < S.cs.length
  t0 : 0 ≤ t
def Strm (S : Sm) (H : Hp) (t : Int) : Prop := ∃ big, StrmB S H t big
def Keep (S : Sm) (H H' : Hp) : Prop := ∀ b o, b ≠ S.s → b ≠ S.p → H b = some o → H' b = some o
theorem Keep.refl (S : Sm) (H : Hp) : Keep S H H := fun _ _ _ _ h => h
theorem Keep.trans {S : Sm} {H H1 H2 : Hp} (a : Keep S H H1) (b : Keep S H1 H2) : Keep S H H2 := fun c o n1 n2 h => b c o n1 n2 (a c o n1 n2 h)
theorem Keep.of {S : Sm} {H H' : Hp} (a : Same H H') : Keep S H H' := fun c o _ _ h => a c o h
theorem StrmB.same {S : Sm} {H H' : Hp} {t : Int} {big : List Int} (h : StrmB S H t big) (e : Same H H') : StrmB S H' t big :=
  ⟨e _ _ h.hs, e _ _ h.hp, e _ _ h.hq, h.sp, h.sq, h.pq, h.ne, h.t0⟩
theorem Strm.same {S : Sm} {H H' : Hp} {t : Int} (h : Strm S H t) (e : Same H H') : Strm S H' t := let ⟨b, h⟩ := h; ⟨b, h.same e⟩
theorem Strm.ns {S : Sm} {H : Hp} {t : Int} {b : Addr} {xs : List V} (h : Strm S H t) (e : H b = some (.tup xs)) : b ≠ S.s := by
  obtain ⟨_, h⟩ := h
  exact ne_of e h.hs (by intro z; cases z)
theorem Strm.np {S : Sm} {H : Hp} {t : Int} {b : Addr} {xs : List V} (h : Strm S H t) (e : H b = some (.tup xs)) : b ≠ S.p := by
  obtain ⟨_, h⟩ := h
  exact ne_of e h.hp (by intro z; cases z)
theorem Keep.tup {S : Sm} {H H' : Hp} {t : Int} {b : Addr} {xs : List V} (k : Keep S H H') (h : Strm S H t) (e : H b = some (.tup xs)) : H' b = some (.tup xs) :=
  k b _ (h.ns e) (h.np e) e
theorem Keep.free {S : Sm} {H H' : Hp} {t : Int} {x : Addr} (k : Keep S H H') (h : Strm S H' t) (e : H' x = none) : H x = none := by
  obtain ⟨_, h⟩ := h
  cases q : H x with
  | none => rfl
  | some o =>
    by_cases h1 : x = S.s
    · rw [h1, h.hs] at e; cases e
    · by_cases h2 : x = S.p
      · rw [h2, h.hp] at e; cases e
      · rw [k x o h1 h2 q] at e; cases e
/-- a list of one's own, new behind H, is neither of the stream's -/
theorem Keep.mine {S : Sm} {H H' H2 : Hp} {t : Int} {x : Addr} {o : HO} (k : Keep S H' H2) (h : Strm S H t) (n : H x = none) (e : H' x = some o) : H2 x = some o := by
  obtain ⟨_, h⟩ := h
  refine k x o (fun z => ?_) (fun z => ?_) e
  · rw [z, h.hs] at n; cases n
  · rw [z, h.hp] at n; cases n

theorem dpInts {K : PySem.W.Frag} {H : Hp} : ∀ ns : List Int, DpAll K H (ns.map V.int) (ns.map PyData.int)
  | [] => .nil
  | n :: ns => .cons (.int n) (dpInts ns)
theorem ke_shaped (ns : List Int) : SeqAt.shaped (.list (ns.map PyData.int)) = true := by
  have h1 : ∀ ns : List Int, PyData.canLay0 (.list (ns.map PyData.int)) = true := by
    intro ns
    induction ns with
    | nil => rfl
    | cons n ns ih => simpa [PyData.canLay0, PyData.canLayAll0] using ih
  have h2 : ∀ ns : List Int, PyData.depth (.list (ns.map PyData.int)) ≤ 2 := by
    intro ns
    induction ns with
    | nil => decide
    | cons n ns ih => simp only [PyData.depth, PyData.depthAll, List.map] at ih ⊢; omega
  unfold SeqAt.shaped
  rw [h1 ns, decide_eq_true (Nat.le_trans (h2 ns) (by decide))]
  rfl
theorem ix0 {n : Nat} (h : 0 < n) : ixN n 0 = some 0 := by
  have h2 : (0 : Int) < n := by omega
  simp [ixN]; omega
theorem sq0 {n : Nat} (h : 0 < n) : seqIndex? 0 n = some 0 := (ixN_seq (ix0 h)).1
theorem pm31 {x : Int} : x % 2147483647 < 2147483647 ∧ 0 ≤ x % 2147483647 := ⟨Int.emod_lt_of_pos _ (by decide), Int.emod_nonneg _ (by decide)⟩
theorem pm87 {x : Int} : x % 2147483587 < 2147483587 ∧ 0 ≤ x % 2147483587 := ⟨Int.emod_lt_of_pos _ (by decide), Int.emod_nonneg _ (by decide)⟩

def spDraw : Sp := fun vs H Q _ => ∃ (S : Sm) (t m : Int), vs = [.ref S.s, .int m] ∧ Strm S H t ∧ 0 < m ∧ m < 1073741824 ∧ t < 1000000000000 ∧
  ∀ (H' : Hp) (r t' : Int), Keep S H H' → Strm S H' t' → t ≤ t' → t' ≤ t + 1 → 0 ≤ r → r < m → Q (.int r) H'
theorem sz {n : Nat} (h : n ≤ 1000) : n ≤ sizeLine := Nat.le_trans h (by decide)
theorem small64 {n : Nat} (h : n ≤ 1000) : n < sizeLine := Nat.lt_of_le_of_lt h (by decide)
def ab (i : Int) : Int := if i < 0 then -i else i
def spStream (K : PySem.W.Frag) : Sp := fun vs H Q _ => ∃ (a : Addr) (ns : List Int), vs = [.ref a] ∧ SqL K H a (ns.map V.int) ∧ ns.length ≤ 63 ∧
  ∀ (H' : Hp) (S : Sm), Same H H' → Strm S H' 0 → Q (.ref S.s) H'
end XT
namespace XT
open PySem PySem.Spec PyProof.Rows L2

/-! comprehensions whose turns only lay new things -/
theorem take_one {α β : Type} (f : α → β) (p : α → Bool) {xs : List α} {i : Nat} {x : α} (h : xs[i]? = some x) :
    ((xs.take (i + 1)).filter p).map f = ((xs.take i).filter p).map f ++ (if p x = true then [f x] else []) := by
  rw [List.take_add_one, h, List.filter_append, List.map_append]
  by_cases hp : p x = true
  · simp [hp]
  · simp [hp]
theorem flt_len {α β : Type} (f : α → β) (p : α → Bool) (xs : List α) (i : Nat) : (((xs.take i).filter p).map f).length ≤ i := by
  rw [List.length_map]
  exact Nat.le_trans (List.length_filter_le _ _) (by rw [List.length_take]; exact Nat.min_le_left _ _)

section
variable {K : PySem.W.Frag} {a : Addr} {g : TG} {tt : TT} {te : TE} {vs : List Nat} {σ : L2.St} {H1 : Hp} {D : Addr} {Qd : Hp → Prop}
/-- what one turn must do -/
def TurnP (g : TG) (tt : TT) (te : TE) (vs : List Nat) (σ : L2.St) (x y : V) (keep : Bool) (H : Hp) : Prop :=
  ∀ (R1 : Hp → Prop) (R2 : V → Hp → Prop), (keep = false → ∀ H3, Same H H3 → R1 H3) → (keep = true → ∀ H4, Same H H4 → R2 y H4) →
    g x (wipe σ vs) H fun σ2 H2 => wipe σ2 vs = wipe σ vs ∧ tt σ2 H2 fun b H3 => if b = true then te σ2 H3 R2 else R1 H3
/-- the invariant -/
def PvP (H1 : Hp) (D : Addr) (ys : List V) (H : Hp) : Prop := Same H1 H ∧ H D = some (.lst ys)
theorem pvp_turn {x y : V} {keep : Bool} {H : Hp} {ys : List V} (nD : H1 D = none) (h : PvP H1 D ys H) (hl : ys.length < sizeLine) (ht : TurnP g tt te vs σ x y keep H) (zs : List V) (ez : zs = ys ++ (if keep = true then [y] else [])) :
    g x (wipe σ vs) H fun σ2 H2 => wipe σ2 vs = wipe σ vs ∧ tt σ2 H2 fun b H3 =>
      if b = true then te σ2 H3 fun y H4 => ∃ acc, H4 D = some (.lst acc) ∧ acc.length < sizeLine ∧ PvP H1 D zs (upd H4 D (.lst (acc ++ [y]))) else PvP H1 D zs H3 := by
  obtain ⟨sm, hD⟩ := h
  refine ht _ _ (fun hk H3 s3 => ?_) (fun hk H4 s4 => ?_)
  · subst hk
    refine ⟨sm.trans s3, ?_⟩
    rw [ez, s3 _ _ hD]
    simp
  · subst hk
    refine ⟨ys, s4 _ _ hD, hl, fun b o e => ?_, ?_⟩
    · rw [upd_ne (ne_of_none e nD)]
      exact s4 _ _ (sm _ _ e)
    · rw [upd_same, ez]
      rfl
theorem lcp_list {xs : List V} (p : V → Bool) (f : V → V) (nD : H1 D = none) (hA : SqL K H1 a xs) (hz : xs.length < sizeLine) (ht : ∀ (i : Nat) x H, xs[i]? = some x → Same H1 H → TurnP g tt te vs σ x (f x) (p x) H)
    (hd : ∀ H, Same H1 H → H D = some (.lst ((xs.filter p).map f)) → Qd H) :
    ∃ W : Nat → Nat → Hp → Prop, (∃ m, W 0 m (upd H1 D (.lst []))) ∧ ∀ i m H, W i m H →
      ((Itl K a).stop i H ∧ Qd H) ∨ ((Itl K a).go i H ∧ ∃ Nx : Hp → Prop, (∀ H', Nx H' → ∃ m', m' < m ∧ W (i + 1) m' H') ∧ ∀ x H', (Itl K a).yld i H x H' → g x (wipe σ vs) H' fun σ2 H2 => wipe σ2 vs = wipe σ vs ∧ tt σ2 H2 fun b H3 =>
        if b = true then te σ2 H3 fun y H4 => ∃ acc, H4 D = some (.lst acc) ∧ acc.length < sizeLine ∧ Nx (upd H4 D (.lst (acc ++ [y]))) else Nx H3) := by
  refine lc_list (xs := xs) (fun i H => PvP H1 D (((xs.take i).filter p).map f) H) ⟨same_new nD, upd_same⟩ (fun i H _ h => h.1.seq hA) (fun i x H hx h => ?_) (fun H h => ?_)
  · have hi : i < xs.length := (List.getElem?_eq_some_iff.mp hx).1
    exact pvp_turn nD h (Nat.lt_of_le_of_lt (flt_len f p xs i) (Nat.lt_trans hi hz)) (ht i x H hx h.1) _ (take_one f p hx)
  · have h2 := h.2
    rw [List.take_length] at h2
    exact hd H h.1 h2
theorem Same.sqT {H H' : Hp} {a : Addr} {xs : List V} (e : Same H H') (h : SqT K H a xs) : SqT K H' a xs := by
  rcases h with (h | ⟨o, h⟩) | h
  · exact .inl (.inl (e _ _ h))
  · exact .inl (.inr ⟨o, e _ _ h⟩)
  · exact .inr h
theorem lcp_tup {xs : List V} (p : V → Bool) (f : V → V) (nD : H1 D = none) (hA : SqT K H1 a xs) (hz : xs.length < sizeLine) (ht : ∀ (i : Nat) x H, xs[i]? = some x → Same H1 H → TurnP g tt te vs σ x (f x) (p x) H)
    (hd : ∀ H, Same H1 H → H D = some (.lst ((xs.filter p).map f)) → Qd H) :
    ∃ W : Nat → Nat → Hp → Prop, (∃ m, W 0 m (upd H1 D (.lst []))) ∧ ∀ i m H, W i m H →
      ((Itt K a).stop i H ∧ Qd H) ∨ ((Itt K a).go i H ∧ ∃ Nx : Hp → Prop, (∀ H', Nx H' → ∃ m', m' < m ∧ W (i + 1) m' H') ∧ ∀ x H', (Itt K a).yld i H x H' → g x (wipe σ vs) H' fun σ2 H2 => wipe σ2 vs = wipe σ vs ∧ tt σ2 H2 fun b H3 =>
        if b = true then te σ2 H3 fun y H4 => ∃ acc, H4 D = some (.lst acc) ∧ acc.length < sizeLine ∧ Nx (upd H4 D (.lst (acc ++ [y]))) else Nx H3) := by
  refine lc_tup (xs := xs) (fun i H => PvP H1 D (((xs.take i).filter p).map f) H) ⟨same_new nD, upd_same⟩ (fun i H _ h => Same.sqT h.1 hA) (fun i x H hx h => ?_) (fun H h => ?_)
  · have hi : i < xs.length := (List.getElem?_eq_some_iff.mp hx).1
    exact pvp_turn nD h (Nat.lt_of_le_of_lt (flt_len f p xs i) (Nat.lt_trans hi hz)) (ht i x H hx h.1) _ (take_one f p hx)
  · have h2 := h.2
    rw [List.take_length] at h2
    exact hd H h.1 h2
theorem lcp_range {n : Nat} (p : Nat → Bool) (f : Nat → V) (nD : H1 D = none) (hz : n < sizeLine) (ht : ∀ (i : Nat) H, i < n → Same H1 H → TurnP g tt te vs σ (.int (0 + (i : Int))) (f i) (p i) H)
    (hd : ∀ H, Same H1 H → H D = some (.lst (((List.range n).filter p).map f)) → Qd H) :
    ∃ W : Nat → Nat → Hp → Prop, (∃ m, W 0 m (upd H1 D (.lst []))) ∧ ∀ i m H, W i m H →
      ((Itr 0 n).stop i H ∧ Qd H) ∨ ((Itr 0 n).go i H ∧ ∃ Nx : Hp → Prop, (∀ H', Nx H' → ∃ m', m' < m ∧ W (i + 1) m' H') ∧ ∀ x H', (Itr 0 n).yld i H x H' → g x (wipe σ vs) H' fun σ2 H2 => wipe σ2 vs = wipe σ vs ∧ tt σ2 H2 fun b H3 =>
        if b = true then te σ2 H3 fun y H4 => ∃ acc, H4 D = some (.lst acc) ∧ acc.length < sizeLine ∧ Nx (upd H4 D (.lst (acc ++ [y]))) else Nx H3) := by
  refine lc_range (lo := 0) (n := n) (fun i H => PvP H1 D ((((List.range n).take i).filter p).map f) H) ⟨same_new nD, upd_same⟩ (fun i H hi h => ?_) (fun H h => ?_)
  · have hx : (List.range n)[i]? = some i := List.getElem?_range hi
    exact pvp_turn nD h (Nat.lt_of_le_of_lt (flt_len f p _ i) (Nat.lt_trans hi hz)) (ht i H hi h.1) _ (take_one f p hx)
  · have h2 := h.2
    rw [List.take_of_length_le (by rw [List.length_range]; exact Nat.le_refl _)] at h2
    exact hd H h.1 h2
end
end XT
/-! set(list of ints); sorted(set of ints) of any number -/
namespace XT
open PySem PySem.Spec PyProof.Rows L2
abbrev newS (w : World) : Obj := { cls := .type "set", dict := none, data := .set #[] 0 (.fresh 0 0 (!w.params.followText "set-order")) }
section
variable {P : Program} {w : World} {A : Around} {E : Value → Shared → Prop} {s : Shared}
abbrev afterS (w : World) (s : Shared) (ns : List Int) (r : Value) (s2 : Shared) : Prop :=
  r = .none ∧ ∃ (hp : Heap) (tk c : Nat), s2 = { s with heap := hp, toks := tk } ∧ SetR w hp s.heap.objs.size (fun j => decide (j ∈ ns)) c ∧ c ≤ ns.length ∧ (∀ b o, s.heap.get? b = some o → hp.get? b = some o)
abbrev withS (w : World) (s : Shared) : Shared := { s with heap := s.heap.push (newS w) }
theorem items_at {items : Array Value} {ns : List Int} (hit : IntsAre items.toList ns) (hz : items.size = ns.length) (i : Nat) (v : Value) (hv : items[i]? = some v) : ∃ k t, ns[i]? = some k ∧ v = .int k t := by
  have hi : i < ns.length := by rw [← hz]; exact (Array.getElem?_eq_some_iff.mp hv).1
  obtain ⟨t, e⟩ := IntsAre.int_at hit i v (by rw [Array.getElem?_toList]; exact hv)
  exact ⟨ns[i], t, List.getElem?_eq_getElem hi, by rw [e, List.getD_eq_getElem?_getD, List.getElem?_eq_getElem hi] <;> rfl⟩
theorem set_listI {l : Addr} {items : Array Value} (ns : List Int) {Q : Value → Shared → Prop} (hh : A.handled = none) (hl : s.heap.IsList l items) (hit : IntsAre items.toList ns) (hb : ns.length + 1 < scanBound)
    (h : ∀ (hp : Heap) (tk c : Nat), SetR w hp s.heap.objs.size (fun j => decide (j ∈ ns)) c → c ≤ ns.length → (∀ b o, s.heap.get? b = some o → hp.get? b = some o) → Q (.ref s.heap.objs.size) { s with heap := hp, toks := tk }) :
    wpAny (model P w) A (call (.type "set") [.ref l]) Q E s := by
  have hz : items.size = ns.length := by
    have e := IntsAre.length hit
    rwa [Array.length_toList] at e
  obtain ⟨mc, mt, m0⟩ := F.called_set.mro
  have m1 := F.called_set.made
  have m2 := F.called_set.sub
  have m3 := F.called_set.notType
  have m4 := F.called_set.canCreate
  have m5 := F.typeCall_set_1 (.ref l)
  refine wpAny_call (codeAny_of_tree ?_)
  show wpAny _ _ (callAny (.type "set") _) _ _ _
  refine wpAny_pure ⟨Code.quiet_builtin _ (by decide +kernel), codeAny_builtin F.entry_type_call ?_⟩
  rw [Around.under_plain (weight_type_call_type "set" [.ref l] []) rfl]
  repeat (any_goals (first | assumption | wp_step))
  refine codeAny_mono (code_set_led1 (.ref l) (E := E) (Q₁ := fun v s1 => v = .ref s.heap.objs.size ∧ s1 = withS w s) ⟨rfl, rfl⟩) fun r s1 hr => ?_
  match r, hr with
  | .error e, hr => exact hr
  | .ok .next, hr => exact hr.elim
  | .ok .brk, hr => exact hr.elim
  | .ok .cont, hr => exact hr.elim
  | .ok (.ret v), hr =>
    obtain ⟨rfl, rfl⟩ := hr
    have g0 : (s.heap.push (newS w)).get? s.heap.objs.size = some (newS w) := Heap.get?_push_size _ rfl
    have g1 : Shared.TypeIs (withS w s) (.ref s.heap.objs.size) "set" := ⟨_, g0, rfl⟩
    have g2 := F.called_set.init.lookup
    have g3 := F.called_set.init.bind (.ref s.heap.objs.size)
    repeat (any_goals (first | assumption | wp_step))
    refine codeAny_mono (codeAny_call_builtin (R := wants (afterS w s ns) E) F.called_set.init.plain F.entry_set_init (check_set_init_1 g1 ?_)) fun r2 s2 hr2 => ?_
    · obtain ⟨ol, hol, hcl, nl, hdl⟩ := hl
      obtain ⟨oc, od, odt, osl⟩ := ol
      simp only at hcl hdl
      subst hcl hdl
      have hol1 : (s.heap.push (newS w)).get? l = some { cls := .type "list", dict := od, data := .seq items nl, slots := osl } := Heap.get?_push_of_some _ hol
      have n1 := F.sub_list_set
      have n2 := F.sub_list_frozenset
      have n3 : (Value.type "list" == Value.type "dict") = false := by decide
      have hl1 : (s.heap.push (newS w)).IsList l items := ⟨_, hol1, rfl, nl, rfl⟩
      have lS : l < s.heap.objs.size := Heap.lt_size hol
      have z1 : (s.heap.push (newS w)).objs.size = s.heap.objs.size + 1 := Heap.size_push ..
      unfold Builtin.«set.__init__» noKeywords Builtin.Frozenset.updateFrom
      generalize hPI : pyIter = PI
      wp_walk
      subst hPI
      refine wpAny_pyIter_list hl1 (wpAny_bind (wpAny_runValue ?_))
      refine set_update_ints ((Walks.list (by simp [hh]) _ l (by rw [z1]; exact Nat.ne_of_lt (Nat.lt_succ_of_lt lS)) items).toS) s.heap.objs.size (by rw [z1]; simp only [List.mem_cons, List.not_mem_nil, or_false, not_or]; exact ⟨Nat.ne_of_lt (Nat.lt_succ_self _), Nat.ne_of_gt lS⟩) ns hz hb (items_at hit hz) (items.size - 0) 0 _ (by omega) (Nat.zero_le _)
        ⟨⟨_, Heap.get?_push_size _ rfl, rfl, rfl⟩, hl1.push _⟩ ⟨0, Nat.le_refl 0, setR_new_at (Heap.get?_push_of_some _ g0)⟩ ?_
      intro s3 c hm hc hS
      obtain ⟨h3, ge, dr, tk, os⟩ := s3
      obtain rfl : ge = s.gens := hm.gens
      obtain rfl : dr = s.drawn := hm.drawn
      obtain rfl : os = s.os := hm.os
      show wpAny _ _ _ _ _ _
      refine wpAny_pure ?_
      show wpAny _ _ (ret Value.none) _ _ _
      rw [hz] at hc
      refine wpAny_pure ⟨rfl, h3, tk, c, rfl, hS, hc, fun b o e => ?_⟩
      have b0 : b < s.heap.objs.size := Heap.lt_size e
      exact hm.heap b o (by rw [z1]; simp only [List.mem_cons, List.not_mem_nil, or_false, not_or]; exact ⟨Nat.ne_of_lt b0, Nat.ne_of_lt (Nat.lt_succ_of_lt b0)⟩) (Heap.get?_push_of_some _ (Heap.get?_push_of_some _ e))
    · match r2, hr2 with
      | .error e, hr2 => exact hr2
      | .ok .next, hr2 => exact hr2.elim
      | .ok .brk, hr2 => exact hr2.elim
      | .ok .cont, hr2 => exact hr2.elim
      | .ok (.ret v), hr2 =>
        obtain ⟨rfl, hp, tk, c, rfl, hS, hc, hk⟩ := hr2
        repeat (any_goals (first | assumption | wp_step))
        exact h _ _ _ hS hc hk
end
end XT
namespace XT
open PySem PySem.Spec PyProof.Rows L2
section
variable {P : Program} {w : World} {A : Around} {E : Value → Shared → Prop} {s : Shared} {a : Addr}
theorem iv_raw (v : Value) (h : ∃ k t, v = Value.int k t) : SrtO.iv v = Builtin.Re.reRawOf v := by
  obtain ⟨k, t, rfl⟩ := h
  rfl
/-- sorted(set of ints), however many -/
theorem sorted_setN {S : Int → Bool} {n : Nat} {Q : Value → Shared → Prop} (R : SetR w s.heap a S n) (hh : A.handled = none)
    (hQ : ∀ s2 p (out : List Value) (c : Nat) (ns : List Int), (∀ b o, s.heap.get? b = some o → s2.heap.get? b = some o) → s2.gens = s.gens → s2.os = s.os → s.heap.objs.size ≤ p →
      s2.heap.get? p = some (seqObj "list" out.toArray c) → IntsAre out ns → ns.Pairwise (· < ·) → (∀ k, k ∈ ns ↔ S k = true) → ns.length = n → Q (.ref p) s2) :
    wpAny (model P w) A (call (.builtin "sorted") [.ref a]) Q E s := by
  obtain ⟨o, es, ep, t, ho, hex, hd, g, nd, hm, hb, hf, hn, hr, hl⟩ := R
  refine Calls.call_function_entry kind_sorted plain_sorted entry_sorted (args_sorted1 _) ?_
  unfold Builtin.«sorted»
  refine wpAny_bind (m := checkCount "sorted" 1 1 _) (wpAny_pure (wpAny_bind (collect_set (A := A.in1) hh ⟨o, ho, hex.1, hd⟩ hf hb hr hl fun s1 vs k1 hz g1 o1 pm => ?_)))
  have vl : vs.length = n := by rw [pm.length_eq, List.length_map, Array.length_toList]; exact hn
  have n0 : n ≤ sizeLine := by rw [sizeLine_eq]; unfold scanBound at hb; omega
  have allI : ∀ v ∈ vs, ∃ k t, v = Value.int k t := fun v hv => by
    obtain ⟨e, he, q⟩ := List.mem_map.mp (pm.mem_iff.mp hv)
    obtain ⟨k, tk, h1, _⟩ := g e he
    exact ⟨k, tk, by rw [← q]; exact h1⟩
  have hI : IntsAre vs (vs.map SrtO.iv) := SrtO.ints_iv allI
  have pk : (vs.map SrtO.iv).Perm (es.toList.map keyOf) := by
    have e1 : vs.map SrtO.iv = vs.map Builtin.Re.reRawOf := List.map_congr_left fun v hv => iv_raw v (allI v hv)
    have q := pm.map Builtin.Re.reRawOf
    rw [List.map_map] at q
    rw [e1]
    exact q
  refine wpAny_bind (wpAny_newList ?_ (by rw [vl]; exact n0))
  have hoL : (s1.heap.push (seqObj "list" vs.toArray 0)).get? s1.heap.objs.size = some (seqObj "list" vs.toArray 0) := Heap.get?_push_size _ rfl
  refine wpAny_bind (wpAny_holding (wpAny_call_entry slot_list_sort ⟨_, hoL, rfl⟩ entry_list_sort (SrtO.list_sort_ord SrtO.swo_int hoL (by rw [vl]; exact n0) (fun h2 => SrtO.ints_sortable hI h2) fun out a1 a2 => ⟨_, rfl, ?_⟩) (args_list_sort _)))
  obtain ⟨j1, j2, j3⟩ := SrtO.ints_out hI a1 a2
  obtain ⟨c, hc⟩ := sortedHeap_at (vs := vs) (out := out.toArray) hoL
  have pn := j2.trans pk
  refine wpAny_pure ⟨_, rfl, hQ _ s1.heap.objs.size out c _ (fun b u e => ?_) g1 o1 hz hc j1 (lt_of_le_nodup _ j3 (pn.nodup_iff.mpr nd)) (fun k => by rw [pn.mem_iff, ← hm k]) ?_⟩
  · have q := k1 b u e
    have lt := Heap.lt_size q
    show (sortedHeap (s1.heap.push (seqObj "list" vs.toArray 0)) s1.heap.objs.size vs out.toArray).get? b = some u
    rw [sortedHeap_old (Nat.ne_of_lt lt) (by rw [size_push']; exact Nat.lt_succ_of_lt lt)]
    exact Heap.get?_push_of_some _ q
  · rw [pn.length_eq, List.length_map, Array.length_toList]; exact hn
end
section
variable {X : Cx}
/-- set(xs), a list of ints -/
def rSetL (K : PySem.W.Frag) (w : World) : List V → Hp → VK → Prop := fun vs H Q => ∃ (a : Addr) (ns : List Int), vs = [V.ref a] ∧ SqL K H a (ns.map V.int) ∧ ns.length ≤ 1000 ∧
  ∀ (p : Addr) (c : Nat), H p = none → Q (.ref p) (upd H p (SetO w p (fun j => decide (j ∈ ns)) c))
theorem cr_setL (hc : X.calm = true) : CallR X (.type "set") (XT.rSetL X.K X.w) := by
  intro pins s σ H vs us Q I r h
  obtain ⟨a, ns, rfl, hs, hn, q⟩ := h
  obtain ⟨its, rv, hl, hz⟩ := I.list hs
  rw [Vals.ref1 r]
  refine set_listI ns (I.ok.hd hc) hl.isList (by simpa using rv.ints) (by unfold scanBound; omega) fun hp tk c hS hcn hk => ?_
  exact ⟨.ref _, _, I.laid (t' := tk) hk (Nat.le_refl _) (setO_new hS), rfl, q _ c (I.hok.fresh (Nat.le_refl _))⟩
/-- sorted(found) -/
def rSortS (w : World) : List V → Hp → VK → Prop := fun vs H Q => ∃ (a : Addr) (S : Int → Bool) (n : Nat), vs = [V.ref a] ∧ H a = some (SetO w a S n) ∧
  ∀ (ns : List Int) (p : Addr), ns.Pairwise (· < ·) → (∀ k : Int, k ∈ ns ↔ S k = true) → H p = none → Q (.ref p) (upd H p (.lst (ns.map V.int)))
theorem cr_sortS (hc : X.calm = true) : CallR X (.builtin "sorted") (rSortS X.w) := by
  intro pins s σ H vs us Q I r h
  obtain ⟨a, S, n, rfl, ha, q⟩ := h
  have R := setO_get I ha
  have n0 : n ≤ sizeLine := by
    obtain ⟨_, _, _, _, _, _, _, _, _, _, hb, _, hn, _⟩ := R
    rw [sizeLine_eq]; unfold scanBound at hb; omega
  rw [Vals.ref1 r]
  refine sorted_setN R (I.ok.hd hc) fun s2 p out c ns k g o hp hg hi hs hm hl => ?_
  have hn : H p = none := I.hok.fresh hp
  have J : Inv X pins σ (upd H p (.lst (ns.map V.int))) { s with heap := s2.heap, gens := s2.gens, drawn := s2.drawn, toks := s2.toks } :=
    I.call (ch := []) (Un.laid k hp hn) (I.hok.laid k hp ⟨by rw [List.length_map, hl]; exact n0, out, c, vals_of_ints hi, hg⟩) (by rw [g]; exact I.bare) (fun _ z => nomatch z)
  have e : s2 = { s with heap := s2.heap, gens := s2.gens, drawn := s2.drawn, toks := s2.toks } := by
    cases s2; cases s; cases o; rfl
  rw [e]
  exact ⟨.ref p, _, J, rfl, q ns p hs hm hn⟩
end
end XT
/-! for i, x in enumerate(t), t a tuple -/
namespace XT
open PySem PySem.Spec PyProof.Rows L2
abbrev enO (it : Addr) : Obj := { cls := .type "enumerate", data := .fields #[.none, .bool false, .ref it, rawInt 0, .none, .none] }
abbrev tiO (t : Addr) : Obj := { cls := .type "tuple_iterator", data := .fields #[.ref t, .int 0 0] }
theorem newEnumT (t : Addr) (items : Array Value) : Meets (Builtin.«enumerate.__new__» ⟨[.type "enumerate", .ref t], []⟩)
    (fun _ R s => s.heap.IsTuple t items ∧ R (.ok (.ret (.ref (s.heap.push (tiO t)).objs.size))) { s with heap := (s.heap.push (tiO t)).push (enO s.heap.objs.size) }) :=
  .of_wp fun prog w A R s h => by
    obtain ⟨hp, ge, dr, tk, os⟩ := s
    obtain ⟨h1, h2⟩ := h
    have sb := sub_enumerate
    have q : ∀ {A2 : Around} {E : Value → Shared → Prop} {Q : Value → Shared → Prop}, Q (.ref hp.objs.size) ⟨hp.push (tiO t), ge, dr, tk, os⟩ → wpAny (model prog w) A2 (pyIter (.ref t)) Q E ⟨hp, ge, dr, tk, os⟩ :=
      fun z => wpAny_pyIter_tuple (s := ⟨hp, ge, dr, tk, os⟩) h1 z
    wp_walk using q
    refine wpAny_stack_any fun st => wpAny_pure ?_
    split
    · rename_i c _ _ _ _ _
      cases (c == Value.type "enumerate") <;> (wp_walk using q; exact ⟨_, rfl, h2⟩)
    · wp_walk using q
      exact ⟨_, rfl, h2⟩
section
variable {prog : Program} {w : World} {A : Around} {E : Value → Shared → Prop} {s : Shared}
theorem call_enumT {t : Addr} {items : Array Value} {Q : Value → Shared → Prop} (hT : s.heap.IsTuple t items)
    (h : ∀ hp, IsEnum hp (s.heap.objs.size + 1) s.heap.objs.size 0 .none → hp.IsTupleIter s.heap.objs.size t 0 → (∀ b o, s.heap.get? b = some o → hp.get? b = some o) → Q (.ref (s.heap.objs.size + 1)) { s with heap := hp }) :
    wpAny (model prog w) A (call (.type "enumerate") [.ref t]) Q E s := by
  refine callType_new F.called_enumerate (by decide) (F.typeCall_enumerate_1 _) (F.newCall_enumerate_1 _) (fun obj => F.args_object_init_2 obj _) F.entry_enumerate_new (newEnumT t items) ⟨hT, ?_⟩
  have z : (s.heap.push (tiO t)).objs.size = s.heap.objs.size + 1 := Heap.size_push ..
  have e0 := Heap.get?_push_size (s.heap.push (tiO t)) (o := enO s.heap.objs.size) rfl
  rw [z] at e0
  show _ ∧ _
  rw [z]
  exact ⟨⟨_, e0, rfl⟩, h _ e0 ⟨_, Heap.get?_push_of_some _ (Heap.get?_push_size _ rfl), rfl, rfl⟩ fun b o x => Heap.get?_push_of_some _ (Heap.get?_push_of_some _ x)⟩
end
/-- the tuple at a, its items in new pairs with their places -/
def ItT (K : PySem.W.Frag) (a : Addr) : It :=
  ⟨fun i H => ∃ (xs : List V) (x : V), SqT K H a xs ∧ xs[i]? = some x,
   fun i H v H2 => ∃ T x, v = .ref T ∧ H T = none ∧ H2 = upd H T (.tup [.int (i : Nat), x]) ∧ ∀ xs, SqT K H a xs → xs[i]? = some x,
   fun i H => ∃ xs : List V, SqT K H a xs ∧ xs.length = i⟩
theorem turn_enumT {P : Program} {w : World} {K : PySem.W.Frag} {elts : List Expr} {kk : Nat} {tpos : Pos} (a e it : Addr) (hne : e ≠ it) (hai : a ≠ it) (hae : e ≠ a) :
    Turn P w K (.Tuple elts kk tpos) (ItT K a) [e, it] e (fun i h => (∃ old, IsEnum h e it ((i : Nat) : Int) old) ∧ h.IsTupleIter it a i) where
  mem := List.mem_cons_self
  obj := fun i h st b hb => by
    obtain ⟨⟨old, he⟩, ⟨o, ho, hc, hd⟩⟩ := st
    rcases List.mem_cons.mp hb with z | z
    · rw [z]; exact ⟨_, he, fun v q => nomatch q⟩
    · rw [List.mem_singleton.mp z]; exact ⟨o, ho, fun v q => by rw [hd] at q; cases q⟩
  keep := fun i h h2 st k => ⟨let ⟨old, he⟩ := st.1; ⟨old, k e (by simp) _ he⟩, st.2.at fun o q => k it (by simp) o q⟩
  item := by
    intro X hP hw hK hc i pins s σ H E I hf st hg
    subst hP hw hK
    obtain ⟨⟨old, he⟩, hit⟩ := st
    obtain ⟨xs, x, hq, hx⟩ := hg
    obtain ⟨its, rv, p, hz⟩ := I.tuple hq
    obtain ⟨u, hu, ru⟩ := rv.get hx
    have p' : s.heap.IsTuple a its.toArray := p
    have el : e < s.heap.objs.size := Heap.lt_size he
    have il : it < s.heap.objs.size := by obtain ⟨_, q, _⟩ := hit; exact Heap.lt_size q
    have hi : i < its.toArray.size := by
      rw [List.size_toArray]; exact (List.getElem?_eq_some_iff.mp hu).1
    refine wpAny_pyNext_enum_itemD (Draws.tuple (A := X.A.in1) (I.ok.hd hc) it a hai its.toArray) he ⟨hit, p'⟩ hi hne (by simp [hne, hae]) fun y h1 tk hy ho hit1 hT hsz hk => ?_
    have ey : y = u := by
      have q : its.toArray[i]? = some u := by simpa using hu
      exact Option.some.inj (hy.symm.trans q)
    subst ey
    refine ⟨_, rfl, wpAny_letOwnedTupleGo_enum (s := { s with heap := h1, toks := tk + 1 }) ho fun h2 he2 sb => ?_⟩
    have gT : h2.get? s.heap.objs.size = some { cls := .type "tuple", data := .seq #[.int i tk, y] } := (sb.2 _ (Nat.ne_of_gt el)).trans hT
    have new : ObjOk X.prog X.w (upd H s.heap.objs.size (.tup [.int (i : Nat), x])) h2 s.heap.objs.size (.tup [.int (i : Nat), x]) :=
      ⟨sz (n := 2) (by decide), [.int i tk, y], .cons ⟨_, rfl⟩ (.cons ru .nil), ⟨_, gT, rfl, _, rfl⟩⟩
    have J := I.turnedNew (t' := tk + 1) (ch := [e, it]) (fun b ob hb q => (sb.2 b (fun z => hb (by simp [z]))).trans (hk b ob (fun z => hb (by simp [z])) (fun z => hb (by simp [z])) q)) hf (Nat.le_refl _) new
    refine ⟨.ref s.heap.objs.size, _, J, rfl, ⟨_, x, rfl, I.hok.fresh (Nat.le_refl _), rfl, fun ys hy => by rw [I.tuple_inj hy hq]; exact hx⟩, ⟨⟨y, ?_⟩, hit1.1.at fun o q => (sb.2 it (Ne.symm hne)).trans q⟩, fun b hb => ?_⟩
    · rw [show ((i + 1 : Nat) : Int) = (i : Int) + 1 by omega]; exact he2
    · have hb2 : b < s.heap.objs.size := by
        rcases List.mem_cons.mp hb with z | z
        · rw [z]; exact el
        · rw [List.mem_singleton.mp z]; exact il
      rw [upd_ne (Nat.ne_of_lt hb2)]
      exact (hf b hb).1
  done := by
    intro X hP hw hK hc i pins s σ H E I hf st hg
    subst hP hw hK
    obtain ⟨⟨old, he⟩, hit⟩ := st
    obtain ⟨xs, hq, hx⟩ := hg
    obtain ⟨its, rv, p, hz⟩ := I.tuple hq
    obtain ⟨f0, f1, f2, f3, f4, f5⟩ := hf it (by simp)
    have hl : its.toArray.size = i := by rw [List.size_toArray, ← rv.length]; exact hx
    have D := Draws.tuple (prog := X.prog) (w := X.w) (A := X.A.in1) (I.ok.hd hc) it a hai its.toArray
    rw [hl] at D
    exact wpAny_pyNext_enum_endD D he ⟨hit, p⟩ fun h2 eb => ⟨rfl, I.turned (t' := s.toks) (fun b o hb q => eb b o hb q) f0 f1 f3 f4 f5⟩
  self := fun A i s Q E st h => let ⟨⟨_, he⟩, _⟩ := st; wpAny_pyIter_enum he h
def iEnT (K : PySem.W.Frag) (ta : TA) : TI := fun σ H R => ta σ H fun vs H1 => ∃ a xs, vs = [.ref a] ∧ SqT K H1 a xs ∧ R (ItT K a) H1
theorem pi_enumT {X : Cx} {e : Expr} {ta : TA} {p pos tpos : Pos} {elts : List Expr} {kk : Nat} (hg : Gl X "enumerate") (hm : X.mg "enumerate" = none) (ha : PA X [e] ta) (hs : starEach [e] X.env = [(false, eval e X.env)] := by rfl) :
    PI X (.Tuple elts kk tpos) (.Call (.Name "enumerate" p) [e] [] pos) (iEnT X.K ta) := by
  refine ⟨fun pins s σ H R I h => Call_ (ld_blt I hg hm boot_enumerate (callWith_type1 (thn (ha.run pos pins s σ H _ I h) fun us s1 ⟨vs, H1, I1, r1, q1⟩ => ?_) hs rfl))⟩
  obtain ⟨a, xs, ex, hq, q⟩ := q1
  subst ex
  obtain ⟨u, rfl, ru⟩ := vals1 r1
  cases (show u = Value.ref a from ru)
  obtain ⟨its, rv, p2, hz⟩ := I1.tuple hq
  have al : a < s1.heap.objs.size := by obtain ⟨o, ho, _⟩ := p2; exact Heap.lt_size ho
  refine call_enumT (items := its.toArray) p2 fun hp he hit hk => wpAny_pyIter_enum he ?_
  have I2 : Inv X pins σ H1 { s1 with heap := hp } := I1.kept (t' := s1.toks) hk
  refine ⟨s1.heap.objs.size + 1, [s1.heap.objs.size + 1, s1.heap.objs.size], _, _, H1, rfl, I2, turn_enumT a (s1.heap.objs.size + 1) s1.heap.objs.size (Nat.succ_ne_self _) (Nat.ne_of_lt al) (Nat.ne_of_gt (Nat.lt_succ_of_lt al)), ⟨⟨.none, he⟩, hit⟩, fun b hb => ?_, q⟩
  have hle : s1.heap.objs.size ≤ b := by
    rcases List.mem_cons.mp hb with z | z
    · rw [z]; exact Nat.le_succ _
    · rw [List.mem_singleton.mp z]; exact Nat.le_refl _
  exact I1.fpOk hle (I1.hok.fresh hle)
end XT
/-! lots as lists of numbers -/
namespace XT
open PySem PySem.Spec PyProof.Rows L2
def lotOf (w : Nat) (P : Nat → Bool) : List Nat := (List.range (2 ^ w)).filter P
def vm (ms : List Nat) : List V := ms.map fun (m : Nat) => V.int (m : Int)
theorem mem_lot {w : Nat} {P : Nat → Bool} {m : Nat} : m ∈ lotOf w P ↔ m < 2 ^ w ∧ P m = true := by
  unfold lotOf
  rw [List.mem_filter, List.mem_range]
theorem lot_congr {w : Nat} {P P' : Nat → Bool} (h : ∀ m, m < 2 ^ w → P m = P' m) : lotOf w P = lotOf w P' := by
  unfold lotOf
  exact List.filter_congr fun m hm => h m (List.mem_range.mp hm)
theorem pow6 {w : Nat} (h : w ≤ 6) : 2 ^ w ≤ 64 := by
  have : w = 0 ∨ w = 1 ∨ w = 2 ∨ w = 3 ∨ w = 4 ∨ w = 5 ∨ w = 6 := by omega
  rcases this with rfl | rfl | rfl | rfl | rfl | rfl | rfl <;> decide
theorem pow0 (w : Nat) : 0 < 2 ^ w := Nat.pow_pos (by decide)
theorem lot_len {w : Nat} (h : w ≤ 6) (P : Nat → Bool) : (lotOf w P).length ≤ 64 := by
  refine Nat.le_trans (List.length_filter_le _ _) ?_
  rw [List.length_range]
  exact pow6 h
theorem vm_len (ms : List Nat) : (vm ms).length = ms.length := List.length_map _
/-- two rising lists with the same members are one -/
theorem rising_eq : ∀ {l m : List Int}, l.Pairwise (· < ·) → m.Pairwise (· < ·) → (∀ k, k ∈ l ↔ k ∈ m) → l = m
  | [], [], _, _, _ => rfl
  | [], b :: m, _, _, h => absurd ((h b).mpr List.mem_cons_self) (by simp)
  | a :: l, [], _, _, h => absurd ((h a).mp List.mem_cons_self) (by simp)
  | a :: l, b :: m, hl, hm, h => by
    obtain ⟨l1, l2⟩ := List.pairwise_cons.mp hl
    obtain ⟨m1, m2⟩ := List.pairwise_cons.mp hm
    have e : a = b := by
      rcases List.mem_cons.mp ((h a).mp List.mem_cons_self) with e | e
      · exact e
      · rcases List.mem_cons.mp ((h b).mpr List.mem_cons_self) with e' | e'
        · exact e'.symm
        · have := m1 a e
          have := l1 b e'
          omega
    subst e
    congr 1
    refine rising_eq l2 m2 fun k => ⟨fun hk => ?_, fun hk => ?_⟩
    · rcases List.mem_cons.mp ((h k).mp (List.mem_cons_of_mem _ hk)) with e | e
      · have := l1 k hk
        omega
      · exact e
    · rcases List.mem_cons.mp ((h k).mpr (List.mem_cons_of_mem _ hk)) with e | e
      · have := m1 k hk
        omega
      · exact e
theorem range_rising (n : Nat) : ((List.range n).map fun (m : Nat) => (m : Int)).Pairwise (· < ·) := by
  rw [List.pairwise_map]
  exact List.pairwise_lt_range.imp fun h => by omega
theorem lot_rising (w : Nat) (P : Nat → Bool) : ((lotOf w P).map fun (m : Nat) => (m : Int)).Pairwise (· < ·) := by
  unfold lotOf
  have h := List.pairwise_map.mp (range_rising (2 ^ w))
  rw [List.pairwise_map]
  exact h.filter _
theorem rising_lot {w : Nat} {P : Nat → Bool} {ns : List Int} (h : ns.Pairwise (· < ·)) (hm : ∀ k, k ∈ ns ↔ ∃ m : Nat, k = m ∧ m < 2 ^ w ∧ P m = true) : ns.map V.int = vm (lotOf w P) := by
  have e : ns = (lotOf w P).map fun (m : Nat) => (m : Int) := rising_eq h (lot_rising w P) fun k => by
    rw [hm k, List.mem_map]
    constructor
    · rintro ⟨m, rfl, h1, h2⟩
      exact ⟨m, mem_lot.mpr ⟨h1, h2⟩, rfl⟩
    · rintro ⟨m, h1, rfl⟩
      exact ⟨m, rfl, mem_lot.mp h1⟩
  rw [e, List.map_map]
  rfl
theorem vm_ints (ms : List Nat) : vm ms = (ms.map fun (m : Nat) => (m : Int)).map V.int := by
  unfold vm
  rw [List.map_map]
  rfl
theorem vm_flat (ms : List Nat) : (vm ms).all flatV = true := by
  rw [List.all_eq_true]
  intro v hv
  obtain ⟨m, _, rfl⟩ := List.mem_map.mp hv
  rfl
theorem in_vm (k : Nat) (ms : List Nat) : inV (.int (k : Int)) (vm ms) = decide (k ∈ ms) := by
  rw [Bool.eq_iff_iff, decide_eq_true_iff]
  unfold inV
  rw [List.any_eq_true]
  constructor
  · rintro ⟨v, hv, e⟩
    obtain ⟨m, hm, rfl⟩ := List.mem_map.mp hv
    have e' : ((m : Int) == (k : Int)) = true := e
    have : (m : Int) = k := by simpa using e'
    have : m = k := by omega
    rw [← this]
    exact hm
  · intro h
    exact ⟨_, List.mem_map.mpr ⟨k, h, rfl⟩, by show ((k : Int) == (k : Int)) = true; simp⟩
theorem in_lot {w : Nat} {P : Nat → Bool} {k : Nat} (hk : k < 2 ^ w) : inV (.int (k : Int)) (vm (lotOf w P)) = P k := by
  rw [in_vm, Bool.eq_iff_iff, decide_eq_true_iff, mem_lot]
  exact ⟨fun h => h.2, fun h => ⟨hk, h⟩⟩
/-- a lot -/
def LotAt (H : Hp) (v : V) (w : Nat) (P : Nat → Bool) : Prop := ∃ p q, v = .ref p ∧ H p = some (.tup [.int (w : Int), .ref q]) ∧ H q = some (.tup (vm (lotOf w P)))
theorem LotAt.same {H H' : Hp} {v : V} {w : Nat} {P : Nat → Bool} (h : LotAt H v w P) (e : Same H H') : LotAt H' v w P := by
  obtain ⟨p, q, rfl, h1, h2⟩ := h
  exact ⟨p, q, rfl, e _ _ h1, e _ _ h2⟩
theorem LotAt.keep {S : Sm} {H H' : Hp} {t : Int} {v : V} {w : Nat} {P : Nat → Bool} (h : LotAt H v w P) (k : Keep S H H') (st : Strm S H t) : LotAt H' v w P := by
  obtain ⟨p, q, rfl, h1, h2⟩ := h
  exact ⟨p, q, rfl, k.tup st h1, k.tup st h2⟩
theorem LotAt.congr {H : Hp} {v : V} {w : Nat} {P P' : Nat → Bool} (h : LotAt H v w P) (e : ∀ m, m < 2 ^ w → P m = P' m) : LotAt H v w P' := by
  obtain ⟨p, q, rfl, h1, h2⟩ := h
  exact ⟨p, q, rfl, h1, by rw [← lot_congr e]; exact h2⟩
def dLot (w : Nat) (P : Nat → Bool) : PyData := .tuple [.int (w : Int), .tuple ((lotOf w P).map fun (m : Nat) => .int (m : Int))]
theorem dpVm {K : PySem.W.Frag} {H : Hp} : ∀ ms : List Nat, DpAll K H (vm ms) (ms.map fun (m : Nat) => .int (m : Int))
  | [] => .nil
  | m :: ms => .cons (.int m) (dpVm ms)
theorem LotAt.dp {K : PySem.W.Frag} {H : Hp} {v : V} {w : Nat} {P : Nat → Bool} (h : LotAt H v w P) : Dp K H v (dLot w P) := by
  obtain ⟨p, q, rfl, h1, h2⟩ := h
  exact .tup (SqT.of h1) (.cons (.int _) (.cons (.tup (SqT.of h2) (dpVm _)) .nil))
theorem ints_lay : ∀ ms : List Nat, PyData.canLayAll0 (ms.map fun (m : Nat) => PyData.int (m : Int)) = true
  | [] => rfl
  | m :: ms => by
    have h := ints_lay ms
    simpa [PyData.canLayAll0, PyData.canLay0] using h
theorem ints_depth : ∀ ms : List Nat, PyData.depthAll (ms.map fun (m : Nat) => PyData.int (m : Int)) ≤ 1
  | [] => by decide
  | m :: ms => by
    have h := ints_depth ms
    simp only [PyData.depthAll, PyData.depth, List.map] at h ⊢
    omega
theorem dLot_shaped (w : Nat) (P : Nat → Bool) : SeqAt.shaped (dLot w P) = true := by
  have h1 : PyData.canLay0 (dLot w P) = true := by
    have h := ints_lay (lotOf w P)
    simp [dLot, PyData.canLay0, PyData.canLayAll0, h]
  have h2 : PyData.depth (dLot w P) ≤ 64 := by
    have h := ints_depth (lotOf w P)
    simp only [dLot, PyData.depth, PyData.depthAll]
    omega
  unfold SeqAt.shaped
  rw [h1, decide_eq_true h2]
  rfl
theorem eqv_ints : ∀ ms : List Nat, PyData.eqvAll (ms.map fun (m : Nat) => PyData.int (m : Int)) (ms.map fun (m : Nat) => PyData.int (m : Int)) = true
  | [] => rfl
  | m :: ms => by
    have h := eqv_ints ms
    simp [PyData.eqvAll, PyData.eqv, h]
theorem eqv_lot {w : Nat} {P P' : Nat → Bool} (h : ∀ m, m < 2 ^ w → P m = P' m) : PyData.eqv (dLot w P) (dLot w P') = true := by
  unfold dLot
  rw [lot_congr h]
  simp [PyData.eqv, PyData.eqvAll, eqv_ints]
/-- a != b, two lots that are one -/
theorem ne_lot {K : PySem.W.Frag} {H : Hp} {x y : V} {w : Nat} {P P' : Nat → Bool} {Q : VK} (hx : LotAt H x w P) (hy : LotAt H y w P') (h : ∀ m, m < 2 ^ w → P m = P' m) (q : Q (.bl false) H) : rNeD K x y H Q := by
  refine ⟨_, _, hx.dp, hy.dp, dLot_shaped _ _, dLot_shaped _ _, ?_⟩
  rw [eqv_lot h]
  exact q
end XT
/-! the program's own defs -/
namespace XT
open PySem PySem.Spec PyProof.Rows L2
def DefR (P : Program) (w : World) (K : PySem.W.Frag) (mg : Str → Option Value) (base : Heap) (k : Nat) (x : Str) (sp : Sp) : Prop :=
  ∃ f, FnR P w K mg base CX0 k f sp ∧ mg x = some (.ref f) ∧ PySem.W.keepIn K (.ref f) = true
theorem DefR.of {P : Program} {w : World} {K : PySem.W.Frag} {mg : Str → Option Value} {base : Heap} {k : Nat} {x : Str} {sp : Sp} {f : Addr} {fd : FuncData} {ps : List Str}
    (F : FnOk P w K mg base CX0 k f fd ps sp) (b : Binds K fd ps []) (hm : mg x = some (.ref f)) (hk : PySem.W.keepIn K (.ref f) = true) : DefR P w K mg base k x sp :=
  ⟨f, (FnOk.raw F b .nil).imp fun vs H Q E h => by rw [List.append_nil]; exact h, hm, hk⟩
section
variable {X : Cx}
/-- f(e, ..) -/
theorem pe_def {j : Nat} {x : Str} {sp : Sp} {e : Expr} {es : List Expr} {t : TA} {p pos : Pos} (D : DefR X.prog X.w X.K X.mg X.base j x sp) (hr : Room j X.A) (hg : Gl X x) (ha : PA X (e :: es) t)
    (hdb : (x == ("__debug__" : Str)) = false := by decide) (he : starEach (e :: es) X.env = (false, eval e X.env) :: starEach es X.env := by rfl) (hpl : (backTo pos (starEach es X.env)).any (·.1) = false := by rfl) :
    PE X (.Call (.Name x p) (e :: es) [] pos) (fun σ H Q => t σ H fun vs H1 => sp vs H1 Q E0) := by
  obtain ⟨f, F, hm, hk⟩ := D
  refine ⟨fun pins s σ H Q I h => wpAny_Call_Name_kw (ld_glob I hg hm ?_ hdb)⟩
  refine PySem.W.callWith_K (h₀ := X.base) I.ok.mod.kin hk (thn (ha.run pos pins s σ H _ I h) fun us s1 ⟨vs, H1, I1, r, q⟩ => ⟨I1.kIn, ?_⟩) he hpl
  refine wpAny_call (codeAny_mono (run_fnR F hr pass0 I1 r q) fun r s2 z => ?_)
  match r, z with
  | .ok (.ret v), z => exact z
  | .ok .next, z => exact z.elim
  | .ok .brk, z => exact z.elim
  | .ok .cont, z => exact z.elim
  | .error e, z => exact z
end
theorem bT : bootBuiltins "tuple" = some (.type "tuple") := by decide +kernel
theorem bS : bootBuiltins "sorted" = some (.builtin "sorted") := by decide +kernel
theorem bI : bootBuiltins "isinstance" = some (.builtin "isinstance") := by decide +kernel
theorem bInt : bootBuiltins "int" = some (.type "int") := by decide +kernel
theorem bBool : bootBuiltins "bool" = some (.type "bool") := by decide +kernel
theorem bSet : bootBuiltins "set" = some (.type "set") := by decide +kernel
theorem bAll : bootBuiltins "all" = some (.builtin "all") := by decide +kernel

section
variable {P : Program} {w : World} {K : PySem.W.Frag} {mg : Str → Option Value} {base : Heap}
/-- the module's names that are still the built-in ones -/
structure Bl (mg : Str → Option Value) : Prop where
  len : mg "len" = none
  abs : mg "abs" = none
  tuple : mg "tuple" = none
  sorted : mg "sorted" = none
  isinstance : mg "isinstance" = none
  int : mg "int" = none
  bool : mg "bool" = none
  set : mg "set" = none
  all : mg "all" = none
  range : mg "range" = none
  enumerate : mg "enumerate" = none

theorem shl1 (n : Nat) : (1 : Int) * 2 ^ ((n : Int).toNat) = ((2 ^ n : Nat) : Int) := by
  rw [Int.toNat_natCast, Int.one_mul]
  norm_cast
theorem cpow {n : Nat} (h : n ≤ 6) : CPow 1 (n : Int) := ⟨by omega, by omega, by decide⟩
theorem xor_lt {a b n : Nat} (ha : a < 2 ^ n) (hb : b < 2 ^ n) : a ^^^ b < 2 ^ n := Nat.xor_lt_two_pow ha hb
theorem bx (a b : Nat) : Builtin.bitXor (a : Int) (b : Int) = ((a ^^^ b : Nat) : Int) := by
  rw [Bits.bitXor_pp (by omega) (by omega)]
  rfl
end
end XT
namespace XT
open PySem PySem.Spec PyProof.Rows L2
theorem lot_filter (n : Nat) (p q : Nat → Bool) : (lotOf n p).filter q = lotOf n (fun m => p m && q m) := by
  unfold lotOf
  rw [List.filter_filter]
  refine List.filter_congr fun m _ => ?_
  rw [Bool.and_comm]
theorem vm_filter (ms : List Nat) (q : Nat → Bool) (r : V → Bool) (h : ∀ m ∈ ms, r (.int (m : Int)) = q m) : ((vm ms).filter r).map id = vm (ms.filter q) := by
  unfold vm
  rw [List.map_id, List.filter_map]
  congr 1
  exact List.filter_congr fun m hm => h m hm
theorem mem_vm {ms : List Nat} {i : Nat} {v : V} (h : (vm ms)[i]? = some v) : ∃ m, ms[i]? = some m ∧ v = .int (m : Int) := by
  unfold vm at h
  rw [List.getElem?_map] at h
  obtain ⟨m, h1, h2⟩ := Option.map_eq_some_iff.mp h
  exact ⟨m, h1, h2.symm⟩
/-- for i, x in enumerate(t) -/
theorem for_enumT {K : PySem.W.Frag} {a : Addr} {xs : List V} {g : TG} {tb : TS} {D : Ends} {σ : L2.St} {H : Hp} (Pv : Nat → L2.St → Hp → Prop) (h0 : Pv 0 σ H) (hl : ∀ i σ H, i ≤ xs.length → Pv i σ H → SqT K H a xs)
    (hs : ∀ i x σ H T, xs[i]? = some x → Pv i σ H → H T = none → g (.ref T) σ (upd H T (.tup [.int (i : Nat), x])) fun σ2 H2 => tb { D with nx := Pv (i + 1), ct := Pv (i + 1), bk := D.nx } σ2 H2) (hd : ∀ σ H, Pv xs.length σ H → D.nx σ H) :
    ∃ W : Nat → Nat → L2.St → Hp → Prop, (∃ m, W 0 m σ H) ∧ ∀ i m σ H, W i m σ H →
      ((ItT K a).stop i H ∧ D.nx σ H) ∨ ((ItT K a).go i H ∧ ∃ N : L2.St → Hp → Prop, (∀ σ' H', N σ' H' → ∃ m', m' < m ∧ W (i + 1) m' σ' H') ∧ ∀ x H', (ItT K a).yld i H x H' → g x σ H' fun σ2 H2 => tb { D with nx := N, ct := N, bk := D.nx } σ2 H2) := by
  refine ⟨fun i m σ H => m = xs.length - i ∧ i ≤ xs.length ∧ Pv i σ H, ⟨xs.length, by simp, Nat.zero_le _, h0⟩, ?_⟩
  rintro i m σ H ⟨rfl, hi, p⟩
  have q := hl i σ H hi p
  rcases Nat.lt_or_ge i xs.length with lt | ge
  · refine .inr ⟨⟨xs, xs[i], q, List.getElem?_eq_getElem lt⟩, Pv (i + 1), fun σ' H' p' => ⟨xs.length - (i + 1), by omega, rfl, lt, p'⟩, fun v H' y => ?_⟩
    obtain ⟨T, x, rfl, nT, rfl, fx⟩ := y
    exact hs i x σ H T (fx xs q) p nT
  · have e : i = xs.length := by omega
    subst e
    exact .inl ⟨⟨xs, q, rfl⟩, hd σ H p⟩
theorem r62 {n : Nat} (h : n ≤ 6) : ((2 ^ n : Nat) : Int) < 2 ^ 62 := by
  have := pow6 h
  omega
theorem l62 {n : Nat} : -(2 ^ 62) ≤ ((2 ^ n : Nat) : Int) := Int.le_trans (by decide : -(2 ^ 62) ≤ (0 : Int)) (Int.natCast_nonneg _)
end XT
/-! draws within comprehensions; the lots that the law draws -/
namespace XT
open PySem PySem.Spec PyProof.Rows L2
/-- the stream's time goes on, all else stays -/
structure Step (S : Sm) (H : Hp) (t : Int) (H' : Hp) (t' : Int) (n : Nat) : Prop where
  keep : Keep S H H'
  st : Strm S H' t'
  lo : t ≤ t'
  hi : t' ≤ t + n
def spDrawN : Sp := fun vs H Q _ => ∃ (S : Sm) (t : Int) (m : Nat), vs = [.ref S.s, .int (m : Int)] ∧ Strm S H t ∧ 0 < m ∧ m ≤ 1000 ∧ t < 100000000 ∧
  ∀ (H' : Hp) (r : Nat) (t' : Int), Step S H t H' t' 1 → r < m → Q (.int (r : Int)) H'
theorem drawN {P : Program} {w : World} {K : PySem.W.Frag} {mg : Str → Option Value} {base : Heap} {k : Nat} {x : Str} (D : DefR P w K mg base k x spDraw) : DefR P w K mg base k x spDrawN := by
  obtain ⟨f, F, h1, h2⟩ := D
  refine ⟨f, F.imp fun vs H Q E ⟨S, t, m, ev, st, m0, m1, t1, q⟩ => ⟨S, t, m, ev, st, by omega, by omega, by omega, fun H' r t' k s a b r0 r1 => ?_⟩, h1, h2⟩
  obtain ⟨n, rfl⟩ := Int.eq_ofNat_of_zero_le r0
  exact q H' n t' ⟨k, s, a, b⟩ (by omega)
theorem Step.refl {S : Sm} {H : Hp} {t : Int} (h : Strm S H t) : Step S H t H t 0 := ⟨Keep.refl S H, h, Int.le_refl _, by omega⟩
theorem Step.trans {S : Sm} {H H1 H2 : Hp} {t t1 t2 : Int} {n m : Nat} (a : Step S H t H1 t1 n) (b : Step S H1 t1 H2 t2 m) : Step S H t H2 t2 (n + m) := ⟨a.keep.trans b.keep, b.st, Int.le_trans a.lo b.lo, by have := a.hi; have := b.hi; omega⟩
theorem Step.same {S : Sm} {H H1 H2 : Hp} {t t1 : Int} {n : Nat} (a : Step S H t H1 t1 n) (b : Same H1 H2) : Step S H t H2 t1 n := ⟨a.keep.trans (Keep.of b), a.st.same b, a.lo, a.hi⟩
theorem Step.mono {S : Sm} {H H1 : Hp} {t t1 : Int} {n m : Nat} (a : Step S H t H1 t1 n) (h : n ≤ m) : Step S H t H1 t1 m := ⟨a.keep, a.st, a.lo, by have := a.hi; omega⟩
section
variable {K : PySem.W.Frag} {a : Addr} {g : TG} {tt : TT} {te : TE} {vs : List Nat} {σ : L2.St} {H1 : Hp} {D : Addr} {Qd : Hp → Prop} {S : Sm} {t0 : Int} {c : Nat}
/-- what one turn must do: the stream is drawn from at most d times, and what is kept is a number below c -/
def TurnS (S : Sm) (c d : Nat) (g : TG) (tt : TT) (te : TE) (vs : List Nat) (σ : L2.St) (x : V) (H : Hp) (t : Int) : Prop :=
  ∀ (R1 : Hp → Prop) (R2 : V → Hp → Prop), (∀ H3 t3, Step S H t H3 t3 d → R1 H3) → (∀ (k : Nat) H4 t4, Step S H t H4 t4 d → k < c → R2 (.int (k : Int)) H4) →
    g x (wipe σ vs) H fun σ2 H2 => wipe σ2 vs = wipe σ vs ∧ tt σ2 H2 fun b H3 => if b = true then te σ2 H3 R2 else R1 H3
def PvS (S : Sm) (c d : Nat) (H1 : Hp) (t0 : Int) (D : Addr) (i : Nat) (H : Hp) : Prop := ∃ (ks : List Nat) (t : Int), Step S H1 t0 H t (d * i) ∧ H D = some (.lst (vm ks)) ∧ (∀ k ∈ ks, k < c) ∧ ks.length ≤ i
theorem pvs_start (st : Strm S H1 t0) (nD : H1 D = none) (d : Nat) : PvS S c d H1 t0 D 0 (upd H1 D (.lst [])) := ⟨[], t0, ((Step.refl st).same (same_new nD)).mono (Nat.zero_le _), upd_same, by simp, by simp⟩
theorem pvs_turn {d i : Nat} {x : V} {H : Hp} (st0 : Strm S H1 t0) (nD : H1 D = none) (hi : i ≤ 1000) (h : PvS S c d H1 t0 D i H) (ht : ∀ t, Step S H1 t0 H t (d * i) → TurnS S c d g tt te vs σ x H t) :
    g x (wipe σ vs) H fun σ2 H2 => wipe σ2 vs = wipe σ vs ∧ tt σ2 H2 fun b H3 =>
      if b = true then te σ2 H3 fun y H4 => ∃ acc, H4 D = some (.lst acc) ∧ acc.length < sizeLine ∧ PvS S c d H1 t0 D (i + 1) (upd H4 D (.lst (acc ++ [y]))) else PvS S c d H1 t0 D (i + 1) H3 := by
  obtain ⟨ks, t, stp, hD, hk, hl⟩ := h
  refine ht t stp _ _ (fun H3 t3 s3 => ?_) (fun k H4 t4 s4 hkc => ?_)
  · exact ⟨ks, t3, (stp.trans s3).mono (by rw [Nat.mul_succ]; exact Nat.le_refl _), s3.keep.mine st0 nD hD, hk, by omega⟩
  · have hD4 := s4.keep.mine st0 nD hD
    refine ⟨_, hD4, small64 (by rw [vm_len]; omega), ks ++ [k], t4, ?_, ?_, ?_, ?_⟩
    · have z := stp.trans s4
      have nDs : D ≠ S.s := fun e => by obtain ⟨_, h⟩ := st0; rw [e, h.hs] at nD; cases nD
      have nDp : D ≠ S.p := fun e => by obtain ⟨_, h⟩ := st0; rw [e, h.hp] at nD; cases nD
      have nDq : D ≠ S.q := fun e => by obtain ⟨_, h⟩ := st0; rw [e, h.hq] at nD; cases nD
      refine ⟨fun b o n1 n2 e => ?_, ?_, z.lo, by have := z.hi; rw [Nat.mul_succ]; exact this⟩
      · rw [upd_ne (ne_of_none e nD)]
        exact z.keep b o n1 n2 e
      · obtain ⟨big, hb⟩ := z.st
        refine ⟨big, ?_, ?_, ?_, hb.sp, hb.sq, hb.pq, hb.ne, hb.t0⟩
        · rw [upd_ne nDs.symm]; exact hb.hs
        · rw [upd_ne nDp.symm]; exact hb.hp
        · rw [upd_ne nDq.symm]; exact hb.hq
    · rw [upd_same]; unfold vm; rw [List.map_append]; rfl
    · intro j hj
      rcases List.mem_append.mp hj with hj | hj
      · exact hk j hj
      · rw [List.mem_singleton.mp hj]; exact hkc
    · rw [List.length_append]; simp; exact hl
theorem lcs_range {n d : Nat} (st0 : Strm S H1 t0) (nD : H1 D = none) (hn : n ≤ 1000) (ht : ∀ (i : Nat) H t, i < n → Step S H1 t0 H t (d * i) → TurnS S c d g tt te vs σ (.int (0 + (i : Int))) H t) (hd : ∀ H, PvS S c d H1 t0 D n H → Qd H) :
    ∃ W : Nat → Nat → Hp → Prop, (∃ m, W 0 m (upd H1 D (.lst []))) ∧ ∀ i m H, W i m H →
      ((Itr 0 n).stop i H ∧ Qd H) ∨ ((Itr 0 n).go i H ∧ ∃ Nx : Hp → Prop, (∀ H', Nx H' → ∃ m', m' < m ∧ W (i + 1) m' H') ∧ ∀ x H', (Itr 0 n).yld i H x H' → g x (wipe σ vs) H' fun σ2 H2 => wipe σ2 vs = wipe σ vs ∧ tt σ2 H2 fun b H3 =>
        if b = true then te σ2 H3 fun y H4 => ∃ acc, H4 D = some (.lst acc) ∧ acc.length < sizeLine ∧ Nx (upd H4 D (.lst (acc ++ [y]))) else Nx H3) :=
  lc_range (lo := 0) (n := n) (fun i H => PvS S c d H1 t0 D i H) (pvs_start st0 nD d) (fun i H hi h => pvs_turn st0 nD (by omega) h fun t s => ht i H t hi s) hd
theorem lcs_list {ms : List Nat} {d : Nat} (st0 : Strm S H1 t0) (nD : H1 D = none) (hA : H1 a = some (.lst (vm ms))) (as : a ≠ S.s) (ap : a ≠ S.p) (hn : ms.length ≤ 1000)
    (ht : ∀ (i : Nat) (m : Nat) H t, ms[i]? = some m → Step S H1 t0 H t (d * i) → TurnS S c d g tt te vs σ (.int (m : Int)) H t) (hd : ∀ H, PvS S c d H1 t0 D ms.length H → Qd H) :
    ∃ W : Nat → Nat → Hp → Prop, (∃ m, W 0 m (upd H1 D (.lst []))) ∧ ∀ i m H, W i m H →
      ((Itl K a).stop i H ∧ Qd H) ∨ ((Itl K a).go i H ∧ ∃ Nx : Hp → Prop, (∀ H', Nx H' → ∃ m', m' < m ∧ W (i + 1) m' H') ∧ ∀ x H', (Itl K a).yld i H x H' → g x (wipe σ vs) H' fun σ2 H2 => wipe σ2 vs = wipe σ vs ∧ tt σ2 H2 fun b H3 =>
        if b = true then te σ2 H3 fun y H4 => ∃ acc, H4 D = some (.lst acc) ∧ acc.length < sizeLine ∧ Nx (upd H4 D (.lst (acc ++ [y]))) else Nx H3) := by
  refine lc_list (xs := vm ms) (fun i H => PvS S c d H1 t0 D i H) (pvs_start st0 nD d) (fun i H _ h => ?_) (fun i x H hx h => ?_) (fun H h => ?_)
  · obtain ⟨_, _, s, _⟩ := h
    exact SqL.of (s.keep a _ as ap hA)
  · obtain ⟨m, hm, rfl⟩ := mem_vm hx
    have hi : i < ms.length := (List.getElem?_eq_some_iff.mp hm).1
    exact pvs_turn st0 nD (by omega) h fun t s => ht i m H t hm s
  · rw [vm_len] at h
    exact hd H h
end
end XT
/-! the law's own call, where no repr is under way; repr of data -/
namespace XT
open PySem PySem.Spec PyProof.Rows L2
def RunC (P : Program) (w : World) (K : PySem.W.Frag) (mg : Str → Option Value) (base : Heap) (k : Nat) (f : Addr) (sp : Sp) : Prop :=
  ∀ (s : Shared) (H : Hp) (u : Value) (v : V) (Q : VK), Room k callerA → Env0 P w K mg base callerA [] s H → RelV v u → sp [v] H Q E0 → codeAny (model P w) callerA (.call (.ref f) ⟨[u], []⟩) (CR CX0 [] P w H s Q E0) s
section
variable {P : Program} {w : World} {K : PySem.W.Frag} {mg : Str → Option Value} {base : Heap}
theorem run_law {x par : Str} {st : Stmt} {f : Addr} {fd : FuncData} {N : List Str} {k : Nat} {sp : Sp} (F : Fun K x x st f fd) (S : FnScope N [par] (defScope st))
    (hb : ∀ (kV doc pm : Value) (an : Option Addr) (cdv ct u : Value), bindArgs (PySem.W.fnOf x x (defArgs st) (defBody st) (defScope st) .none kV doc pm an cdv ct) ⟨[u], []⟩ = pure [(par, u)])
    (hbody : ∀ (cdv : Value) (s : Shared) (H : Hp) (v : V) (Q : VK), Room k (callerA.deeper (envOfC x (defScope st) s.heap.objs.size f cdv)) → sp [v] H Q E0 →
      ∃ t, PSs (cxOf CX0 P w K mg base N x (defScope st) f cdv callerA [] s H E0).nox (defBody st) t ∧ t { nx := fun _ H' => Q .non H', rt := Q } (start N [v]) H) : RunC P w K mg base (k + 1) f sp := by
  obtain ⟨oc, od, kV, doc, pm, an, cdv, ct, osl, rfl, lk, hcd⟩ := F.ex
  intro s H u v Q hr e0 rv hsp
  refine StX.run_bnd lk hcd S hr e0 (G := fun vs H2 => vs = [v] ∧ H2 = H) (fun A2 Ex Q2 h => ?_) fun s2 H2 vs ⟨ev, eH⟩ hr2 => ?_
  · rw [hb kV doc pm an cdv ct u]
    exact wpAny_pure (h s H [v] [u] e0 Un.refl rfl (fun _ _ z => z) (.cons rv .nil) rfl ⟨rfl, rfl⟩)
  · subst ev eH
    obtain ⟨t, h1, h2⟩ := hbody cdv s2 H2 v Q hr2 hsp
    exact ⟨t, h1.nox, h2⟩
/-- from the law's promise to what the row asks of its call -/
theorem law_end {mb : Str → Option Value} {k : Nat} {fa a : Addr} {sp : Sp} {s1 : Shared} {vs : List Value} {ns : List Int} (KX : K.In s1.heap) (hns : s1.heap.Ns mainGlobals mg) (hb : s1.heap.Ns builtinsNs mb)
    (hbb : ∀ x : Str, x ≠ "__name__" → mb x = bootBuiltins x) (hlim : s1.heap.NoLimit) (hg : s1.gens = #[]) (ha : s1.heap.get? a = some { cls := .type "list", data := .seq vs.toArray }) (hi : IntsAre vs ns) (hl : ns.length ≤ sizeLine)
    (hr : Room k callerA) (F : ∀ base : Heap, K.In base → base.Ns mainGlobals mg → RunC P w K mg base k fa sp) (hsp : ∀ H : Hp, SqL K H a (ns.map V.int) → sp [.ref a] H (fun v _ => v = .bl true) E0) :
    codeAny (model P w) callerA (.call (.ref fa) ⟨[.ref a], []⟩) (fun r s2 => r = .ok (.ret (.bool true)) ∧ OldK s1.heap s2.heap ∧ s2.os = s1.os ∧ AllBare s2.gens) s1 := by
  have rv : Vals (ns.map V.int) vs := vals_of_ints hi
  have nl := hi.length
  have go : ∀ H : Hp, SqL K H a (ns.map V.int) → HOk P w H s1.heap → (∀ b, H b = none ∨ (b = a ∧ K.lookup a = none ∧ ∃ o xs, H b = some (.frz o (.lst xs)))) →
      codeAny (model P w) callerA (.call (.ref fa) ⟨[.ref a], []⟩) (fun r s2 => r = .ok (.ret (.bool true)) ∧ OldK s1.heap s2.heap ∧ s2.os = s1.os ∧ AllBare s2.gens) s1 := by
    intro H hS hok hO
    have nsK : ∀ {b : Addr} {m : Str → Option Value}, s1.heap.Ns b m → (hidT s1.heap H).Ns b m := fun {b m} ⟨o, es, ep, e, d, r⟩ => by
      refine ⟨o, es, ep, hidT_get e ?_, d, r⟩
      rcases hO b with z | ⟨z, _, _⟩
      · exact z
      · rw [z, ha] at e
        cases e
        have d2 : Data.seq vs.toArray _ = Data.dict es ep := d
        cases d2
    have kb : K.In (hidT s1.heap H) := fun b o e => by
      refine hidT_get (KX b o e) ?_
      rcases hO b with z | ⟨z, y, _⟩
      · exact z
      · rw [z, y] at e; cases e
    have M : Mod K mg (hidT s1.heap H) := ⟨kb, nsK hns, ⟨mb, nsK hb, hbb⟩, let ⟨mc, h1, h2⟩ := hlim; ⟨mc, nsK h1, h2⟩⟩
    have e0 : Env0 P w K mg (hidT s1.heap H) callerA [] s1 H := ⟨rfl, M, fun b o e => of_hidT e, Nat.le_of_eq (hidT_size _ _), trivial, fun b z => absurd (show b ∈ ([] : List Addr) from z) (by simp), hok, .of_eq hg⟩
    refine codeAny_mono (F _ kb (nsK hns) s1 H (.ref a) (.ref a) _ hr e0 rfl (hsp H hS)) fun r s2 z => ?_
    match r, z with
    | .error e, z => exact z.elim
    | .ok .next, z => exact z.elim
    | .ok .brk, z => exact z.elim
    | .ok .cont, z => exact z.elim
    | .ok (.ret u), z =>
      obtain ⟨v, H2, os, bare, un, hok2, rr, q⟩ := z
      have q : v = .bl true := q
      subst q
      obtain rfl : u = Value.bool true := rr
      refine ⟨rfl, OldK.of_keep fun b o e => ?_, os, bare⟩
      rcases hO b with y | ⟨_, _, ob, xs, y⟩
      · exact un.keep b o e y (fun z => absurd (show b ∈ ([] : List Addr) from z) (by simp)) (by simp)
      · obtain ⟨g1, _⟩ := hok b _ y
        obtain ⟨g2, _⟩ := hok2 b _ (un.frzs b ob _ y)
        rw [e] at g1
        cases g1
        exact g2
  cases hk : K.lookup a with
  | some o =>
    have e := KX a o hk
    rw [ha] at e
    cases e
    exact go (fun _ => none) (.inr ⟨_, vs.toArray, _, hk, rfl, rfl, rfl, by rw [List.size_toArray, nl]; exact hl, by simpa using rv⟩) (fun b u z => nomatch z) fun _ => .inl rfl
  | none =>
    refine go (upd (fun _ => none) a (.frz { cls := .type "list", data := .seq vs.toArray } (.lst (ns.map V.int)))) (.inl (.inr ⟨_, upd_same⟩)) (fun b u z => ?_) fun b => ?_
    · by_cases e : b = a
      · subst e
        rw [upd_same] at z
        cases z
        exact ⟨ha, by rw [List.length_map]; exact hl, vs, _, rv, ha⟩
      · rw [upd_ne e] at z
        cases z
    · by_cases e : b = a
      · exact .inr ⟨e, hk, _, _, by rw [e]; exact upd_same⟩
      · exact .inl (upd_ne e)
end
theorem walk_ofC {l : PySem.W.OpenLaw} {n k : Nat} {q : Program} {loose : List Str} {XP : (Str → Option Value) → Heap → Prop} {YP : World → Heap → Prop} {d : DefRec} {K : Params → PySem.W.Frag} {sp : World → Sp}
    (hn : l.most = some n) (hn2 : n ≤ sizeLine) (hdf : d.params.defaults = []) (hr : Room k callerA) (hY : ∀ (w : World) (h : Heap), YP w h → (K w.params).In h)
    (F : ∀ (w : World) (mg : Str → Option Value) (fa : Addr) (h : Heap), (K w.params).In h → h.Ns mainGlobals mg → mg d.name = some (.ref fa) → ∀ base : Heap, (K w.params).In base → base.Ns mainGlobals mg → RunC l.prog w (K w.params) mg base k fa (sp w))
    (hsp : ∀ (w : World) (H : Hp) (a : Addr) (ns : List Int), ns.length ≤ n → SqL (K w.params) H a (ns.map V.int) → sp w [.ref a] H (fun v _ => v = .bl true) E0) :
    PySem.W.WalkO q loose XP YP l.row.toRowW d [] (fun f vs => PySem.call f vs) :=
  Att.attach_call hn hdf fun w s0 s1 mg mb fa o pm cd doc a vs ns G Y ho hd hcd hmg hobj hints hlen hg =>
    law_end (hY w _ Y) G.T.g G.T.b G.T.builtins G.T.nolimit hg hobj hints (Nat.le_trans hlen hn2) hr (F w mg fa _ (hY w _ Y) G.T.g hmg) fun H hS => hsp w H a ns hlen hS
/-! repr -/
section
variable {X : Cx}
def rRepr (K : PySem.W.Frag) : List V → Hp → VK → Prop := fun xs H Q => ∃ (a : Addr) (d : PyData), xs = [.ref a] ∧ Dp K H (.ref a) d ∧ SeqAt.shaped d = true ∧ d.showable = true ∧ d.shown.length ≤ sizeLine ∧ Q (.str d.shown) H
theorem cr_repr (hg : X.A.guards = some []) (hu : X.A.units + 128 < cLine) : CallR X (.builtin "repr") (rRepr X.K) := by
  intro pins s σ H xs us Q I r h
  obtain ⟨a, d, rfl, hd, hs, hw, hz, q⟩ := h
  rw [Vals.ref1 r]
  obtain ⟨as, rd⟩ := Dp.reads I d (.ref a) (.ref a) hd rfl
  have nd : d.hasDict = false := PyData.hasDict_of_canLay d (SeqAt.canLay_of_shaped hs)
  have dp := SeqAt.depth_of_shaped hs
  refine repr_of_reads' rd hw (PyData.noDict_hsm nd) hg (by omega) (fun _ _ e => e) (fun h2 u tk k => ?_) hz
  exact ⟨.str d.shown, H, I.kept (t' := tk) k, ⟨u, rfl⟩, q⟩
end
end XT
/-! how long data are when shown -/
namespace XT
open PySem PySem.Spec PyProof.Rows L2
structure Shw (d : PyData) (n k : Nat) : Prop where
  lay : PyData.canLay0 d = true
  dep : PyData.depth d ≤ k
  shw : PyData.showable d = true
  len : (PyData.shown d).length ≤ n
structure ShwAll (ds : List PyData) (n k : Nat) : Prop where
  lay : PyData.canLayAll0 ds = true
  dep : PyData.depthAll ds ≤ k
  shw : PyData.showableAll ds = true
  len : ((PyData.shownAll ds).map (·.length)).sum + 2 * (PyData.shownAll ds).length ≤ n
theorem ShwAll.nil {k : Nat} : ShwAll [] 0 k := ⟨rfl, Nat.zero_le _, rfl, Nat.le_refl _⟩
theorem ShwAll.cons {d : PyData} {ds : List PyData} {n m k : Nat} (h : Shw d n k) (t : ShwAll ds m k) : ShwAll (d :: ds) (n + 2 + m) k := by
  refine ⟨?_, ?_, ?_, ?_⟩
  · simp only [PyData.canLayAll0, h.lay, t.lay, Bool.and_self]
  · simp only [PyData.depthAll]
    exact Nat.max_le.mpr ⟨h.dep, t.dep⟩
  · simp only [PyData.showableAll, h.shw, t.shw, Bool.and_self]
  · have h1 := h.len
    have h2 := t.len
    simp only [PyData.shownAll, List.map_cons, List.sum_cons, List.length_cons]
    omega
theorem Shw.mono {d : PyData} {n m k j : Nat} (h : Shw d n k) (a : n ≤ m) (b : k ≤ j) : Shw d m j := ⟨h.lay, Nat.le_trans h.dep b, h.shw, Nat.le_trans h.len a⟩
theorem ShwAll.mono {d : List PyData} {n m k j : Nat} (h : ShwAll d n k) (a : n ≤ m) (b : k ≤ j) : ShwAll d m j := ⟨h.lay, Nat.le_trans h.dep b, h.shw, Nat.le_trans h.len a⟩
theorem ShwAll.list {ds : List PyData} {n k : Nat} (h : ShwAll ds n k) : Shw (.list ds) (n + 3) (k + 1) := by
  refine ⟨by simpa only [PyData.canLay0] using h.lay, ?_, by simpa only [PyData.showable] using h.shw, ?_⟩
  · simp only [PyData.depth]
    have := h.dep
    omega
  · simp only [PyData.shown]
    have := listText_len_le (PyData.shownAll ds)
    have := h.len
    omega
theorem ShwAll.tuple {ds : List PyData} {n k : Nat} (h : ShwAll ds n k) : Shw (.tuple ds) (n + 3) (k + 1) := by
  refine ⟨by simpa only [PyData.canLay0] using h.lay, ?_, by simpa only [PyData.showable] using h.shw, ?_⟩
  · simp only [PyData.depth]
    have := h.dep
    omega
  · simp only [PyData.shown]
    have := tupleText_len_le (PyData.shownAll ds)
    have := h.len
    omega
theorem shw_nat {m : Nat} (h : m < 1000000) : Shw (.int (m : Int)) 13 0 := by
  refine ⟨rfl, Nat.le_refl _, ?_, PyData.shown_int_le (by omega)⟩
  show decide ((m : Int).natAbs.log2 < 1920) = true
  rw [decide_eq_true_iff, Int.natAbs_natCast]
  by_cases h0 : m = 0
  · subst h0; decide
  · exact Nat.lt_of_lt_of_le ((Nat.log2_lt h0).mpr (show m < 2 ^ 20 by omega)) (by decide)
theorem shw_nats : ∀ {ms : List Nat}, (∀ m ∈ ms, m < 1000000) → ShwAll (ms.map fun (m : Nat) => PyData.int (m : Int)) (15 * ms.length) 0
  | [], _ => ShwAll.nil
  | m :: ms, h => by
    have := ShwAll.cons (shw_nat (h m List.mem_cons_self)) (shw_nats (ms := ms) fun x hx => h x (List.mem_cons_of_mem _ hx))
    exact this.mono (by rw [List.length_cons]; omega) (Nat.le_refl _)
theorem shw_lot {n : Nat} (hn : n ≤ 6) (p : Nat → Bool) : Shw (dLot n p) 1000 2 := by
  have h6 := pow6 (w := n) hn
  have hl := lot_len hn p
  have h := (shw_nats (ms := lotOf n p) fun m hm => by have := (mem_lot.mp hm).1; omega).tuple
  have := (ShwAll.cons ((shw_nat (m := n) (by omega)).mono (Nat.le_refl _) (Nat.zero_le 1)) (ShwAll.cons (h.mono (Nat.le_refl _) (by omega)) ShwAll.nil)).tuple
  exact this.mono (by omega) (by omega)
theorem shw_width (i : Nat) (h : i < 1000000) : Shw (.list [.str "width", .int (i : Int)]) 1000 2 := by
  have hs : Shw (.str "width") 10 0 := ⟨by decide +kernel, Nat.le_refl _, rfl, by decide +kernel⟩
  exact (ShwAll.cons hs (ShwAll.cons (shw_nat h) ShwAll.nil)).list.mono (by omega) (by omega)
theorem shw_two {a b : PyData} {n m k : Nat} (ha : Shw a n k) (hb : Shw b m k) : Shw (.list [a, b]) (n + m + 7) (k + 1) := (ShwAll.cons ha (ShwAll.cons hb ShwAll.nil)).list.mono (by omega) (by omega)
theorem Shw.shaped {d : PyData} {n k : Nat} (hs : Shw d n k) (hk : k ≤ 64) : SeqAt.shaped d = true := by
  unfold SeqAt.shaped
  rw [hs.lay, decide_eq_true (Nat.le_trans hs.dep hk)]
  rfl
theorem Shw.sz {d : PyData} {n k : Nat} (hs : Shw d n k) (hn : n ≤ 10000000) : d.shown.length ≤ sizeLine := by
  rw [sizeLine_eq]
  have := hs.len
  omega
end XT
/-! lots with their widths; a comprehension of drawn lots; when two lots are equal -/
namespace XT
open PySem PySem.Spec PyProof.Rows L2
abbrev rXor : R2 := rI0 fun i j => .int (Builtin.bitXor i j)
/-- f(..) by its promise, as pe_def reads it -/
abbrev tDf (sp : Sp) (t : TA) : TE := fun σ H Q => t σ H fun vs H1 => sp vs H1 Q E0
structure Lt where
  v : V
  n : Nat
  p : Nat → Bool
def LtAt (H : Hp) (l : Lt) : Prop := LotAt H l.v l.n l.p ∧ 1 ≤ l.n ∧ l.n ≤ 6
theorem LtAt.same {H H' : Hp} {l : Lt} (h : LtAt H l) (e : Same H H') : LtAt H' l := ⟨h.1.same e, h.2⟩
theorem lt_keep {S : Sm} {H H' : Hp} {t : Int} {l : Lt} (h : LtAt H l) (k : Keep S H H') (st : Strm S H t) : LtAt H' l := ⟨h.1.keep k st, h.2⟩
theorem at_ne' {H : Hp} {a b : Addr} {x y : HO} (h1 : H a = some x) (h2 : H b = some y) (n : x ≠ y) : b ≠ a := fun e => by
  rw [e, h1] at h2
  exact n (Option.some.inj h2)
theorem lot_upd {H : Hp} {R : Addr} {xs ys : List V} {v : V} {n : Nat} {p : Nat → Bool} (hR : H R = some (.lst xs)) (h : LotAt H v n p) : LotAt (upd H R (.lst ys)) v n p := by
  obtain ⟨x, y, rfl, hx, hy⟩ := h
  exact ⟨x, y, rfl, by rw [upd_ne (at_ne' hR hx (by simp))]; exact hx, by rw [upd_ne (at_ne' hR hy (by simp))]; exact hy⟩
theorem strm_upd {S : Sm} {H : Hp} {t : Int} {R : Addr} {o : HO} (h : Strm S H t) (n1 : R ≠ S.s) (n2 : R ≠ S.p) (n3 : R ≠ S.q) : Strm S (upd H R o) t := by
  obtain ⟨big, s⟩ := h
  exact ⟨big, by rw [upd_ne (Ne.symm n1)]; exact s.hs, by rw [upd_ne (Ne.symm n2)]; exact s.hp, by rw [upd_ne (Ne.symm n3)]; exact s.hq, s.sp, s.sq, s.pq, s.ne, s.t0⟩
theorem strm_ne {S : Sm} {H : Hp} {t : Int} {R : Addr} (h : Strm S H t) (n : H R = none) : R ≠ S.s ∧ R ≠ S.p ∧ R ≠ S.q := by
  obtain ⟨big, s⟩ := h
  exact ⟨(ne_of_none s.hs n).symm, (ne_of_none s.hp n).symm, (ne_of_none s.hq n).symm⟩
mutual
theorem Dp_same {K : PySem.W.Frag} {H H' : Hp} (e : Same H H') : ∀ {v : V} {d : PyData}, Dp K H v d → Dp K H' v d
  | _, _, .non => .non
  | _, _, .bl b => .bl b
  | _, _, .int i => .int i
  | _, _, .str x => .str x
  | _, _, .lst h a => .lst (e.seq h) (DpAll_same e a)
  | _, _, .tup h a => .tup (Same.sqT e h) (DpAll_same e a)
theorem DpAll_same {K : PySem.W.Frag} {H H' : Hp} (e : Same H H') : ∀ {vs : List V} {ds : List PyData}, DpAll K H vs ds → DpAll K H' vs ds
  | _, _, .nil => .nil
  | _, _, .cons h a => .cons (Dp_same e h) (DpAll_same e a)
end
/-! a list of one's own is changed: what was there before it is still there -/
theorem same_upd {H0 H : Hp} {R : Addr} {o : HO} (h : Same H0 H) (n : H0 R = none) : Same H0 (upd H R o) := fun b x e => by
  rw [upd_ne (ne_of_none e n)]
  exact h b x e
/-! tuples of masks -/
def TupAt (H : Hp) (v : V) (ms : List Nat) : Prop := ∃ q, v = .ref q ∧ H q = some (.tup (vm ms))
theorem TupAt.same {H H' : Hp} {v : V} {ms : List Nat} (h : TupAt H v ms) (e : Same H H') : TupAt H' v ms := by
  obtain ⟨q, rfl, h⟩ := h
  exact ⟨q, rfl, e _ _ h⟩
theorem TupAt.dp {K : PySem.W.Frag} {H : Hp} {v : V} {ms : List Nat} (h : TupAt H v ms) : Dp K H v (.tuple (ms.map fun (m : Nat) => .int (m : Int))) := by
  obtain ⟨q, rfl, h⟩ := h
  exact .tup (SqT.of h) (dpVm _)
theorem shw_tup {n : Nat} (hn : n ≤ 6) (p : Nat → Bool) : Shw (.tuple ((lotOf n p).map fun (m : Nat) => PyData.int (m : Int))) 1000 1 := by
  have h6 := pow6 (w := n) hn
  have hl := lot_len hn p
  have h := (shw_nats (ms := lotOf n p) fun m hm => by have := (mem_lot.mp hm).1; omega).tuple
  exact h.mono (by omega) (by omega)
/-! when two lists of numbers, two lots are equal -/
theorem eqv_nats : ∀ ms ks : List Nat, PyData.eqvAll (ms.map fun (m : Nat) => PyData.int (m : Int)) (ks.map fun (m : Nat) => PyData.int (m : Int)) = decide (ms = ks)
  | [], [] => rfl
  | [], k :: ks => by simp [PyData.eqvAll]
  | m :: ms, [] => by simp [PyData.eqvAll]
  | m :: ms, k :: ks => by
    have h := eqv_nats ms ks
    simp only [List.map_cons, PyData.eqvAll, PyData.eqv, h]
    rw [Bool.eq_iff_iff]
    simp only [Bool.and_eq_true, decide_eq_true_iff, beq_iff_eq, List.cons.injEq]
    constructor
    · rintro ⟨a, b⟩
      exact ⟨by omega, b⟩
    · rintro ⟨a, b⟩
      exact ⟨by omega, b⟩
theorem lot_eq_iff {n : Nat} {p r : Nat → Bool} : lotOf n p = lotOf n r ↔ ∀ m, m < 2 ^ n → p m = r m := by
  refine ⟨fun h m hm => ?_, lot_congr⟩
  have h2 : m ∈ lotOf n p ↔ m ∈ lotOf n r := by rw [h]
  rw [mem_lot, mem_lot] at h2
  rw [Bool.eq_iff_iff]
  exact ⟨fun z => (h2.mp ⟨hm, z⟩).2, fun z => (h2.mpr ⟨hm, z⟩).2⟩
theorem eqv_lots (n : Nat) (p r : Nat → Bool) : PyData.eqv (dLot n p) (dLot n r) = decide (∀ m, m < 2 ^ n → p m = r m) := by
  simp only [dLot, PyData.eqv, PyData.eqvAll, eqv_nats]
  rw [Bool.eq_iff_iff]
  simp [lot_eq_iff]
/-- what one turn must do: the stream is drawn from at most d times, and what is kept is a lot -/
def TurnL (S : Sm) (d : Nat) (g : TG) (tt : TT) (te : TE) (vs : List Nat) (σ : L2.St) (x : V) (H : Hp) (t : Int) : Prop :=
  ∀ (R1 : Hp → Prop) (R2 : V → Hp → Prop), (∀ (l : Lt) H4 t4, Step S H t H4 t4 d → LtAt H4 l → R2 l.v H4) →
    g x (wipe σ vs) H fun σ2 H2 => wipe σ2 vs = wipe σ vs ∧ tt σ2 H2 fun b H3 => if b = true then te σ2 H3 R2 else R1 H3
def PvL (S : Sm) (d : Nat) (H1 : Hp) (t0 : Int) (D : Addr) (i : Nat) (H : Hp) : Prop := ∃ (ls : List Lt) (t : Int), Step S H1 t0 H t (d * i) ∧ H D = some (.lst (ls.map (·.v))) ∧ (∀ l ∈ ls, LtAt H l) ∧ ls.length = i
theorem lcl_range {g : TG} {tt : TT} {te : TE} {vs : List Nat} {σ : L2.St} {H1 : Hp} {D : Addr} {Qd : Hp → Prop} {S : Sm} {t0 : Int} {n d : Nat} (st0 : Strm S H1 t0) (nD : H1 D = none) (hn : n ≤ 1000)
    (ht : ∀ (i : Nat) H t, i < n → Step S H1 t0 H t (d * i) → TurnL S d g tt te vs σ (.int (0 + (i : Int))) H t) (hd : ∀ H, PvL S d H1 t0 D n H → Qd H) :
    ∃ W : Nat → Nat → Hp → Prop, (∃ m, W 0 m (upd H1 D (.lst []))) ∧ ∀ i m H, W i m H →
      ((Itr 0 n).stop i H ∧ Qd H) ∨ ((Itr 0 n).go i H ∧ ∃ Nx : Hp → Prop, (∀ H', Nx H' → ∃ m', m' < m ∧ W (i + 1) m' H') ∧ ∀ x H', (Itr 0 n).yld i H x H' → g x (wipe σ vs) H' fun σ2 H2 => wipe σ2 vs = wipe σ vs ∧ tt σ2 H2 fun b H3 =>
        if b = true then te σ2 H3 fun y H4 => ∃ acc, H4 D = some (.lst acc) ∧ acc.length < sizeLine ∧ Nx (upd H4 D (.lst (acc ++ [y]))) else Nx H3) := by
  refine lc_range (lo := 0) (n := n) (fun i H => PvL S d H1 t0 D i H) ⟨[], t0, ((Step.refl st0).same (same_new nD)).mono (Nat.zero_le _), upd_same, by simp, rfl⟩ (fun i H hi h => ?_) hd
  obtain ⟨ls, t, stp, hD, hall, hl⟩ := h
  refine ht i H t hi stp _ _ (fun l H4 t4 s4 hl4 => ?_)
  have hD4 := s4.keep.mine st0 nD hD
  refine ⟨_, hD4, small64 (by rw [List.length_map]; omega), ls ++ [l], t4, ?_, ?_, ?_, ?_⟩
  · have z := stp.trans s4
    obtain ⟨nDs, nDp, nDq⟩ := strm_ne st0 nD
    refine ⟨fun b o n1 n2 e => ?_, strm_upd z.st nDs nDp nDq, z.lo, by have := z.hi; rw [Nat.mul_succ]; exact this⟩
    rw [upd_ne (ne_of_none e nD)]
    exact z.keep b o n1 n2 e
  · rw [upd_same, List.map_append]; rfl
  · intro j hj
    have h6 : LtAt H4 j := by
      rcases List.mem_append.mp hj with hj | hj
      · exact lt_keep (hall j hj) s4.keep stp.st
      · rw [List.mem_singleton.mp hj]; exact hl4
    exact ⟨lot_upd hD4 h6.1, h6.2⟩
  · rw [List.length_append, hl]; rfl
end XT
namespace XT
open PySem PySem.Spec PyProof.Rows L2

def topS (i : Nat) : Stmt := PySem.Challenge.pw_xorturns_k41_sums_of_lots.main.body.getD i (.Pass ⟨0, 0, 0, 0⟩)
def sOW : Stmt := match topS 3 with | .ClassDef _ _ _ (s :: _) .. => s | _ => topS 3
abbrev sWidth : Stmt := topS 7
abbrev sSumOf : Stmt := topS 9
abbrev sStream : Stmt := topS 11
abbrev sDraw : Stmt := topS 12
abbrev sDrawn : Stmt := topS 13
abbrev sLike : Stmt := topS 14
abbrev sWErr : Stmt := topS 15
abbrev sLSomeLots : Stmt := topS 16
abbrev sLTotal : Stmt := topS 17
abbrev sLCalled : Stmt := topS 18
abbrev sTold : Stmt := topS 19
abbrev sLDue : Stmt := topS 20
abbrev sLaw : Stmt := topS 21

theorem scD : FnScope ["_law_stream_here", "_law_many", "_law_rest", "_law_turn", "_law_cell", "_law_mixed"] ["_law_stream_here", "_law_many"] (defScope sDraw) := ⟨rfl, rfl, rfl, by decide +kernel, rfl, by decide +kernel, by decide +kernel⟩
section
variable {P : Program} {w : World} {K : PySem.W.Frag} {mg : Str → Option Value} {base : Heap}
theorem ok_draw {f : Addr} {fd : FuncData} {k : Nat} (F : Fun K "_law_draw" "_law_draw" sDraw f fd) (ml : mg "len" = none) : FnOk P w K mg base CX0 (k + 1) f fd ["_law_stream_here", "_law_many"] spDraw := by
  refine F.ok scD (fun vs H Q E h => ?_) (fun cdv A outer s H vs Q E hr h => ?_)
  · obtain ⟨S, t, m, rfl, _⟩ := h
    rfl
  · obtain ⟨S, t, m, rfl, ⟨big0, hS0⟩, m0, m1, t1, q⟩ := h
    refine ⟨_, pss_cons (ps_while PassesOwn.never
        (pt_cmpR (op_neD hr.units) (pe_ix ix_list (pv 0) pe_int (fun _ _ => rfl)) (pe_lst pa_nil) (nomark _))
        (pss_cons (ps_set (i := 2) scD.nd rfl (.inl rfl) (pe_ix ix_list (pe_ix ix_list (pv 0) pe_int (fun _ _ => rfl)) pe_int (fun _ _ => rfl)))
        (pss_cons (ps_if (pt_cmpR op_gt (pv 2) pe_int (nomark _))
          (pss_cons (ps_asg (pe_op op_fdiv (pv 2) (pv 1)) (pg_sub (pe_ix ix_list (pv 0) pe_int (fun _ _ => rfl)) pe_int set_list))
          (pss_one (ps_ret (pe_op op_mod (pv 2) (pv 1))))) pss_nil)
        (pss_one (ps_expr (pe_bm PySem.F.plainAttrs_list PySem.F.slot_list_pop PySem.F.type_list_pop mt_popAt (pe_ix ix_list (pv 0) pe_int (fun _ _ => rfl)) (pa_cons pe_int pa_nil)))))))
      (pss_cons (ps_set (i := 3) scD.nd rfl (.inl rfl) (pe_op op_add (pe_ix ix_list (pv 0) pe_int (fun _ _ => rfl)) pe_int))
      (pss_cons (ps_asg (pv 3) (pg_sub (pv 0) pe_int set_list))
      (pss_cons (ps_set (i := 4) scD.nd rfl (.inl rfl) (pe_op op_mod (pe_ix ix_list (pe_ix ix_list (pv 0) pe_int (fun _ _ => rfl)) (pe_op op_mod (pv 3) (pe_callB call_len_seq (by rfl) ml PySem.boot_len (pa_cons (pe_ix ix_list (pv 0) pe_int (fun _ _ => rfl)) pa_nil))) (fun _ _ => rfl)) pe_int))
      (pss_cons (ps_set (i := 5) scD.nd rfl (.inl rfl) (pe_op op_mod (pe_op op_add (pe_op op_add (pe_op op_mul (pv 4) (pe_op op_add pe_int (pe_op op_mul pe_int (pv 3)))) (pe_op op_mul (pe_op op_mul pe_int (pv 3)) (pv 3))) pe_int) pe_int))
      (pss_one (ps_ret (pe_op op_mod (pe_op op_fdiv (pe_op op_mod (pe_op op_mul (pv 5) (pv 5)) pe_int) pe_int) (pv 1)))))))), ?_⟩
    refine ⟨fun n σ H1 => ∃ big y2, σ = [some (.ref S.s), some (.int m), y2, none, none, none] ∧ n = big.length ∧ StrmB S H1 t big ∧ Keep S H H1,
      ⟨big0.length, big0, none, rfl, rfl, hS0, Keep.refl S H⟩, ?_⟩
    rintro n σ H1 ⟨big, y2, rfl, rfl, hS, hk⟩
    -- while stream[0] != []
    refine ⟨.ref S.s, rfl, S.s, _, 0, .ref S.p, rfl, rfl, SqL.of hS.hs, rfl, Nat.zero_le _, fun z nz => ?_⟩
    have sm : Same H1 (upd H1 z (.lst [])) := same_new nz
    have hz : (upd H1 z (.lst [])) z = some (.lst []) := upd_same
    have hS' := hS.same sm
    have hk' : Keep S H (upd H1 z (.lst [])) := hk.trans (Keep.of sm)
    generalize upd H1 z (.lst []) = H2 at *
    clear hS hk sm nz
    refine ⟨_, _, .lst (SqL.of hS'.hp) (dpInts big), .lst (SqL.of hz) .nil, ke_shaped big, rfl, _, rfl, ?_⟩
    cases big with
    | cons x rest =>
      have e : (!PyData.eqv (.list ((x :: rest).map PyData.int)) (.list [])) = true := rfl
      rw [e]
      refine iteT ?_
      refine ⟨fun σ' H' => ∃ y2, σ' = [some (.ref S.s), some (.int m), y2, none, none, none] ∧ StrmB S H' t rest ∧ Keep S H H', ?_, ?_⟩
      · rintro σ' H' ⟨y, rfl, h1, h2⟩
        exact ⟨rest.length, Nat.lt_succ_self _, rest, y, rfl, rfl, h1, h2⟩
      · refine ⟨.ref S.s, rfl, S.s, _, 0, .ref S.p, rfl, rfl, SqL.of hS'.hs, rfl, S.p, _, 0, .int x, rfl, rfl, SqL.of hS'.hp, atI_nat (j := 0) rfl, ?_⟩
        refine ⟨.int x, rfl, x, 0, rfl, rfl, _, rfl, ite2 (fun hx => ?_) (fun hx => ?_)⟩
        · refine ⟨.int x, rfl, .int m, rfl, x, m, rfl, rfl, ⟨m0, m1⟩, ?_⟩
          refine ⟨.ref S.s, rfl, S.s, _, 0, .ref S.p, rfl, rfl, SqL.of hS'.hs, rfl, S.p, _, 0, 0, rfl, rfl, hS'.hp, ix0 (Nat.succ_pos _), ?_⟩
          refine ⟨.int x, rfl, .int m, rfl, x, m, rfl, rfl, m0, ?_⟩
          refine q _ _ t (fun b o n1 n2 eb => ?_) ⟨(x / m) :: rest, ?_⟩ (Int.le_refl _) (by omega) (Int.emod_nonneg _ (by omega)) (Int.emod_lt_of_pos _ m0)
          · rw [upd_ne n2]; exact hk' b o n1 n2 eb
          · refine ⟨?_, upd_same, ?_, hS'.sp, hS'.sq, hS'.pq, hS'.ne, hS'.t0⟩
            · rw [upd_ne hS'.sp]; exact hS'.hs
            · rw [upd_ne hS'.pq.symm]; exact hS'.hq
        · refine ⟨.ref S.s, rfl, S.s, _, 0, .ref S.p, rfl, rfl, SqL.of hS'.hs, rfl, .inl ⟨rfl, _, SqL.of hS'.hp⟩, S.p, _, 0, 0, .int x, rfl, rfl, hS'.hp, by decide, by decide, sq0 (Nat.succ_pos _), rfl, ?_⟩
          refine ⟨_, rfl, ⟨?_, upd_same, ?_, hS'.sp, hS'.sq, hS'.pq, hS'.ne, hS'.t0⟩, fun b o n1 n2 eb => ?_⟩
          · rw [upd_ne hS'.sp]; exact hS'.hs
          · rw [upd_ne hS'.pq.symm]; exact hS'.hq
          · rw [upd_ne n2]; exact hk' b o n1 n2 eb
    | nil =>
      have e : (!PyData.eqv (.list (([] : List Int).map PyData.int)) (.list [])) = false := rfl
      rw [e]
      refine iteF ?_
      have t0 := hS'.t0
      -- turn = stream[2] + 1; stream[2] = turn
      refine ⟨.ref S.s, rfl, S.s, _, 2, .int t, rfl, rfl, SqL.of hS'.hs, rfl, t, 1, rfl, rfl, ?_⟩
      refine ⟨.int (t + 1), rfl, .ref S.s, rfl, S.s, _, 2, 2, rfl, rfl, hS'.hs, rfl, ?_⟩
      generalize hH3 : upd H2 S.s (.lst ([V.ref S.p, .ref S.q, .int t].set 2 (.int (t + 1)))) = H3
      have hS3 : StrmB S H3 (t + 1) [] := by
        subst hH3
        refine ⟨upd_same, ?_, ?_, hS'.sp, hS'.sq, hS'.pq, hS'.ne, by omega⟩
        · rw [upd_ne hS'.sp.symm]; exact hS'.hp
        · rw [upd_ne hS'.sq.symm]; exact hS'.hq
      have hk3 : Keep S H H3 := fun b o n1 n2 eb => by
        subst hH3
        rw [upd_ne n1]; exact hk' b o n1 n2 eb
      clear hH3
      -- cell
      have hl : (0 : Int) < ((S.cs.map V.int).length : Nat) := by rw [List.length_map]; have := hS'.ne; omega
      have hm1 : (t + 1) % ((S.cs.map V.int).length : Nat) < ((S.cs.map V.int).length : Nat) := Int.emod_lt_of_pos _ hl
      have hm0 : 0 ≤ (t + 1) % ((S.cs.map V.int).length : Nat) := Int.emod_nonneg _ (by omega)
      obtain ⟨j, hj⟩ : ∃ j : Nat, (t + 1) % ((S.cs.map V.int).length : Nat) = j := ⟨_, (Int.toNat_of_nonneg hm0).symm⟩
      have hjl : j < S.cs.length := by rw [List.length_map] at hm1 hj; omega
      have hat : atI (S.cs.map V.int) ((t + 1) % ((S.cs.map V.int).length : Nat)) = some (.int S.cs[j]) := by
        rw [hj]
        refine atI_nat ?_
        rw [List.getElem?_map, List.getElem?_eq_getElem hjl]
        rfl
      refine ⟨.ref S.s, rfl, S.s, _, 1, .ref S.q, rfl, rfl, SqL.of hS3.hs, rfl, .int (t + 1), rfl, .ref S.s, rfl, S.s, _, 1, .ref S.q, rfl, rfl, SqL.of hS3.hs, rfl, S.q, _, rfl, .inl (SqL.of hS3.hq), _, _, rfl, rfl, hl, ?_⟩
      have k87 : (0 : Int) < 2147483587 := by decide
      have k47 : (0 : Int) < 2147483647 := by decide
      have k29 : (0 : Int) < 2147483629 := by decide
      refine ⟨S.q, _, _, .int S.cs[j], rfl, rfl, SqL.of hS3.hq, hat, S.cs[j], _, rfl, rfl, k87, ?_⟩
      obtain ⟨c1, c0⟩ := pm87 (x := S.cs[j])
      obtain ⟨c, hc⟩ : ∃ c, S.cs[j] % 2147483587 = c := ⟨_, rfl⟩
      rw [hc] at c1 c0
      -- mixed
      refine ⟨.int c, congrArg (fun x => some (some (V.int x))) hc, .int (t + 1), rfl, 40692, t + 1, rfl, rfl, .inl ⟨by decide, by decide⟩, 69621, 40692 * (t + 1), rfl, rfl, c, 69621 + 40692 * (t + 1), rfl, rfl, .inl ⟨by omega, by omega⟩, ?_⟩
      refine ⟨.int (t + 1), rfl, 48271, t + 1, rfl, rfl, .inl ⟨by decide, by decide⟩, .int (t + 1), rfl, 48271 * (t + 1), t + 1, rfl, rfl, .inr ⟨by omega, by omega⟩, c * (69621 + 40692 * (t + 1)), 48271 * (t + 1) * (t + 1), rfl, rfl, _, 47, rfl, rfl, c * (69621 + 40692 * (t + 1)) + 48271 * (t + 1) * (t + 1) + 47, 2147483647, rfl, rfl, k47, ?_⟩
      obtain ⟨d1, d0⟩ := pm31 (x := c * (69621 + 40692 * (t + 1)) + 48271 * (t + 1) * (t + 1) + 47)
      obtain ⟨d, hd⟩ : ∃ d, (c * (69621 + 40692 * (t + 1)) + 48271 * (t + 1) * (t + 1) + 47) % 2147483647 = d := ⟨_, rfl⟩
      rw [hd] at d1 d0
      have ed : some (some (V.int ((c * (69621 + 40692 * (t + 1)) + 48271 * (t + 1) * (t + 1) + 47) % 2147483647))) = some (some (V.int d)) := congrArg (fun x => some (some (V.int x))) hd
      refine ⟨.int d, ed, .int d, ed, d, d, rfl, rfl, .inl ⟨by omega, by omega⟩, d * d, 2147483629, rfl, rfl, k29, d * d % 2147483629, 16, rfl, rfl, ⟨by decide, by decide⟩, .int m, rfl, _, m, rfl, rfl, m0, ?_⟩
      exact q _ _ (t + 1) hk3 ⟨_, hS3⟩ (by omega) (Int.le_refl _) (Int.emod_nonneg _ (by omega)) (Int.emod_lt_of_pos _ m0)
end
end XT
namespace XT
open PySem PySem.Spec PyProof.Rows L2

theorem scSt : FnScope ["_law_script", "_law_cells", "_law_cell"] ["_law_script"] (defScope sStream) := ⟨rfl, rfl, rfl, by decide +kernel, rfl, by decide +kernel, by decide +kernel⟩
section
variable {P : Program} {w : World} {K : PySem.W.Frag} {mg : Str → Option Value} {base : Heap}
theorem ok_stream {f : Addr} {fd : FuncData} {k : Nat} (F : Fun K "_law_stream" "_law_stream" sStream f fd) (ml : mg "len" = none) (ma : mg "abs" = none) : FnOk P w K mg base CX0 (k + 1) f fd ["_law_script"] (spStream K) := by
  refine F.ok scSt (fun vs H Q E h => ?_) (fun cdv A outer s H vs Q E hr h => ?_)
  · obtain ⟨a, ns, rfl, _⟩ := h
    rfl
  · obtain ⟨a, ns, rfl, hA, hlen, q⟩ := h
    refine ⟨_, pss_cons (ps_setLc (i := 1) (own := [("_law_cell", 2)]) (g := gName 2) (tt := tYes) rfl scSt.nd rfl rfl (sw_true rfl rfl rfl (by decide +kernel)) (pi_list (pv 0)) (blkOk_by (own := [("_law_cell", 2)]) (N := ["_law_script", "_law_cells", "_law_cell"]) (sc := defScope sStream) (by decide +kernel))
          (fun _ _ _ _ _ => pg_name (i := 2) scSt.nd rfl (Or.inl rfl)) (fun _ _ _ _ _ => pts_nil) (fun _ _ _ _ _ => pe_callB call_abs (by rfl) ma (by decide +kernel) (pa_cons (pv 2) pa_nil)))
        (pss_one (ps_ret (pe_lst (pa_cons
          (pe_lc (own := [("_law_cell", 2)]) (g := gName 2) rfl scSt.nd (pi_list (pv 1)) (blkOk_by (own := [("_law_cell", 2)]) (N := ["_law_script", "_law_cells", "_law_cell"]) (sc := defScope sStream) (by decide +kernel))
            (fun _ _ _ _ _ => pg_name (i := 2) scSt.nd rfl (Or.inl rfl)) (fun _ _ _ _ _ => pts_one (pt_cmpR op_ge (pv 2) (pe_op op_pow pe_int pe_int) (nomark _))) (fun _ _ _ _ _ => pv 2))
          (pa_cons (pe_op op_cat (pv 1) (pe_lst (pa_cons (pe_op op_add (pe_callB call_len_seq (by rfl) ml PySem.boot_len (pa_cons (pv 1) pa_nil)) pe_int) pa_nil)))
          (pa_cons pe_int pa_nil)))))), ?_⟩
    have hml : (ns.map V.int).length ≤ 63 := by rw [List.length_map]; exact hlen
    refine ⟨.ref a, rfl, a, rfl, ⟨_, hA⟩, fun D nD => lcp_list (p := fun _ => true) (f := fun v => match v with | .int i => .int (ab i) | v => v) nD hA (small64 (by omega)) (fun i x H3 hx sm => ?_) (fun H3 sm hD => ?_)⟩
    · intro R1 R2 h1 h2
      rw [List.getElem?_map] at hx
      obtain ⟨n, -, rfl⟩ := Option.map_eq_some_iff.mp hx
      exact ⟨rfl, iteT (B := R1 H3) ⟨_, rfl, n, rfl, h2 rfl _ (Same.refl _)⟩⟩
    · -- cells
      obtain ⟨cs, hcs, hcl⟩ : ∃ cs : List Int, (((ns.map V.int).filter fun _ => true).map fun v => match v with | .int i => V.int (ab i) | v => v) = cs.map V.int ∧ cs.length = ns.length := by
        refine ⟨ns.map ab, ?_, List.length_map _⟩
        rw [List.filter_eq_self.mpr (fun _ _ => rfl), List.map_map, List.map_map]
        rfl
      rw [hcs] at hD
      have hDl : (cs.map V.int).length ≤ 63 := by rw [List.length_map]; omega
      refine ⟨.ref D, rfl, D, rfl, ⟨_, SqL.of hD⟩, fun B nB => lcp_list (p := fun v => match v with | .int i => decide (10 ^ 18 ≤ i) | _ => false) (f := id) nB (SqL.of hD) (small64 (by omega)) (fun i x H4 hx sm4 => ?_) (fun H4 sm4 hB => ?_)⟩
      · intro R1 R2 h1 h2
        rw [List.getElem?_map] at hx
        obtain ⟨n, -, rfl⟩ := Option.map_eq_some_iff.mp hx
        refine ⟨rfl, _, rfl, 10, 18, rfl, rfl, ⟨by decide, by decide, by decide⟩, n, _, rfl, rfl, _, rfl, ite2 (fun e => ?_) (fun e => ?_)⟩
        · exact ⟨_, rfl, h2 e _ (Same.refl _)⟩
        · exact h1 (by simpa using e) _ (Same.refl _)
      · have hD4 := sm4 _ _ hD
        obtain ⟨big, hbig⟩ : ∃ big : List Int, (((cs.map V.int).filter fun v => match v with | .int i => decide (10 ^ 18 ≤ i) | _ => false).map id) = big.map V.int := by
          refine ⟨cs.filter fun i => decide (10 ^ 18 ≤ i), ?_⟩
          rw [List.map_id, List.filter_map]
          rfl
        rw [hbig] at hB
        refine ⟨.ref D, rfl, .ref D, rfl, D, _, rfl, .inl (SqL.of hD4), _, _, rfl, rfl, sz (n := 1) (by decide), fun L nL => ?_⟩
        have s5 : Same H4 (upd H4 L (.lst [.int (((cs.map V.int).length : Nat) + 37)])) := same_new nL
        refine ⟨D, L, _, _, rfl, rfl, s5 _ _ hD4, upd_same, ?_, fun C nC => ?_⟩
        · rw [sizeLine_eq]; simp only [List.length_map, List.length_cons, List.length_nil]; omega
        · have s6 := same_new (o := .lst (cs.map V.int ++ [.int (((cs.map V.int).length : Nat) + 37)])) nC
          refine ⟨sz (n := 3) (by decide), fun G nG => ?_⟩
          have s7 := same_new (o := .lst [V.ref B, .ref C, .int 0]) nG
          have hBC : B ≠ C := ne_of_none (s5 _ _ hB) nC
          refine q _ ⟨G, B, C, cs ++ [(((cs.map V.int).length : Nat) : Int) + 37]⟩ (((sm.trans sm4).trans (s5.trans s6)).trans s7) ⟨big, upd_same, s7 _ _ (s6 _ _ (s5 _ _ hB)), s7 _ _ ?_, ?_, ?_, hBC, ?_, Int.le_refl _⟩
          · rw [upd_same, List.map_append]; rfl
          · exact (ne_of_none (s6 _ _ (s5 _ _ hB)) nG).symm
          · exact (ne_of_none (show (upd _ C _) C = some _ from upd_same) nG).symm
          · show 0 < (cs ++ _).length
            rw [List.length_append]; exact Nat.succ_pos _
end
end XT
namespace XT
open PySem PySem.Spec PyProof.Rows L2
abbrev nDn : List Str := ["_law_stream_here", "_law_most", "_law_width", "_law_way", "_law_count", "_law_masks", "_law_k", "_law_turn", "_law_out", "_law_mask"]
theorem scDn : FnScope nDn ["_law_stream_here", "_law_most"] (defScope sDrawn) := ⟨rfl, rfl, rfl, by decide +kernel, rfl, by decide +kernel, by decide +kernel⟩
section
variable {P : Program} {w : World} {K : PySem.W.Frag} {mg : Str → Option Value} {base : Heap}
def spDrawn : Sp := fun vs H Q _ => ∃ (S : Sm) (t : Int) (most : Nat), vs = [.ref S.s, .int (most : Int)] ∧ Strm S H t ∧ 1 ≤ most ∧ most ≤ 6 ∧ t < 10000000 ∧
  ∀ (H' : Hp) (r : V) (n : Nat) (p : Nat → Bool) (t' : Int), Step S H t H' t' 300 → 1 ≤ n → n ≤ most → LotAt H' r n p → Q r H'
/-- the masks so far -/
def MidD (S : Sm) (H : Hp) (t : Int) (most n way B : Nat) (σ : L2.St) (H' : Hp) : Prop := ∃ (M : Addr) (ks : List Nat) (t' : Int) (y6 y7 y8 : Option V),
  σ = [some (.ref S.s), some (.int (most : Int)), some (.int (n : Int)), some (.int (way : Int)), some (.int ((2 ^ n : Nat) : Int)), some (.ref M), y6, y7, y8, none] ∧
  Step S H t H' t' B ∧ H' M = some (.lst (vm ks)) ∧ M ≠ S.s ∧ M ≠ S.p ∧ (∀ k ∈ ks, k < 2 ^ n) ∧ ks.length ≤ 64
theorem fresh_s {S : Sm} {H : Hp} {t : Int} {x : Addr} (h : Strm S H t) (n : H x = none) : x ≠ S.s ∧ x ≠ S.p := by
  obtain ⟨_, h⟩ := h
  exact ⟨fun e => (by rw [e, h.hs] at n; cases n), fun e => (by rw [e, h.hp] at n; cases n)⟩
abbrev tDr (m : TE) : TE := fun σ H Q => tCons (tVar 0) (tCons m tNil) σ H fun vs H1 => spDrawN vs H1 Q E0
theorem or_eq {σ : L2.St} {H : Hp} {i : Nat} {x a b : Int} {Q : Bool → Hp → Prop} (hx : σ[i]? = some (some (.int x))) (h : Q (decide (x = a ∨ x = b)) H) : tOr (tTest (tOp rEq (tVar i) (tC (.int a)))) (tTest (tOp rEq (tVar i) (tC (.int b)))) σ H Q := by
  refine ⟨.int x, hx, rfl, _, rfl, ite2 (fun e => ?_) (fun e => ⟨.int x, hx, rfl, _, rfl, ?_⟩)⟩
  · have e1 : x = a := V.int.inj (of_decide_eq_true e)
    rw [decide_eq_true (Or.inl e1)] at h
    exact h
  · have e1 : x ≠ a := fun z => e (decide_eq_true (by rw [z]))
    by_cases e2 : x = b
    · rw [decide_eq_true (Or.inr e2)] at h
      rw [decide_eq_true (by rw [e2])]
      exact h
    · rw [decide_eq_false (fun z => z.elim e1 e2)] at h
      rw [decide_eq_false (fun z => e2 (V.int.inj z))]
      exact h
theorem ok_drawn {f : Addr} {fd : FuncData} {k : Nat} (B : Bl mg) (F : Fun K "_law_drawn" "_law_drawn" sDrawn f fd) (dD : DefR P w K mg base 1 "_law_draw" spDrawN) : FnOk P w K mg base CX0 (k + 2) f fd ["_law_stream_here", "_law_most"] spDrawn := by
  refine F.ok scDn (fun vs H Q E h => ?_) (fun cdv A outer s H vs Q E hr h => ?_)
  · obtain ⟨S, t, most, rfl, _⟩ := h
    rfl
  · obtain ⟨S, t, most, rfl, st, ml, mh, ht, q⟩ := h
    have hr1 : Room 1 (A.deeper (envOfC "_law_drawn" (defScope sDrawn) s.heap.objs.size f cdv)) := hr.mono (by omega)
    refine ⟨_, pss_cons (ps_asg (pe_tup (pa_cons (pe_op op_add pe_int (pe_def dD hr1 (by rfl) (pa_cons (pv 0) (pa_cons (pv 1) pa_nil)))) (pa_cons (pe_def dD hr1 (by rfl) (pa_cons (pv 0) (pa_cons pe_int pa_nil))) pa_nil)))
          (pg_tup rfl (pgs_cons (pg_name (i := 2) scDn.nd rfl (.inl rfl)) (pgs_cons (pg_name (i := 3) scDn.nd rfl (.inr rfl)) pgs_nil))))
      (C8.pss_cut (ps_asg (pe_tup (pa_cons (pe_op op_shl pe_int (pv 2)) (pa_cons (pe_lst pa_nil) pa_nil)))
          (pg_tup rfl (pgs_cons (pg_name (i := 4) scDn.nd rfl (.inr rfl)) (pgs_cons (pg_name (i := 5) scDn.nd rfl (.inl rfl)) pgs_nil))))
      (C8.pss_cut (ps_if (pt_cmpR op_eq (pv 3) pe_int (nomark _))
          (pss_one (ps_setLc (i := 5) (own := [("_law_mask", 9)]) (g := gName 9) (te := tVar 9) rfl scDn.nd rfl rfl (sw_true rfl rfl rfl (by decide +kernel)) (pi_range1 (by rfl) B.range (pa_cons (pv 4) pa_nil)) (blkOk_by (own := [("_law_mask", 9)]) (N := nDn) (sc := defScope sDrawn) (by decide +kernel))
            (fun _ _ _ _ _ => pg_name (i := 9) scDn.nd rfl (Or.inl rfl)) (fun _ _ _ _ _ => pts_one (pt_cmpR op_eq (pe_def dD hr1 (by rfl) (pa_cons (pv 0) (pa_cons pe_int pa_nil))) pe_int (nomark _))) (fun _ _ _ _ _ => pv 9))) pss_nil)
      (C8.pss_cut (ps_if (PW.pt (pw_or (pt_cmpR op_eq (pv 3) pe_int (nomark _)) (pw_or1 (pt_cmpR op_eq (pv 3) pe_int (nomark _)))))
          (pss_one (ps_setLc (i := 5) (own := [("_law_k", 6)]) (g := gName 6) (tt := tYes) rfl scDn.nd rfl rfl (sw_true rfl rfl rfl (by decide +kernel))
            (pi_range1 (by rfl) B.range (pa_cons (pe_def dD hr1 (by rfl) (pa_cons (pv 0) (pa_cons (pe_ix ix_list (pe_lst (pa_cons pe_int (pa_cons pe_int pa_nil))) (pe_op op_sub (pv 3) pe_int) (fun _ _ => rfl)) pa_nil))) pa_nil)) (blkOk_by (own := [("_law_k", 6)]) (N := nDn) (sc := defScope sDrawn) (by decide +kernel))
            (fun _ _ _ _ _ => pg_name (i := 6) scDn.nd rfl (Or.inl rfl)) (fun _ _ _ _ _ => pts_nil) (fun _ _ _ _ _ => pe_def dD hr1 (by rfl) (pa_cons (pv 0) (pa_cons (pv 4) pa_nil))))) pss_nil)
      (C8.pss_cut (ps_if (PW.pt (pw_or (pt_cmpR op_eq (pv 3) pe_int (nomark _)) (pw_or1 (pt_cmpR op_eq (pv 3) pe_int (nomark _)))))
          (pss_cons (ps_set (i := 5) scDn.nd rfl (.inl rfl) (pe_lst (pa_cons (pe_def dD hr1 (by rfl) (pa_cons (pv 0) (pa_cons (pv 4) pa_nil))) pa_nil)))
          (pss_one (ps_for PassesOwn.never rfl (pi_range1 (by rfl) B.range (pa_cons (pe_def dD hr1 (by rfl) (pa_cons (pv 0) (pa_cons pe_int pa_nil))) pa_nil)) (pg_name (i := 6) scDn.nd rfl (.inl rfl))
            (pss_cons (ps_set (i := 7) scDn.nd rfl (.inr rfl) (pe_def dD hr1 (by rfl) (pa_cons (pv 0) (pa_cons (pv 4) pa_nil))))
            (pss_one (ps_set (i := 5) scDn.nd rfl (.inl rfl) (pe_op op_cat (pv 5)
              (pe_lc (own := [("_law_mask", 9)]) (g := gName 9) rfl scDn.nd (pi_list (pv 5)) (blkOk_by (own := [("_law_mask", 9)]) (N := nDn) (sc := defScope sDrawn) (by decide +kernel))
                (fun _ _ _ _ _ => pg_name (i := 9) scDn.nd rfl (Or.inl rfl)) (fun _ _ _ _ _ => pts_one (pt_cmpR op_gt (pe_def dD hr1 (by rfl) (pa_cons (pv 0) (pa_cons pe_int pa_nil))) (pe_op op_sub pe_int (pv 3)) (nomark _)))
                (fun _ _ _ _ _ => pe_op op_xor (pv 9) (pv 7)))))))))) pss_nil)
      (C8.pss_cut (ps_if (pt_cmpR op_eq (pv 3) pe_int (nomark _))
          (pss_cons (ps_set (i := 8) scDn.nd rfl (.inr rfl)
            (pe_lc (own := [("_law_k", 6)]) (g := gName 6) (tt := tYes) rfl scDn.nd (pi_range1 (by rfl) B.range (pa_cons (pe_def dD hr1 (by rfl) (pa_cons (pv 0) (pa_cons pe_int pa_nil))) pa_nil)) (blkOk_by (own := [("_law_k", 6)]) (N := nDn) (sc := defScope sDrawn) (by decide +kernel))
              (fun _ _ _ _ _ => pg_name (i := 6) scDn.nd rfl (Or.inl rfl)) (fun _ _ _ _ _ => pts_nil) (fun _ _ _ _ _ => pe_def dD hr1 (by rfl) (pa_cons (pv 0) (pa_cons (pv 4) pa_nil)))))
          (pss_one (ps_setLc (i := 5) (own := [("_law_mask", 9)]) (g := gName 9) (tt := tTest (tOp (rIn K true) (tVar 9) (tVar 8))) (te := tVar 9) rfl scDn.nd rfl rfl (sw_true rfl rfl rfl (by decide +kernel)) (pi_range1 (by rfl) B.range (pa_cons (pv 4) pa_nil)) (blkOk_by (own := [("_law_mask", 9)]) (N := nDn) (sc := defScope sDrawn) (by decide +kernel))
            (fun _ _ _ _ _ => pg_name (i := 9) scDn.nd rfl (Or.inl rfl)) (fun _ _ _ _ _ => pts_one (pt_cmpR op_notIn_seq (pv 9) (pv 8) (by rfl))) (fun _ _ _ _ _ => pv 9)))) pss_nil)
      (pss_one (ps_ret (pe_tup (pa_cons (pv 2) (pa_cons (pe_callTy call_tuple_of (by rfl) B.tuple bT (pa_cons (pe_callB (cr_sortS rfl) (by rfl) B.sorted bS (pa_cons (pe_callTy (cr_setL rfl) (by rfl) B.set bSet (pa_cons (pv 5) pa_nil)) pa_nil)) pa_nil)) pa_nil)))))))))), ?_⟩
    -- width, way
    refine ⟨.ref S.s, rfl, .int most, rfl, S, t, most, rfl, st, by omega, by omega, by omega, fun H1 r1 t1 s1 hr1 => ?_⟩
    refine ⟨1, r1, rfl, rfl, .ref S.s, rfl, S, t1, 6, rfl, s1.st, by omega, by omega, by have := s1.hi; omega, fun H2 way t2 s2 hway => ?_⟩
    refine ⟨sz (n := 2) (by decide), fun T nT => ⟨T, _, rfl, SqT.of upd_same, rfl, _, _, rfl, _, _, rfl, rfl, ?_⟩⟩
    have s3 := (s1.trans s2).same (same_new (o := .tup [.int (1 + (r1 : Int)), .int (way : Int)]) nT)
    obtain ⟨n, hn⟩ : ∃ n : Nat, n = 1 + r1 := ⟨_, rfl⟩
    have hn1 : 1 ≤ n := by omega
    have hn6 : n ≤ most := by omega
    -- count, masks
    refine ⟨MidD S H t most n way 10, ?_, fun σ0 H0 mid0 => ?_⟩
    · refine ⟨.int (1 + (r1 : Int)), rfl, 1, (n : Int), rfl, by rw [hn]; rfl, cpow (by omega), sz (n := 0) (by decide), fun M nM => ⟨sz (n := 2) (by decide), fun T2 nT2 => ⟨T2, _, rfl, SqT.of upd_same, rfl, _, _, rfl, _, _, rfl, rfl, ?_⟩⟩⟩
      have fs := fresh_s s3.st nM
      have s4 := s3.same (same_new (o := .lst []) nM)
      refine ⟨M, [], t2, none, none, none, ?_, (s4.same (same_new nT2)).mono (by omega), ?_, fs.1, fs.2, by simp, by simp⟩
      · rw [← shl1 n, hn]
        rfl
      · rw [upd_ne (ne_of_none upd_same nT2)]
        exact upd_same
    -- if way == 0
    refine ⟨MidD S H t most n way 80, ?_, fun σ1 H1 mid1 => ?_⟩
    · obtain ⟨M, ks, t', y6, y7, y8, rfl, stp, hM, as, ap, hk, hl⟩ := mid0
      refine ⟨.int way, rfl, rfl, _, rfl, ite2 (fun e => ?_) (fun e => ?_)⟩
      · refine ⟨.int ((2 ^ n : Nat) : Int), rfl, ((2 ^ n : Nat) : Int), rfl, l62, r62 (by omega), fun D nD => ?_⟩
        have p6 := pow6 (w := n) (by omega)
        have hi0 := stp.hi
        refine lcs_range (S := S) (c := 2 ^ n) (d := 1) (n := 2 ^ n) stp.st nD (by omega) (fun i H3 t3 hi s3 => ?_) (fun H3 pv => ?_)
        · intro R1 R2 h1 h2
          have hi3 := s3.hi
          refine ⟨rfl, .ref S.s, rfl, S, t3, 2, rfl, s3.st, by omega, by omega, by omega, fun H4 r t4 s4 hr4 => ⟨rfl, _, rfl, ite2 (fun e => ?_) (fun e => ?_)⟩⟩
          · refine ⟨.int (0 + (i : Int)), rfl, ?_⟩
            rw [Int.zero_add]
            exact h2 i H4 t4 s4 hi
          · exact h1 H4 t4 s4
        · obtain ⟨ks2, t3, s3, hD, hk2, hl2⟩ := pv
          have fs := fresh_s stp.st nD
          exact ⟨D, ks2, t3, y6, y7, y8, rfl, (stp.trans s3).mono (by omega), hD, fs.1, fs.2, hk2, by omega⟩
      · exact ⟨M, ks, t', y6, y7, y8, rfl, stp.mono (by omega), hM, as, ap, hk, hl⟩
    -- if way == 1 or way == 2
    refine ⟨MidD S H t most n way 100, ?_, fun σ2 H2 mid2 => ?_⟩
    · obtain ⟨M, ks, t', y6, y7, y8, rfl, stp, hM, as, ap, hk, hl⟩ := mid1
      refine or_eq (x := (way : Int)) rfl (ite2 (fun e => ?_) (fun e => ?_))
      · have e1 : way = 1 ∨ way = 2 := by
          have := of_decide_eq_true e
          omega
        obtain ⟨m, hm, hm7⟩ : ∃ m : Nat, atI [V.int 3, V.int 7] ((way : Int) - 1) = some (.int (m : Int)) ∧ (m = 3 ∨ m = 7) := by
          rcases e1 with rfl | rfl
          · exact ⟨3, rfl, .inl rfl⟩
          · exact ⟨7, rfl, .inr rfl⟩
        have hi0 := stp.hi
        refine ⟨.ref S.s, rfl, sz (n := 2) (by decide), fun L nL => ⟨.int way, rfl, way, 1, rfl, rfl, L, _, (way : Int) - 1, .int (m : Int), rfl, rfl, SqL.of upd_same, hm, ?_⟩⟩
        have s0 := stp.same (same_new (o := .lst [.int 3, .int 7]) nL)
        refine ⟨S, t', m, rfl, s0.st, by omega, by omega, by omega, fun H3 r t3 s3 hr3 => ?_⟩
        have hi3 := s3.hi
        refine ⟨r, rfl, by omega, by omega, fun D nD => ?_⟩
        have p6 := pow6 (w := n) (by omega)
        have p0 := pow0 n
        refine lcs_range (S := S) (c := 2 ^ n) (d := 1) (n := r) (g := gName 6) (tt := tYes) (te := tDr (tVar 4)) (vs := [6]) s3.st nD (by omega) (fun i H4 t4 hi s4 => ?_) (fun H4 pv => ?_)
        · intro R1 R2 h1 h2
          have hi4 := s4.hi
          refine ⟨rfl, iteT (B := R1 H4) ⟨.ref S.s, rfl, .int ((2 ^ n : Nat) : Int), rfl, S, t4, 2 ^ n, rfl, s4.st, by omega, by omega, by omega, fun H5 r5 t5 s5 hr5 => h2 r5 H5 t5 s5 hr5⟩⟩
        · obtain ⟨ks2, t4, s4, hD, hk2, hl2⟩ := pv
          have fs := fresh_s s3.st nD
          exact ⟨D, ks2, t4, y6, y7, y8, rfl, ((s0.trans s3).trans s4).mono (by omega), hD, fs.1, fs.2, hk2, by omega⟩
      · exact ⟨M, ks, t', y6, y7, y8, rfl, stp.mono (by omega), hM, as, ap, hk, hl⟩
    -- if way == 3 or way == 4
    refine ⟨MidD S H t most n way 200, ?_, fun σ3 H3 mid3 => ?_⟩
    · obtain ⟨M, ks, t', y6, y7, y8, rfl, stp, hM, as, ap, hk, hl⟩ := mid2
      refine or_eq (x := (way : Int)) rfl (ite2 (fun e => ?_) (fun e => ?_))
      · have hi0 := stp.hi
        have p6 := pow6 (w := n) (by omega)
        have p0 := pow0 n
        refine ⟨.ref S.s, rfl, .int ((2 ^ n : Nat) : Int), rfl, S, t', 2 ^ n, rfl, stp.st, by omega, by omega, by omega, fun H3 r t3 s3 hr3 => ⟨sz (n := 1) (by decide), fun L nL => ?_⟩⟩
        have fs := fresh_s s3.st nL
        have s4 := (stp.trans s3).same (same_new (o := .lst [.int (r : Int)]) nL)
        have hi4 := s4.hi
        refine ⟨.ref S.s, rfl, S, t3, 4, rfl, s4.st, by omega, by omega, by omega, fun H5 r5 t5 s5 hr5 => ⟨r5, rfl, by omega, by omega, ?_⟩⟩
        have hL5 := s5.keep L _ fs.1 fs.2 (show (upd H3 L (.lst [.int (r : Int)])) L = some (.lst (vm [r])) from upd_same)
        refine for_range (lo := 0) (n := r5) (fun i σ K0 => ∃ (M : Addr) (ks : List Nat) (t' : Int) (z6 z7 : Option V),
          σ = [some (.ref S.s), some (.int (most : Int)), some (.int (n : Int)), some (.int (way : Int)), some (.int ((2 ^ n : Nat) : Int)), some (.ref M), z6, z7, y8, none] ∧
          Step S H t K0 t' (102 + 9 * i) ∧ K0 M = some (.lst (vm ks)) ∧ M ≠ S.s ∧ M ≠ S.p ∧ (∀ k ∈ ks, k < 2 ^ n) ∧ ks.length ≤ 2 ^ i) ?_ (fun i σ K0 hi h => ?_) (fun σ K0 h => ?_)
        · exact ⟨L, [r], t5, y6, y7, rfl, (s4.trans s5).mono (by omega), hL5, fs.1, fs.2, by simpa using hr3, by simp⟩
        · obtain ⟨M, ks, t6, z6, z7, rfl, s6, hM6, as6, ap6, hk6, hl6⟩ := h
          have hi6 := s6.hi
          have pi : 2 ^ i ≤ 4 := by
            have : i = 0 ∨ i = 1 ∨ i = 2 := by omega
            rcases this with rfl | rfl | rfl <;> decide
          refine ⟨.ref S.s, rfl, .int ((2 ^ n : Nat) : Int), rfl, S, t6, 2 ^ n, rfl, s6.st, by omega, by omega, by omega, fun H7 r7 t7 s7 hr7 => ?_⟩
          have hi7 := s7.hi
          have hM7 := s7.keep M _ as6 ap6 hM6
          refine ⟨.ref M, rfl, .ref M, rfl, M, rfl, ⟨_, SqL.of hM7⟩, fun D nD => ?_⟩
          have fsD := fresh_s s7.st nD
          refine lcs_list (S := S) (c := 2 ^ n) (d := 1) (ms := ks) s7.st nD hM7 as6 ap6 (by omega) (fun j m H8 t8 hj s8 => ?_) (fun H8 pv => ?_)
          · intro R1 R2 h1 h2
            have hi8 := s8.hi
            have hjl : j < ks.length := (List.getElem?_eq_some_iff.mp hj).1
            refine ⟨rfl, .ref S.s, rfl, S, t8, 9, rfl, s8.st, by omega, by omega, by omega, fun H9 r9 t9 s9 hr9 => ⟨.int way, rfl, 4, way, rfl, rfl, r9, _, rfl, rfl, _, rfl, ite2 (fun e => ?_) (fun e => ?_)⟩⟩
            · refine ⟨.int m, rfl, .int r7, rfl, m, r7, rfl, rfl, ?_⟩
              show R2 (.int (Builtin.bitXor (m : Int) (r7 : Int))) H9
              rw [bx]
              exact h2 (m ^^^ r7) H9 t9 s9 (xor_lt (hk6 m (List.mem_of_getElem? hj)) hr7)
            · exact h1 H9 t9 s9
          · obtain ⟨ks8, t8, s8, hD8, hk8, hl8⟩ := pv
            have hM8 := s8.keep M _ as6 ap6 hM7
            refine ⟨M, D, vm ks, vm ks8, rfl, rfl, hM8, hD8, ?_, fun C nC => ?_⟩
            · rw [vm_len, vm_len]; exact sz (by omega)
            · have fsC := fresh_s s8.st nC
              have s9 := ((s6.trans s7).trans s8).same (same_new (o := .lst (vm ks ++ vm ks8)) nC)
              refine ⟨C, ks ++ ks8, t8, some (.int (0 + (i : Int))), some (.int (r7 : Int)), rfl, s9.mono (by omega), ?_, fsC.1, fsC.2, ?_, ?_⟩
              · rw [upd_same]; unfold vm; rw [List.map_append]
              · intro k hk
                rcases List.mem_append.mp hk with hk | hk
                · exact hk6 k hk
                · exact hk8 k hk
              · rw [List.length_append, Nat.pow_succ]; omega
        · obtain ⟨M, ks, t6, z6, z7, rfl, s6, hM6, as6, ap6, hk6, hl6⟩ := h
          have pi : 2 ^ r5 ≤ 8 := by
            have : r5 = 0 ∨ r5 = 1 ∨ r5 = 2 ∨ r5 = 3 := by omega
            rcases this with rfl | rfl | rfl | rfl <;> decide
          exact ⟨M, ks, t6, z6, z7, y8, rfl, s6.mono (by omega), hM6, as6, ap6, hk6, by omega⟩
      · exact ⟨M, ks, t', y6, y7, y8, rfl, stp.mono (by omega), hM, as, ap, hk, hl⟩
    -- if way == 5
    refine ⟨MidD S H t most n way 300, ?_, fun σ4 H4 mid4 => ?_⟩
    · obtain ⟨M, ks, t', y6, y7, y8, rfl, stp, hM, as, ap, hk, hl⟩ := mid3
      refine ⟨.int way, rfl, rfl, _, rfl, ite2 (fun e => ?_) (fun e => ?_)⟩
      · have hi0 := stp.hi
        have p6 := pow6 (w := n) (by omega)
        have p0 := pow0 n
        refine ⟨.ref S.s, rfl, S, t', 4, rfl, stp.st, by omega, by omega, by omega, fun H5 r5 t5 s5 hr5 => ⟨r5, rfl, by omega, by omega, fun D nD => ?_⟩⟩
        have hi5 := s5.hi
        have fs := fresh_s s5.st nD
        refine lcs_range (S := S) (c := 2 ^ n) (d := 1) (n := r5) (g := gName 6) (tt := tYes) (te := tDr (tVar 4)) (vs := [6]) s5.st nD (by omega) (fun i H6 t6 hi s6 => ?_) (fun H6 pv => ?_)
        · intro R1 R2 h1 h2
          have hi6 := s6.hi
          refine ⟨rfl, iteT (B := R1 H6) ⟨.ref S.s, rfl, .int ((2 ^ n : Nat) : Int), rfl, S, t6, 2 ^ n, rfl, s6.st, by omega, by omega, by omega, fun H7 r7 t7 s7 hr7 => h2 r7 H7 t7 s7 hr7⟩⟩
        · obtain ⟨ks6, t6, s6, hD6, hk6, hl6⟩ := pv
          refine ⟨.int ((2 ^ n : Nat) : Int), rfl, ((2 ^ n : Nat) : Int), rfl, l62, r62 (by omega), fun L nL => ?_⟩
          have fsL := fresh_s s6.st nL
          refine lcp_range (n := 2 ^ n) (p := fun m => !decide (m ∈ ks6)) (f := fun m => .int (m : Int)) nL (small64 (by omega)) (fun i H7 hi s7 => ?_) (fun H7 s7 hL => ?_)
          · intro R1 R2 h1 h2
            refine ⟨rfl, _, rfl, .ref D, rfl, D, _, rfl, .inl (SqL.of (s7 _ _ hD6)), rfl, vm_flat _, _, rfl, ?_⟩
            have e : inV (.int (0 + (i : Int))) (vm ks6) = decide (i ∈ ks6) := by
              rw [Int.zero_add]; exact in_vm i ks6
            show if (!inV (.int (0 + (i : Int))) (vm ks6)) = true then _ else _
            rw [e]
            refine ite2 (fun z => ?_) (fun z => ?_)
            · refine ⟨.int (0 + (i : Int)), rfl, ?_⟩
              rw [Int.zero_add]
              exact h2 z _ (Same.refl _)
            · exact h1 (by simpa using z) _ (Same.refl _)
          · refine ⟨L, (List.range (2 ^ n)).filter fun m => !decide (m ∈ ks6), t6, y6, y7, some (.ref D), rfl, (((stp.trans s5).trans s6).same s7).mono (by omega), hL, fsL.1, fsL.2, fun k hk => ?_, ?_⟩
            · exact List.mem_range.mp (List.mem_filter.mp hk).1
            · refine Nat.le_trans (List.length_filter_le _ _) ?_
              rw [List.length_range]; exact p6
      · exact ⟨M, ks, t', y6, y7, y8, rfl, stp.mono (by omega), hM, as, ap, hk, hl⟩
    -- return
    obtain ⟨M, ks, t', y6, y7, y8, rfl, stp, hM, as, ap, hk, hl⟩ := mid4
    refine ⟨.int n, rfl, .ref M, rfl, M, ks.map fun (k : Nat) => (k : Int), rfl, SqL.of (by rw [hM, vm_ints]), by rw [List.length_map]; omega, fun G c nG => ?_⟩
    have sG := same_new (o := SetO w G (fun j => decide (j ∈ ks.map fun (k : Nat) => (k : Int))) c) nG
    refine ⟨G, _, c, rfl, upd_same, fun ns L asc hm nL => ?_⟩
    have sL := same_new (o := .lst (ns.map V.int)) nL
    refine ⟨L, _, rfl, .inl ⟨SqL.of upd_same, fun T3 nT3 => ⟨sz (n := 2) (by decide), fun U nU => ?_⟩⟩⟩
    refine q _ _ n (fun m => decide (m ∈ ks)) t' ((((stp.same sG).same sL).same (same_new nT3)).same (same_new nU)) hn1 hn6 ⟨U, T3, rfl, upd_same, ?_⟩
    rw [upd_ne (ne_of_none upd_same nU), upd_same, rising_lot (w := n) (P := fun m => decide (m ∈ ks)) asc fun z => ?_]
    rw [hm z, decide_eq_true_iff, List.mem_map]
    constructor
    · rintro ⟨m, h1, h2⟩
      exact ⟨m, h2.symm, hk m h1, decide_eq_true h1⟩
    · rintro ⟨m, h1, h2, h3⟩
      exact ⟨m, of_decide_eq_true h3, h1.symm⟩
end
end XT
namespace XT
open PySem PySem.Spec PyProof.Rows L2
abbrev nLk : List Str := ["_law_stream_here", "_law_lot", "_law_width", "_law_masks", "_law_count", "_law_way", "_law_turn", "_law_fresh", "_law_found", "_law_mask"]
theorem scLk : FnScope nLk ["_law_stream_here", "_law_lot"] (defScope sLike) := ⟨rfl, rfl, rfl, by decide +kernel, rfl, by decide +kernel, by decide +kernel⟩
theorem cut_tail (ks : List Nat) : cutV (vm ks) (some 1) none = vm (ks.drop 1) := by
  have e1 : HT.sIx (vm ks).length 0 (some 1) = min 1 (vm ks).length := HT.sIx_nat _ 0 1
  unfold cutV
  rw [e1, HT.sIx_none, vm_len]
  unfold vm
  cases ks with
  | nil => rfl
  | cons k ks =>
    have e2 : min 1 (k :: ks).length = 1 := by rw [List.length_cons]; omega
    rw [e2]
    show List.take ((k :: ks).length - 1) (ks.map fun (m : Nat) => V.int (m : Int)) = ks.map fun (m : Nat) => V.int (m : Int)
    exact List.take_of_length_le (by rw [List.length_map, List.length_cons]; omega)
section
variable {P : Program} {w : World} {K : PySem.W.Frag} {mg : Str → Option Value} {base : Heap}
def spLike : Sp := fun vs H Q _ => ∃ (S : Sm) (t : Int) (v : V) (n : Nat) (p : Nat → Bool), vs = [.ref S.s, v] ∧ Strm S H t ∧ LotAt H v n p ∧ n ≤ 6 ∧ t < 10000000 ∧
  ∀ (H' : Hp) (r : V) (p' : Nat → Bool) (t' : Int), Step S H t H' t' 100 → LotAt H' r n p' → Q r H'
def MidL (S : Sm) (H : Hp) (t : Int) (v : V) (n : Nat) (y : Addr) (way fr B : Nat) (σ : L2.St) (H' : Hp) : Prop := ∃ (M : Addr) (ks : List Nat) (t' : Int) (z6 : Option V),
  σ = [some (.ref S.s), some v, some (.int (n : Int)), some (.ref y), some (.int ((2 ^ n : Nat) : Int)), some (.int (way : Int)), z6, some (.int (fr : Int)), some (.ref M), none] ∧
  Step S H t H' t' B ∧ H' M = some (.lst (vm ks)) ∧ M ≠ S.s ∧ M ≠ S.p ∧ (∀ k ∈ ks, k < 2 ^ n) ∧ ks.length ≤ 70
theorem ok_like {f : Addr} {fd : FuncData} {k : Nat} (B : Bl mg) (F : Fun K "_law_like" "_law_like" sLike f fd) (dD : DefR P w K mg base 1 "_law_draw" spDrawN) : FnOk P w K mg base CX0 (k + 2) f fd ["_law_stream_here", "_law_lot"] spLike := by
  refine F.ok scLk (fun vs H Q E h => ?_) (fun cdv A outer s H vs Q E hr h => ?_)
  · obtain ⟨S, t, v, n, p, rfl, _⟩ := h
    rfl
  · obtain ⟨S, t, v, n, p, rfl, st, ⟨x, y, rfl, hx, hy⟩, hn, ht, q⟩ := h
    have hr1 : Room 1 (A.deeper (envOfC "_law_like" (defScope sLike) s.heap.objs.size f cdv)) := hr.mono (by omega)
    refine ⟨_, pss_cons (ps_asg (pv 1) (pg_tup rfl (pgs_cons (pg_name (i := 2) scLk.nd rfl (.inl rfl)) (pgs_cons (pg_name (i := 3) scLk.nd rfl (.inr rfl)) pgs_nil))))
      (pss_cons (ps_par (i := 4) (j := 5) (by rfl) scLk.nd rfl rfl (by decide) rfl rfl (pa_cons (pe_op op_shl pe_int (pv 2)) (pa_cons (pe_def dD hr1 (by rfl) (pa_cons (pv 0) (pa_cons pe_int pa_nil))) pa_nil)) (by rfl))
      (pss_cons (ps_asg (pe_tup (pa_cons (pe_def dD hr1 (by rfl) (pa_cons (pv 0) (pa_cons (pv 4) pa_nil))) (pa_cons (pe_def dD hr1 (by rfl) (pa_cons (pv 0) (pa_cons (pv 4) pa_nil))) pa_nil)))
          (pg_tup rfl (pgs_cons (pg_name (i := 6) scLk.nd rfl (.inr rfl)) (pgs_cons (pg_name (i := 7) scLk.nd rfl (.inl rfl)) pgs_nil))))
      (C8.pss_cut (ps_setLc (i := 8) (own := [("_law_mask", 9)]) (g := gName 9) (tt := tYes) rfl scLk.nd rfl rfl (sw_true rfl rfl rfl (by decide +kernel)) (pi_tup (pv 3)) (blkOk_by (own := [("_law_mask", 9)]) (N := nLk) (sc := defScope sLike) (by decide +kernel))
            (fun _ _ _ _ _ => pg_name (i := 9) scLk.nd rfl (Or.inl rfl)) (fun _ _ _ _ _ => pts_nil) (fun _ _ _ _ _ => pe_op op_xor (pv 9) (pv 6)))
      (C8.pss_cut (ps_if (pt_cmpR op_eq (pv 5) pe_int (nomark _)) (pss_one (ps_set (i := 8) scLk.nd rfl (.inl rfl) (pe_op op_cat (pe_slice sl_list (pv 8) (po_some pe_int) po_none) (pe_lst (pa_cons (pv 7) pa_nil))))) pss_nil)
      (C8.pss_cut (ps_if (pt_cmpR op_eq (pv 5) pe_int (nomark _))
          (pss_one (ps_setLc (i := 8) (own := [("_law_mask", 9)]) (g := gName 9) (te := tVar 9) rfl scLk.nd rfl rfl (sw_true rfl rfl rfl (by decide +kernel)) (pi_range1 (by rfl) B.range (pa_cons (pv 4) pa_nil)) (blkOk_by (own := [("_law_mask", 9)]) (N := nLk) (sc := defScope sLike) (by decide +kernel))
            (fun _ _ _ _ _ => pg_name (i := 9) scLk.nd rfl (Or.inl rfl)) (fun _ _ _ _ _ => pts_one (pt_cmpR op_eq (pe_def dD hr1 (by rfl) (pa_cons (pv 0) (pa_cons pe_int pa_nil))) pe_int (nomark _))) (fun _ _ _ _ _ => pv 9))) pss_nil)
      (C8.pss_cut (ps_if (pt_cmpR op_eq (pv 5) pe_int (nomark _))
          (pss_one (ps_setLc (i := 8) (own := [("_law_mask", 9)]) (g := gName 9) (tt := tTest (tOp (rIn K true) (tVar 9) (tVar 3))) (te := tVar 9) rfl scLk.nd rfl rfl (sw_true rfl rfl rfl (by decide +kernel)) (pi_range1 (by rfl) B.range (pa_cons (pv 4) pa_nil)) (blkOk_by (own := [("_law_mask", 9)]) (N := nLk) (sc := defScope sLike) (by decide +kernel))
            (fun _ _ _ _ _ => pg_name (i := 9) scLk.nd rfl (Or.inl rfl)) (fun _ _ _ _ _ => pts_one (pt_cmpR op_notIn_seq (pv 9) (pv 3) (by rfl))) (fun _ _ _ _ _ => pv 9))) pss_nil)
      (pss_one (ps_ret (pe_tup (pa_cons (pv 2) (pa_cons (pe_callTy call_tuple_of (by rfl) B.tuple bT (pa_cons (pe_callB (cr_sortS rfl) (by rfl) B.sorted bS (pa_cons (pe_callTy (cr_setL rfl) (by rfl) B.set bSet (pa_cons (pv 8) pa_nil)) pa_nil)) pa_nil)) pa_nil))))))))))), ?_⟩
    have p6 := pow6 (w := n) hn
    have p0 := pow0 n
    have hl := lot_len hn p
    refine ⟨.ref x, rfl, x, _, rfl, SqT.of hx, rfl, _, _, rfl, _, _, rfl, rfl, ?_⟩
    refine ⟨.int n, rfl, 1, n, rfl, rfl, cpow hn, .ref S.s, rfl, S, t, 5, rfl, st, by omega, by omega, by omega, fun H1 way t1 s1 hway => ⟨_, _, rfl, ?_⟩⟩
    have hi1 := s1.hi
    have ec : some (some (V.int (1 * 2 ^ ((n : Int).toNat)))) = some (some (V.int ((2 ^ n : Nat) : Int))) := congrArg (fun z => some (some (V.int z))) (shl1 n)
    refine ⟨.ref S.s, rfl, .int ((2 ^ n : Nat) : Int), ec, S, t1, 2 ^ n, rfl, s1.st, by omega, by omega, by omega, fun H2 tn t2 s2 htn => ?_⟩
    have hi2 := s2.hi
    refine ⟨.ref S.s, rfl, .int ((2 ^ n : Nat) : Int), ec, S, t2, 2 ^ n, rfl, s2.st, by omega, by omega, by omega, fun H3 fr t3 s3 hfr => ?_⟩
    refine ⟨sz (n := 2) (by decide), fun T nT => ⟨T, _, rfl, SqT.of upd_same, rfl, _, _, rfl, _, _, rfl, rfl, ?_⟩⟩
    have s4 := ((s1.trans s2).trans s3).same (same_new (o := .tup [.int (tn : Int), .int (fr : Int)]) nT)
    have hy4 := s4.keep.tup st hy
    -- found = [mask ^ turn for mask in masks]
    refine ⟨MidL S H t (.ref x) n y way fr 10, ?_, fun σ0 H0 mid0 => ?_⟩
    · refine ⟨.ref y, rfl, y, rfl, ⟨_, SqT.of hy4⟩, fun D nD => ?_⟩
      have fs := fresh_s s4.st nD
      refine lcp_tup (p := fun _ => true) (f := fun v => match v with | .int i => .int (Builtin.bitXor i tn) | v => v) nD (SqT.of hy4) (small64 (by rw [vm_len]; omega)) (fun i z H5 hz sm => ?_) (fun H5 sm hD => ?_)
      · intro R1 R2 h1 h2
        obtain ⟨m, hm, rfl⟩ := mem_vm hz
        exact ⟨rfl, iteT (B := R1 H5) ⟨_, rfl, .int tn, rfl, m, tn, rfl, rfl, h2 rfl _ (Same.refl _)⟩⟩
      · have e : (((vm (lotOf n p)).filter fun _ => true).map fun v => match v with | .int i => V.int (Builtin.bitXor i tn) | v => v) = vm ((lotOf n p).map fun m => m ^^^ tn) := by
          rw [List.filter_eq_self.mpr (fun _ _ => rfl)]
          unfold vm
          rw [List.map_map, List.map_map]
          refine List.map_congr_left fun m _ => ?_
          show V.int (Builtin.bitXor (m : Int) (tn : Int)) = V.int ((m ^^^ tn : Nat) : Int)
          rw [bx]
        rw [e] at hD
        refine ⟨D, _, t3, some (.int (tn : Int)), ?_, (s4.same sm).mono (by omega), hD, fs.1, fs.2, ?_, by rw [List.length_map]; omega⟩
        · rw [← shl1 n]; rfl
        · intro k hk
          obtain ⟨m, hm, rfl⟩ := List.mem_map.mp hk
          exact xor_lt (mem_lot.mp hm).1 htn
    -- if way == 1
    refine ⟨MidL S H t (.ref x) n y way fr 20, ?_, fun σ1 H1 mid1 => ?_⟩
    · obtain ⟨M, ks, t', z6, rfl, stp, hM, as, ap, hk, hl⟩ := mid0
      refine ⟨.int way, rfl, rfl, _, rfl, ite2 (fun e => ?_) (fun e => ?_)⟩
      · refine ⟨.ref M, rfl, 1, rfl, M, _, rfl, SqL.of hM, fun L nL => ?_⟩
        have sL := same_new (o := .lst (cutV (vm ks) (some 1) none)) nL
        refine ⟨.int fr, rfl, sz (n := 1) (by decide), fun G nG => ?_⟩
        have sG := same_new (o := .lst [.int (fr : Int)]) nG
        refine ⟨L, G, vm (ks.drop 1), vm [fr], rfl, rfl, ?_, upd_same, ?_, fun C nC => ?_⟩
        · rw [upd_ne (ne_of_none upd_same nG), upd_same, cut_tail]
        · rw [vm_len, vm_len, List.length_drop]; exact sz (by simp; omega)
        · have fs := fresh_s ((stp.same sL).same sG).st nC
          refine ⟨C, ks.drop 1 ++ [fr], t', z6, rfl, (((stp.same sL).same sG).same (same_new nC)).mono (by omega), ?_, fs.1, fs.2, ?_, ?_⟩
          · rw [upd_same]; unfold vm; rw [List.map_append]
          · intro k hk2
            rcases List.mem_append.mp hk2 with hk2 | hk2
            · exact hk k (List.mem_of_mem_drop hk2)
            · rw [List.mem_singleton.mp hk2]; exact hfr
          · rw [List.length_append, List.length_drop]; simp; omega
      · exact ⟨M, ks, t', z6, rfl, stp.mono (by omega), hM, as, ap, hk, hl⟩
    -- if way == 2
    refine ⟨MidL S H t (.ref x) n y way fr 90, ?_, fun σ2 H2 mid2 => ?_⟩
    · obtain ⟨M, ks, t', z6, rfl, stp, hM, as, ap, hk, hl⟩ := mid1
      refine ⟨.int way, rfl, rfl, _, rfl, ite2 (fun e => ?_) (fun e => ?_)⟩
      · refine ⟨.int ((2 ^ n : Nat) : Int), rfl, ((2 ^ n : Nat) : Int), rfl, l62, r62 (by omega), fun D nD => ?_⟩
        have hi0 := stp.hi
        refine lcs_range (S := S) (c := 2 ^ n) (d := 1) (n := 2 ^ n) stp.st nD (by omega) (fun i H3 t3 hi s3 => ?_) (fun H3 pv => ?_)
        · intro R1 R2 h1 h2
          have hi3 := s3.hi
          refine ⟨rfl, .ref S.s, rfl, S, t3, 2, rfl, s3.st, by omega, by omega, by omega, fun H4 r t4 s4 hr4 => ⟨rfl, _, rfl, ite2 (fun e => ?_) (fun e => ?_)⟩⟩
          · refine ⟨.int (0 + (i : Int)), rfl, ?_⟩
            rw [Int.zero_add]
            exact h2 i H4 t4 s4 hi
          · exact h1 H4 t4 s4
        · obtain ⟨ks2, t3, s3, hD, hk2, hl2⟩ := pv
          have fs := fresh_s stp.st nD
          exact ⟨D, ks2, t3, z6, rfl, (stp.trans s3).mono (by omega), hD, fs.1, fs.2, hk2, by omega⟩
      · exact ⟨M, ks, t', z6, rfl, stp.mono (by omega), hM, as, ap, hk, hl⟩
    -- if way == 3
    refine ⟨MidL S H t (.ref x) n y way fr 100, ?_, fun σ3 H3 mid3 => ?_⟩
    · obtain ⟨M, ks, t', z6, rfl, stp, hM, as, ap, hk, hl⟩ := mid2
      have hyH := stp.keep.tup st hy
      refine ⟨.int way, rfl, rfl, _, rfl, ite2 (fun e => ?_) (fun e => ?_)⟩
      · refine ⟨.int ((2 ^ n : Nat) : Int), rfl, ((2 ^ n : Nat) : Int), rfl, l62, r62 (by omega), fun L nL => ?_⟩
        have fsL := fresh_s stp.st nL
        refine lcp_range (n := 2 ^ n) (p := fun m => !decide (m ∈ lotOf n p)) (f := fun m => .int (m : Int)) nL (small64 (by omega)) (fun i H7 hi s7 => ?_) (fun H7 s7 hL => ?_)
        · intro R1 R2 h1 h2
          refine ⟨rfl, _, rfl, .ref y, rfl, y, _, rfl, .inr (SqT.of (s7 _ _ hyH)), rfl, vm_flat _, _, rfl, ?_⟩
          have e : inV (.int (0 + (i : Int))) (vm (lotOf n p)) = decide (i ∈ lotOf n p) := by
            rw [Int.zero_add]; exact in_vm i _
          show if (!inV (.int (0 + (i : Int))) (vm (lotOf n p))) = true then _ else _
          rw [e]
          refine ite2 (fun z => ?_) (fun z => ?_)
          · refine ⟨.int (0 + (i : Int)), rfl, ?_⟩
            rw [Int.zero_add]
            exact h2 z _ (Same.refl _)
          · exact h1 (by simpa using z) _ (Same.refl _)
        · refine ⟨L, (List.range (2 ^ n)).filter fun m => !decide (m ∈ lotOf n p), t', z6, rfl, (stp.same s7).mono (by omega), hL, fsL.1, fsL.2, fun k hk => ?_, ?_⟩
          · exact List.mem_range.mp (List.mem_filter.mp hk).1
          · refine Nat.le_trans (List.length_filter_le _ _) ?_
            rw [List.length_range]; omega
      · exact ⟨M, ks, t', z6, rfl, stp.mono (by omega), hM, as, ap, hk, hl⟩
    -- return
    obtain ⟨M, ks, t', z6, rfl, stp, hM, as, ap, hk, hl⟩ := mid3
    refine ⟨.int n, rfl, .ref M, rfl, M, ks.map fun (k : Nat) => (k : Int), rfl, SqL.of (by rw [hM, vm_ints]), by rw [List.length_map]; omega, fun G c nG => ?_⟩
    have sG := same_new (o := SetO w G (fun j => decide (j ∈ ks.map fun (k : Nat) => (k : Int))) c) nG
    refine ⟨G, _, c, rfl, upd_same, fun ns L asc hm nL => ?_⟩
    have sL := same_new (o := .lst (ns.map V.int)) nL
    refine ⟨L, _, rfl, .inl ⟨SqL.of upd_same, fun T3 nT3 => ⟨sz (n := 2) (by decide), fun U nU => ?_⟩⟩⟩
    refine q _ _ (fun m => decide (m ∈ ks)) t' ((((stp.same sG).same sL).same (same_new nT3)).same (same_new nU)) ⟨U, T3, rfl, upd_same, ?_⟩
    rw [upd_ne (ne_of_none upd_same nU), upd_same, rising_lot (w := n) (P := fun m => decide (m ∈ ks)) asc fun z => ?_]
    rw [hm z, decide_eq_true_iff, List.mem_map]
    constructor
    · rintro ⟨m, h1, h2⟩
      exact ⟨m, h2.symm, hk m h1, decide_eq_true h1⟩
    · rintro ⟨m, h1, h2, h3⟩
      exact ⟨m, of_decide_eq_true h3, h1.symm⟩
end
end XT
/-! _law_some_lots -/
namespace XT
open PySem PySem.Spec PyProof.Rows L2
section
variable {P : Program} {w : World} {K : PySem.W.Frag} {mg : Str → Option Value} {base : Heap}
abbrev nSo : List Str := ["_law_stream_here", "_law_found", "_law_k"]
theorem scSo : FnScope nSo ["_law_stream_here"] (defScope sLSomeLots) := ⟨rfl, rfl, rfl, by decide +kernel, rfl, by decide +kernel, by decide +kernel⟩
def LsAt (H : Hp) (L : Addr) (ls : List Lt) : Prop := H L = some (.lst (ls.map (·.v))) ∧ (ls.length ≤ 5 ∨ ls.length = 8) ∧ ∀ l ∈ ls, LtAt H l
theorem LsAt.same {H H' : Hp} {L : Addr} {ls : List Lt} (h : LsAt H L ls) (e : Same H H') : LsAt H' L ls := ⟨e _ _ h.1, h.2.1, fun l hl => (h.2.2 l hl).same e⟩
def spSome : Sp := fun vs H Q _ => ∃ (S : Sm) (t : Int), vs = [.ref S.s] ∧ Strm S H t ∧ t < 1000000 ∧ ∀ (H' : Hp) (L : Addr) (ls : List Lt) (t' : Int), Step S H t H' t' 4000 → LsAt H' L ls → Q (.ref L) H'
theorem ok_some {f : Addr} {fd : FuncData} {k : Nat} (B : Bl mg) (F : Fun K "_law_some_lots" "_law_some_lots" sLSomeLots f fd) (dD : DefR P w K mg base 2 "_law_draw" spDrawN) (dN : DefR P w K mg base 2 "_law_drawn" spDrawn) (dL : DefR P w K mg base 2 "_law_like" spLike) : FnOk P w K mg base CX0 (k + 3) f fd ["_law_stream_here"] spSome := by
  refine F.ok scSo (fun vs H Q E h => ?_) (fun cdv A outer s H vs Q E hr h => ?_)
  · obtain ⟨S, t, rfl, _⟩ := h
    rfl
  · obtain ⟨S, t, rfl, st, ht, q⟩ := h
    have hr2 := hr.mono (show 2 ≤ k + 2 by omega)
    refine ⟨_, pss_cons (ps_set (i := 1) scSo.nd rfl (.inl rfl) (pe_lst (pa_cons (pe_def dN hr2 (by rfl) (pa_cons (pv 0) (pa_cons pe_int pa_nil))) pa_nil)))
      (pss_cons (ps_for PassesOwn.never rfl (pi_range1 (by rfl) B.range (pa_cons (pe_ix ix_list (pe_lst (pa_cons pe_int (pa_cons pe_int (pa_cons pe_int (pa_cons pe_int (pa_cons pe_int pa_nil)))))) (pe_def dD hr2 (by rfl) (pa_cons (pv 0) (pa_cons pe_int pa_nil))) (fun _ _ => rfl)) pa_nil)) (pg_name (i := 2) scSo.nd rfl (.inl rfl))
        (pss_one (ps_expr (pe_bm PySem.F.plainAttrs_list PySem.F.slot_list_append PySem.F.type_list_append mt_append (pv 1) (pa_cons
          (pe_ix ix_list (pe_lst (pa_cons (pe_def dL hr2 (by rfl) (pa_cons (pv 0) (pa_cons (pe_ix ix_list (pv 1) pe_int (fun _ _ => rfl)) pa_nil))) (pa_cons (pe_def dN hr2 (by rfl) (pa_cons (pv 0) (pa_cons pe_int pa_nil))) pa_nil)))
            (pe_callTy call_int1 (by rfl) B.int bInt (pa_cons (pe_cmpR op_eq (pe_def dD hr2 (by rfl) (pa_cons (pv 0) (pa_cons pe_int pa_nil))) pe_int (nomark _)) pa_nil)) (fun _ _ => rfl)) pa_nil)))))
      (pss_one (ps_ret (pe_op op_rep (pv 1) (pe_callTy call_int1 (by rfl) B.int bInt (pa_cons (pe_cmpR op_gt (pe_def dD hr2 (by rfl) (pa_cons (pv 0) (pa_cons pe_int pa_nil))) pe_int (nomark _)) pa_nil)))))), ?_⟩
    refine ⟨.ref S.s, rfl, S, t, 6, rfl, st, by omega, by omega, by omega, fun H1 one n p t1 s1 hn1 hn hone => ⟨sz (n := 1) (by decide), fun R nR => ?_⟩⟩
    have i1 := s1.hi
    have j1 := s1.lo
    obtain ⟨r1, r2, r3⟩ := strm_ne s1.st nR
    have nR0 : ∀ b o, b ≠ S.s → b ≠ S.p → H b = some o → b ≠ R := fun b o a1 a2 e => ne_of_none (s1.keep b o a1 a2 e) nR
    have sR := same_new (o := .lst [one]) nR
    refine ⟨sz (n := 5) (by decide), fun L nL => ⟨.ref S.s, rfl, S, t1, 5, rfl, (s1.st.same sR).same (same_new nL), by omega, by omega, by omega, fun H2 r t2 s2 hr5 => ?_⟩⟩
    have i2 := s2.hi
    have j2 := s2.lo
    have sL := same_new (o := .lst [.int 0, .int 1, .int 2, .int 3, .int 7]) nL
    have sth := (s1.st.same sR).same sL
    have nLs := strm_ne (s1.st.same sR) nL
    have hL := s2.keep L _ nLs.1 nLs.2.1 upd_same
    obtain ⟨c, hc, hc7⟩ : ∃ c : Nat, [V.int 0, .int 1, .int 2, .int 3, .int 7][r]? = some (.int (c : Int)) ∧ (c ≤ 3 ∨ c = 7) := by
      match r, hr5 with
      | 0, _ => exact ⟨0, rfl, by decide⟩
      | 1, _ => exact ⟨1, rfl, by decide⟩
      | 2, _ => exact ⟨2, rfl, by decide⟩
      | 3, _ => exact ⟨3, rfl, by decide⟩
      | 4, _ => exact ⟨7, rfl, by decide⟩
    refine ⟨L, _, r, .int (c : Int), rfl, rfl, SqL.of hL, atI_nat hc, (c : Int), rfl, by omega, by omega, ?_⟩
    refine for_range (lo := 0) (n := c) (fun i σ H' => ∃ (z2 : Option V) (ls : List Lt) (t' : Int), σ = [some (.ref S.s), some (.ref R), z2] ∧ Keep S H H' ∧ Strm S H' t' ∧ t ≤ t' ∧ t' ≤ t + 301 + 402 * i ∧ H' R = some (.lst (ls.map (·.v))) ∧ ls.length = i + 1 ∧ ∀ l ∈ ls, LtAt H' l) ?_ (fun i σ H3 hi h => ?_) (fun σ H3 h => ?_)
    · refine ⟨none, [⟨one, n, p⟩], t2, rfl, (s1.keep.trans (Keep.of (sR.trans sL))).trans s2.keep, s2.st, by omega, by omega, ?_, rfl, fun l hl => ?_⟩
      · exact s2.keep R _ r1 r2 (sL _ _ upd_same)
      · rw [List.mem_singleton.mp hl]
        exact lt_keep ⟨(hone.same sR).same sL, hn1, hn⟩ s2.keep sth
    · obtain ⟨z2, ls, t3, rfl, kp, st3, a1, a2, hR, hlen, hall⟩ := h
      obtain ⟨l0, ls', rfl⟩ : ∃ l0 ls', ls = l0 :: ls' := by
        cases ls with
        | nil => simp at hlen
        | cons a b => exact ⟨a, b, rfl⟩
      have h0 := hall l0 List.mem_cons_self
      refine ⟨.ref R, rfl, .inl ⟨rfl, _, SqL.of hR⟩, .ref S.s, rfl, .ref R, rfl, R, _, 0, l0.v, rfl, rfl, SqL.of hR, atI_nat (j := 0) rfl, S, t3, l0.v, l0.n, l0.p, rfl, st3, h0.1, h0.2.2, by omega, fun H4 v1 p1 t4 s4 g1 => ?_⟩
      have i4 := s4.hi
      have j4 := s4.lo
      refine ⟨.ref S.s, rfl, S, t4, 6, rfl, s4.st, by omega, by omega, by omega, fun H5 v2 n2 p2 t5 s5 hn21 hn2 g2 => ⟨sz (n := 2) (by decide), fun M nM => ?_⟩⟩
      have i5 := s5.hi
      have j5 := s5.lo
      have sM := same_new (o := .lst [v1, v2]) nM
      have nMs := strm_ne s5.st nM
      refine ⟨.ref S.s, rfl, S, t5, 9, rfl, s5.st.same sM, by omega, by omega, by omega, fun H6 r' t6 s6 hr9 => ?_⟩
      have i6 := s6.hi
      have j6 := s6.lo
      have kall : ∀ {l : Lt}, LtAt H3 l → LtAt H6 l := fun {l} h => lt_keep ((lt_keep (lt_keep h s4.keep st3) s5.keep s4.st).same sM) s6.keep (s5.st.same sM)
      have hR6 : H6 R = some (.lst ((l0 :: ls').map (·.v))) := s6.keep R _ r1 r2 (sM _ _ (s5.keep R _ r1 r2 (s4.keep R _ r1 r2 hR)))
      have hM6 : H6 M = some (.lst [v1, v2]) := s6.keep M _ nMs.1 nMs.2.1 upd_same
      have k6 : Keep S H H6 := (((kp.trans s4.keep).trans s5.keep).trans (Keep.of sM)).trans s6.keep
      have g16 : LtAt H6 ⟨v1, l0.n, p1⟩ := lt_keep ((lt_keep (S := S) (l := ⟨v1, l0.n, p1⟩) ⟨g1, h0.2⟩ s5.keep s4.st).same sM) s6.keep (s5.st.same sM)
      have g26 : LtAt H6 ⟨v2, n2, p2⟩ := lt_keep (LtAt.same ⟨g2, hn21, hn2⟩ sM) s6.keep (s5.st.same sM)
      refine ⟨rfl, .inr ⟨_, rfl, ?_⟩⟩
      obtain ⟨j, o, hj, ho, hoL⟩ : ∃ (j : Nat) (o : Lt), (if decide (V.int (r' : Int) = V.int 0) = true then 1 else 0 : Int) = j ∧ [v1, v2][j]? = some o.v ∧ LtAt H6 o := by
        by_cases hz : decide (V.int (r' : Int) = V.int 0) = true
        · exact ⟨1, ⟨v2, n2, p2⟩, by rw [if_pos hz]; rfl, rfl, g26⟩
        · exact ⟨0, ⟨v1, l0.n, p1⟩, by rw [if_neg hz]; rfl, rfl, g16⟩
      refine ⟨M, _, j, o.v, rfl, congrArg V.int hj, SqL.of hM6, atI_nat ho, R, _, o.v, rfl, rfl, hR6, ?_, ?_⟩
      · rw [List.length_map, hlen]
        exact small64 (by omega)
      · refine ⟨_, (l0 :: ls') ++ [o], t6, rfl, fun b x b1 b2 e => ?_, strm_upd s6.st r1 r2 r3, by omega, by omega, ?_, ?_, fun l hl => ?_⟩
        · rw [upd_ne (nR0 b x b1 b2 e)]
          exact k6 b x b1 b2 e
        · rw [upd_same, List.map_append]
          rfl
        · rw [List.length_append, hlen]
          rfl
        · have hl6 : LtAt H6 l := by
            rcases List.mem_append.mp hl with hl | hl
            · exact kall (hall l hl)
            · rw [List.mem_singleton.mp hl]
              exact hoL
          exact ⟨lot_upd hR6 hl6.1, hl6.2⟩
    · obtain ⟨z2, ls, t3, rfl, kp, st3, a1, a2, hR, hlen, hall⟩ := h
      refine ⟨.ref R, rfl, .ref S.s, rfl, S, t3, 9, rfl, st3, by omega, by omega, by omega, fun H6 r' t6 s6 hr9 => ?_⟩
      have i6 := s6.hi
      have j6 := s6.lo
      have hR6 := s6.keep R _ r1 r2 hR
      refine ⟨r', 0, rfl, rfl, .inr ⟨_, rfl, ?_⟩⟩
      by_cases hz : decide ((0 : Int) < (r' : Int)) = true
      · rw [hz]
        refine ⟨R, 1, _, rfl, rfl, hR6, by decide, by decide, ?_, fun T nT => ?_⟩
        · rw [List.length_map]
          show ls.length * 1 ≤ sizeLine
          rw [Nat.mul_one, hlen]
          exact Nat.le_of_lt (small64 (by omega))
        · have e : (List.replicate (1 : Int).toNat (ls.map (·.v))).flatten = ls.map (·.v) := by
            show (List.replicate 1 (ls.map (·.v))).flatten = _
            simp
          rw [e]
          have sT := same_new (o := .lst (ls.map (·.v))) nT
          refine q _ T ls t6 ⟨(kp.trans s6.keep).trans (Keep.of sT), s6.st.same sT, by omega, by omega⟩ ⟨upd_same, by omega, fun l hl => ((lt_keep (hall l hl) s6.keep st3).same sT)⟩
      · have hz : decide ((0 : Int) < (r' : Int)) = false := by simpa using hz
        rw [hz]
        refine ⟨R, 0, _, rfl, rfl, hR6, by decide, by decide, ?_, fun T nT => ?_⟩
        · show (ls.map (·.v)).length * 0 ≤ sizeLine
          rw [Nat.mul_zero]
          exact Nat.zero_le _
        · have sT := same_new (o := .lst []) nT
          exact q _ T [] t6 ⟨(kp.trans s6.keep).trans (Keep.of sT), s6.st.same sT, by omega, by omega⟩ ⟨upd_same, by simp, fun l hl => nomatch hl⟩
end
end XT
/-! more of lots, of lists and tuples of masks -/
namespace XT
open PySem PySem.Spec PyProof.Rows L2
theorem bList : bootBuiltins "list" = some (.type "list") := by decide +kernel
theorem bSum : bootBuiltins "sum" = some (.builtin "sum") := by decide +kernel
theorem bMin : bootBuiltins "min" = some (.builtin "min") := by decide +kernel
theorem bMax : bootBuiltins "max" = some (.builtin "max") := by decide +kernel
theorem lot_none (n : Nat) : lotOf n (fun _ => false) = [] := by
  unfold lotOf
  rw [List.filter_eq_nil_iff]
  intro m _
  decide
theorem lot_nil_iff {n : Nat} {p : Nat → Bool} : lotOf n p = [] ↔ ∀ m, m < 2 ^ n → p m = false := by
  unfold lotOf
  rw [List.filter_eq_nil_iff]
  simp
theorem range_lot (n : Nat) : rgV 0 ((2 ^ n : Nat) : Int) = vm (lotOf n fun _ => true) := by
  unfold rgV vm lotOf
  rw [List.filter_eq_self.mpr (fun _ _ => rfl), Int.sub_zero]
  show List.map (fun (i : Nat) => V.int (0 + (i : Int))) (List.range (2 ^ n)) = _
  exact List.map_congr_left fun m _ => by rw [Int.zero_add]
theorem lot_take {n : Nat} {p : Nat → Bool} {i : Nat} (hi : i < 2 ^ n) : ((List.range (2 ^ n)).take (i + 1)).filter p = ((List.range (2 ^ n)).take i).filter p ++ (if p i = true then [i] else []) := by
  have h := take_one (id : Nat → Nat) p (xs := List.range (2 ^ n)) (i := i) (x := i) (List.getElem?_range hi)
  simpa using h
theorem nats_shaped (ns : List Nat) : SeqAt.shaped (.list (ns.map fun (m : Nat) => PyData.int (m : Int))) = true := by
  have h := ke_shaped (ns.map fun (m : Nat) => (m : Int))
  rw [List.map_map] at h
  exact h
theorem tupN_shaped (ms : List Nat) : SeqAt.shaped (.tuple (ms.map fun (m : Nat) => PyData.int (m : Int))) = true := by
  have h1 : PyData.canLay0 (.tuple (ms.map fun (m : Nat) => PyData.int (m : Int))) = true := by
    have h := ints_lay ms
    simp [PyData.canLay0, h]
  have h2 : PyData.depth (.tuple (ms.map fun (m : Nat) => PyData.int (m : Int))) ≤ 64 := by
    have h := ints_depth ms
    simp only [PyData.depth]
    omega
  unfold SeqAt.shaped
  rw [h1, decide_eq_true h2]
  rfl
theorem eqv_lstN (ms ks : List Nat) : PyData.eqv (.list (ms.map fun (m : Nat) => PyData.int (m : Int))) (.list (ks.map fun (m : Nat) => PyData.int (m : Int))) = decide (ms = ks) := by
  have h := eqv_nats ms ks
  simpa [PyData.eqv] using h
theorem eqv_tupN (ms ks : List Nat) : PyData.eqv (.tuple (ms.map fun (m : Nat) => PyData.int (m : Int))) (.tuple (ks.map fun (m : Nat) => PyData.int (m : Int))) = decide (ms = ks) := by
  have h := eqv_nats ms ks
  simpa [PyData.eqv] using h
theorem eqv_nilN (ms : List Nat) : PyData.eqv (.list (ms.map fun (m : Nat) => PyData.int (m : Int))) (.list []) = decide (ms = []) := eqv_lstN ms []
/-- a list of masks -/
def LsN (H : Hp) (v : V) (ms : List Nat) : Prop := ∃ q, v = .ref q ∧ H q = some (.lst (vm ms))
theorem LsN.same {H H' : Hp} {v : V} {ms : List Nat} (h : LsN H v ms) (e : Same H H') : LsN H' v ms := by
  obtain ⟨q, rfl, h⟩ := h
  exact ⟨q, rfl, e _ _ h⟩
theorem LsN.dp {K : PySem.W.Frag} {H : Hp} {v : V} {ms : List Nat} (h : LsN H v ms) : Dp K H v (.list (ms.map fun (m : Nat) => .int (m : Int))) := by
  obtain ⟨q, rfl, h⟩ := h
  exact .lst (SqL.of h) (dpVm _)
/-- a != b of tuples, of lists of masks -/
theorem ne_tupN {K : PySem.W.Frag} {H : Hp} {x y : V} {ms ks : List Nat} {Q : VK} (hx : TupAt H x ms) (hy : TupAt H y ks) (q : Q (.bl (!decide (ms = ks))) H) : rNeD K x y H Q := by
  refine ⟨_, _, hx.dp, hy.dp, tupN_shaped _, tupN_shaped _, ?_⟩
  rw [eqv_tupN]
  exact q
theorem eq_tupN {K : PySem.W.Frag} {H : Hp} {x y : V} {ms ks : List Nat} {Q : VK} (hx : TupAt H x ms) (hy : TupAt H y ks) (q : Q (.bl (decide (ms = ks))) H) : rEqD K x y H Q := by
  refine ⟨_, _, hx.dp, hy.dp, tupN_shaped _, tupN_shaped _, ?_⟩
  rw [eqv_tupN]
  exact q
theorem ne_lstN {K : PySem.W.Frag} {H : Hp} {x y : V} {ms ks : List Nat} {Q : VK} (hx : LsN H x ms) (hy : LsN H y ks) (q : Q (.bl (!decide (ms = ks))) H) : rNeD K x y H Q := by
  refine ⟨_, _, hx.dp, hy.dp, nats_shaped _, nats_shaped _, ?_⟩
  rw [eqv_lstN]
  exact q
theorem eq_lstN {K : PySem.W.Frag} {H : Hp} {x y : V} {ms ks : List Nat} {Q : VK} (hx : LsN H x ms) (hy : LsN H y ks) (q : Q (.bl (decide (ms = ks))) H) : rEqD K x y H Q := by
  refine ⟨_, _, hx.dp, hy.dp, nats_shaped _, nats_shaped _, ?_⟩
  rw [eqv_lstN]
  exact q
theorem ne_lots {K : PySem.W.Frag} {H : Hp} {x y : V} {w : Nat} {P P' : Nat → Bool} {Q : VK} (hx : LotAt H x w P) (hy : LotAt H y w P') (q : Q (.bl (!decide (∀ m, m < 2 ^ w → P m = P' m))) H) : rNeD K x y H Q := by
  refine ⟨_, _, hx.dp, hy.dp, dLot_shaped _ _, dLot_shaped _ _, ?_⟩
  rw [eqv_lots]
  exact q
theorem eq_lots {K : PySem.W.Frag} {H : Hp} {x y : V} {w : Nat} {P P' : Nat → Bool} {Q : VK} (hx : LotAt H x w P) (hy : LotAt H y w P') (q : Q (.bl (decide (∀ m, m < 2 ^ w → P m = P' m))) H) : rEqD K x y H Q := by
  refine ⟨_, _, hx.dp, hy.dp, dLot_shaped _ _, dLot_shaped _ _, ?_⟩
  rw [eqv_lots]
  exact q
theorem nodup_lot (n : Nat) (p : Nat → Bool) : (lotOf n p).Nodup := by
  unfold lotOf
  exact List.Pairwise.filter _ (List.nodup_range)
theorem nodup_xor (a : Nat) {l : List Nat} (h : l.Nodup) : (l.map fun (m : Nat) => ((m ^^^ a : Nat) : Int)).Nodup := by
  unfold List.Nodup at h ⊢
  rw [List.pairwise_map]
  refine h.imp fun {x y} hxy e => hxy ?_
  have e2 : x ^^^ a = y ^^^ a := by omega
  have e3 := congrArg (· ^^^ a) e2
  simpa [Nat.xor_assoc] using e3
theorem xor_back (m a : Nat) : m ^^^ a ^^^ a = m := by rw [Nat.xor_assoc, Nat.xor_self, Nat.xor_zero]
/-- sorted([x ^ a for x in lot]) -/
theorem sort_xor {n a : Nat} {p : Nat → Bool} {ns : List Int} (ha : a < 2 ^ n) (perm : ns.Perm ((lotOf n p).map fun (m : Nat) => ((m ^^^ a : Nat) : Int))) (asc : ns.Pairwise (· ≤ ·)) : ns.map V.int = vm (lotOf n fun m => p (m ^^^ a)) := by
  have nd : ns.Nodup := by
    rw [perm.nodup_iff]
    exact nodup_xor a (nodup_lot n p)
  refine rising_lot (lt_of_le_nodup ns asc nd) fun k => ?_
  rw [perm.mem_iff, List.mem_map]
  constructor
  · rintro ⟨m, hm, rfl⟩
    obtain ⟨h1, h2⟩ := mem_lot.mp hm
    exact ⟨m ^^^ a, rfl, xor_lt h1 ha, by rw [xor_back]; exact h2⟩
  · rintro ⟨m, rfl, h1, h2⟩
    exact ⟨m ^^^ a, mem_lot.mpr ⟨xor_lt h1 ha, h2⟩, by rw [xor_back]⟩
theorem iteNT {A B : Prop} {b : Bool} (h : b = false) (x : B) : if b = true then A else B := by rw [h]; exact x
end XT
/-! sums of lots as numbers -/
namespace XT
open PySem PySem.Spec PyProof.Rows L2
/-- how many numbers below N the set has -/
def cnt (N : Nat) (S : Int → Bool) : Nat := ((List.range N).filter fun (m : Nat) => S (m : Int)).length
theorem cnt_le (N : Nat) (S : Int → Bool) : cnt N S ≤ N := by
  unfold cnt
  refine Nat.le_trans (List.length_filter_le _ _) ?_
  rw [List.length_range]
  exact Nat.le_refl _
theorem cnt_succ (N : Nat) (S : Int → Bool) : cnt (N + 1) S = cnt N S + if S (N : Int) = true then 1 else 0 := by
  unfold cnt
  rw [List.range_succ, List.filter_append, List.length_append]
  by_cases h : S (N : Int) = true
  · simp [h]
  · simp [h]
theorem cnt_old {N m : Nat} (S : Int → Bool) (h : N ≤ m) : cnt N (fun j => S j || decide (j = (m : Int))) = cnt N S := by
  unfold cnt
  congr 1
  refine List.filter_congr fun x hx => ?_
  have h2 := List.mem_range.mp hx
  show (S (x : Int) || decide ((x : Int) = (m : Int))) = S (x : Int)
  rw [decide_eq_false (by omega), Bool.or_false]
theorem cnt_add {m : Nat} (S : Int → Bool) : ∀ {N : Nat}, m < N → cnt N (fun j => S j || decide (j = (m : Int))) = if S (m : Int) = true then cnt N S else cnt N S + 1
  | 0, h => absurd h (Nat.not_lt_zero _)
  | N + 1, h => by
    rw [cnt_succ, cnt_succ]
    by_cases e : m = N
    · subst e
      rw [cnt_old S (Nat.le_refl _)]
      by_cases hS : S (m : Int) = true
      · simp [hS]
      · simp [hS]
    · rw [cnt_add S (show m < N by omega), decide_eq_false (show ¬((N : Int) = (m : Int)) by omega), Bool.or_false]
      by_cases hS : S (m : Int) = true
      · simp [hS]
      · simp [hS]; omega
/-- the sum of two lots -/
def addB (n : Nat) (p r : Nat → Bool) (m : Nat) : Bool := (List.range (2 ^ n)).any fun x => p x && r (x ^^^ m)
theorem add_iff {n : Nat} {p r : Nat → Bool} {m : Nat} : addB n p r m = true ↔ ∃ x, x < 2 ^ n ∧ p x = true ∧ r (x ^^^ m) = true := by
  unfold addB
  rw [List.any_eq_true]
  constructor
  · rintro ⟨x, h1, h2⟩
    rw [Bool.and_eq_true] at h2
    exact ⟨x, List.mem_range.mp h1, h2.1, h2.2⟩
  · rintro ⟨x, h1, h2, h3⟩
    exact ⟨x, List.mem_range.mpr h1, by rw [h2, h3]; rfl⟩
def zeroB (m : Nat) : Bool := decide (m = 0)
def sumB (n : Nat) (ps : List (Nat → Bool)) : Nat → Bool := ps.foldl (addB n) zeroB
theorem lot_zero (n : Nat) : lotOf n zeroB = [0] := by
  have h : ∀ N, 0 < N → (List.range N).filter zeroB = [0] := by
    intro N hN
    obtain ⟨k, rfl⟩ : ∃ k, N = k + 1 := ⟨N - 1, by omega⟩
    rw [List.range_succ_eq_map, List.filter_cons]
    have e : (List.filter zeroB (List.map Nat.succ (List.range k))) = [] := by
      rw [List.filter_eq_nil_iff]
      intro a ha
      obtain ⟨b, _, rfl⟩ := List.mem_map.mp ha
      simp [zeroB]
    rw [e]
    rfl
  exact h _ (pow0 n)
theorem sum_take {n : Nat} {ps : List (Nat → Bool)} {i : Nat} {p : Nat → Bool} (h : ps[i]? = some p) : sumB n (ps.take (i + 1)) = addB n (sumB n (ps.take i)) p := by
  unfold sumB
  rw [List.take_add_one, h, List.foldl_append]
  rfl
theorem add_congr {n : Nat} {p p' r r' : Nat → Bool} {m : Nat} (hm : m < 2 ^ n) (h1 : ∀ x, x < 2 ^ n → p x = p' x) (h2 : ∀ x, x < 2 ^ n → r x = r' x) : addB n p r m = addB n p' r' m := by
  rw [Bool.eq_iff_iff, add_iff, add_iff]
  constructor
  · rintro ⟨x, a, b, c⟩
    exact ⟨x, a, by rw [← h1 x a]; exact b, by rw [← h2 _ (xor_lt a hm)]; exact c⟩
  · rintro ⟨x, a, b, c⟩
    exact ⟨x, a, by rw [h1 x a]; exact b, by rw [h2 _ (xor_lt a hm)]; exact c⟩
theorem add_zero' {n : Nat} {p : Nat → Bool} {m : Nat} (hm : m < 2 ^ n) : addB n zeroB p m = p m := by
  rw [Bool.eq_iff_iff, add_iff]
  constructor
  · rintro ⟨x, a, b, c⟩
    have : x = 0 := of_decide_eq_true b
    subst this
    rwa [Nat.zero_xor] at c
  · intro h
    exact ⟨0, pow0 n, rfl, by rw [Nat.zero_xor]; exact h⟩
theorem add_comm' {n : Nat} {p r : Nat → Bool} {m : Nat} (hm : m < 2 ^ n) : addB n p r m = addB n r p m := by
  have go : ∀ {p r : Nat → Bool}, addB n p r m = true → addB n r p m = true := fun {p r} h => by
    obtain ⟨x, a, b, c⟩ := add_iff.mp h
    exact add_iff.mpr ⟨x ^^^ m, xor_lt a hm, c, by rw [xor_back]; exact b⟩
  rw [Bool.eq_iff_iff]
  exact ⟨go, go⟩
theorem add_assoc' {n : Nat} {p r o : Nat → Bool} {m : Nat} (hm : m < 2 ^ n) : addB n (addB n p r) o m = addB n p (addB n r o) m := by
  rw [Bool.eq_iff_iff, add_iff, add_iff]
  constructor
  · rintro ⟨x, a, b, c⟩
    obtain ⟨y, a2, b2, c2⟩ := add_iff.mp b
    refine ⟨y, a2, b2, add_iff.mpr ⟨y ^^^ x, xor_lt a2 a, c2, ?_⟩⟩
    have e : y ^^^ x ^^^ (y ^^^ m) = x ^^^ m := by rw [Nat.xor_comm y x, Nat.xor_assoc, ← Nat.xor_assoc y y m, Nat.xor_self, Nat.zero_xor]
    rw [e]
    exact c
  · rintro ⟨y, a2, b2, c⟩
    obtain ⟨z, a, c2, c3⟩ := add_iff.mp c
    refine ⟨y ^^^ z, xor_lt a2 a, add_iff.mpr ⟨y, a2, b2, ?_⟩, ?_⟩
    · have e : y ^^^ (y ^^^ z) = z := by rw [← Nat.xor_assoc, Nat.xor_self, Nat.zero_xor]
      rw [e]
      exact c2
    · have e : y ^^^ z ^^^ m = z ^^^ (y ^^^ m) := by rw [Nat.xor_comm y z, Nat.xor_assoc]
      rw [e]
      exact c3
/-- the greatest addend of p for r -/
def gaB (n : Nat) (p r : Nat → Bool) (m : Nat) : Bool := (lotOf n p).all fun x => r (x ^^^ m)
theorem ga_iff {n : Nat} {p r : Nat → Bool} {m : Nat} : gaB n p r m = true ↔ ∀ x, x < 2 ^ n → p x = true → r (x ^^^ m) = true := by
  unfold gaB
  rw [List.all_eq_true]
  exact ⟨fun h x a b => h x (mem_lot.mpr ⟨a, b⟩), fun h x hx => h x (mem_lot.mp hx).1 (mem_lot.mp hx).2⟩
/-! sums as numbers -/
theorem sum1 {n : Nat} {p : Nat → Bool} {m : Nat} (hm : m < 2 ^ n) : sumB n [p] m = p m := add_zero' hm
theorem sum2 {n : Nat} {p r : Nat → Bool} {m : Nat} (hm : m < 2 ^ n) : sumB n [p, r] m = addB n p r m := add_congr hm (fun _ h => add_zero' h) fun _ _ => rfl
theorem sum3 {n : Nat} {p r o : Nat → Bool} {m : Nat} (hm : m < 2 ^ n) : sumB n [p, r, o] m = addB n (addB n p r) o m := add_congr hm (fun _ h => sum2 h) fun _ _ => rfl
theorem add_or {n : Nat} {p r o : Nat → Bool} {m : Nat} : addB n p (fun x => r x || o x) m = (addB n p r m || addB n p o m) := by
  rw [Bool.eq_iff_iff, Bool.or_eq_true, add_iff, add_iff, add_iff]
  constructor
  · rintro ⟨x, a, b, c⟩
    rcases Bool.or_eq_true_iff.mp c with c | c
    · exact .inl ⟨x, a, b, c⟩
    · exact .inr ⟨x, a, b, c⟩
  · rintro (⟨x, a, b, c⟩ | ⟨x, a, b, c⟩)
    · exact ⟨x, a, b, by rw [c]; rfl⟩
    · exact ⟨x, a, b, by rw [c, Bool.or_true]⟩
def oneB (a m : Nat) : Bool := decide (m = a)
theorem lot_one {n a : Nat} (ha : a < 2 ^ n) : vm (lotOf n (oneB a)) = [.int (a : Int)] := by
  refine (rising_lot (ns := [(a : Int)]) (by simp) fun k => ?_).symm
  constructor
  · intro h
    have : k = (a : Int) := by simpa using h
    exact ⟨a, this, ha, decide_eq_true rfl⟩
  · rintro ⟨m, h1, h2, h3⟩
    have : m = a := of_decide_eq_true h3
    rw [h1, this]
    exact List.mem_singleton.mpr rfl
theorem add_one {n a : Nat} {p : Nat → Bool} {m : Nat} (ha : a < 2 ^ n) (hm : m < 2 ^ n) : addB n (oneB a) p m = p (m ^^^ a) := by
  rw [Bool.eq_iff_iff, add_iff]
  constructor
  · rintro ⟨x, a', b, c⟩
    have : x = a := of_decide_eq_true b
    subst this
    rwa [Nat.xor_comm] at c
  · intro h
    exact ⟨a, ha, decide_eq_true rfl, by rw [Nat.xor_comm]; exact h⟩
theorem lot_mono {n : Nat} {p r : Nat → Bool} (h : ∀ m, m < 2 ^ n → p m = true → r m = true) : (lotOf n p).length ≤ (lotOf n r).length := by
  unfold lotOf
  rw [← List.countP_eq_length_filter, ← List.countP_eq_length_filter]
  exact List.countP_mono_left fun m hm => h m (List.mem_range.mp hm)
theorem nodup_le : ∀ {l m : List Nat}, l.Nodup → l ⊆ m → l.length ≤ m.length
  | [], _, _, _ => Nat.zero_le _
  | x :: l, m, h, s => by
    obtain ⟨h1, h2⟩ := List.nodup_cons.mp h
    have hx : x ∈ m := s List.mem_cons_self
    have h3 := nodup_le (l := l) (m := m.erase x) h2 fun y hy => (List.mem_erase_of_ne (fun e => h1 (by rw [← e]; exact hy))).mpr (s (List.mem_cons_of_mem _ hy))
    rw [List.length_erase_of_mem hx] at h3
    have h4 : 0 < m.length := List.length_pos_of_mem hx
    rw [List.length_cons]
    omega
theorem lot_len_xor {n a : Nat} {p : Nat → Bool} (ha : a < 2 ^ n) : (lotOf n fun m => p (m ^^^ a)).length = (lotOf n p).length := by
  have sub : ∀ {p : Nat → Bool}, (lotOf n p).length ≤ (lotOf n fun m => p (m ^^^ a)).length := fun {p} => by
    have h1 : ((lotOf n p).map fun (m : Nat) => m ^^^ a).Nodup := by
      have h := nodup_lot n p
      unfold List.Nodup at h ⊢
      rw [List.pairwise_map]
      refine h.imp fun {x y} hxy e => hxy ?_
      have e3 := congrArg (· ^^^ a) e
      simpa [Nat.xor_assoc] using e3
    have h2 : ((lotOf n p).map fun (m : Nat) => m ^^^ a) ⊆ (lotOf n fun m => p (m ^^^ a)) := by
      intro z hz
      obtain ⟨m, hm, rfl⟩ := List.mem_map.mp hz
      obtain ⟨h3, h4⟩ := mem_lot.mp hm
      exact mem_lot.mpr ⟨xor_lt h3 ha, by rw [xor_back]; exact h4⟩
    have h3 := nodup_le h1 h2
    rw [List.length_map] at h3
    exact h3
  refine Nat.le_antisymm ?_ sub
  have h := sub (p := fun m => p (m ^^^ a))
  have e : (lotOf n fun m => p (m ^^^ a ^^^ a)) = lotOf n p := lot_congr fun m _ => by rw [xor_back]
  rw [e] at h
  exact h
end XT
/-! a caught error with a dict: isinstance; handed to a def -/
namespace XT
open PySem PySem.Spec PyProof.Rows L2
/-- what the class D of an error must say for isinstance -/
structure IsC (K : PySem.W.Frag) (D : Addr) : Prop where
  cl : (PySem.W.clsIn K D).isSome = true
  ga : PySem.W.findIn K (.ref D) "__getattribute__" = some (some (.builtin "BaseException.__getattribute__"))
  gg : PySem.W.findIn K (.ref D) "__getattr__" = some none
  sb : PySem.W.subIn K (.ref D) (.type "BaseException") = some true
  ha : PySem.W.findIn K (.ref D) "__class__" = some (some (.builtin "object.__class__"))
  hn : PySem.W.specialIn K (.builtin "object.__class__") "__get__" = some (some (.builtin "getset_descriptor.__get__"))
  ht : PySem.W.takesIn K (.builtin "object.__class__") = some true
  hm : PySem.W.mroIn K D (.type "object") = some true
section
variable {X : Cx} {a D : Addr} {oe : Obj} {cls : Value} {d : Option Addr} {pn : List (Addr × Obj)}
theorem inst_of {pins : List (Addr × Obj)} {σ : L2.St} {H : Hp} {s : Shared} {dd : Addr} {fs : List (Str × V)} (I : Inv (X.suite a ((a, oe) :: pn)) pins σ H s) (hz : Zc cls d oe) (hf : ∃ vs, oe.data = .fields vs) (ec : cls = .ref D) (ed : d = some dd) (hd : H dd = some (.xd fs)) :
    ∃ od, PySem.W.InstAt s.heap a oe D (some od) := by
  subst ec ed
  obtain ⟨ha, _⟩ := I.pin (a, oe) (List.mem_append_left _ List.mem_cons_self)
  obtain ⟨vs, hv⟩ := hf
  have hx : ObjOk X.prog X.w H s.heap dd (.xd fs) := I.hok dd _ hd
  obtain ⟨mA, hns, _⟩ := hx
  obtain ⟨od, ho, _⟩ := lookIn_ns hns
  exact ⟨od, ha, hz.1, by unfold PySem.W.notCls; rw [hv] <;> rfl, by rw [hz.2]; exact ho⟩
/-- isinstance(e, c) -/
def rIsD (K : PySem.W.Frag) (D a : Addr) (cls : Value) (d : Option Addr) : List V → Hp → VK → Prop := fun xs H Q => ∃ (c : V) (cv : Value) (b : Bool) (dd : Addr) (fs : List (Str × V)), xs = [.ref a, c] ∧ ClsV c cv ∧ cls = .ref D ∧ d = some dd ∧ H dd = some (.xd fs) ∧ PySem.W.kitOne K (.ref D) cv = some b ∧ Q (.bl b) H
theorem call_isD (C : IsC X.K D) (hz : Zc cls d oe) (hf : ∃ vs, oe.data = .fields vs) : CallR (X.suite a ((a, oe) :: pn)) (.builtin "isinstance") (rIsD X.K D a cls d) := by
  intro pins s σ H xs us Q I r h
  obtain ⟨c, cv, b, dd, fs, rfl, kc, ec, ed, hd, e, q⟩ := h
  obtain ⟨u1, u2, rfl, r1, r2⟩ := vals2 r
  cases (show u1 = Value.ref a from r1)
  have e2 := kc.eq r2
  subst e2
  obtain ⟨od, J⟩ := inst_of I hz hf ec ed hd
  exact PySem.W.kia_one (PySem.W.kitx_exc C.cl C.ga C.gg C.sb C.ha C.hn C.ht C.hm) I.kIn J e (fun z => nomatch z) fun tk => ⟨.bl b, H, I.tok tk, rfl, q⟩
/-- isinstance(e, (c1, c2, ..)) -/
def rIsDT (K : PySem.W.Frag) (D a : Addr) (cls : Value) (d : Option Addr) : List V → Hp → VK → Prop := fun xs H Q => ∃ (tp : Addr) (cs : List V) (ws : List Value) (b : Bool) (dd : Addr) (fs : List (Str × V)), xs = [.ref a, .ref tp] ∧ H tp = some (.tup cs) ∧ Paired ClsV cs ws ∧ cls = .ref D ∧ d = some dd ∧ H dd = some (.xd fs) ∧ PySem.W.kitAny K (.ref D) ws = some b ∧ Q (.bl b) H
theorem call_isDT (C : IsC X.K D) (hz : Zc cls d oe) (hf : ∃ vs, oe.data = .fields vs) : CallR (X.suite a ((a, oe) :: pn)) (.builtin "isinstance") (rIsDT X.K D a cls d) := by
  intro pins s σ H xs us Q I r h
  obtain ⟨tp, cs, ws, b, dd, fs, rfl, hT, kc, ec, ed, hd, e, q⟩ := h
  obtain ⟨u1, u2, rfl, r1, r2⟩ := vals2 r
  cases (show u1 = Value.ref a from r1)
  cases (show u2 = Value.ref tp from r2)
  obtain ⟨od, J⟩ := inst_of I hz hf ec ed hd
  have hx : ObjOk X.prog X.w H s.heap tp (.tup cs) := I.hok tp _ hT
  obtain ⟨_, its, rv, o, h1, h2, n, h3⟩ := hx
  have e3 := ClsV.all kc rv
  subst e3
  obtain ⟨oc, od2, dt, sl⟩ := o
  simp only at h2 h3
  subst h2 h3
  exact PySem.W.kia_tup (PySem.W.kitx_exc C.cl C.ga C.gg C.sb C.ha C.hn C.ht C.hm) I.kIn J h1 e (fun z => nomatch z) fun tk => ⟨.bl b, H, I.tok tk, rfl, q⟩
/-- f(e), e the error that is handled, by f's body -/
theorem pe_err {x par : Str} {st : Stmt} {f : Addr} {fd : FuncData} {N : List Str} {sp : Hp → VK → Prop} {e : Expr} {te : TE} {p pos : Pos} (F : Fun X.K x x st f fd) (S : FnScope N [par] (defScope st))
    (hb : ∀ (kV doc pm : Value) (an : Option Addr) (cdv ct u : Value), bindArgs (PySem.W.fnOf x x (defArgs st) (defBody st) (defScope st) .none kV doc pm an cdv ct) ⟨[u], []⟩ = pure [(par, u)])
    (hg : Gl X x) (hm : X.mg x = some (.ref f)) (hr : X.A.depth < recursionLimit)
    (hbody : ∀ (cdv : Value) (outer : List Env) (s : Shared) (H : Hp) (Q : VK), sp H Q → ∃ t, PSs ((cxOf CX0 X.prog X.w X.K X.mg X.base N x (defScope st) f cdv X.A outer s H E0).nox.suite a [(a, oe)]) (defBody st) t ∧ t { nx := fun _ H' => Q .non H', rt := Q } (start N [.ref a]) H)
    (he : PE (X.suite a ((a, oe) :: pn)) e te) (hdb : (x == ("__debug__" : Str)) = false := by decide) (hst : starEach [e] X.env = (false, eval e X.env) :: starEach [] X.env := by rfl) :
    PE (X.suite a ((a, oe) :: pn)) (.Call (.Name x p) [e] [] pos) (fun σ H Q => te σ H fun v H1 => v = .ref a ∧ sp H1 Q) := by
  have kp := F.kp
  obtain ⟨oc, od, kV, doc, pm, an, cdv, ct, osl, rfl, lk, hcd⟩ := F.ex
  refine ⟨fun pins s σ H Q I h => wpAny_Call_Name_kw (ld_glob I hg hm ?_ hdb)⟩
  refine PySem.W.callWith_K (h₀ := X.base) I.ok.mod.kin kp ?_ hst (by rfl)
  rw [hst]
  show wpAny _ _ (spliced ((false, eval e X.env) :: backTo pos (starEach [] X.env))) _ _ s
  refine Calls.spliced_cons (thn (he.run pins s σ H _ I h) fun u s1 ⟨v, H1, I1, r1, ev, hsp⟩ => ?_)
  subst ev
  cases (show u = Value.ref a from r1)
  refine Calls.spliced_nil ⟨I1.kIn, ?_⟩
  show wpAny _ _ (call (.ref f) [.ref a]) _ _ _
  have P1 := I1.pin (a, oe) (List.mem_append_left _ List.mem_cons_self)
  have hpin : L2H.PinOk X.stack H1 s1 (a, oe) := ⟨P1.1, P1.2.1, fun hmm => (List.mem_cons.mp (I1.stkSub a hmm)).elim P1.2.2.1 P1.2.2.2.1, P1.2.2.2.2⟩
  have e0 := I1.env0
  have KX : X.K.In s1.heap := I1.kIn
  have lim : s1.heap.NoLimit := I1.nolimit
  refine wpAny_call (codeAny_mono (R := CR CX0 X.stack X.prog X.w H1 s1 Q E0) ?_ fun r s2 z => ?_)
  · refine codeAny_call_function hr (KX _ _ lk) rfl S.co S.gen rfl (PySem.W.codeRec_of KX hcd) ?_
    rw [hb kV doc pm an cdv ct (.ref a)]
    refine wpAny_pure ?_
    have hkind : ∀ y ∈ [par].zip [Value.ref a], (defScope st).names.lookup y.1 = some .local ∨ ((defScope st).names.lookup y.1 = some .cell ∧ ((cellsFrom (s1.heap.objs.size + 1) (defScope st).names []).lookup y.1).isSome = true) := fun y hy => by
      rcases S.par y.1 (List.of_mem_zip hy).1 with q | q
      · exact .inl q
      · exact .inr ⟨q, PySem.W.cellsFrom_some _ _ _ (.inl q)⟩
    refine wpAny_newFunctionEnv_cells (s := s1) S.kind hkind fun env henv s3 x3 => ?_
    subst henv
    refine ⟨lim.keeps x3.toInCall.keep, codeAny_func ?_⟩
    obtain ⟨t, ht, hq⟩ := hbody cdv X.stack s1 H1 Q hsp
    have J := L2H.inv_startH (CX := CX0) (E := E0) S hpin e0 (vs := [.ref a]) rfl (.cons rfl .nil) x3
    have ht2 : PSs (L2H.cxH CX0 X.prog X.w X.K X.mg X.base N x (defScope st) f cdv (X.A.mark (some (.ref a))) X.stack s1 H1 E0 (a, oe)) (defBody st) t := PSs.nox ht
    refine wpAny_mono (ht2.run [] s3 _ H1 _ J hq) (fun fl s4 hs => ?_) fun e4 s4 hs => hs
    match fl, hs with
    | .ret u, ⟨v, σ4, H4, J4, rv, q⟩ => exact ⟨v, H4, J4.os, J4.bare, J4.base, J4.hok, rv, q⟩
    | .next, ⟨σ4, H4, J4, q⟩ => exact ⟨.non, H4, J4.os, J4.bare, J4.base, J4.hok, rfl, q⟩
    | .brk, ⟨_, _, _, q⟩ => exact q.elim
    | .cont, ⟨_, _, _, q⟩ => exact q.elim
  · match r, z with
    | .error e4, z => exact z.elim
    | .ok .next, z => exact z.elim
    | .ok .brk, z => exact z.elim
    | .ok .cont, z => exact z.elim
    | .ok (.ret u), z => exact I1.after z
end
end XT
/-! own errors: made with one field or with none, and raised by common_width -/
namespace XT
open PySem PySem.Spec PyProof.Rows L2
theorem PMk.imp {X : Cx} {e : Expr} {t t' : L2.St → Hp → XK → Prop} (h : PMk X e t) (i : ∀ σ H Q, t' σ H Q → t σ H Q) : PMk X e t' := fun pins s σ H Q I q => h pins s σ H Q I (i _ _ _ q)
/-- self.f = y in a class's __init__ -/
def spInit (K : PySem.W.Frag) (C : Addr) (f : Str) : Sp := fun vs H Q _ => ∃ (a : Addr) (y : V), vs = [.ref a, y] ∧ H a = some (exo a C none) ∧ ∀ dx, H dx = none → dx ≠ a → Q .non (upd (upd H dx (exd dx [(f, y)])) a (exo a C (some dx)))
/-- an own error class over ValueError with one field -/
structure ErrC (P : Program) (w : World) (K : PySem.W.Frag) (mg : Str → Option Value) (base : Heap) (x f : Str) (C : Addr) : Prop where
  T : OexC K C
  no : PySem.W.findIn K (.ref C) f = some none
  ini : ∃ (fI : Addr) (fd : FuncData) (ps : List Str), PySem.W.findIn K (.ref C) "__init__" = some (some (.ref fI)) ∧ PySem.W.typeIn K (.ref fI) = some (.type "function") ∧ FnOk P w K mg base CX0 1 fI fd ps (spInit K C f) ∧ Binds K fd ps []
  hm : mg x = some (.ref C)
theorem same_xd {H : Hp} {a dx C : Addr} {o o' : HO} {fs : List (Str × V)} (n : H a = none) (m : H dx = none) (ne : dx ≠ a) : Same H (upd (del (upd (upd (upd H a o) dx o') a (exo a C (some dx))) a) dx (.xd fs)) := fun b x e => by
  have h1 : b ≠ dx := ne_of_none e m
  have h2 : b ≠ a := ne_of_none e n
  rw [upd_ne h1, del_ne h2, upd_ne h2, upd_ne h1, upd_ne h2]
  exact e
section
variable {X : Cx} {C : Addr} {x f : Str} {e : Expr} {ta : TA} {p pos : Pos}
/-- C(e) -/
theorem pmk_err (R : ErrC X.prog X.w X.K X.mg X.base x f C) (hr : Room 2 X.A) (hg : Gl X x) (ha : PA X [e] ta)
    (hdb : (x == ("__debug__" : Str)) = false := by decide) (he : starEach [e] X.env = (false, eval e X.env) :: starEach [] X.env := by rfl) (hpl : (backTo pos (starEach [] X.env)).any (·.1) = false := by rfl) :
    PMk X (.Call (.Name x p) [e] [] pos) (tMkO C (spInit X.K C f) [] ta) := by
  obtain ⟨fI, fd, ps, hi, ht, F, hb⟩ := R.ini
  exact pmk_oex (CX := CX0) (k := 1) (dvs := []) (ds := []) R.T hi ht F hr hb .nil pass0 hg R.hm ha hdb he hpl
theorem mko_in {K : PySem.W.Frag} {H1 : Hp} {Q : XK} {y : V} (h : ∀ H' d, Same H1 H' → H' d = some (.xd [(f, y)]) → Q (.ref C) (some d) H') :
    [y].length ≤ 1000 ∧ ∀ a, H1 a = none → spInit K C f (.ref a :: ([y] ++ [])) (upd H1 a (exo a C none))
      (fun v H2 => v = .non ∧ ∃ (d : Addr) (fs : List (Str × V)), H2 a = some (exo a C (some d)) ∧ H2 d = some (exd d fs) ∧ H1 d = none ∧ Q (.ref C) (some d) (upd (del H2 a) d (.xd fs))) (fun _ _ _ => False) := by
  refine ⟨by simp, fun a n => ⟨a, y, rfl, upd_same, fun dx nd ne => ⟨rfl, dx, [(f, y)], upd_same, ?_, ?_, ?_⟩⟩⟩
  · exact (upd_ne ne).trans upd_same
  · rw [upd_ne ne] at nd
    exact nd
  · rw [upd_ne ne] at nd
    exact h _ dx (same_xd n nd ne) upd_same
/-- C(), no own __init__ -/
theorem pmk_none {bmB : List Value} {B newId initId : String} (F : ExcBaseFacts B newId initId bmB) (q : PySem.W.excIn X.K C bmB newId = true) (gC : X.mg x = some (.ref C)) (kC : PySem.W.keepIn X.K (.ref C) = true) (r : Raises X (.ref C)) (hg : Gl X x)
    (hdb : (x == ("__debug__" : Str)) = false := by decide) : PMk X (.Call (.Name x p) [] [] pos) (fun _ H Q => Q (.ref C) none H) := by
  intro pins s σ H Q I h
  refine wpAny_Call_Name_kw (ld_glob I hg gC ?_ hdb)
  refine PySem.W.callWith_K0 I.kIn kC ?_
  obtain ⟨bm, N, nm, qn, bs, hdct, sn, sub, ab, col, dd, k0, k1, k2, k3, k5, mN, hC, hN, hni, T⟩ := exc_obj I.kIn q
  obtain ⟨hp, g, dr, tk, os⟩ := s
  refine wpAny_call_exc_subT F T hC hN hni (fun h' e hm => ?_) (by show 0 ≤ sizeLine; omega)
  exact mk_of I hm r h (I.hok.gone hm.new)
end
end XT
namespace XT
open PySem PySem.Spec PyProof.Rows L2
/-- what the own error without fields needs -/
structure ErrN (K : PySem.W.Frag) (mg : Str → Option Value) (x : Str) (C : Addr) : Prop where
  ex : ∃ (bmB : List Value) (B newId initId : String), ExcBaseFacts B newId initId bmB ∧ PySem.W.excIn K C bmB newId = true
  exC : PySem.W.subIn K (.ref C) (.type "BaseException") = some true
  tyC : PySem.W.typeIn K (.ref C) = some (.type "type")
  kC : PySem.W.keepIn K (.ref C) = true
  hm : mg x = some (.ref C)
end XT
namespace XT
open PySem PySem.Spec PyProof.Rows L2
section
variable {P : Program} {w : World} {K : PySem.W.Frag} {mg : Str → Option Value} {base : Heap}
theorem scOW : FnScope ["self", "index"] ["self", "index"] (defScope sOW) := ⟨rfl, rfl, rfl, by decide +kernel, rfl, by decide +kernel, by decide +kernel⟩
theorem ok_ow {q : Str} {f C : Addr} {fd : FuncData} {k : Nat} (T : OexC K C) (no : PySem.W.findIn K (.ref C) "index" = some none) (F : Fun K "__init__" q sOW f fd) : FnOk P w K mg base CX0 (k + 1) f fd ["self", "index"] (spInit K C "index") := by
  refine F.ok scOW (fun vs H Q E h => ?_) (fun cdv A outer s H vs Q E hr h => ?_)
  · obtain ⟨a, y, rfl, _⟩ := h
    rfl
  · obtain ⟨a, y, rfl, ha, q⟩ := h
    refine ⟨_, pss_one (ps_ost (pv 0) (pv 1)), ?_⟩
    exact ⟨y, rfl, .ref a, rfl, a, C, rfl, T, no, .inl ⟨ha, q⟩⟩
/-- the i-th lot is the first one of another width -/
def Odd (ls : List Lt) (n : Nat) (i : Nat) : Prop := (∃ l, ls[i]? = some l ∧ l.n ≠ n) ∧ ∀ j l, j < i → ls[j]? = some l → l.n = n
def spWd (K : PySem.W.Frag) (CN CW : Addr) : Sp := fun vs H Q E => ∃ (t : Addr) (ls : List Lt), vs = [.ref t] ∧ SqT K H t (ls.map (·.v)) ∧ (∀ l ∈ ls, LtAt H l) ∧ (ls = [] → E (.ref CN) none H) ∧
  ∀ l0 r, ls = l0 :: r → ((∀ l ∈ ls, l.n = l0.n) → ∀ H', Same H H' → Q (.int (l0.n : Int)) H') ∧ ∀ i, Odd ls l0.n i → ∀ H' d, Same H H' → H' d = some (.xd [("index", .int (i : Nat))]) → E (.ref CW) (some d) H'
theorem scWd : FnScope ["lots", "width", "index", "lot"] ["lots"] (defScope sWidth) := ⟨rfl, rfl, rfl, by decide +kernel, rfl, by decide +kernel, by decide +kernel⟩
theorem ok_wd {f CN CW : Addr} {fd : FuncData} {k : Nat} (B : Bl mg) (F : Fun K "common_width" "common_width" sWidth f fd) (RN : ErrN K mg "NoLots" CN) (R : ErrC P w K mg base "OtherWidth" "index" CW) : FnOk P w K mg base (L2.CX P w) (k + 3) f fd ["lots"] (spWd K CN CW) := by
  refine F.okX scWd (fun vs H Q E h => ?_) (fun cdv A outer s H vs Q E hr h => ?_)
  · obtain ⟨t, ls, rfl, _⟩ := h
    rfl
  · obtain ⟨t, ls, rfl, ht, hL, h0, h1⟩ := h
    obtain ⟨bmB, Bn, newId, initId, eF, eq⟩ := RN.ex
    refine ⟨_, pss_cons (ps_if (pt_cmpR op_eq (pe_callB call_len_seq (by rfl) B.len PySem.boot_len (pa_cons (pv 0) pa_nil)) pe_int (nomark _)) (pss_one (ps_raise rfl (takes_of rfl rfl rfl rfl) (pmk_none eF eq RN.hm RN.kC (raises_own RN.exC RN.tyC) (by rfl)))) pss_nil)
      (pss_cons (ps_set (i := 1) scWd.nd rfl (.inl rfl) (pe_ix ix_tup (pe_ix ix_tup (pv 0) pe_int (fun _ _ => rfl)) pe_int (fun _ _ => rfl)))
      (pss_cons (ps_for (passes_of rfl) rfl (pi_enumT (by rfl) B.enumerate (pa_cons (pv 0) pa_nil)) (pg_tup rfl (pgs_cons (pg_name (i := 2) scWd.nd rfl (.inl rfl)) (pgs_cons (pg_name (i := 3) scWd.nd rfl (.inl rfl)) pgs_nil)))
        (pss_one (ps_if (pt_cmpR op_ne (pe_ix ix_tup (pv 3) pe_int (fun _ _ => rfl)) (pv 1) (nomark _)) (pss_one (ps_raise rfl (takes_of rfl rfl rfl rfl) (pmk_err R (hr.mono (by omega)) (by rfl) (pa_cons (pv 2) pa_nil)))) pss_nil)))
      (pss_one (ps_ret (pv 1))))), ?_⟩
    refine ⟨.ref t, rfl, t, _, rfl, .inr ht, rfl, _, rfl, ?_⟩
    cases ls with
    | nil => exact iteT (h0 rfl)
    | cons l0 ls' =>
      have e0 : decide (V.int (((l0 :: ls').map (·.v)).length : Nat) = V.int 0) = false := by
        rw [decide_eq_false]
        intro z
        have z2 := V.int.inj z
        rw [List.map_cons, List.length_cons] at z2
        omega
      rw [e0]
      refine iteF ?_
      obtain ⟨hs, hi⟩ := h1 l0 ls' rfl
      obtain ⟨⟨x0, y0, e1, hx0, hy0⟩, hn0⟩ := hL l0 List.mem_cons_self
      refine ⟨.ref t, rfl, t, _, 0, l0.v, rfl, rfl, ht, atI_nat (j := 0) rfl, x0, _, 0, .int l0.n, e1, rfl, SqT.of hx0, rfl, ?_⟩
      refine ⟨.ref t, rfl, t, _, rfl, ht, for_enumT (K := K) (xs := (l0 :: ls').map (·.v)) (fun i σ H' => Same H H' ∧ (∃ a b, σ = [some (.ref t), some (.int (l0.n : Int)), a, b]) ∧ ∀ j l, j < i → (l0 :: ls')[j]? = some l → l.n = l0.n) ⟨Same.refl H, ⟨none, none, rfl⟩, fun j l z => absurd z (Nat.not_lt_zero _)⟩ (fun i σ H' _ h => Same.sqT h.1 ht) (fun i v σ H' T hv h nT => ?_) (fun σ H' h => ?_)⟩
      · obtain ⟨sm, ⟨a, b, rfl⟩, hj⟩ := h
        have sT := same_new (o := .tup [.int (i : Nat), v]) nT
        rw [List.getElem?_map] at hv
        obtain ⟨l, hl, rfl⟩ := Option.map_eq_some_iff.mp hv
        obtain ⟨⟨x, y, ev, hx, hy⟩, hn⟩ := hL l (List.mem_of_getElem? hl)
        refine ⟨T, _, rfl, SqT.of upd_same, rfl, _, _, rfl, _, _, rfl, rfl, ?_⟩
        refine ⟨l.v, rfl, x, _, 0, .int l.n, ev, rfl, SqT.of (sT _ _ (sm _ _ hx)), rfl, .int l0.n, rfl, rfl, _, rfl, ?_⟩
        by_cases hne : l.n = l0.n
        · rw [hne]
          refine iteNS rfl ?_
          refine ⟨sm.trans sT, ⟨_, _, rfl⟩, fun j l2 hlt e => ?_⟩
          rcases Nat.lt_succ_iff_lt_or_eq.mp hlt with z | z
          · exact hj j l2 z e
          · rw [z, hl] at e
            cases e
            exact hne
        · have e2 : (!decide (V.int (l.n : Int) = V.int (l0.n : Int))) = true := by
            rw [decide_eq_false (fun z => hne (by have := V.int.inj z; omega))]
            rfl
          rw [e2]
          exact iteT ⟨.int i, rfl, mko_in fun H2 d sm2 hd => hi i ⟨⟨l, hl, hne⟩, hj⟩ H2 d ((sm.trans sT).trans sm2) hd⟩
      · obtain ⟨sm, ⟨a, b, rfl⟩, hj⟩ := h
        refine ⟨.int l0.n, rfl, hs (fun l hl => ?_) H' sm⟩
        obtain ⟨j, hj1, hj2⟩ := List.getElem_of_mem hl
        exact hj j l (by rw [List.length_map]; exact hj1) (by rw [List.getElem?_eq_getElem hj1, hj2])
end
end XT
/-! what is due, as data -/
namespace XT
open PySem PySem.Spec PyProof.Rows L2
def dLt (l : Lt) : PyData := dLot l.n l.p
theorem dpLs {K : PySem.W.Frag} {H : Hp} : ∀ {ls : List Lt}, (∀ l ∈ ls, LtAt H l) → DpAll K H (ls.map (·.v)) (ls.map dLt)
  | [], _ => .nil
  | l :: ls, h => .cons (h l List.mem_cons_self).1.dp (dpLs fun x hx => h x (List.mem_cons_of_mem _ hx))
theorem LsAt.dp {K : PySem.W.Frag} {H : Hp} {L : Addr} {ls : List Lt} (h : LsAt H L ls) : Dp K H (.ref L) (.list (ls.map dLt)) := .lst (SqL.of h.1) (dpLs h.2.2)
theorem shw_lts : ∀ {ls : List Lt}, (∀ l ∈ ls, l.n ≤ 6) → ShwAll (ls.map dLt) (1002 * ls.length) 2
  | [], _ => ShwAll.nil
  | l :: ls, h => by
    have := ShwAll.cons (shw_lot (h l List.mem_cons_self) l.p) (shw_lts (ls := ls) fun x hx => h x (List.mem_cons_of_mem _ hx))
    exact this.mono (by rw [List.length_cons]; omega) (Nat.le_refl _)
theorem LsAt.shw {H : Hp} {L : Addr} {ls : List Lt} (h : LsAt H L ls) : Shw (.list (ls.map dLt)) 9000 3 := by
  have := (shw_lts (ls := ls) fun l hl => (h.2.2 l hl).2.2).list
  exact this.mono (by have := h.2.1; omega) (by omega)
/-- the indexes of the lots of another width -/
def wr (ls : List Lt) (n : Nat) : List Nat := (List.range ls.length).filter fun i => match ls[i]? with | some l => l.n != n | none => false
theorem range_head {n i : Nat} {p : Nat → Bool} (hi : i < n) (hp : p i = true) (hj : ∀ j, j < i → p j = false) : ∃ t, (List.range n).filter p = i :: t := by
  induction n with
  | zero => exact absurd hi (Nat.not_lt_zero _)
  | succ n ih =>
    rw [List.range_succ, List.filter_append]
    rcases Nat.lt_succ_iff_lt_or_eq.mp hi with h | h
    · obtain ⟨t, e⟩ := ih h
      rw [e]
      exact ⟨t ++ _, rfl⟩
    · subst h
      have e : (List.range i).filter p = [] := by
        rw [List.filter_eq_nil_iff]
        intro j h
        rw [hj j (List.mem_range.mp h)]
        decide
      rw [e]
      exact ⟨[], by simp [hp]⟩
theorem odd_wr {ls : List Lt} {n i : Nat} (h : Odd ls n i) : ∃ t, wr ls n = i :: t := by
  obtain ⟨⟨l, hl, hne⟩, hj⟩ := h
  have hi : i < ls.length := (List.getElem?_eq_some_iff.mp hl).1
  refine range_head hi ?_ fun j hlt => ?_
  · rw [hl]
    simpa using hne
  · rw [List.getElem?_eq_getElem (Nat.lt_trans hlt hi)]
    have := hj j _ hlt (List.getElem?_eq_getElem (Nat.lt_trans hlt hi))
    simpa using this
theorem wr_nil {ls : List Lt} {n : Nat} : wr ls n = [] ↔ ∀ l ∈ ls, l.n = n := by
  unfold wr
  rw [List.filter_eq_nil_iff]
  constructor
  · intro h l hl
    obtain ⟨i, hi, e⟩ := List.getElem_of_mem hl
    have := h i (List.mem_range.mpr hi)
    rw [List.getElem?_eq_getElem hi, e] at this
    simpa using this
  · intro h i hi
    have hi := List.mem_range.mp hi
    rw [List.getElem?_eq_getElem hi]
    have := h _ (List.getElem_mem hi)
    simpa using this
theorem wr_lt {ls : List Lt} {n i : Nat} {t : List Nat} (h : wr ls n = i :: t) : i < ls.length := by
  have : i ∈ wr ls n := by rw [h]; exact List.mem_cons_self
  exact List.mem_range.mp (List.mem_filter.mp this).1
def dDue : List Lt → PyData
  | [] => .list [.str "none"]
  | l0 :: r => match wr (l0 :: r) l0.n with
    | i :: _ => .list [.str "width", .int (i : Int)]
    | [] => dLot l0.n (sumB l0.n ((l0 :: r).map (·.p)))
theorem dDue_odd {l0 : Lt} {r : List Lt} {i : Nat} {t : List Nat} (h : wr (l0 :: r) l0.n = i :: t) : dDue (l0 :: r) = .list [.str "width", .int (i : Int)] := by
  unfold dDue; dsimp only
  rw [h]
theorem dDue_all {l0 : Lt} {r : List Lt} (h : wr (l0 :: r) l0.n = []) : dDue (l0 :: r) = dLot l0.n (sumB l0.n ((l0 :: r).map (·.p))) := by
  unfold dDue; dsimp only
  rw [h]
theorem shw_none : Shw (.list [.str "none"]) 1000 2 := by
  have hs : Shw (.str "none") 10 0 := ⟨by decide +kernel, Nat.le_refl _, rfl, by decide +kernel⟩
  exact (ShwAll.cons hs ShwAll.nil).list.mono (by omega) (by omega)
theorem shw_due {ls : List Lt} (hn : ∀ l ∈ ls, l.n ≤ 6) (hl : ls.length ≤ 8) : Shw (dDue ls) 1000 2 := by
  cases ls with
  | nil => exact shw_none
  | cons l0 r =>
    cases h : wr (l0 :: r) l0.n with
    | nil =>
      rw [dDue_all h]
      exact shw_lot (hn l0 List.mem_cons_self) _
    | cons i t =>
      rw [dDue_odd h]
      have := wr_lt h
      exact shw_width i (by omega)
end XT
namespace XT
open PySem PySem.Spec PyProof.Rows L2
def DefX (P : Program) (w : World) (K : PySem.W.Frag) (mg : Str → Option Value) (base : Heap) (k : Nat) (x : Str) (sp : Sp) : Prop :=
  ∃ f fd ps, FnOk P w K mg base (L2.CX P w) k f fd ps sp ∧ Binds K fd ps [] ∧ mg x = some (.ref f) ∧ PySem.W.keepIn K (.ref f) = true
theorem DefX.of {P : Program} {w : World} {K : PySem.W.Frag} {mg : Str → Option Value} {base : Heap} {k : Nat} {x : Str} {sp : Sp} {f : Addr} {fd : FuncData} {ps : List Str}
    (F : FnOk P w K mg base (L2.CX P w) k f fd ps sp) (b : Binds K fd ps []) (hm : mg x = some (.ref f)) (hk : PySem.W.keepIn K (.ref f) = true) : DefX P w K mg base k x sp := ⟨f, fd, ps, F, b, hm, hk⟩
section
variable {X : Cx}
/-- f(e, ..), f may raise -/
theorem pe_defX {j : Nat} {x : Str} {sp : Sp} {W : WX} {e : Expr} {es : List Expr} {t : TA} {p pos : Pos} (D : DefX X.prog X.w X.K X.mg X.base j x sp) (hr : Room j X.A) (hg : Gl X x) (tk : Takes X W) (ha : PA X (e :: es) t)
    (hdb : (x == ("__debug__" : Str)) = false := by decide) (he : starEach (e :: es) X.env = (false, eval e X.env) :: starEach es X.env := by rfl) (hpl : (backTo pos (starEach es X.env)).any (·.1) = false := by rfl) :
    PE X (.Call (.Name x p) (e :: es) [] pos) (tCallS sp (WE W) t) := by
  obtain ⟨f, fd, ps, F, b, hm, hk⟩ := D
  exact pe_callS F hr hg hm hk b (fun σ => passAt tk σ) ha hdb he hpl
end
end XT
/-! common_width, at lots of one width -/
namespace XT
open PySem PySem.Spec PyProof.Rows L2
section
variable {P : Program} {w : World} {K : PySem.W.Frag} {mg : Str → Option Value} {base : Heap}
theorem scWidth : FnScope ["lots", "width", "index", "lot"] ["lots"] (defScope sWidth) := ⟨rfl, rfl, rfl, by decide +kernel, rfl, by decide +kernel, by decide +kernel⟩
abbrev Lots := List (V × (Nat → Bool))
def LotsAt (H : Hp) (ls : Lots) (n : Nat) : Prop := ls ≠ [] ∧ ls.length ≤ 8 ∧ n ≤ 6 ∧ ∀ l ∈ ls, LotAt H l.1 n l.2
theorem LotsAt.same {H H' : Hp} {ls : Lots} {n : Nat} (h : LotsAt H ls n) (e : Same H H') : LotsAt H' ls n := ⟨h.1, h.2.1, h.2.2.1, fun l hl => (h.2.2.2 l hl).same e⟩
def spWidth (K : PySem.W.Frag) : Sp := fun vs H Q _ => ∃ (t : Addr) (ls : Lots) (n : Nat), vs = [.ref t] ∧ SqT K H t (ls.map (·.1)) ∧ LotsAt H ls n ∧ ∀ H', Same H H' → Q (.int (n : Int)) H'
theorem ok_width {f : Addr} {fd : FuncData} {k : Nat} (B : Bl mg) (F : Fun K "common_width" "common_width" sWidth f fd) : FnOk P w K mg base CX0 (k + 1) f fd ["lots"] (spWidth K) := by
  refine F.ok scWidth (fun vs H Q E h => ?_) (fun cdv A outer s H vs Q E hr h => ?_)
  · obtain ⟨t, ls, n, rfl, _⟩ := h
    rfl
  · obtain ⟨t, ls, n, rfl, ht, hL, q⟩ := h
    refine ⟨_, pss_cons (ps_if (pt_cmpR op_eq (pe_callB call_len_seq (by rfl) B.len PySem.boot_len (pa_cons (pv 0) pa_nil)) pe_int (nomark _)) pss_never pss_nil)
      (pss_cons (ps_set (i := 1) scWidth.nd rfl (.inl rfl) (pe_ix ix_tup (pe_ix ix_tup (pv 0) pe_int (fun _ _ => rfl)) pe_int (fun _ _ => rfl)))
      (pss_cons (ps_for PassesOwn.never rfl (pi_enumT (by rfl) B.enumerate (pa_cons (pv 0) pa_nil)) (pg_tup rfl (pgs_cons (pg_name (i := 2) scWidth.nd rfl (.inl rfl)) (pgs_cons (pg_name (i := 3) scWidth.nd rfl (.inl rfl)) pgs_nil)))
        (pss_one (ps_if (pt_cmpR op_ne (pe_ix ix_tup (pv 3) pe_int (fun _ _ => rfl)) (pv 1) (nomark _)) pss_never pss_nil)))
      (pss_one (ps_ret (pv 1))))), ?_⟩
    obtain ⟨hne, hlen, hn, hall⟩ := hL
    obtain ⟨l0, ls', rfl⟩ : ∃ l0 ls', ls = l0 :: ls' := by
      cases ls with
      | nil => exact absurd rfl hne
      | cons a b => exact ⟨a, b, rfl⟩
    refine ⟨.ref t, rfl, t, _, rfl, .inr ht, rfl, _, rfl, ?_⟩
    have e0 : decide (V.int (((l0 :: ls').map (·.1)).length : Nat) = V.int 0) = false := by
      rw [decide_eq_false]
      intro z
      have z2 := V.int.inj z
      rw [List.map_cons, List.length_cons] at z2
      omega
    rw [e0]
    refine iteF ?_
    obtain ⟨x0, y0, e1, hx0, hy0⟩ := hall l0 List.mem_cons_self
    refine ⟨.ref t, rfl, t, _, 0, l0.1, rfl, rfl, ht, atI_nat (j := 0) rfl, x0, _, 0, .int n, e1, rfl, SqT.of hx0, rfl, ?_⟩
    refine ⟨.ref t, rfl, t, _, rfl, ht, for_enumT (K := K) (xs := (l0 :: ls').map (·.1)) (fun i σ H' => Same H H' ∧ ∃ a b, σ = [some (.ref t), some (.int (n : Int)), a, b]) ⟨Same.refl H, none, none, rfl⟩ (fun i σ H' _ h => Same.sqT h.1 ht) (fun i v σ H' T hv h nT => ?_) (fun σ H' h => ?_)⟩
    · obtain ⟨sm, a, b, rfl⟩ := h
      have sT := same_new (o := .tup [.int (i : Nat), v]) nT
      rw [List.getElem?_map] at hv
      obtain ⟨l, hl, rfl⟩ := Option.map_eq_some_iff.mp hv
      obtain ⟨x, y, ev, hx, hy⟩ := hall l (List.mem_of_getElem? hl)
      refine ⟨T, _, rfl, SqT.of upd_same, rfl, _, _, rfl, _, _, rfl, rfl, ?_⟩
      refine ⟨l.1, rfl, x, _, 0, .int n, ev, rfl, SqT.of (sT _ _ (sm _ _ hx)), rfl, .int n, rfl, rfl, _, rfl, iteNS rfl ?_⟩
      exact ⟨sm.trans sT, _, _, rfl⟩
    · obtain ⟨sm, a, b, rfl⟩ := h
      exact ⟨.int n, rfl, q H' sm⟩
theorem lots2 {H : Hp} {u v : V} {n : Nat} {p r : Nat → Bool} (hu : LotAt H u n p) (hv : LotAt H v n r) (hn : n ≤ 6) : LotsAt H [(u, p), (v, r)] n :=
  ⟨by simp, (by decide : 2 ≤ 8), hn, fun l hl => by
    rcases List.mem_cons.mp hl with rfl | hl
    · exact hu
    · rw [List.mem_singleton.mp hl]; exact hv⟩
end
end XT
namespace XT
open PySem PySem.Spec PyProof.Rows L2
section
variable {P : Program} {w : World} {K : PySem.W.Frag} {mg : Str → Option Value} {base : Heap}
/-- def f( *lots): by its body -/
theorem star_ok {x : Str} {st : Stmt} {f : Addr} {fd : FuncData} {N : List Str} {k : Nat} {sp : Sp} {pv : Str} (F : Fun K x x st f fd) (S : FnScope N [pv] (defScope st))
    (hb : ∀ (kV doc pm : Value) (an : Option Addr) (cdv ct : Value) (rest : List Value), bindArgs (PySem.W.fnOf x x (defArgs st) (defBody st) (defScope st) .none kV doc pm an cdv ct) ⟨rest, []⟩ = (newTuple rest >>= fun t => pure [(pv, t)]))
    (hbody : ∀ (cdv : Value) (A : Around) (outer : List Env) (s : Shared) (H : Hp) (vs : List V) (Q : VK) (E : XK), Room k (A.deeper (envOfC x (defScope st) s.heap.objs.size f cdv)) → sp vs H Q E →
      ∃ t, PSs (cxOf CX0 P w K mg base N x (defScope st) f cdv A outer s H E).nox (defBody st) t ∧ t { nx := fun _ H' => Q .non H', rt := Q } (start N vs) H) :
    FnR P w K mg base CX0 (k + 1) f (fun vs H Q E => vs.length ≤ 1000 ∧ ∀ p, H p = none → sp [V.ref p] (upd H p (.tup vs)) Q E) := by
  obtain ⟨oc, od, kV, doc, pm, an, cdv, ct, osl, rfl, lk, hcd⟩ := F.ex
  refine (StX.fn_star (ps := []) (sp := sp) lk hcd S StX.cxUp_none (fun us rest hl => ?_) fun A outer s H vs Q E hr hsp => ?_).imp fun vs H Q E h => ⟨[], vs, rfl, rfl, sz h.1, h.2⟩
  · have e : us = [] := List.eq_nil_of_length_eq_zero hl
    subst e
    exact hb kV doc pm an cdv ct rest
  · obtain ⟨t, h1, h2⟩ := hbody cdv A outer s H vs Q E hr hsp
    exact ⟨t, h1.nox, h2⟩
def spMany (op : List Bool → Bool) : Sp := fun vs H Q _ => ∃ (ls : Lots) (n : Nat), vs = ls.map (·.1) ∧ LotsAt H ls n ∧ ∀ H' r, Same H H' → LotAt H' r n (fun m => op (ls.map fun l => l.2 m)) → Q r H'
def spManyT (K : PySem.W.Frag) (op : List Bool → Bool) : Sp := fun vs H Q _ => ∃ (t : Addr) (ls : Lots) (n : Nat), vs = [.ref t] ∧ SqT K H t (ls.map (·.1)) ∧ LotsAt H ls n ∧ ∀ H' r, Same H H' → LotAt H' r n (fun m => op (ls.map fun l => l.2 m)) → Q r H'
theorem many_of {op : List Bool → Bool} {k : Nat} {f : Addr} (h : FnR P w K mg base CX0 k f (fun vs H Q E => vs.length ≤ 1000 ∧ ∀ p, H p = none → spManyT K op [V.ref p] (upd H p (.tup vs)) Q E)) : FnR P w K mg base CX0 k f (spMany op) :=
  h.imp fun vs H Q E ⟨ls, n, ev, hL, q⟩ => by
    subst ev
    refine ⟨by rw [List.length_map]; exact Nat.le_trans hL.2.1 (by decide), fun p np => ⟨p, ls, n, rfl, SqT.of upd_same, hL.same (same_new np), fun H' r sm => q H' r ((same_new np).trans sm)⟩⟩
end
end XT
/-! {e for a in s for b in t}, ints -/
namespace XT
open PySem PySem.Spec PyProof.Rows L2
abbrev C2 (elt ta ia tb ib : Expr) (sc : Scope) (pos : Pos) : Expr := .SetComp elt [⟨ta, ia, [], 0⟩, ⟨tb, ib, [], 0⟩] sc pos
section
variable {prog : Program} {w : World} {A : Around} {R : Result → Shared → Prop} {s : Shared} {elt ta ia tb ib : Expr} {sc : Scope} {pos : Pos} {it acc : Value} {env : Env}
theorem c2_first : compTurn (C2 elt ta ia tb ib sc pos) 0 it acc env = (do
    standAt ia.pos
    match ← pyNext it with
    | none => pure (.done .next)
    | some v =>
      letOwnedTupleGo ta it v
      assign ta env v
      let x ← eval ib env
      standAt ib.pos
      let x ← foldedSetIterable ib env x
      let _ ← runOwn (.compStart (C2 elt ta ia tb ib sc pos) 1 (← holding [x] (pyIter x)) acc env) env
      again (.compLoop (C2 elt ta ia tb ib sc pos) 0 it acc env)) := by rfl
theorem c2_second : compTurn (C2 elt ta ia tb ib sc pos) 1 it acc env = (do
    standAt ib.pos
    match ← pyNext it with
    | none => pure (.done .next)
    | some v =>
      letOwnedTupleGo tb it v
      assign tb env v
      (do let v ← eval elt env; standAt elt.pos; let _ ← call (.builtin "set.add") [acc, v])
      again (.compLoop (C2 elt ta ia tb ib sc pos) 1 it acc env)) := by rfl
abbrev Out (R : Result → Shared → Prop) (M : Model) (A : Around) (env : Env) : Value → Shared → Prop := notedBy M A env fun e s2 => R (.error e) s2
theorem c2_loop0 (hs : ∀ x, foldedSetIterable ib env x = pure x) (J : Nat → Shared → Prop)
    (turn : ∀ n s, J n s → wpAny (model prog w) A (pyNext it) (fun r s1 => match r with
      | none => R (.ok .next) s1
      | some v => wpAny (model prog w) A (letOwnedTupleGo ta it v) (fun _ s2 => wpAny (model prog w) A (assign ta env v) (fun _ s3 => wpAny (model prog w) A (eval ib env) (fun x s4 => wpAny (model prog w) A (pyIter x) (fun it1 s5 =>
          codeAny (model prog w) A (.compStart (C2 elt ta ia tb ib sc pos) 1 it1 acc env) (fun r s6 => match r with
            | .ok _ => ∃ m, m < n ∧ J m s6
            | .error _ => False) s5) (Out R (model prog w) A env) s4) (Out R (model prog w) A env) s3) (Out R (model prog w) A env) s2) (Out R (model prog w) A env) s1) (Out R (model prog w) A env) s) (n : Nat) (h : J n s) :
    codeAny (model prog w) A (.compLoop (C2 elt ta ia tb ib sc pos) 0 it acc env) R s := by
  refine codeAny_loop rfl J (fun n s hJ => ?_) n h
  show wpAny _ A ((compTurn (C2 elt ta ia tb ib sc pos) 0 it acc env).onRaise (fun x => do noteFrame x env; theTreesLotGoes x)) _ _ s
  refine wpAny_noted ?_
  rw [c2_first]
  refine wpAny_bind (wpAny_standAt (wpAny_bind (wpAny_mono (turn n s hJ) (fun r s1 h1 => ?_) fun _ _ z => z)))
  match r, h1 with
  | none, h1 => exact wpAny_pure h1
  | some v, h1 =>
    refine wpAny_bind (wpAny_mono h1 (fun _ s2 h2 => wpAny_bind (wpAny_mono h2 (fun _ s3 h3 => wpAny_bind (wpAny_mono h3 (fun x s4 h4 => ?_) fun _ _ z => z)) fun _ _ z => z)) fun _ _ z => z)
    refine wpAny_bind (wpAny_standAt (wpAny_bind (wpAny_of_eq (hs x) (wpAny_bind (wpAny_holding (wpAny_mono h4 (fun it1 s5 h5 => ?_) fun _ _ z => z))))))
    refine wpAny_bind (wpAny_runOwn ?_)
    rw [Around.mark_none]
    refine codeAny_mono h5 fun r s6 hr => ?_
    match r, hr with
    | .ok f, hr => exact wpAny_pure ⟨rfl, hr⟩
    | .error e, hr => exact hr.elim
theorem c2_loop1 (J : Nat → Shared → Prop)
    (turn : ∀ n s, J n s → wpAny (model prog w) A (pyNext it) (fun r s1 => match r with
      | none => R (.ok .next) s1
      | some v => wpAny (model prog w) A (letOwnedTupleGo tb it v) (fun _ s2 => wpAny (model prog w) A (assign tb env v) (fun _ s3 => wpAny (model prog w) A (eval elt env) (fun x s4 =>
          wpAny (model prog w) A (call (.builtin "set.add") [acc, x]) (fun _ s5 => ∃ m, m < n ∧ J m s5) (Out R (model prog w) A env) s4) (Out R (model prog w) A env) s3) (Out R (model prog w) A env) s2) (Out R (model prog w) A env) s1) (Out R (model prog w) A env) s) (n : Nat) (h : J n s) :
    codeAny (model prog w) A (.compLoop (C2 elt ta ia tb ib sc pos) 1 it acc env) R s := by
  refine codeAny_loop rfl J (fun n s hJ => ?_) n h
  show wpAny _ A ((compTurn (C2 elt ta ia tb ib sc pos) 1 it acc env).onRaise (fun x => do noteFrame x env; theTreesLotGoes x)) _ _ s
  refine wpAny_noted ?_
  rw [c2_second]
  refine wpAny_bind (wpAny_standAt (wpAny_bind (wpAny_mono (turn n s hJ) (fun r s1 h1 => ?_) fun _ _ z => z)))
  match r, h1 with
  | none, h1 => exact wpAny_pure h1
  | some v, h1 =>
    refine wpAny_bind (wpAny_mono h1 (fun _ s2 h2 => wpAny_bind (wpAny_mono h2 (fun _ s3 h3 => ?_) fun _ _ z => z)) fun _ _ z => z)
    exact wpAny_bind (wpAny_bind (wpAny_mono h3 (fun x s4 h4 => wpAny_bind (wpAny_standAt (wpAny_bind (wpAny_mono h4 (fun _ s5 h5 => wpAny_pure (wpAny_pure ⟨rfl, h5⟩)) fun _ _ z => z)))) fun _ _ z => z))
theorem c2_start (k : Nat) (hk : k = 0 ∨ k = 1) (h0 : codeAny (model prog w) A (.compLoop (C2 elt ta ia tb ib sc pos) k it acc env) R s)
    (h : wpAny (model prog w) A (pyIter it) (fun it2 s2 => codeAny (model prog w) A (.compLoop (C2 elt ta ia tb ib sc pos) k it2 acc env) R s2) (Out R (model prog w) A env) s) :
    codeAny (model prog w) A (.compStart (C2 elt ta ia tb ib sc pos) k it acc env) R s := by
  rcases hk with rfl | rfl
  · refine codeAny_of_tree ?_
    show wpAny _ _ ((compStart (C2 elt ta ia tb ib sc pos) 0 it acc env).onRaise (fun x => do noteFrame x env; standAt theWindowsPlace)) _ _ s
    refine wpAny_notedAt ?_
    unfold compStart
    show wpAny _ _ (ask >>= _) _ _ s
    refine wpAny_bind (wpAny_askSetting (wpAny_ite ?_))
    split
    · exact wpAny_pure (And.intro rfl h0)
    · refine wpAny_bind (wpAny_rule ?_)
      show wpAny _ _ (standAt ia.pos >>= _) _ _ s
      exact wpAny_bind (wpAny_standAt (wpAny_bind (wpAny_mono h (fun it2 s2 h2 => wpAny_pure (And.intro rfl h2)) fun _ _ x => x)))
  · refine codeAny_of_tree ?_
    show wpAny _ _ ((compStart (C2 elt ta ia tb ib sc pos) 1 it acc env).onRaise (fun x => do noteFrame x env; standAt theWindowsPlace)) _ _ s
    refine wpAny_notedAt ?_
    unfold compStart
    show wpAny _ _ (ask >>= _) _ _ s
    refine wpAny_bind (wpAny_askSetting (wpAny_ite ?_))
    split
    · exact wpAny_pure (And.intro rfl h0)
    · refine wpAny_bind (wpAny_rule ?_)
      show wpAny _ _ (standAt ib.pos >>= _) _ _ s
      exact wpAny_bind (wpAny_standAt (wpAny_bind (wpAny_mono h (fun it2 s2 h2 => wpAny_pure (And.intro rfl h2)) fun _ _ x => x)))
end
end XT
namespace XT
open PySem PySem.Spec PyProof.Rows L2
section
variable {X : Cx}
/-- {elt for ta in ia for tb in ib}, elt an int: D the new set; vs: the block's names, vb: those of the second target -/
def tSc2 (w : World) (wa : TI) (ga : TG) (wb : TI) (gb : TG) (te : TE) (vs vb : List Nat) : TE := fun σ H Q => wa σ H fun J H1 => ∀ D, H1 D = none →
  ∃ W : Nat → Nat → Hp → Prop, (∃ m, W 0 m (upd H1 D (SetO w D (fun _ => false) 0))) ∧ ∀ i m H, W i m H →
    (J.stop i H ∧ Q (.ref D) H) ∨ (J.go i H ∧ ∃ N : Hp → Prop, (∀ H', N H' → ∃ m', m' < m ∧ W (i + 1) m' H') ∧ ∀ x H', J.yld i H x H' → ga x (wipe σ vs) H' fun σ2 H2 => wipe σ2 vs = wipe σ vs ∧
      wb σ2 H2 fun J1 H4 => ∃ W1 : Nat → Nat → Hp → Prop, (∃ m, W1 0 m H4) ∧ ∀ j k H, W1 j k H →
        (J1.stop j H ∧ N H) ∨ (J1.go j H ∧ ∃ N1 : Hp → Prop, (∀ H', N1 H' → ∃ k', k' < k ∧ W1 (j + 1) k' H') ∧ ∀ x H', J1.yld j H x H' → gb x (wipe σ2 vb) H' fun σ3 H5 => wipe σ3 vb = wipe σ2 vb ∧
          te σ3 H5 fun y H6 => rSAdd w (.ref D) [y] H6 fun _ H7 => N1 H7))
abbrev Blk (X : Cx) (sc : Scope) (p : Cx → Prop) : Prop := ∀ (s : Shared) (H : Hp) (C : Addr) (cl : List (Str × Addr)) (fp : List Addr), p (X.blk s H sc (compEnvC sc cl C X.env) fp)
theorem pe_sc2 {elt ta ia tb ib : Expr} {sc : Scope} {own : List (Str × Nat)} {vb : List Nat} {pos : Pos} {wa wb : TI} {ga gb : TG} {te : TE} (hc : X.calm = true) (hN : X.N.Nodup) (hi : PI X ta ia wa) (ok : BlkOk X.N X.env.scope sc own) (hv : ∀ i ∈ vb, i ∈ own.map (·.2))
    (hg : Blk X sc fun Y => PG Y ta ga) (hib : Blk X sc fun Y => PI Y tb ib wb) (hgb : Blk X sc fun Y => PG Y tb gb) (he : Blk X sc fun Y => PE Y elt te)
    (hs : ∀ x, foldedSetIterable ia X.env x = pure x := by intro _; rfl) (hs1 : ∀ env x, foldedSetIterable ib env x = pure x := by intro _ _; rfl) :
    PE X (C2 elt ta ia tb ib sc pos) (tSc2 X.w wa ga wb gb te (own.map (·.2)) vb) := by
  refine ⟨fun pins s σ H Q I h => ?_⟩
  rw [PpSet.eval_SetComp]
  have hfree : ∀ y ∈ sc.names, y.2 = .free → ∃ c, X.env.cells.lookup y.1 = some c := fun y hy e => (ok.free y hy e).elim (fun k => I.ok.has _ (.inl k)) fun k => I.ok.has _ (.inr k)
  refine wpAny_comprehension_free (use := none) rfl hs (closure_ok hfree) ok.kind (fun y hy e => by rw [ok.uniq y hy, e]) (thn (hi.run pins s σ H _ I h) fun xv s1 hx => thn hx fun itv s2 h2 => ?_)
  obtain ⟨it, fp, tn, J, H2, e, I2, T, st2, f2, q⟩ := h2
  subst e
  refine PpSet.newSet_ok (newEnv_comp ?_)
  generalize hD : s2.heap.objs.size = D
  have hDn : H2 D = none := I2.hok.fresh (Nat.le_of_eq hD)
  obtain ⟨W, ⟨m0, w0⟩, turn⟩ := q D hDn
  generalize hs3 : ({ s2 with heap := s2.heap.push (newS X.w) } : Shared) = s3
  have h3 : s3.heap = s2.heap.push (newS X.w) := by rw [← hs3]
  have I3 : Inv X pins σ (upd H2 D (SetO X.w D (fun _ => false) 0)) s3 := by
    rw [← hs3]
    refine I2.laid (t' := s2.toks) (fun b o e => Heap.get?_push_of_some _ e) (Nat.le_of_eq hD) ?_
    rw [← hD]
    exact setO_new (setR_fresh X.w)
  have f3 : ∀ b ∈ fp, FpOk X pins (upd H2 D (SetO X.w D (fun _ => false) 0)) b ∧ b < s3.heap.objs.size := fun b hb => by
    obtain ⟨o, e, _⟩ := T.obj _ _ st2 b hb
    have lt := Heap.lt_size e
    refine ⟨⟨?_, (f2 b hb).2⟩, by rw [h3, Heap.size_push]; exact Nat.lt_succ_of_lt lt⟩
    rw [upd_ne (by rw [← hD]; exact Nat.ne_of_lt lt)]
    exact (f2 b hb).1
  have st3 : tn 0 s3.heap := T.keep _ _ _ st2 fun b _ o e => by rw [h3]; exact Heap.get?_push_of_some _ e
  have I4 := block_start I3 ok hN f3
  have pg := hg s3 (upd H2 D (SetO X.w D (fun _ => false) 0)) s3.heap.objs.size (cellsFrom (s3.heap.objs.size + 1) sc.names (cloFrom X.env.cells sc.names [])) fp
  have pb := hib s3 (upd H2 D (SetO X.w D (fun _ => false) 0)) s3.heap.objs.size (cellsFrom (s3.heap.objs.size + 1) sc.names (cloFrom X.env.cells sc.names [])) fp
  have pgb := hgb s3 (upd H2 D (SetO X.w D (fun _ => false) 0)) s3.heap.objs.size (cellsFrom (s3.heap.objs.size + 1) sc.names (cloFrom X.env.cells sc.names [])) fp
  have pe := he s3 (upd H2 D (SetO X.w D (fun _ => false) 0)) s3.heap.objs.size (cellsFrom (s3.heap.objs.size + 1) sc.names (cloFrom X.env.cells sc.names [])) fp
  show codeAny _ _ (.compStart (C2 elt ta ia tb ib sc pos) 0 (.ref it) (.ref D) (compEnvC sc (cellsFrom (s3.heap.objs.size + 1) sc.names (cloFrom X.env.cells sc.names [])) s3.heap.objs.size X.env)) (compPost (model X.prog X.w) X.A X.xe none (EP X pins σ Q) (.ref D) s3.heap.objs.size) { s3 with heap := pushCells (s3.heap.push { cls := .type "dict", data := .dict #[] }) sc.names }
  have nfp : ∀ b ∈ fp, (upd H2 D (SetO X.w D (fun _ => false) 0)) b = none := fun b hb => (f3 b hb).1.1
  generalize hce : compEnvC sc (cellsFrom (s3.heap.objs.size + 1) sc.names (cloFrom X.env.cells sc.names [])) s3.heap.objs.size X.env = ce at I4 pg pb pgb pe ⊢
  have cL : ce.locals = s3.heap.objs.size := by subst hce; rfl
  generalize hH3 : upd H2 D (SetO X.w D (fun _ => false) 0) = H3 at I3 I4 pg pb pgb pe w0 nfp f3
  generalize hs4 : ({ s3 with heap := pushCells (s3.heap.push { cls := .type "dict", data := .dict #[] }) sc.names } : Shared) = s4 at I4 ⊢
  have st4 : tn 0 s4.heap := T.keep _ _ _ st3 fun b _ o e => by rw [← hs4]; exact pushCells_keeps _ _ _ _ (Heap.get?_push_of_some _ e)
  have stat : ∀ {σ' : L2.St} {H' : Hp} {s' : Shared}, Inv (X.blk s3 H3 sc ce fp) [] σ' H' s' → (∀ b ∈ fp, H' b = none) → ∀ b ∈ fp, FpOk (X.blk s3 H3 sc ce fp) [] H' b := fun {σ' H' s'} K' hn b hb =>
    ⟨hn b hb, (K'.ok.exf b hb).1, K'.ok.exfs b hb, .inl hb, fun x c e => (K'.ok.exf b hb).2 x c e, fun p hp => absurd (show p ∈ ([] : List (Addr × Obj)) ++ [] from hp) (by simp)⟩
  have loop : codeAny (model X.prog X.w) X.A (.compLoop (C2 elt ta ia tb ib sc pos) 0 (.ref it) (.ref D) ce) (compPost (model X.prog X.w) X.A X.xe none (EP X pins σ Q) (.ref D) s3.heap.objs.size) s4 := by
    refine c2_loop0 (hs1 ce) (fun n s' => ∃ i H', Inv (X.blk s3 H3 sc ce fp) [] (wipe σ (own.map (·.2))) H' s' ∧ tn i s'.heap ∧ (∀ b ∈ fp, H' b = none) ∧ W i n H') ?_ m0 ⟨0, H3, I4, st4, nfp, w0⟩
    rintro n s5 ⟨i, H5, I5, st5, n5, w5⟩
    rcases turn i n H5 w5 with ⟨stop, qq⟩ | ⟨go, N, hNx, step⟩
    · refine thnF (T.done (X.blk s3 H3 sc ce fp) rfl rfl rfl hc i [] s5 _ H5 (fun _ _ => False) I5 (stat I5 n5) st5 stop) fun r s6 ⟨hr, I6⟩ => ?_
      subst hr
      have I7 : Inv X pins σ H5 s6 := I3.call' (ch := fp) I6.os I6.base I6.hok I6.bare fun b hb => ⟨(f3 b hb).1.2.2.2.1, (f3 b hb).1.2.1, (f3 b hb).1.2.2.2.2.1, (f3 b hb).1.2.2.2.2.2⟩
      have nC : H5 s3.heap.objs.size = none := by
        have z : H5 ce.locals = none := I6.free
        rwa [cL] at z
      obtain ⟨m, hn, _⟩ := I6.loc
      have hn : s6.heap.Ns ce.locals m := hn
      rw [cL] at hn
      obtain ⟨z0, z1, z2, z3, z4, z5⟩ := I3.fpOk (H' := H5) (Nat.le_refl s3.heap.objs.size) nC
      exact ⟨m, hn, fun h9 sb => ⟨.ref D, H5, I7.turned (t' := s6.toks) (fun b o hb e => (sb.2 b hb).trans e) z0 z1 z3 z4 z5, rfl, qq⟩⟩
    · refine thnF (T.item (X.blk s3 H3 sc ce fp) rfl rfl rfl hc i [] s5 _ H5 (fun _ _ => False) I5 (stat I5 n5) st5 go) fun r s6 ⟨u, hr, h6⟩ => ?_
      subst hr
      refine thnF h6 fun _ s7 ⟨x, H7, I7, r7, y7, st7, n7⟩ => ?_
      refine thnF (pg.run _ s7 _ H7 x u _ (I7.pinned (stat I7 n7) (T.obj _ _ st7)) r7 (step x H7 y7)) fun _ s8 ⟨σ8, H8, I8, hw8, q8⟩ => ?_
      have len8 : (wipe σ (own.map (·.2))).length = σ8.length := by rw [← hw8, wipe_length]
      have more8 : ∀ (j : Nat) v, (wipe σ (own.map (·.2)))[j]? = some (some v) → (wipe σ8 vb)[j]? = some (some v) := fun j v e => by
        rw [← hw8] at e
        obtain ⟨e1, e2⟩ := wipe_some e
        rw [wipe_out fun z => e2 (hv j z)]
        exact e1
      have fin : ∀ {s' : Shared} {H' : Hp}, Inv (X.blk s3 H3 sc ce fp) ([] ++ pinsAt fp s7.heap) (wipe σ8 vb) H' s' → N H' →
          ∃ m, m < n ∧ ∃ i H', Inv (X.blk s3 H3 sc ce fp) [] (wipe σ (own.map (·.2))) H' s' ∧ tn i s'.heap ∧ (∀ b ∈ fp, H' b = none) ∧ W i m H' := fun {s' H'} K' nx => by
        obtain ⟨m1, hm, w1⟩ := hNx H' nx
        have old : ∀ b ∈ fp, ∀ o, s7.heap.get? b = some o → s'.heap.get? b = some o ∧ H' b = none := fun b hb o e =>
          have z := K'.pin (b, o) (List.mem_append_right _ (List.mem_append_right _ (mem_pinsAt hb e)))
          ⟨z.1, z.2.1⟩
        refine ⟨m1, hm, i + 1, H', (K'.unpinned (pins := [])).weak (by rw [wipe_length σ8 vb]; exact len8) more8, T.keep _ _ _ st7 fun b hb o e => (old b hb o e).1, fun b hb => ?_, w1⟩
        obtain ⟨o, e, _⟩ := T.obj _ _ st7 b hb
        exact (old b hb o e).2
      refine thnF (pb.run _ s8 σ8 H8 _ I8 q8) fun xv s10 hx => thnF hx fun itv s11 h11 => ?_
      obtain ⟨it1, fp1, tn1, J1, H11, e1, I11, T1, st11, f11, W1, ⟨m1, w1⟩, turn1⟩ := h11
      subst e1
      have stat1 : ∀ {H' : Hp}, (∀ b ∈ fp1, H' b = none) → ∀ b ∈ fp1, FpOk (X.blk s3 H3 sc ce fp) ([] ++ pinsAt fp s7.heap) H' b := fun hn b hb => ⟨hn b hb, (f11 b hb).2⟩
      have inner : codeAny (model X.prog X.w) X.A (.compLoop (C2 elt ta ia tb ib sc pos) 1 (.ref it1) (.ref D) ce) (fun r s' => match r with
          | .ok _ => ∃ m, m < n ∧ ∃ i H', Inv (X.blk s3 H3 sc ce fp) [] (wipe σ (own.map (·.2))) H' s' ∧ tn i s'.heap ∧ (∀ b ∈ fp, H' b = none) ∧ W i m H'
          | .error _ => False) s11 := by
        refine c2_loop1 (fun k s' => ∃ j H', Inv (X.blk s3 H3 sc ce fp) ([] ++ pinsAt fp s7.heap) (wipe σ8 vb) H' s' ∧ tn1 j s'.heap ∧ (∀ b ∈ fp1, H' b = none) ∧ W1 j k H') ?_ m1 ⟨0, H11, I11.weak (wipe_length _ _) (fun j v e => (wipe_some e).1), st11, fun b hb => (f11 b hb).1, w1⟩
        rintro k s12 ⟨j, H12, I12, st12, n12, w12⟩
        rcases turn1 j k H12 w12 with ⟨stop1, nx1⟩ | ⟨go1, N1, hN1, step1⟩
        · refine thnF (T1.done (X.blk s3 H3 sc ce fp) rfl rfl rfl hc j _ s12 (wipe σ8 vb) H12 (fun _ _ => False) I12 (stat1 n12) st12 stop1) fun r s13 ⟨hr, I13⟩ => ?_
          subst hr
          exact fin I13 nx1
        · refine thnF (T1.item (X.blk s3 H3 sc ce fp) rfl rfl rfl hc j _ s12 (wipe σ8 vb) H12 (fun _ _ => False) I12 (stat1 n12) st12 go1) fun r s13 ⟨u1, hr, h13⟩ => ?_
          subst hr
          refine thnF h13 fun _ s14 ⟨x1, H14, I14, r14, y14, st14, n14⟩ => ?_
          refine thnF (pgb.run _ s14 (wipe σ8 vb) H14 x1 u1 _ (I14.pinned (stat1 n14) (T1.obj _ _ st14)) r14 (step1 x1 H14 y14)) fun _ s15 ⟨σ15, H15, I15, hw15, q15⟩ => ?_
          refine thnF (pe.run _ s15 σ15 H15 _ I15 q15) fun z s17 ⟨yv, H17, I17, r17, q17⟩ => ?_
          refine thnF (mt_sadd (X := X.blk s3 H3 sc ce fp) _ s17 σ15 H17 (.ref D) [yv] (.ref D) [z] _ I17 rfl (.cons r17 .nil) q17) fun v s18 ⟨_, H18, I18, _, nx⟩ => ?_
          obtain ⟨m2, hm2, w2⟩ := hN1 H18 nx
          have old1 : ∀ b ∈ fp1, ∀ o, s14.heap.get? b = some o → s18.heap.get? b = some o ∧ H18 b = none := fun b hb o e =>
            have z := I18.pin (b, o) (List.mem_append_right _ (List.mem_append_right _ (mem_pinsAt hb e)))
            ⟨z.1, z.2.1⟩
          refine ⟨m2, hm2, j + 1, H18, I18.unpinned.weak (by rw [← hw15, wipe_length]) (fun j v e => by rw [← hw15] at e; exact (wipe_some e).1), T1.keep _ _ _ st14 fun b hb o e => (old1 b hb o e).1, fun b hb => ?_, w2⟩
          obtain ⟨o, e, _⟩ := T1.obj _ _ st14 b hb
          exact (old1 b hb o e).2
      exact c2_start 1 (.inr rfl) inner (T1.self X.A 0 _ _ _ st11 inner)
  exact c2_start 0 (.inl rfl) loop (T.self X.A 0 _ _ _ st4 loop)
end
end XT
/-! sum_of, at lots of one width -/
namespace XT
open PySem PySem.Spec PyProof.Rows L2
section
variable {P : Program} {w : World} {K : PySem.W.Frag} {mg : Str → Option Value} {base : Heap}
abbrev nSu : List Str := ["lots", "width", "reached", "lot", "x", "y"]
theorem scSu : FnScope nSu ["lots"] (defScope sSumOf) := ⟨rfl, rfl, rfl, by decide +kernel, rfl, by decide +kernel, by decide +kernel⟩
def spSum : Sp := fun vs H Q _ => ∃ (ls : Lots) (n : Nat), vs = ls.map (·.1) ∧ LotsAt H ls n ∧ ∀ H' r, Same H H' → LotAt H' r n (sumB n (ls.map (·.2))) → Q r H'
def spSumT (K : PySem.W.Frag) : Sp := fun vs H Q _ => ∃ (t : Addr) (ls : Lots) (n : Nat), vs = [.ref t] ∧ SqT K H t (ls.map (·.1)) ∧ LotsAt H ls n ∧ ∀ H' r, Same H H' → LotAt H' r n (sumB n (ls.map (·.2))) → Q r H'
theorem sum_of' {k : Nat} {f : Addr} (h : FnR P w K mg base CX0 k f (fun vs H Q E => vs.length ≤ 1000 ∧ ∀ p, H p = none → spSumT K [V.ref p] (upd H p (.tup vs)) Q E)) : FnR P w K mg base CX0 k f spSum :=
  h.imp fun vs H Q E ⟨ls, n, ev, hL, q⟩ => by
    subst ev
    refine ⟨by rw [List.length_map]; exact Nat.le_trans hL.2.1 (by decide), fun p np => ⟨p, ls, n, rfl, SqT.of upd_same, hL.same (same_new np), fun H' r sm => q H' r ((same_new np).trans sm)⟩⟩
/-- what the set has behind some x, and some y of the next x -/
def XorM (as bs : List Nat) (i j : Nat) (z : Int) : Prop := (∃ x ∈ as.take i, ∃ y ∈ bs, z = ((x ^^^ y : Nat) : Int)) ∨ ∃ x, as[i]? = some x ∧ ∃ y ∈ bs.take j, z = ((x ^^^ y : Nat) : Int)
theorem ok_sum {f : Addr} {fd : FuncData} {k : Nat} (B : Bl mg) (F : Fun K "sum_of" "sum_of" sSumOf f fd) (dW : DefR P w K mg base 1 "common_width" (spWidth K)) : FnR P w K mg base CX0 (k + 2) f spSum := by
  refine sum_of' (star_ok F scSu (fun _ _ _ _ _ _ rest => by cases rest <;> rfl) fun cdv A outer s H vs Q E hr h => ?_)
  obtain ⟨t, ls, n, rfl, ht, hL, q⟩ := h
  refine ⟨_, pss_cons (ps_set (i := 1) scSu.nd rfl (by first | exact Or.inl rfl | exact Or.inr rfl) (pe_def dW (hr.mono (by omega)) (by rfl) (pa_cons (pv 0) pa_nil)))
      (pss_cons (ps_set (i := 2) scSu.nd rfl (by first | exact Or.inl rfl | exact Or.inr rfl) (pe_lst (pa_cons pe_int pa_nil)))
      (pss_cons (ps_for PassesOwn.never rfl (pi_tup (pv 0)) (pg_name (i := 3) scSu.nd rfl (by first | exact Or.inl rfl | exact Or.inr rfl))
        (pss_one (ps_set (i := 2) scSu.nd rfl (by first | exact Or.inl rfl | exact Or.inr rfl) (pe_callB (cr_sortS rfl) (by rfl) B.sorted bS (pa_cons
          (pe_sc2 (own := [("x", 4), ("y", 5)]) (vb := [5]) (ga := gName 4) (gb := gName 5) (wb := iTup K (tOp (rIxT K) (tVar 3) (tC (.int 1)))) (te := tOp rXor (tVar 4) (tVar 5)) rfl scSu.nd (pi_list (pv 2))
            (blkOk_by (own := [("x", 4), ("y", 5)]) (N := nSu) (sc := defScope sSumOf) (by decide +kernel)) (by decide)
            (fun _ _ _ _ _ => pg_name (i := 4) scSu.nd rfl (Or.inl rfl)) (fun _ _ _ _ _ => pi_tup (pe_ix ix_tup (pv 3) pe_int (fun _ _ => rfl))) (fun _ _ _ _ _ => pg_name (i := 5) scSu.nd rfl (Or.inl rfl)) (fun _ _ _ _ _ => pe_op op_xor (pv 4) (pv 5))) pa_nil)))))
      (pss_one (ps_ret (pe_tup (pa_cons (pv 1) (pa_cons (pe_callTy call_tuple_of (by rfl) B.tuple bT (pa_cons (pv 2) pa_nil)) pa_nil))))))), ?_⟩
  refine ⟨.ref t, rfl, t, ls, n, rfl, ht, hL, fun H1 s1 => ?_⟩
  have ht1 := Same.sqT s1 ht
  have hL1 := hL.same s1
  obtain ⟨hne, hlen, hn, hall⟩ := hL1
  have h6 := pow6 hn
  refine ⟨sz (n := 1) (by decide), fun R0 nR0 => ?_⟩
  have sR := same_new (o := .lst [.int 0]) nR0
  refine ⟨.ref t, rfl, t, rfl, ⟨_, Same.sqT sR ht1⟩, for_tup (K := K) (xs := ls.map (·.1)) (fun i σ H' => Same H1 H' ∧ ∃ (R : Addr) (z3 : Option V), σ = [some (.ref t), some (.int (n : Int)), some (.ref R), z3, none, none] ∧ H' R = some (.lst (vm (lotOf n (sumB n ((ls.map (·.2)).take i)))))) ⟨sR, R0, none, rfl, ?_⟩ (fun i σ H' _ h => Same.sqT h.1 ht1) (fun i v σ H2 hv h => ?_) (fun σ H2 h => ?_)⟩
  · rw [upd_same]
    show some (HO.lst [V.int 0]) = some (.lst (vm (lotOf n zeroB)))
    rw [lot_zero]
    rfl
  · obtain ⟨sm, R, z3, rfl, hR⟩ := h
    rw [List.getElem?_map] at hv
    obtain ⟨l, hl, rfl⟩ := Option.map_eq_some_iff.mp hv
    obtain ⟨x, y, ex, hx, hy⟩ := hall l (List.mem_of_getElem? hl)
    have hx2 := sm _ _ hx
    have hy2 := sm _ _ hy
    have eps : (ls.map (·.2))[i]? = some l.2 := by rw [List.getElem?_map, hl]; rfl
    obtain ⟨as, eas⟩ : ∃ as, as = lotOf n (sumB n ((ls.map (·.2)).take i)) := ⟨_, rfl⟩
    obtain ⟨bs, ebs⟩ : ∃ bs, bs = lotOf n l.2 := ⟨_, rfl⟩
    rw [← eas] at hR
    rw [← ebs] at hy2 hy
    have las : ∀ m ∈ as, m < 2 ^ n := fun m hm => by rw [eas] at hm; exact (mem_lot.mp hm).1
    have lbs : ∀ m ∈ bs, m < 2 ^ n := fun m hm => by rw [ebs] at hm; exact (mem_lot.mp hm).1
    refine ⟨.ref R, rfl, R, rfl, ⟨_, SqL.of hR⟩, fun D nD => ?_⟩
    refine ⟨fun a m H => m = as.length - a ∧ a ≤ as.length ∧ Same H2 H ∧ ∃ S, H D = some (SetO w D S (cnt (2 ^ n) S)) ∧ ∀ z, S z = true ↔ XorM as bs a 0 z, ⟨as.length, by simp, Nat.zero_le _, same_new nD, fun _ => false, ?_, fun z => by simp [XorM]⟩, ?_⟩
    · rw [upd_same]
      congr 2
      unfold cnt
      rw [List.filter_eq_nil_iff.mpr fun _ _ => Bool.false_ne_true]
      rfl
    rintro a m H3 ⟨rfl, ha, s3, S, hD, hS⟩
    have hR3 := s3 _ _ hR
    rcases Nat.lt_or_ge a as.length with lt | ge
    · have ga : (vm as)[a]? = some (.int (as[a] : Int)) := by unfold vm; rw [List.getElem?_map, List.getElem?_eq_getElem lt]; rfl
      have hla : as[a] < 2 ^ n := las _ (List.getElem_mem lt)
      refine .inr ⟨⟨_, _, SqL.of hR3, ga⟩, fun H' => Same H2 H' ∧ ∃ S, H' D = some (SetO w D S (cnt (2 ^ n) S)) ∧ ∀ z, S z = true ↔ XorM as bs (a + 1) 0 z, ?_, ?_⟩
      · rintro H' ⟨e, S', b⟩
        exact ⟨as.length - (a + 1), by omega, rfl, lt, e, S', b⟩
      · rintro v H' ⟨rfl, fv⟩
        have ev : v = .int (as[a] : Int) := Option.some.inj ((fv _ (SqL.of hR3)).symm.trans ga)
        subst ev
        refine ⟨rfl, l.1, rfl, x, _, 1, .ref y, ex, rfl, SqT.of (s3 _ _ hx2), rfl, y, rfl, ⟨_, SqT.of (s3 _ _ hy2)⟩, ?_⟩
        refine ⟨fun j k H => k = bs.length - j ∧ j ≤ bs.length ∧ Same H2 H ∧ ∃ S, H D = some (SetO w D S (cnt (2 ^ n) S)) ∧ ∀ z, S z = true ↔ XorM as bs a j z, ⟨_, rfl, Nat.zero_le _, s3, S, hD, hS⟩, ?_⟩
        rintro j k H4 ⟨rfl, hj, s4, S4, hD4, hS4⟩
        have hy4 := s4 _ _ hy2
        rcases Nat.lt_or_ge j bs.length with lt2 | ge2
        · have gb : (vm bs)[j]? = some (.int (bs[j] : Int)) := by unfold vm; rw [List.getElem?_map, List.getElem?_eq_getElem lt2]; rfl
          have hlb : bs[j] < 2 ^ n := lbs _ (List.getElem_mem lt2)
          refine .inr ⟨⟨_, _, SqT.of hy4, gb⟩, fun H' => Same H2 H' ∧ ∃ S, H' D = some (SetO w D S (cnt (2 ^ n) S)) ∧ ∀ z, S z = true ↔ XorM as bs a (j + 1) z, ?_, ?_⟩
          · rintro H' ⟨e, S', b⟩
            exact ⟨bs.length - (j + 1), by omega, rfl, lt2, e, S', b⟩
          · rintro u H' ⟨rfl, fu⟩
            have eu : u = .int (bs[j] : Int) := Option.some.inj ((fu _ (SqT.of hy4)).symm.trans gb)
            subst eu
            have cl := cnt_le (2 ^ n) S4
            refine ⟨rfl, _, rfl, _, rfl, (as[a] : Int), (bs[j] : Int), rfl, rfl, D, ((as[a] ^^^ bs[j] : Nat) : Int), S4, _, rfl, congrArg (fun z => [V.int z]) (bx _ _), hD4, ?_, fun b o e => ?_, fun z => S4 z || decide (z = ((as[a] ^^^ bs[j] : Nat) : Int)), ?_, fun z => ?_⟩
            · unfold scanBound; omega
            · rw [upd_ne (ne_of_none e nD)]
              exact s4 _ _ e
            · rw [upd_same, cnt_add S4 (xor_lt hla hlb)]
              rfl
            · rw [Bool.or_eq_true, hS4 z, decide_eq_true_iff]
              unfold XorM
              rw [List.take_add_one, List.getElem?_eq_getElem lt2]
              constructor
              · rintro ((h | ⟨x', h1, y', h2, h3⟩) | h)
                · exact .inl h
                · exact .inr ⟨x', h1, y', List.mem_append_left _ h2, h3⟩
                · exact .inr ⟨as[a], List.getElem?_eq_getElem lt, bs[j], List.mem_append_right _ (by simp), h⟩
              · rintro (h | ⟨x', h1, y', h2, h3⟩)
                · exact .inl (.inl h)
                · rcases List.mem_append.mp h2 with h2 | h2
                  · exact .inl (.inr ⟨x', h1, y', h2, h3⟩)
                  · have e : y' = bs[j] := by simpa using h2
                    rw [List.getElem?_eq_getElem lt] at h1
                    rw [h3, e, ← Option.some.inj h1]
                    exact .inr rfl
        · refine .inl ⟨⟨_, SqT.of hy4, by rw [vm_len]; omega⟩, s4, S4, hD4, fun z => ?_⟩
          rw [hS4 z]
          unfold XorM
          rw [List.take_of_length_le ge2, List.take_add_one, List.getElem?_eq_getElem lt]
          constructor
          · rintro (⟨x', h1, y', h2, h3⟩ | ⟨x', h1, y', h2, h3⟩)
            · exact .inl ⟨x', List.mem_append_left _ h1, y', h2, h3⟩
            · exact .inl ⟨x', List.mem_append_right _ (by rw [← Option.some.inj h1]; simp), y', h2, h3⟩
          · rintro (⟨x', h1, y', h2, h3⟩ | ⟨x', h1, y', h2, h3⟩)
            · rcases List.mem_append.mp h1 with h1 | h1
              · exact .inl ⟨x', h1, y', h2, h3⟩
              · have e : x' = as[a] := by simpa using h1
                exact .inr ⟨as[a], rfl, y', h2, by rw [← e]; exact h3⟩
            · simp at h2
    · refine .inl ⟨⟨_, SqL.of hR3, by rw [vm_len]; omega⟩, D, S, _, rfl, hD, fun ns L asc hm nL => ?_⟩
      have s5 := same_new (o := .lst (ns.map V.int)) nL
      refine ⟨(sm.trans s3).trans s5, L, _, rfl, ?_⟩
      rw [upd_same, sum_take eps, rising_lot (w := n) (P := addB n (sumB n ((ls.map (·.2)).take i)) l.2) asc fun z => ?_]
      rw [hm z, hS z]
      unfold XorM
      rw [List.take_of_length_le ge]
      constructor
      · rintro (⟨x', h1, y', h2, h3⟩ | ⟨x', h1, y', h2, h3⟩)
        · rw [eas] at h1
          rw [ebs] at h2
          obtain ⟨h4, h5⟩ := mem_lot.mp h1
          obtain ⟨h6', h7⟩ := mem_lot.mp h2
          exact ⟨x' ^^^ y', h3, xor_lt h4 h6', add_iff.mpr ⟨x', h4, h5, by rw [← Nat.xor_assoc, Nat.xor_self, Nat.zero_xor]; exact h7⟩⟩
        · simp at h2
      · rintro ⟨m, h1, h2, h3⟩
        obtain ⟨x', h4, h5, h6'⟩ := add_iff.mp h3
        refine .inl ⟨x', by rw [eas]; exact mem_lot.mpr ⟨h4, h5⟩, x' ^^^ m, by rw [ebs]; exact mem_lot.mpr ⟨xor_lt h4 h2, h6'⟩, ?_⟩
        rw [← Nat.xor_assoc, Nat.xor_self, Nat.zero_xor]
        exact h1
  · obtain ⟨sm, R, z3, rfl, hR⟩ := h
    rw [List.length_map, List.take_of_length_le (by rw [List.length_map]; exact Nat.le_refl _)] at hR
    refine ⟨.int n, rfl, .ref R, rfl, R, _, rfl, .inl ⟨SqL.of hR, fun T nT => ⟨sz (n := 2) (by decide), fun U nU => ?_⟩⟩⟩
    refine q _ _ (((s1.trans sm).trans (same_new nT)).trans (same_new nU)) ⟨U, T, rfl, upd_same, ?_⟩
    rw [upd_ne (ne_of_none upd_same nU), upd_same]
end
end XT
/-! star defs that may raise; sum_of -/
namespace XT
open PySem PySem.Spec PyProof.Rows L2
def DefS (P : Program) (w : World) (K : PySem.W.Frag) (mg : Str → Option Value) (base : Heap) (k : Nat) (x : Str) (sp : Sp) : Prop :=
  ∃ f, FnR P w K mg base (L2.CX P w) k f sp ∧ mg x = some (.ref f) ∧ PySem.W.keepIn K (.ref f) = true
section
variable {X : Cx}
theorem run_S {j : Nat} {sp : Sp} {W : WX} {f : Addr} {pins : List (Addr × Obj)} {σ : L2.St} {H : Hp} {s : Shared} {Q : VK} {us : List Value} {vs : List V} (F : FnR X.prog X.w X.K X.mg X.base (L2.CX X.prog X.w) j f sp) (hr : Room j X.A) (tk : Takes X W)
    (I : Inv X pins σ H s) (r : Vals vs us) (h : sp vs H Q (WE W σ)) : wpAny (model X.prog X.w) X.A (call (.ref f) us) (EP X pins σ Q) X.xe s := by
  refine wpAny_call (codeAny_mono (F X.A X.stack s H us vs Q (WE W σ) hr I.env0 r h) fun r s' hq => ?_)
  cases r with
  | error e => exact passAt tk σ pins H s e s' I hq
  | ok fl =>
    cases fl with
    | ret u => exact I.after hq
    | next => exact False.elim hq
    | brk => exact False.elim hq
    | cont => exact False.elim hq
theorem pe_starX {j : Nat} {x : Str} {sp : Sp} {W : WX} {e : Expr} {es : List Expr} {t : TA} {p pos : Pos} (D : DefS X.prog X.w X.K X.mg X.base j x sp) (hr : Room j X.A) (hg : Gl X x) (tk : Takes X W) (ha : PA X (e :: es) t)
    (hdb : (x == ("__debug__" : Str)) = false := by decide) (he : starEach (e :: es) X.env = (false, eval e X.env) :: starEach es X.env := by rfl) (hpl : (backTo pos (starEach es X.env)).any (·.1) = false := by rfl) :
    PE X (.Call (.Name x p) (e :: es) [] pos) (tCallS sp (WE W) t) := by
  obtain ⟨f, F, hm, hk⟩ := D
  refine ⟨fun pins s σ H Q I h => wpAny_Call_Name_kw (ld_glob I hg hm ?_ hdb)⟩
  refine PySem.W.callWith_K (h₀ := X.base) I.ok.mod.kin hk (thn (ha.run pos pins s σ H _ I h) fun us s1 ⟨vs, H1, I1, r, q⟩ => ⟨I1.kIn, ?_⟩) he hpl
  exact run_S F hr tk I1 r q
theorem pe_starX0 {j : Nat} {x : Str} {sp : Sp} {W : WX} {p pos : Pos} (D : DefS X.prog X.w X.K X.mg X.base j x sp) (hr : Room j X.A) (hg : Gl X x) (tk : Takes X W) (hdb : (x == ("__debug__" : Str)) = false := by decide) :
    PE X (.Call (.Name x p) [] [] pos) (fun σ H Q => sp [] H Q (WE W σ)) := by
  obtain ⟨f, F, hm, hk⟩ := D
  refine ⟨fun pins s σ H Q I h => wpAny_Call_Name_kw (ld_glob I hg hm ?_ hdb)⟩
  refine PySem.W.callWith_K0 I.kIn hk ?_
  exact run_S (us := []) F hr tk I .nil h
end
section
variable {P : Program} {w : World} {K : PySem.W.Frag} {mg : Str → Option Value} {base : Heap}
theorem star_okX {x : Str} {st : Stmt} {f : Addr} {fd : FuncData} {N : List Str} {k : Nat} {sp : Sp} {pv : Str} (F : Fun K x x st f fd) (S : FnScope N [pv] (defScope st))
    (hb : ∀ (kV doc pm : Value) (an : Option Addr) (cdv ct : Value) (rest : List Value), bindArgs (PySem.W.fnOf x x (defArgs st) (defBody st) (defScope st) .none kV doc pm an cdv ct) ⟨rest, []⟩ = (newTuple rest >>= fun t => pure [(pv, t)]))
    (hbody : ∀ (cdv : Value) (A : Around) (outer : List Env) (s : Shared) (H : Hp) (vs : List V) (Q : VK) (E : XK), Room k (A.deeper (envOfC x (defScope st) s.heap.objs.size f cdv)) → sp vs H Q E →
      ∃ t, PSs (cxOf (L2.CX P w) P w K mg base N x (defScope st) f cdv A outer s H E) (defBody st) t ∧ t { nx := fun _ H' => Q .non H', rt := Q } (start N vs) H) :
    FnR P w K mg base (L2.CX P w) (k + 1) f (fun vs H Q E => vs.length ≤ 1000 ∧ ∀ p, H p = none → sp [V.ref p] (upd H p (.tup vs)) Q E) := by
  obtain ⟨oc, od, kV, doc, pm, an, cdv, ct, osl, rfl, lk, hcd⟩ := F.ex
  refine (StX.fn_star (ps := []) (sp := sp) lk hcd S StX.cxUp (fun us rest hl => ?_) fun A outer s H vs Q E hr hsp => ?_).imp fun vs H Q E h => ⟨[], vs, rfl, rfl, sz h.1, h.2⟩
  · have e : us = [] := List.eq_nil_of_length_eq_zero hl
    subst e
    exact hb kV doc pm an cdv ct rest
  · exact hbody cdv A outer s H vs Q E hr hsp
def spLg (CN CW : Addr) : Sp := fun vs H Q E => ∃ ls : List Lt, vs = ls.map (·.v) ∧ ls.length ≤ 8 ∧ (∀ l ∈ ls, LtAt H l) ∧ (ls = [] → ∀ H', Same H H' → E (.ref CN) none H') ∧
  ∀ l0 r, ls = l0 :: r → ((∀ l ∈ ls, l.n = l0.n) → ∀ H' z, Same H H' → LotAt H' z l0.n (sumB l0.n (ls.map (·.p))) → Q z H') ∧ ∀ i, Odd ls l0.n i → ∀ H' d, Same H H' → H' d = some (.xd [("index", .int (i : Nat))]) → E (.ref CW) (some d) H'
def spLgT (K : PySem.W.Frag) (CN CW : Addr) : Sp := fun vs H Q E => ∃ (t : Addr) (ls : List Lt), vs = [.ref t] ∧ SqT K H t (ls.map (·.v)) ∧ ls.length ≤ 8 ∧ (∀ l ∈ ls, LtAt H l) ∧ (ls = [] → ∀ H', Same H H' → E (.ref CN) none H') ∧
  ∀ l0 r, ls = l0 :: r → ((∀ l ∈ ls, l.n = l0.n) → ∀ H' z, Same H H' → LotAt H' z l0.n (sumB l0.n (ls.map (·.p))) → Q z H') ∧ ∀ i, Odd ls l0.n i → ∀ H' d, Same H H' → H' d = some (.xd [("index", .int (i : Nat))]) → E (.ref CW) (some d) H'
theorem lg_of {CN CW : Addr} {k : Nat} {f : Addr} (h : FnR P w K mg base (L2.CX P w) k f (fun vs H Q E => vs.length ≤ 1000 ∧ ∀ p, H p = none → spLgT K CN CW [V.ref p] (upd H p (.tup vs)) Q E)) : FnR P w K mg base (L2.CX P w) k f (spLg CN CW) :=
  h.imp fun vs H Q E ⟨ls, ev, hl, hL, h0, h1⟩ => by
    subst ev
    refine ⟨by rw [List.length_map]; omega, fun p np => ?_⟩
    have sp := same_new (o := .tup (ls.map (·.v))) np
    exact ⟨p, ls, rfl, SqT.of upd_same, hl, fun l hm => (hL l hm).same sp, fun e H' s' => h0 e H' (sp.trans s'), fun l0 r e => ⟨fun a H' z s' => (h1 l0 r e).1 a H' z (sp.trans s'), fun i hi H' d s' => (h1 l0 r e).2 i hi H' d (sp.trans s')⟩⟩
theorem ok_sumx {f CN CW : Addr} {fd : FuncData} {k : Nat} (B : Bl mg) (F : Fun K "sum_of" "sum_of" sSumOf f fd) (dW : DefX P w K mg base 3 "common_width" (spWd K CN CW)) : FnR P w K mg base (L2.CX P w) (k + 4) f (spLg CN CW) := by
  refine lg_of (star_okX F scSu (fun _ _ _ _ _ _ rest => by cases rest <;> rfl) fun cdv A outer s H vs Q E hr h => ?_)
  obtain ⟨t, ls, rfl, ht, hlen, hL, h0, h1⟩ := h
  refine ⟨_, pss_cons (ps_set (i := 1) scSu.nd rfl (by first | exact Or.inl rfl | exact Or.inr rfl) (pe_defX dW (hr.mono (by omega)) (by rfl) (takes_of rfl rfl rfl rfl) (pa_cons (pv 0) pa_nil)))
      (PSs.nox (pss_cons (ps_set (i := 2) scSu.nd rfl (by first | exact Or.inl rfl | exact Or.inr rfl) (pe_lst (pa_cons pe_int pa_nil)))
      (pss_cons (ps_for PassesOwn.never rfl (pi_tup (pv 0)) (pg_name (i := 3) scSu.nd rfl (by first | exact Or.inl rfl | exact Or.inr rfl))
        (pss_one (ps_set (i := 2) scSu.nd rfl (by first | exact Or.inl rfl | exact Or.inr rfl) (pe_callB (cr_sortS rfl) (by rfl) B.sorted bS (pa_cons
          (pe_sc2 (own := [("x", 4), ("y", 5)]) (vb := [5]) (ga := gName 4) (gb := gName 5) (wb := iTup K (tOp (rIxT K) (tVar 3) (tC (.int 1)))) (te := tOp rXor (tVar 4) (tVar 5)) rfl scSu.nd (pi_list (pv 2))
            (blkOk_by (own := [("x", 4), ("y", 5)]) (N := nSu) (sc := defScope sSumOf) (by decide +kernel)) (by decide)
            (fun _ _ _ _ _ => pg_name (i := 4) scSu.nd rfl (Or.inl rfl)) (fun _ _ _ _ _ => pi_tup (pe_ix ix_tup (pv 3) pe_int (fun _ _ => rfl))) (fun _ _ _ _ _ => pg_name (i := 5) scSu.nd rfl (Or.inl rfl)) (fun _ _ _ _ _ => pe_op op_xor (pv 4) (pv 5))) pa_nil)))))
      (pss_one (ps_ret (pe_tup (pa_cons (pv 1) (pa_cons (pe_callTy call_tuple_of (by rfl) B.tuple bT (pa_cons (pv 2) pa_nil)) pa_nil)))))))), ?_⟩
  refine ⟨.ref t, rfl, t, ls, rfl, ht, hL, fun e => h0 e H (Same.refl _), fun l0 ls' e0 => ⟨fun hnn H1 s1 => ?_, fun i hi H' d sm hd => (h1 l0 ls' e0).2 i hi H' d sm hd⟩⟩
  have ht1 := Same.sqT s1 ht
  have q := (h1 l0 ls' e0).1 hnn
  have hall0 : ∀ l ∈ ls, LotAt H1 l.v l0.n l.p := fun l hl => by
    have h := ((hL l hl).same s1).1
    rw [hnn l hl] at h
    exact h
  have hn0 : l0.n ≤ 6 := (hL l0 (by rw [e0]; exact List.mem_cons_self)).2.2
  obtain ⟨n, en⟩ : ∃ n, n = l0.n := ⟨_, rfl⟩
  rw [← en] at q hall0 hn0 ⊢
  have hall := hall0
  have hn := hn0
  have h6 := pow6 hn
  refine ⟨sz (n := 1) (by decide), fun R0 nR0 => ?_⟩
  have sR := same_new (o := .lst [.int 0]) nR0
  refine ⟨.ref t, rfl, t, rfl, ⟨_, Same.sqT sR ht1⟩, for_tup (K := K) (xs := ls.map (·.v)) (fun i σ H' => Same H1 H' ∧ ∃ (R : Addr) (z3 : Option V), σ = [some (.ref t), some (.int (n : Int)), some (.ref R), z3, none, none] ∧ H' R = some (.lst (vm (lotOf n (sumB n ((ls.map (·.p)).take i)))))) ⟨sR, R0, none, rfl, ?_⟩ (fun i σ H' _ h => Same.sqT h.1 ht1) (fun i v σ H2 hv h => ?_) (fun σ H2 h => ?_)⟩
  · rw [upd_same]
    show some (HO.lst [V.int 0]) = some (.lst (vm (lotOf n zeroB)))
    rw [lot_zero]
    rfl
  · obtain ⟨sm, R, z3, rfl, hR⟩ := h
    rw [List.getElem?_map] at hv
    obtain ⟨l, hl, rfl⟩ := Option.map_eq_some_iff.mp hv
    obtain ⟨x, y, ex, hx, hy⟩ := hall l (List.mem_of_getElem? hl)
    have hx2 := sm _ _ hx
    have hy2 := sm _ _ hy
    have eps : (ls.map (·.p))[i]? = some l.p := by rw [List.getElem?_map, hl]; rfl
    obtain ⟨as, eas⟩ : ∃ as, as = lotOf n (sumB n ((ls.map (·.p)).take i)) := ⟨_, rfl⟩
    obtain ⟨bs, ebs⟩ : ∃ bs, bs = lotOf n l.p := ⟨_, rfl⟩
    rw [← eas] at hR
    rw [← ebs] at hy2 hy
    have las : ∀ m ∈ as, m < 2 ^ n := fun m hm => by rw [eas] at hm; exact (mem_lot.mp hm).1
    have lbs : ∀ m ∈ bs, m < 2 ^ n := fun m hm => by rw [ebs] at hm; exact (mem_lot.mp hm).1
    refine ⟨.ref R, rfl, R, rfl, ⟨_, SqL.of hR⟩, fun D nD => ?_⟩
    refine ⟨fun a m H => m = as.length - a ∧ a ≤ as.length ∧ Same H2 H ∧ ∃ S, H D = some (SetO w D S (cnt (2 ^ n) S)) ∧ ∀ z, S z = true ↔ XorM as bs a 0 z, ⟨as.length, by simp, Nat.zero_le _, same_new nD, fun _ => false, ?_, fun z => by simp [XorM]⟩, ?_⟩
    · rw [upd_same]
      congr 2
      unfold cnt
      rw [List.filter_eq_nil_iff.mpr fun _ _ => Bool.false_ne_true]
      rfl
    rintro a m H3 ⟨rfl, ha, s3, S, hD, hS⟩
    have hR3 := s3 _ _ hR
    rcases Nat.lt_or_ge a as.length with lt | ge
    · have ga : (vm as)[a]? = some (.int (as[a] : Int)) := by unfold vm; rw [List.getElem?_map, List.getElem?_eq_getElem lt]; rfl
      have hla : as[a] < 2 ^ n := las _ (List.getElem_mem lt)
      refine .inr ⟨⟨_, _, SqL.of hR3, ga⟩, fun H' => Same H2 H' ∧ ∃ S, H' D = some (SetO w D S (cnt (2 ^ n) S)) ∧ ∀ z, S z = true ↔ XorM as bs (a + 1) 0 z, ?_, ?_⟩
      · rintro H' ⟨e, S', b⟩
        exact ⟨as.length - (a + 1), by omega, rfl, lt, e, S', b⟩
      · rintro v H' ⟨rfl, fv⟩
        have ev : v = .int (as[a] : Int) := Option.some.inj ((fv _ (SqL.of hR3)).symm.trans ga)
        subst ev
        refine ⟨rfl, l.v, rfl, x, _, 1, .ref y, ex, rfl, SqT.of (s3 _ _ hx2), rfl, y, rfl, ⟨_, SqT.of (s3 _ _ hy2)⟩, ?_⟩
        refine ⟨fun j k H => k = bs.length - j ∧ j ≤ bs.length ∧ Same H2 H ∧ ∃ S, H D = some (SetO w D S (cnt (2 ^ n) S)) ∧ ∀ z, S z = true ↔ XorM as bs a j z, ⟨_, rfl, Nat.zero_le _, s3, S, hD, hS⟩, ?_⟩
        rintro j k H4 ⟨rfl, hj, s4, S4, hD4, hS4⟩
        have hy4 := s4 _ _ hy2
        rcases Nat.lt_or_ge j bs.length with lt2 | ge2
        · have gb : (vm bs)[j]? = some (.int (bs[j] : Int)) := by unfold vm; rw [List.getElem?_map, List.getElem?_eq_getElem lt2]; rfl
          have hlb : bs[j] < 2 ^ n := lbs _ (List.getElem_mem lt2)
          refine .inr ⟨⟨_, _, SqT.of hy4, gb⟩, fun H' => Same H2 H' ∧ ∃ S, H' D = some (SetO w D S (cnt (2 ^ n) S)) ∧ ∀ z, S z = true ↔ XorM as bs a (j + 1) z, ?_, ?_⟩
          · rintro H' ⟨e, S', b⟩
            exact ⟨bs.length - (j + 1), by omega, rfl, lt2, e, S', b⟩
          · rintro u H' ⟨rfl, fu⟩
            have eu : u = .int (bs[j] : Int) := Option.some.inj ((fu _ (SqT.of hy4)).symm.trans gb)
            subst eu
            have cl := cnt_le (2 ^ n) S4
            refine ⟨rfl, _, rfl, _, rfl, (as[a] : Int), (bs[j] : Int), rfl, rfl, D, ((as[a] ^^^ bs[j] : Nat) : Int), S4, _, rfl, congrArg (fun z => [V.int z]) (bx _ _), hD4, ?_, fun b o e => ?_, fun z => S4 z || decide (z = ((as[a] ^^^ bs[j] : Nat) : Int)), ?_, fun z => ?_⟩
            · unfold scanBound; omega
            · rw [upd_ne (ne_of_none e nD)]
              exact s4 _ _ e
            · rw [upd_same, cnt_add S4 (xor_lt hla hlb)]
              rfl
            · rw [Bool.or_eq_true, hS4 z, decide_eq_true_iff]
              unfold XorM
              rw [List.take_add_one, List.getElem?_eq_getElem lt2]
              constructor
              · rintro ((h | ⟨x', h1, y', h2, h3⟩) | h)
                · exact .inl h
                · exact .inr ⟨x', h1, y', List.mem_append_left _ h2, h3⟩
                · exact .inr ⟨as[a], List.getElem?_eq_getElem lt, bs[j], List.mem_append_right _ (by simp), h⟩
              · rintro (h | ⟨x', h1, y', h2, h3⟩)
                · exact .inl (.inl h)
                · rcases List.mem_append.mp h2 with h2 | h2
                  · exact .inl (.inr ⟨x', h1, y', h2, h3⟩)
                  · have e : y' = bs[j] := by simpa using h2
                    rw [List.getElem?_eq_getElem lt] at h1
                    rw [h3, e, ← Option.some.inj h1]
                    exact .inr rfl
        · refine .inl ⟨⟨_, SqT.of hy4, by rw [vm_len]; omega⟩, s4, S4, hD4, fun z => ?_⟩
          rw [hS4 z]
          unfold XorM
          rw [List.take_of_length_le ge2, List.take_add_one, List.getElem?_eq_getElem lt]
          constructor
          · rintro (⟨x', h1, y', h2, h3⟩ | ⟨x', h1, y', h2, h3⟩)
            · exact .inl ⟨x', List.mem_append_left _ h1, y', h2, h3⟩
            · exact .inl ⟨x', List.mem_append_right _ (by rw [← Option.some.inj h1]; simp), y', h2, h3⟩
          · rintro (⟨x', h1, y', h2, h3⟩ | ⟨x', h1, y', h2, h3⟩)
            · rcases List.mem_append.mp h1 with h1 | h1
              · exact .inl ⟨x', h1, y', h2, h3⟩
              · have e : x' = as[a] := by simpa using h1
                exact .inr ⟨as[a], rfl, y', h2, by rw [← e]; exact h3⟩
            · simp at h2
    · refine .inl ⟨⟨_, SqL.of hR3, by rw [vm_len]; omega⟩, D, S, _, rfl, hD, fun ns L asc hm nL => ?_⟩
      have s5 := same_new (o := .lst (ns.map V.int)) nL
      refine ⟨(sm.trans s3).trans s5, L, _, rfl, ?_⟩
      rw [upd_same, sum_take eps, rising_lot (w := n) (P := addB n (sumB n ((ls.map (·.p)).take i)) l.p) asc fun z => ?_]
      rw [hm z, hS z]
      unfold XorM
      rw [List.take_of_length_le ge]
      constructor
      · rintro (⟨x', h1, y', h2, h3⟩ | ⟨x', h1, y', h2, h3⟩)
        · rw [eas] at h1
          rw [ebs] at h2
          obtain ⟨h4, h5⟩ := mem_lot.mp h1
          obtain ⟨h6', h7⟩ := mem_lot.mp h2
          exact ⟨x' ^^^ y', h3, xor_lt h4 h6', add_iff.mpr ⟨x', h4, h5, by rw [← Nat.xor_assoc, Nat.xor_self, Nat.zero_xor]; exact h7⟩⟩
        · simp at h2
      · rintro ⟨m, h1, h2, h3⟩
        obtain ⟨x', h4, h5, h6'⟩ := add_iff.mp h3
        refine .inl ⟨x', by rw [eas]; exact mem_lot.mpr ⟨h4, h5⟩, x' ^^^ m, by rw [ebs]; exact mem_lot.mpr ⟨xor_lt h4 h2, h6'⟩, ?_⟩
        rw [← Nat.xor_assoc, Nat.xor_self, Nat.zero_xor]
        exact h1
  · obtain ⟨sm, R, z3, rfl, hR⟩ := h
    rw [List.length_map, List.take_of_length_le (by rw [List.length_map]; exact Nat.le_refl _)] at hR
    refine ⟨.int n, rfl, .ref R, rfl, R, _, rfl, .inl ⟨SqL.of hR, fun T nT => ⟨sz (n := 2) (by decide), fun U nU => ?_⟩⟩⟩
    refine q _ _ (((s1.trans sm).trans (same_new nT)).trans (same_new nU)) ⟨U, T, rfl, upd_same, ?_⟩
    rw [upd_ne (ne_of_none upd_same nU), upd_same]
end
end XT
/-! _law_called -/
namespace XT
open PySem PySem.Spec PyProof.Rows L2
section
variable {P : Program} {w : World} {K : PySem.W.Frag} {mg : Str → Option Value} {base : Heap}
abbrev nCl : List Str := ["_law_some"]
theorem scCl : FnScope nCl ["_law_some"] (defScope sLCalled) := ⟨rfl, rfl, rfl, by decide +kernel, rfl, by decide +kernel, by decide +kernel⟩
def spCl (CN CW : Addr) : Sp := fun vs H Q E => ∃ (L : Addr) (ls : List Lt), vs = [.ref L] ∧ LsAt H L ls ∧ (ls = [] → ∀ H', Same H H' → E (.ref CN) none H') ∧
  ∀ l0 r, ls = l0 :: r → ((∀ l ∈ ls, l.n = l0.n) → ∀ H' z, Same H H' → LotAt H' z l0.n (sumB l0.n (ls.map (·.p))) → Q z H') ∧ ∀ i, Odd ls l0.n i → ∀ H' d, Same H H' → H' d = some (.xd [("index", .int (i : Nat))]) → E (.ref CW) (some d) H'
theorem ok_cl {f CN CW : Addr} {fd : FuncData} {k : Nat} (B : Bl mg) (F : Fun K "_law_called" "_law_called" sLCalled f fd) (dS : DefS P w K mg base 4 "sum_of" (spLg CN CW)) : FnOk P w K mg base (L2.CX P w) (k + 5) f fd ["_law_some"] (spCl CN CW) := by
  refine F.okX scCl (fun vs H Q E h => ?_) (fun cdv A outer s H vs Q E hr h => ?_)
  · obtain ⟨L, ls, rfl, _⟩ := h
    rfl
  · obtain ⟨L, ls, rfl, hL, q0, q1⟩ := h
    have hr4 := hr.mono (show 4 ≤ k + 4 by omega)
    refine ⟨_, pss_cons (ps_if (pt_cmpR op_eq (pe_callB call_len_seq (by rfl) B.len PySem.boot_len (pa_cons (pv 0) pa_nil)) pe_int (nomark _)) (pss_one (ps_ret (pe_starX0 dS hr4 (by rfl) (takes_of rfl rfl rfl rfl)))) pss_nil)
        (pss_cons (ps_if (pt_cmpR op_eq (pe_callB call_len_seq (by rfl) B.len PySem.boot_len (pa_cons (pv 0) pa_nil)) pe_int (nomark _)) (pss_one (ps_ret (pe_starX dS hr4 (by rfl) (takes_of rfl rfl rfl rfl) (pa_cons (pe_ix ix_list (pv 0) pe_int (fun _ _ => rfl)) pa_nil)))) pss_nil)
        (pss_cons (ps_if (pt_cmpR op_eq (pe_callB call_len_seq (by rfl) B.len PySem.boot_len (pa_cons (pv 0) pa_nil)) pe_int (nomark _)) (pss_one (ps_ret (pe_starX dS hr4 (by rfl) (takes_of rfl rfl rfl rfl) (pa_cons (pe_ix ix_list (pv 0) pe_int (fun _ _ => rfl)) (pa_cons (pe_ix ix_list (pv 0) pe_int (fun _ _ => rfl)) pa_nil))))) pss_nil)
        (pss_cons (ps_if (pt_cmpR op_eq (pe_callB call_len_seq (by rfl) B.len PySem.boot_len (pa_cons (pv 0) pa_nil)) pe_int (nomark _)) (pss_one (ps_ret (pe_starX dS hr4 (by rfl) (takes_of rfl rfl rfl rfl) (pa_cons (pe_ix ix_list (pv 0) pe_int (fun _ _ => rfl)) (pa_cons (pe_ix ix_list (pv 0) pe_int (fun _ _ => rfl)) (pa_cons (pe_ix ix_list (pv 0) pe_int (fun _ _ => rfl)) pa_nil)))))) pss_nil)
        (pss_cons (ps_if (pt_cmpR op_eq (pe_callB call_len_seq (by rfl) B.len PySem.boot_len (pa_cons (pv 0) pa_nil)) pe_int (nomark _)) (pss_one (ps_ret (pe_starX dS hr4 (by rfl) (takes_of rfl rfl rfl rfl) (pa_cons (pe_ix ix_list (pv 0) pe_int (fun _ _ => rfl)) (pa_cons (pe_ix ix_list (pv 0) pe_int (fun _ _ => rfl)) (pa_cons (pe_ix ix_list (pv 0) pe_int (fun _ _ => rfl)) (pa_cons (pe_ix ix_list (pv 0) pe_int (fun _ _ => rfl)) pa_nil))))))) pss_nil)
        (pss_cons (ps_if (pt_cmpR op_eq (pe_callB call_len_seq (by rfl) B.len PySem.boot_len (pa_cons (pv 0) pa_nil)) pe_int (nomark _)) (pss_one (ps_ret (pe_starX dS hr4 (by rfl) (takes_of rfl rfl rfl rfl) (pa_cons (pe_ix ix_list (pv 0) pe_int (fun _ _ => rfl)) (pa_cons (pe_ix ix_list (pv 0) pe_int (fun _ _ => rfl)) (pa_cons (pe_ix ix_list (pv 0) pe_int (fun _ _ => rfl)) (pa_cons (pe_ix ix_list (pv 0) pe_int (fun _ _ => rfl)) (pa_cons (pe_ix ix_list (pv 0) pe_int (fun _ _ => rfl)) pa_nil)))))))) pss_nil)
        (pss_one (ps_ret (pe_starX dS hr4 (by rfl) (takes_of rfl rfl rfl rfl) (pa_cons (pe_ix ix_list (pv 0) pe_int (fun _ _ => rfl)) (pa_cons (pe_ix ix_list (pv 0) pe_int (fun _ _ => rfl)) (pa_cons (pe_ix ix_list (pv 0) pe_int (fun _ _ => rfl)) (pa_cons (pe_ix ix_list (pv 0) pe_int (fun _ _ => rfl)) (pa_cons (pe_ix ix_list (pv 0) pe_int (fun _ _ => rfl)) (pa_cons (pe_ix ix_list (pv 0) pe_int (fun _ _ => rfl)) (pa_cons (pe_ix ix_list (pv 0) pe_int (fun _ _ => rfl)) (pa_cons (pe_ix ix_list (pv 0) pe_int (fun _ _ => rfl)) pa_nil)))))))))))))))), ?_⟩
    obtain ⟨hA, h48, hall⟩ := hL
    have fin : ∀ {vs : List V}, vs = ls.map (·.v) → spLg CN CW vs H Q E := fun e => ⟨ls, e, by omega, hall, q0, q1⟩
    rcases ls with _ | ⟨l0, _ | ⟨l1, _ | ⟨l2, _ | ⟨l3, _ | ⟨l4, _ | ⟨l5, ls⟩⟩⟩⟩⟩⟩
    · exact ⟨.ref L, rfl, L, _, rfl, .inl (SqL.of hA), rfl, _, rfl, iteT (fin rfl)⟩
    · exact ⟨.ref L, rfl, L, _, rfl, .inl (SqL.of hA), rfl, _, rfl, iteF ⟨.ref L, rfl, L, _, rfl, .inl (SqL.of hA), rfl, _, rfl, iteT ⟨.ref L, rfl, L, _, 0, l0.v, rfl, rfl, SqL.of hA, rfl, fin rfl⟩⟩⟩
    · exact ⟨.ref L, rfl, L, _, rfl, .inl (SqL.of hA), rfl, _, rfl, iteF ⟨.ref L, rfl, L, _, rfl, .inl (SqL.of hA), rfl, _, rfl, iteF ⟨.ref L, rfl, L, _, rfl, .inl (SqL.of hA), rfl, _, rfl, iteT ⟨.ref L, rfl, L, _, 0, l0.v, rfl, rfl, SqL.of hA, rfl, .ref L, rfl, L, _, 1, l1.v, rfl, rfl, SqL.of hA, rfl, fin rfl⟩⟩⟩⟩
    · exact ⟨.ref L, rfl, L, _, rfl, .inl (SqL.of hA), rfl, _, rfl, iteF ⟨.ref L, rfl, L, _, rfl, .inl (SqL.of hA), rfl, _, rfl, iteF ⟨.ref L, rfl, L, _, rfl, .inl (SqL.of hA), rfl, _, rfl, iteF ⟨.ref L, rfl, L, _, rfl, .inl (SqL.of hA), rfl, _, rfl, iteT ⟨.ref L, rfl, L, _, 0, l0.v, rfl, rfl, SqL.of hA, rfl, .ref L, rfl, L, _, 1, l1.v, rfl, rfl, SqL.of hA, rfl, .ref L, rfl, L, _, 2, l2.v, rfl, rfl, SqL.of hA, rfl, fin rfl⟩⟩⟩⟩⟩
    · exact ⟨.ref L, rfl, L, _, rfl, .inl (SqL.of hA), rfl, _, rfl, iteF ⟨.ref L, rfl, L, _, rfl, .inl (SqL.of hA), rfl, _, rfl, iteF ⟨.ref L, rfl, L, _, rfl, .inl (SqL.of hA), rfl, _, rfl, iteF ⟨.ref L, rfl, L, _, rfl, .inl (SqL.of hA), rfl, _, rfl, iteF ⟨.ref L, rfl, L, _, rfl, .inl (SqL.of hA), rfl, _, rfl, iteT ⟨.ref L, rfl, L, _, 0, l0.v, rfl, rfl, SqL.of hA, rfl, .ref L, rfl, L, _, 1, l1.v, rfl, rfl, SqL.of hA, rfl, .ref L, rfl, L, _, 2, l2.v, rfl, rfl, SqL.of hA, rfl, .ref L, rfl, L, _, 3, l3.v, rfl, rfl, SqL.of hA, rfl, fin rfl⟩⟩⟩⟩⟩⟩
    · exact ⟨.ref L, rfl, L, _, rfl, .inl (SqL.of hA), rfl, _, rfl, iteF ⟨.ref L, rfl, L, _, rfl, .inl (SqL.of hA), rfl, _, rfl, iteF ⟨.ref L, rfl, L, _, rfl, .inl (SqL.of hA), rfl, _, rfl, iteF ⟨.ref L, rfl, L, _, rfl, .inl (SqL.of hA), rfl, _, rfl, iteF ⟨.ref L, rfl, L, _, rfl, .inl (SqL.of hA), rfl, _, rfl, iteF ⟨.ref L, rfl, L, _, rfl, .inl (SqL.of hA), rfl, _, rfl, iteT ⟨.ref L, rfl, L, _, 0, l0.v, rfl, rfl, SqL.of hA, rfl, .ref L, rfl, L, _, 1, l1.v, rfl, rfl, SqL.of hA, rfl, .ref L, rfl, L, _, 2, l2.v, rfl, rfl, SqL.of hA, rfl, .ref L, rfl, L, _, 3, l3.v, rfl, rfl, SqL.of hA, rfl, .ref L, rfl, L, _, 4, l4.v, rfl, rfl, SqL.of hA, rfl, fin rfl⟩⟩⟩⟩⟩⟩⟩
    · obtain ⟨l6, l7, rfl⟩ : ∃ l6 l7, ls = [l6, l7] := by
        have h3 : ls.length = 2 := by simp only [List.length_cons] at h48; omega
        match ls, h3 with
        | [a, b], _ => exact ⟨a, b, rfl⟩
      exact ⟨.ref L, rfl, L, _, rfl, .inl (SqL.of hA), rfl, _, rfl, iteF ⟨.ref L, rfl, L, _, rfl, .inl (SqL.of hA), rfl, _, rfl, iteF ⟨.ref L, rfl, L, _, rfl, .inl (SqL.of hA), rfl, _, rfl, iteF ⟨.ref L, rfl, L, _, rfl, .inl (SqL.of hA), rfl, _, rfl, iteF ⟨.ref L, rfl, L, _, rfl, .inl (SqL.of hA), rfl, _, rfl, iteF ⟨.ref L, rfl, L, _, rfl, .inl (SqL.of hA), rfl, _, rfl, iteF ⟨.ref L, rfl, L, _, 0, l0.v, rfl, rfl, SqL.of hA, rfl, .ref L, rfl, L, _, 1, l1.v, rfl, rfl, SqL.of hA, rfl, .ref L, rfl, L, _, 2, l2.v, rfl, rfl, SqL.of hA, rfl, .ref L, rfl, L, _, 3, l3.v, rfl, rfl, SqL.of hA, rfl, .ref L, rfl, L, _, 4, l4.v, rfl, rfl, SqL.of hA, rfl, .ref L, rfl, L, _, 5, l5.v, rfl, rfl, SqL.of hA, rfl, .ref L, rfl, L, _, 6, l6.v, rfl, rfl, SqL.of hA, rfl, .ref L, rfl, L, _, 7, l7.v, rfl, rfl, SqL.of hA, rfl, fin rfl⟩⟩⟩⟩⟩⟩⟩
end
end XT
/-! set(t), t[a:b], t + u of tuples; a comprehension over a tuple, with draws -/
namespace XT
open PySem PySem.Spec PyProof.Rows L2
section
variable {P : Program} {w : World} {A : Around} {E : Value → Shared → Prop} {s : Shared}
theorem set_tupI {l : Addr} {items : Array Value} (ns : List Int) {Q : Value → Shared → Prop} (hh : A.handled = none) (hl : s.heap.IsTuple l items) (hit : IntsAre items.toList ns) (hb : ns.length + 1 < scanBound)
    (h : ∀ (hp : Heap) (tk c : Nat), SetR w hp s.heap.objs.size (fun j => decide (j ∈ ns)) c → c ≤ ns.length → (∀ b o, s.heap.get? b = some o → hp.get? b = some o) → Q (.ref s.heap.objs.size) { s with heap := hp, toks := tk }) :
    wpAny (model P w) A (call (.type "set") [.ref l]) Q E s := by
  have hz : items.size = ns.length := by
    have e := IntsAre.length hit
    rwa [Array.length_toList] at e
  obtain ⟨mc, mt, m0⟩ := F.called_set.mro
  have m1 := F.called_set.made
  have m2 := F.called_set.sub
  have m3 := F.called_set.notType
  have m4 := F.called_set.canCreate
  have m5 := F.typeCall_set_1 (.ref l)
  refine wpAny_call (codeAny_of_tree ?_)
  show wpAny _ _ (callAny (.type "set") _) _ _ _
  refine wpAny_pure ⟨Code.quiet_builtin _ (by decide +kernel), codeAny_builtin F.entry_type_call ?_⟩
  rw [Around.under_plain (weight_type_call_type "set" [.ref l] []) rfl]
  repeat (any_goals (first | assumption | wp_step))
  refine codeAny_mono (code_set_led1 (.ref l) (E := E) (Q₁ := fun v s1 => v = .ref s.heap.objs.size ∧ s1 = withS w s) ⟨rfl, rfl⟩) fun r s1 hr => ?_
  match r, hr with
  | .error e, hr => exact hr
  | .ok .next, hr => exact hr.elim
  | .ok .brk, hr => exact hr.elim
  | .ok .cont, hr => exact hr.elim
  | .ok (.ret v), hr =>
    obtain ⟨rfl, rfl⟩ := hr
    have g0 : (s.heap.push (newS w)).get? s.heap.objs.size = some (newS w) := Heap.get?_push_size _ rfl
    have g1 : Shared.TypeIs (withS w s) (.ref s.heap.objs.size) "set" := ⟨_, g0, rfl⟩
    have g2 := F.called_set.init.lookup
    have g3 := F.called_set.init.bind (.ref s.heap.objs.size)
    repeat (any_goals (first | assumption | wp_step))
    refine codeAny_mono (codeAny_call_builtin (R := wants (afterS w s ns) E) F.called_set.init.plain F.entry_set_init (check_set_init_1 g1 ?_)) fun r2 s2 hr2 => ?_
    · obtain ⟨ol, hol, hcl, nl, hdl⟩ := hl
      obtain ⟨oc, od, odt, osl⟩ := ol
      simp only at hcl hdl
      subst hcl hdl
      have hol1 : (s.heap.push (newS w)).get? l = some { cls := .type "tuple", dict := od, data := .seq items nl, slots := osl } := Heap.get?_push_of_some _ hol
      have n1 := F.sub_tuple_set
      have n2 := F.sub_tuple_frozenset
      have n3 : (Value.type "tuple" == Value.type "dict") = false := by decide
      have hl1 : (s.heap.push (newS w)).IsTuple l items := ⟨_, hol1, rfl, nl, rfl⟩
      have lS : l < s.heap.objs.size := Heap.lt_size hol
      have z1 : (s.heap.push (newS w)).objs.size = s.heap.objs.size + 1 := Heap.size_push ..
      unfold Builtin.«set.__init__» noKeywords Builtin.Frozenset.updateFrom
      generalize hPI : pyIter = PI
      wp_walk
      subst hPI
      refine wpAny_pyIter_tuple hl1 (wpAny_bind (wpAny_runValue ?_))
      refine set_update_ints ((Walks.tuple (by simp [hh]) _ l (by rw [z1]; exact Nat.ne_of_lt (Nat.lt_succ_of_lt lS)) items).toS) s.heap.objs.size (by rw [z1]; simp only [List.mem_cons, List.not_mem_nil, or_false, not_or]; exact ⟨Nat.ne_of_lt (Nat.lt_succ_self _), Nat.ne_of_gt lS⟩) ns hz hb (items_at hit hz) (items.size - 0) 0 _ (by omega) (Nat.zero_le _)
        ⟨⟨_, Heap.get?_push_size _ rfl, rfl, rfl⟩, hl1.push _⟩ ⟨0, Nat.le_refl 0, setR_new_at (Heap.get?_push_of_some _ g0)⟩ ?_
      intro s3 c hm hc hS
      obtain ⟨h3, ge, dr, tk, os⟩ := s3
      obtain rfl : ge = s.gens := hm.gens
      obtain rfl : dr = s.drawn := hm.drawn
      obtain rfl : os = s.os := hm.os
      show wpAny _ _ _ _ _ _
      refine wpAny_pure ?_
      show wpAny _ _ (ret Value.none) _ _ _
      rw [hz] at hc
      refine wpAny_pure ⟨rfl, h3, tk, c, rfl, hS, hc, fun b o e => ?_⟩
      have b0 : b < s.heap.objs.size := Heap.lt_size e
      exact hm.heap b o (by rw [z1]; simp only [List.mem_cons, List.not_mem_nil, or_false, not_or]; exact ⟨Nat.ne_of_lt b0, Nat.ne_of_lt (Nat.lt_succ_of_lt b0)⟩) (Heap.get?_push_of_some _ (Heap.get?_push_of_some _ e))
    · match r2, hr2 with
      | .error e, hr2 => exact hr2
      | .ok .next, hr2 => exact hr2.elim
      | .ok .brk, hr2 => exact hr2.elim
      | .ok .cont, hr2 => exact hr2.elim
      | .ok (.ret v), hr2 =>
        obtain ⟨rfl, hp, tk, c, rfl, hS, hc, hk⟩ := hr2
        repeat (any_goals (first | assumption | wp_step))
        exact h _ _ _ hS hc hk
end
section
variable {X : Cx}
theorem cutV_whole {xs : List V} {lo hi : Option Int} (h : HT.sIx xs.length 0 lo = 0 ∧ HT.sIx xs.length xs.length hi = xs.length) : cutV xs lo hi = xs := by
  unfold cutV
  rw [h.1, h.2, List.drop_zero, Nat.sub_zero, List.take_length]
/-- a cut of a tuple, the same one or a new one -/
def rSlU (K : PySem.W.Frag) : V → Option Int → Option Int → Hp → VK → Prop := fun x lo hi H Q => ∃ a xs, x = .ref a ∧ SqT K H a xs ∧ ∀ H' p, Same H H' → SqT K H' p (cutV xs lo hi) → Q (.ref p) H'
theorem sl_tupU : SlR X (rSlU X.K) := by
  intro pins s σ H x v vl vu lo hi sl Q I rx hs pl pu h
  obtain ⟨a, xs, rfl, hx, q⟩ := h
  refine sl_tupA pins s σ H _ v vl vu lo hi sl Q I rx hs pl pu ⟨a, xs, rfl, hx, fun hw => q H a (Same.refl H) (by rw [cutV_whole hw]; exact hx), fun _ p np => q _ p (same_new np) (SqT.of upd_same)⟩
/-- t + u -/
def rCatU (K : PySem.W.Frag) : R2 := fun x y H Q => ∃ a b xs ys, x = .ref a ∧ y = .ref b ∧ SqT K H a xs ∧ SqT K H b ys ∧ xs.length + ys.length ≤ sizeLine ∧ ∀ H' p, Same H H' → SqT K H' p (xs ++ ys) → Q (.ref p) H'
theorem op_catU : OpR X (binaryOp .Add) (rCatU X.K) := by
  intro pins s σ H x y v u Q I rx ry h
  obtain ⟨a, b, xs, ys, rfl, rfl, ha, hb, hz, q⟩ := h
  refine op_catA pins s σ H _ _ v u Q I rx ry ⟨a, b, xs, ys, rfl, rfl, ha, hb, hz, fun e => q H b (Same.refl H) (by rw [e]; exact hb), fun _ e => q H a (Same.refl H) (by rw [e, List.append_nil]; exact ha), fun _ _ p np => q _ p (same_new np) (SqT.of upd_same)⟩
/-- set(t) -/
def rSetT (K : PySem.W.Frag) (w : World) : List V → Hp → VK → Prop := fun vs H Q => ∃ (a : Addr) (ns : List Int), vs = [V.ref a] ∧ SqT K H a (ns.map V.int) ∧ ns.length ≤ 1000 ∧ ∀ (p : Addr) (c : Nat), H p = none → Q (.ref p) (upd H p (SetO w p (fun j => decide (j ∈ ns)) c))
theorem cr_setT (hc : X.calm = true) : CallR X (.type "set") (rSetT X.K X.w) := by
  intro pins s σ H vs us Q I r h
  obtain ⟨a, ns, rfl, hs, hn, q⟩ := h
  obtain ⟨its, rv, hl, hz⟩ := I.tuple hs
  rw [Vals.ref1 r]
  refine set_tupI ns (I.ok.hd hc) hl (by simpa using rv.ints) (by unfold scanBound; omega) fun hp tk c hS hcn hk => ?_
  exact ⟨.ref _, _, I.laid (t' := tk) hk (Nat.le_refl _) (setO_new hS), rfl, q _ c (I.hok.fresh (Nat.le_refl _))⟩
end
/-- [m for m in t if draw ..]: some of the masks, in their order -/
theorem lcd_tup {K : PySem.W.Frag} {a : Addr} {g : TG} {tt : TT} {te : TE} {vs : List Nat} {σ : L2.St} {H1 : Hp} {D : Addr} {Qd : Hp → Prop} {S : Sm} {t0 : Int} {ms : List Nat} {d : Nat} (st0 : Strm S H1 t0) (nD : H1 D = none) (hA : H1 a = some (.tup (vm ms))) (hn : ms.length ≤ 1000)
    (ht : ∀ (i : Nat) (m : Nat) H t, ms[i]? = some m → Step S H1 t0 H t (d * i) → ∀ (R1 : Hp → Prop) (R2 : V → Hp → Prop), (∀ H3 t3, Step S H t H3 t3 d → R1 H3) → (∀ H4 t4, Step S H t H4 t4 d → R2 (.int (m : Int)) H4) →
      g (.int (m : Int)) (wipe σ vs) H fun σ2 H2 => wipe σ2 vs = wipe σ vs ∧ tt σ2 H2 fun b H3 => if b = true then te σ2 H3 R2 else R1 H3)
    (hd : ∀ H ks t, Step S H1 t0 H t (d * ms.length) → H D = some (.lst (vm ks)) → ks.Sublist ms → Qd H) :
    ∃ W : Nat → Nat → Hp → Prop, (∃ m, W 0 m (upd H1 D (.lst []))) ∧ ∀ i m H, W i m H →
      ((Itt K a).stop i H ∧ Qd H) ∨ ((Itt K a).go i H ∧ ∃ Nx : Hp → Prop, (∀ H', Nx H' → ∃ m', m' < m ∧ W (i + 1) m' H') ∧ ∀ x H', (Itt K a).yld i H x H' → g x (wipe σ vs) H' fun σ2 H2 => wipe σ2 vs = wipe σ vs ∧ tt σ2 H2 fun b H3 =>
        if b = true then te σ2 H3 fun y H4 => ∃ acc, H4 D = some (.lst acc) ∧ acc.length < sizeLine ∧ Nx (upd H4 D (.lst (acc ++ [y]))) else Nx H3) := by
  refine lc_tup (xs := vm ms) (fun i H => ∃ (ks : List Nat) (t : Int), Step S H1 t0 H t (d * i) ∧ H D = some (.lst (vm ks)) ∧ ks.Sublist (ms.take i)) ⟨[], t0, ((Step.refl st0).same (same_new nD)).mono (Nat.zero_le _), upd_same, by simp⟩ (fun i H _ h => ?_) (fun i x H hx h => ?_) (fun H h => ?_)
  · obtain ⟨_, _, s, _⟩ := h
    exact SqT.of (s.keep.tup st0 hA)
  · obtain ⟨m, hm, rfl⟩ := mem_vm hx
    have hi : i < ms.length := (List.getElem?_eq_some_iff.mp hm).1
    obtain ⟨ks, t, stp, hD, hk⟩ := h
    have hkl : ks.length ≤ i := by
      have h1 := hk.length_le
      rw [List.length_take] at h1
      omega
    refine ht i m H t hm stp _ _ (fun H3 t3 s3 => ?_) (fun H4 t4 s4 => ?_)
    · refine ⟨ks, t3, (stp.trans s3).mono (by rw [Nat.mul_succ]; exact Nat.le_refl _), s3.keep.mine st0 nD hD, ?_⟩
      rw [List.take_add_one]
      exact hk.trans (List.sublist_append_left _ _)
    · have hD4 := s4.keep.mine st0 nD hD
      obtain ⟨nDs, nDp, nDq⟩ := strm_ne st0 nD
      have z := stp.trans s4
      refine ⟨_, hD4, small64 (by rw [vm_len]; omega), ks ++ [m], t4, ⟨fun b o n1 n2 e => ?_, strm_upd z.st nDs nDp nDq, z.lo, by have := z.hi; rw [Nat.mul_succ]; exact this⟩, ?_, ?_⟩
      · rw [upd_ne (ne_of_none e nD)]
        exact z.keep b o n1 n2 e
      · rw [upd_same]; unfold vm; rw [List.map_append]; rfl
      · rw [List.take_add_one, hm]
        exact hk.append (List.Sublist.refl _)
  · rw [vm_len] at h
    obtain ⟨ks, t, s, hD, hk⟩ := h
    rw [List.take_length] at hk
    exact hd H ks t s hD hk
/-- some masks of a lot, in their order, are a lot -/
theorem sub_lot {n : Nat} {p : Nat → Bool} {ks : List Nat} (h : ks.Sublist (lotOf n p)) : vm ks = vm (lotOf n fun m => decide (m ∈ ks)) := by
  have r := lot_rising n p
  have r2 : (ks.map fun (m : Nat) => (m : Int)).Pairwise (· < ·) := r.sublist (h.map _)
  rw [vm_ints ks]
  refine rising_lot r2 fun k => ?_
  rw [List.mem_map]
  constructor
  · rintro ⟨m, hm, rfl⟩
    exact ⟨m, rfl, (mem_lot.mp (h.subset hm)).1, decide_eq_true hm⟩
  · rintro ⟨m, rfl, _, hm⟩
    exact ⟨m, of_decide_eq_true hm, rfl⟩
/-- sorted(set(ns)) of masks -/
theorem sort_set {n : Nat} {ks : List Nat} {ns : List Int} (asc : ns.Pairwise (· < ·)) (hk : ∀ k ∈ ks, k < 2 ^ n) (hm : ∀ k : Int, k ∈ ns ↔ decide (k ∈ ks.map fun (m : Nat) => (m : Int)) = true) : ns.map V.int = vm (lotOf n fun m => decide (m ∈ ks)) := by
  refine rising_lot asc fun z => ?_
  rw [hm z, decide_eq_true_iff, List.mem_map]
  constructor
  · rintro ⟨m, h1, h2⟩
    exact ⟨m, h2.symm, hk m h1, decide_eq_true h1⟩
  · rintro ⟨m, h1, h2, h3⟩
    exact ⟨m, of_decide_eq_true h3, h1.symm⟩
end XT
/-! cuts and sums of tuples that are laid -/
namespace XT
open PySem PySem.Spec PyProof.Rows L2
section
variable {X : Cx}
def rSlV : V → Option Int → Option Int → Hp → VK → Prop := fun x lo hi H Q => ∃ a xs, x = .ref a ∧ H a = some (.tup xs) ∧ ∀ H' p, Same H H' → H' p = some (.tup (cutV xs lo hi)) → Q (.ref p) H'
theorem sl_tupV : SlR X rSlV := by
  intro pins s σ H x v vl vu lo hi sl Q I rx hs pl pu h
  obtain ⟨a, xs, rfl, hx, q⟩ := h
  exact sl_tupA pins s σ H _ v vl vu lo hi sl Q I rx hs pl pu ⟨a, xs, rfl, SqT.of hx, fun hw => q H a (Same.refl H) (by rw [cutV_whole hw]; exact hx), fun _ p np => q _ p (same_new np) upd_same⟩
def rCatV : R2 := fun x y H Q => ∃ a b xs ys, x = .ref a ∧ y = .ref b ∧ H a = some (.tup xs) ∧ H b = some (.tup ys) ∧ xs.length + ys.length ≤ sizeLine ∧ ∀ H' p, Same H H' → H' p = some (.tup (xs ++ ys)) → Q (.ref p) H'
theorem op_catV : OpR X (binaryOp .Add) rCatV := by
  intro pins s σ H x y v u Q I rx ry h
  obtain ⟨a, b, xs, ys, rfl, rfl, ha, hb, hz, q⟩ := h
  exact op_catA pins s σ H _ _ v u Q I rx ry ⟨a, b, xs, ys, rfl, rfl, SqT.of ha, SqT.of hb, hz, fun e => q H b (Same.refl H) (by rw [e]; exact hb), fun _ e => q H a (Same.refl H) (by rw [e, List.append_nil]; exact ha), fun _ _ p np => q _ p (same_new np) upd_same⟩
end
theorem cut_vm (ms : List Nat) (lo hi : Option Int) : ∃ ks : List Nat, cutV (vm ms) lo hi = vm ks ∧ ks.Sublist ms := by
  refine ⟨(ms.drop (HT.sIx (vm ms).length 0 lo)).take (HT.sIx (vm ms).length (vm ms).length hi - HT.sIx (vm ms).length 0 lo), ?_, (List.take_sublist _ _).trans (List.drop_sublist _ _)⟩
  unfold cutV vm
  rw [← List.map_drop, ← List.map_take]
end XT
/-! set of a long list -/
namespace XT
open PySem PySem.Spec PyProof.Rows L2
section
variable {X : Cx}
def rSetB (K : PySem.W.Frag) (w : World) : List V → Hp → VK → Prop := fun vs H Q => ∃ (a : Addr) (ns : List Int), vs = [V.ref a] ∧ SqL K H a (ns.map V.int) ∧ ns.length ≤ 4000 ∧ ∀ (p : Addr) (c : Nat), H p = none → Q (.ref p) (upd H p (SetO w p (fun j => decide (j ∈ ns)) c))
theorem cr_setB (hc : X.calm = true) : CallR X (.type "set") (rSetB X.K X.w) := by
  intro pins s σ H vs us Q I r h
  obtain ⟨a, ns, rfl, hs, hn, q⟩ := h
  obtain ⟨its, rv, hl, hz⟩ := I.list hs
  rw [Vals.ref1 r]
  refine set_listI ns (I.ok.hd hc) hl.isList (by simpa using rv.ints) (by unfold scanBound; omega) fun hp tk c hS hcn hk => ?_
  exact ⟨.ref _, _, I.laid (t' := tk) hk (Nat.le_refl _) (setO_new hS), rfl, q _ c (I.hok.fresh (Nat.le_refl _))⟩
end
theorem szl {n : Nat} (h : n ≤ 100000) : n ≤ sizeLine := by rw [sizeLine_eq]; omega
theorem pow5 {w : Nat} (h : w ≤ 5) : 2 ^ w ≤ 32 := by
  have : w = 0 ∨ w = 1 ∨ w = 2 ∨ w = 3 ∨ w = 4 ∨ w = 5 := by omega
  rcases this with rfl | rfl | rfl | rfl | rfl | rfl <;> decide
theorem lot_len5 {w : Nat} (h : w ≤ 5) (P : Nat → Bool) : (lotOf w P).length ≤ 32 := by
  refine Nat.le_trans (List.length_filter_le _ _) ?_
  rw [List.length_range]
  exact pow5 h
end XT
/-! set of a list of any length whose members are small -/
namespace XT
open PySem PySem.Spec PyProof.Rows L2
section
variable {P : Program} {w : World} {A : Around} {E : Value → Shared → Prop} {s : Shared}
theorem upd_small {I : Addr} {fp wr : List Addr} {G : Array GenState → Array GenState → Prop} {n N : Nat} {Pv : Nat → Value → Prop} {St : Nat → Shared → Prop} {R : Result → Shared → Prop} (W : WalksS P w A.in1 I fp wr G n Pv St) (S : Addr) (hSf : S ∉ fp) (ns : List Int) (hn : n = ns.length) (hN : N ≤ 1000) (hsm : ∀ k ∈ ns, ∃ m : Nat, k = (m : Int) ∧ m < N) (hval : ∀ i v, Pv i v → ∃ k t, ns[i]? = some k ∧ v = .int k t) :
    ∀ (k i : Nat) (s : Shared), n - i = k → i ≤ n → St i s → SetR w s.heap S (fun j => decide (j ∈ ns.take i)) (cnt N fun j => decide (j ∈ ns.take i)) → (∀ s', Moved (S :: wr) G s s' → SetR w s'.heap S (fun j => decide (j ∈ ns)) (cnt N fun j => decide (j ∈ ns)) → R (.ok (.ret .none)) s') →
      codeAny (model P w) A (.builtin "set.update.loop" ⟨[.ref S, .ref I], []⟩) R s := by
  have hw1 : S ∉ wr := fun z => hSf (W.sub _ z)
  have hw2 : ∀ b ∈ wr, b ∈ S :: wr := fun b z => List.mem_cons_of_mem _ z
  intro k; induction k with
  | zero =>
    intro i s hk1 hi hst hS hR
    obtain rfl : i = n := by omega
    refine codeAny_builtin F.entry_set_update_loop ?_; rw [Around.under_plainId F.plain_set_update_loop _]
    show wpAny _ A.in1 (pyNext (.ref I) >>= _) _ _ s; refine wpAny_bind (W.done s _ _ hst fun s1 hm => ?_)
    have e0 : ns.take i = ns := List.take_of_length_le (by omega)
    rw [e0] at hS
    show wpAny _ A.in1 (ret Value.none) _ _ s1; exact wpAny_pure (hR s1 (hm.mono hw2) (hS.at fun o z => hm.heap S o hw1 z))
  | succ k ih =>
    intro i s hk1 hi hst hS hR
    have hin : i < n := by omega
    refine codeAny_builtin F.entry_set_update_loop ?_; rw [Around.under_plainId F.plain_set_update_loop _]
    show wpAny _ A.in1 (pyNext (.ref I) >>= _) _ _ s; refine wpAny_bind (W.item i s _ _ hin hst fun v s1 hP hst1 hm => ?_)
    obtain ⟨z, t, hz, rfl⟩ := hval i v hP
    obtain ⟨m, em, hmN⟩ := hsm z (List.mem_of_getElem? hz)
    have hS1 : SetR w s1.heap S (fun j => decide (j ∈ ns.take i)) (cnt N fun j => decide (j ∈ ns.take i)) := hS.at fun o e => hm.heap S o hw1 e
    have cl := cnt_le N fun j => decide (j ∈ ns.take i)
    show wpAny _ A.in1 (holding [Value.int z t] (setAdd S (.int z t)) >>= _) _ _ s1; refine wpAny_bind (wpAny_holding ?_)
    unfold setAdd; refine wpAny_holding (wpAny_bind ((intKind P w).pyHash (k := z) (intKind_is _ _ _ _) ?_))
    refine setR_add_hashed (s := { s1 with toks := s1.toks + 1 }) hS1 (by unfold scanBound; omega) fun h2 hsb hS2 => ?_
    have ef : (fun j => decide (j ∈ ns.take i) || decide (j = z)) = fun j => decide (j ∈ ns.take (i + 1)) := funext fun j => by rw [List.take_add_one, hz]; simp [List.mem_append]
    have ec : (if decide (z ∈ ns.take i) = true then cnt N (fun j => decide (j ∈ ns.take i)) else cnt N (fun j => decide (j ∈ ns.take i)) + 1) = cnt N fun j => decide (j ∈ ns.take (i + 1)) := by
      rw [← ef, em]
      exact (cnt_add (fun j => decide (j ∈ ns.take i)) hmN).symm
    rw [ec] at hS2
    have hS3 : SetR w h2 S (fun j => decide (j ∈ ns.take (i + 1))) (cnt N fun j => decide (j ∈ ns.take (i + 1))) := by rw [← ef] at hS2 ⊢; exact hS2
    refine wpAny_pure ⟨plainId_quiet F.plain_set_update_loop _, ih (i + 1) _ (by omega) hin (W.frame _ s1 _ _ hst1 (Nat.le_succ _) fun b hb o e => ?_) hS3 fun s3 hm3 hS4 => ?_⟩
    · rw [hsb.2 b fun z => hSf (by rw [← z]; exact hb)]; exact e
    · refine hR s3 (Moved.trans W.gtrans ((hm.mono hw2).then_heap (Nat.le_succ _) fun b o hb e => ?_) hm3) hS4
      rw [hsb.2 b fun z => hb (by rw [z]; exact List.mem_cons_self)]; exact e
abbrev aftS (w : World) (s : Shared) (ns : List Int) (r : Value) (s2 : Shared) : Prop := r = .none ∧ ∃ (hp : Heap) (tk c : Nat), s2 = { s with heap := hp, toks := tk } ∧ SetR w hp s.heap.objs.size (fun j => decide (j ∈ ns)) c ∧ (∀ b o, s.heap.get? b = some o → hp.get? b = some o)
theorem set_small {l : Addr} {items : Array Value} (ns : List Int) {N : Nat} {Q : Value → Shared → Prop} (hh : A.handled = none) (hl : s.heap.IsList l items) (hit : IntsAre items.toList ns) (hN : N ≤ 1000) (hsm : ∀ k ∈ ns, ∃ m : Nat, k = (m : Int) ∧ m < N)
    (h : ∀ (hp : Heap) (tk c : Nat), SetR w hp s.heap.objs.size (fun j => decide (j ∈ ns)) c → (∀ b o, s.heap.get? b = some o → hp.get? b = some o) → Q (.ref s.heap.objs.size) { s with heap := hp, toks := tk }) : wpAny (model P w) A (call (.type "set") [.ref l]) Q E s := by
  have hz : items.size = ns.length := by
    have e := IntsAre.length hit
    rwa [Array.length_toList] at e
  obtain ⟨mc, mt, m0⟩ := F.called_set.mro
  have m1 := F.called_set.made
  have m2 := F.called_set.sub
  have m3 := F.called_set.notType
  have m4 := F.called_set.canCreate
  have m5 := F.typeCall_set_1 (.ref l)
  refine wpAny_call (codeAny_of_tree ?_); show wpAny _ _ (callAny (.type "set") _) _ _ _
  refine wpAny_pure ⟨Code.quiet_builtin _ (by decide +kernel), codeAny_builtin F.entry_type_call ?_⟩; rw [Around.under_plain (weight_type_call_type "set" [.ref l] []) rfl]
  repeat (any_goals (first | assumption | wp_step))
  refine codeAny_mono (code_set_led1 (.ref l) (E := E) (Q₁ := fun v s1 => v = .ref s.heap.objs.size ∧ s1 = withS w s) ⟨rfl, rfl⟩) fun r s1 hr => ?_
  match r, hr with
  | .error e, hr => exact hr
  | .ok .next, hr => exact hr.elim
  | .ok .brk, hr => exact hr.elim
  | .ok .cont, hr => exact hr.elim
  | .ok (.ret v), hr =>
    obtain ⟨rfl, rfl⟩ := hr
    have g0 : (s.heap.push (newS w)).get? s.heap.objs.size = some (newS w) := Heap.get?_push_size _ rfl
    have g1 : Shared.TypeIs (withS w s) (.ref s.heap.objs.size) "set" := ⟨_, g0, rfl⟩
    have g2 := F.called_set.init.lookup
    have g3 := F.called_set.init.bind (.ref s.heap.objs.size)
    repeat (any_goals (first | assumption | wp_step))
    refine codeAny_mono (codeAny_call_builtin (R := wants (aftS w s ns) E) F.called_set.init.plain F.entry_set_init (check_set_init_1 g1 ?_)) fun r2 s2 hr2 => ?_
    · obtain ⟨ol, hol, hcl, nl, hdl⟩ := hl
      obtain ⟨oc, od, odt, osl⟩ := ol
      simp only at hcl hdl
      subst hcl hdl
      have hol1 : (s.heap.push (newS w)).get? l = some { cls := .type "list", dict := od, data := .seq items nl, slots := osl } := Heap.get?_push_of_some _ hol
      have n1 := F.sub_list_set
      have n2 := F.sub_list_frozenset
      have n3 : (Value.type "list" == Value.type "dict") = false := by decide
      have hl1 : (s.heap.push (newS w)).IsList l items := ⟨_, hol1, rfl, nl, rfl⟩
      have lS : l < s.heap.objs.size := Heap.lt_size hol
      have z1 : (s.heap.push (newS w)).objs.size = s.heap.objs.size + 1 := Heap.size_push ..
      unfold Builtin.«set.__init__» noKeywords Builtin.Frozenset.updateFrom
      generalize hPI : pyIter = PI
      wp_walk
      subst hPI
      refine wpAny_pyIter_list hl1 (wpAny_bind (wpAny_runValue ?_))
      have c0 : cnt N (fun j => decide (j ∈ ns.take 0)) = 0 := by unfold cnt; simp
      refine upd_small (N := N) ((Walks.list (by simp [hh]) _ l (by rw [z1]; exact Nat.ne_of_lt (Nat.lt_succ_of_lt lS)) items).toS) s.heap.objs.size (by rw [z1]; simp only [List.mem_cons, List.not_mem_nil, or_false, not_or]; exact ⟨Nat.ne_of_lt (Nat.lt_succ_self _), Nat.ne_of_gt lS⟩) ns hz hN hsm (items_at hit hz) (items.size - 0) 0 _ (by omega) (Nat.zero_le _)
        ⟨⟨_, Heap.get?_push_size _ rfl, rfl, rfl⟩, hl1.push _⟩ (by rw [c0]; exact setR_new_at (Heap.get?_push_of_some _ g0)) ?_
      intro s3 hm hS
      obtain ⟨h3, ge, dr, tk, os⟩ := s3
      obtain rfl : ge = s.gens := hm.gens
      obtain rfl : dr = s.drawn := hm.drawn
      obtain rfl : os = s.os := hm.os
      show wpAny _ _ _ _ _ _; refine wpAny_pure ?_
      show wpAny _ _ (ret Value.none) _ _ _; refine wpAny_pure ⟨rfl, h3, tk, _, rfl, hS, fun b o e => ?_⟩
      have b0 : b < s.heap.objs.size := Heap.lt_size e
      exact hm.heap b o (by rw [z1]; simp only [List.mem_cons, List.not_mem_nil, or_false, not_or]; exact ⟨Nat.ne_of_lt b0, Nat.ne_of_lt (Nat.lt_succ_of_lt b0)⟩) (Heap.get?_push_of_some _ (Heap.get?_push_of_some _ e))
    · match r2, hr2 with
      | .error e, hr2 => exact hr2
      | .ok .next, hr2 => exact hr2.elim
      | .ok .brk, hr2 => exact hr2.elim
      | .ok .cont, hr2 => exact hr2.elim
      | .ok (.ret v), hr2 =>
        obtain ⟨rfl, hp, tk, c, rfl, hS, hk⟩ := hr2
        repeat (any_goals (first | assumption | wp_step))
        exact h _ _ _ hS hk
end
section
variable {X : Cx}
def rSetF (K : PySem.W.Frag) (w : World) : List V → Hp → VK → Prop := fun vs H Q => ∃ (a : Addr) (ks : List Nat) (N : Nat), vs = [V.ref a] ∧ SqL K H a (vm ks) ∧ N ≤ 1000 ∧ (∀ k ∈ ks, k < N) ∧ ∀ (p : Addr) (c : Nat), H p = none → Q (.ref p) (upd H p (SetO w p (fun j => decide (j ∈ ks.map fun (m : Nat) => (m : Int))) c))
theorem cr_setF (hc : X.calm = true) : CallR X (.type "set") (rSetF X.K X.w) := by
  intro pins s σ H vs us Q I r h
  obtain ⟨a, ks, N, rfl, hs, hN, hk, q⟩ := h
  rw [vm_ints] at hs
  obtain ⟨its, rv, hl, hz⟩ := I.list hs
  rw [Vals.ref1 r]
  refine set_small (N := N) (ks.map fun (m : Nat) => (m : Int)) (I.ok.hd hc) hl.isList (by simpa using rv.ints) hN (fun k h => ?_) fun hp tk c hS hkp => ?_
  · obtain ⟨m, hm, rfl⟩ := List.mem_map.mp h
    exact ⟨m, rfl, hk m hm⟩
  · exact ⟨.ref _, _, I.laid (t' := tk) hkp (Nat.le_refl _) (setO_new hS), rfl, q _ c (I.hok.fresh (Nat.le_refl _))⟩
end
end XT
/-! up to width six: _law_total, _law_greatest -/
namespace XT
open PySem PySem.Spec PyProof.Rows L2
section
variable {P : Program} {w : World} {K : PySem.W.Frag} {mg : Str → Option Value} {base : Heap}
abbrev nTl : List Str := ["_law_one", "_law_other", "_law_found", "_law_mask", "_law_own"]
theorem scTl : FnScope nTl ["_law_one", "_law_other"] (defScope sLTotal) := ⟨rfl, rfl, rfl, by decide +kernel, rfl, by decide +kernel, by decide +kernel⟩
def spTl : Sp := fun vs H Q _ => ∃ (v u : V) (n : Nat) (p r : Nat → Bool), vs = [v, u] ∧ LotAt H v n p ∧ LotAt H u n r ∧ n ≤ 6 ∧ ∀ H' z, Same H H' → LotAt H' z n (addB n p r) → Q z H'
theorem ok_tl {f : Addr} {fd : FuncData} {k : Nat} (B : Bl mg) (F : Fun K "_law_total" "_law_total" sLTotal f fd) : FnOk P w K mg base CX0 (k + 1) f fd ["_law_one", "_law_other"] spTl := by
  refine F.ok scTl (fun vs H Q E h => ?_) (fun cdv A outer s H vs Q E hr h => ?_)
  · obtain ⟨v, u, n, p, r, rfl, _⟩ := h
    rfl
  · obtain ⟨v, u, n, p, r, rfl, ⟨x, y, rfl, hx, hy⟩, ⟨x', y', rfl, hx', hy'⟩, hn, q⟩ := h
    refine ⟨_, pss_cons (ps_set (i := 2) scTl.nd rfl (by first | exact Or.inl rfl | exact Or.inr rfl) (pe_lst pa_nil))
      (pss_cons (ps_for PassesOwn.never rfl (pi_tup (pe_ix ix_tup (pv 0) pe_int (fun _ _ => rfl))) (pg_name (i := 3) scTl.nd rfl (by first | exact Or.inl rfl | exact Or.inr rfl))
        (pss_one (ps_expr (pe_bm PySem.F.plainAttrs_list PySem.F.slot_list_extend PySem.F.type_list_extend mt_extend (pv 2) (pa_cons
          (pe_lc (own := [("_law_own", 4)]) (g := gName 4) (tt := tYes) (te := tOp rXor (tVar 3) (tVar 4)) rfl scTl.nd (pi_tup (pe_ix ix_tup (pv 1) pe_int (fun _ _ => rfl))) (blkOk_by (own := [("_law_own", 4)]) (N := nTl) (sc := defScope sLTotal) (by decide +kernel))
            (fun _ _ _ _ _ => pg_name (i := 4) scTl.nd rfl (Or.inl rfl)) (fun _ _ _ _ _ => pts_nil) (fun _ _ _ _ _ => pe_op op_xor (pv 3) (pv 4))) pa_nil)))))
      (pss_one (ps_ret (pe_tup (pa_cons (pe_ix ix_tup (pv 0) pe_int (fun _ _ => rfl)) (pa_cons (pe_callTy call_tuple_of (by rfl) B.tuple bT (pa_cons (pe_callB (cr_sortS rfl) (by rfl) B.sorted bS (pa_cons (pe_callTy (cr_setF rfl) (by rfl) B.set bSet (pa_cons (pv 2) pa_nil)) pa_nil)) pa_nil)) pa_nil)))))), ?_⟩
    have l1 := lot_len hn p
    have l2 := lot_len hn r
    refine ⟨sz (n := 0) (by decide), fun D nD => ?_⟩
    have sD := same_new (o := .lst []) nD
    refine ⟨.ref x, rfl, x, _, 1, .ref y, rfl, rfl, SqT.of (sD _ _ hx), rfl, y, rfl, ⟨_, SqT.of (sD _ _ hy)⟩, for_tup (K := K) (xs := vm (lotOf n p)) (fun i σ H' => Same H H' ∧ ∃ (ks : List Nat) (z3 : Option V), σ = [some (.ref x), some (.ref x'), some (.ref D), z3, none] ∧ H' D = some (.lst (vm ks)) ∧ ks.length ≤ 64 * i ∧ ∀ z, z ∈ ks ↔ ∃ a ∈ (lotOf n p).take i, ∃ b ∈ lotOf n r, z = a ^^^ b) ⟨sD, [], none, rfl, upd_same, Nat.zero_le _, fun z => by simp⟩ (fun i σ H' _ h => SqT.of (h.1 _ _ hy)) (fun i vv σ H2 hv h => ?_) (fun σ H2 h => ?_)⟩
    · obtain ⟨sm, ks, z3, rfl, hD, hkl, hks⟩ := h
      obtain ⟨m, hm, rfl⟩ := mem_vm hv
      have hi : i < (lotOf n p).length := (List.getElem?_eq_some_iff.mp hm).1
      have hx2 := sm _ _ hx'
      have hy2 := sm _ _ hy'
      refine ⟨.ref D, rfl, .inl ⟨rfl, _, SqL.of hD⟩, .ref x', rfl, x', _, 1, .ref y', rfl, rfl, SqT.of hx2, rfl, y', rfl, ⟨_, SqT.of hy2⟩, fun C nC => lcp_tup (p := fun _ => true) (f := fun v => match v with | .int j => .int (Builtin.bitXor (m : Int) j) | v => v) nC (SqT.of hy2) (small64 (by rw [vm_len]; omega)) (fun j z H3 hz s3 => ?_) (fun H3 s3 hC => ?_)⟩
      · intro R1 R2 h1 h2
        obtain ⟨b, hb, rfl⟩ := mem_vm hz
        exact ⟨rfl, iteT (B := R1 H3) ⟨_, rfl, _, rfl, (m : Int), (b : Int), rfl, rfl, h2 rfl _ (Same.refl _)⟩⟩
      · have e : (((vm (lotOf n r)).filter fun _ => true).map fun v => match v with | .int j => V.int (Builtin.bitXor (m : Int) j) | v => v) = vm ((lotOf n r).map fun b => m ^^^ b) := by
          rw [List.filter_eq_self.mpr (fun _ _ => rfl)]
          unfold vm
          rw [List.map_map, List.map_map]
          refine List.map_congr_left fun b _ => ?_
          show V.int (Builtin.bitXor (m : Int) (b : Int)) = V.int ((m ^^^ b : Nat) : Int)
          rw [bx]
        rw [e] at hC
        have hml : ((lotOf n r).map fun b => m ^^^ b).length ≤ 64 := by rw [List.length_map]; exact l2
        refine ⟨D, C, _, _, rfl, rfl, s3 _ _ hD, hC, by rw [vm_len, vm_len]; exact szl (by omega), same_upd (sm.trans s3) nD, ks ++ (lotOf n r).map (fun b => m ^^^ b), _, rfl, ?_, by rw [List.length_append]; omega, fun z => ?_⟩
        · rw [upd_same]
          unfold vm
          rw [List.map_append]
        · rw [List.mem_append, hks z, List.take_add_one, hm]
          constructor
          · rintro (⟨a, ha, b, hb, e⟩ | h)
            · exact ⟨a, List.mem_append_left _ ha, b, hb, e⟩
            · obtain ⟨b, hb, rfl⟩ := List.mem_map.mp h
              exact ⟨m, List.mem_append_right _ (by simp), b, hb, rfl⟩
          · rintro ⟨a, ha, b, hb, e⟩
            rcases List.mem_append.mp ha with ha | ha
            · exact .inl ⟨a, ha, b, hb, e⟩
            · have ea : a = m := by simpa using ha
              exact .inr (List.mem_map.mpr ⟨b, hb, by rw [e, ea]⟩)
    · obtain ⟨sm, ks, z3, rfl, hD, hkl, hks⟩ := h
      rw [vm_len] at hkl
      rw [vm_len, List.take_length] at hks
      have klt : ∀ k ∈ ks, k < 2 ^ n := fun k hk => by
        obtain ⟨a, ha, b, hb, rfl⟩ := (hks k).mp hk
        exact xor_lt (mem_lot.mp ha).1 (mem_lot.mp hb).1
      refine ⟨.ref x, rfl, x, _, 0, .int n, rfl, rfl, SqT.of (sm _ _ hx), rfl, .ref D, rfl, D, ks, 2 ^ n, rfl, SqL.of hD, (by have := pow6 hn; omega), klt, fun G c nG => ?_⟩
      have sG := same_new (o := SetO w G (fun j => decide (j ∈ ks.map fun (k : Nat) => (k : Int))) c) nG
      refine ⟨G, _, c, rfl, upd_same, fun ns L asc hm nL => ?_⟩
      have sL := same_new (o := .lst (ns.map V.int)) nL
      refine ⟨L, _, rfl, .inl ⟨SqL.of upd_same, fun T nT => ⟨sz (n := 2) (by decide), fun U nU => ?_⟩⟩⟩
      have sT := same_new (o := .tup (ns.map V.int)) nT
      have sU := same_new (o := .tup [.int (n : Int), .ref T]) nU
      refine q _ _ ((((sm.trans sG).trans sL).trans sT).trans sU) (LotAt.congr (P := fun m => decide (m ∈ ks)) ⟨U, T, rfl, upd_same, ?_⟩ fun m hm2 => ?_)
      · rw [sU _ _ upd_same, sort_set asc klt hm]
      · rw [Bool.eq_iff_iff, decide_eq_true_iff, hks m, add_iff]
        constructor
        · rintro ⟨a, ha, b, hb, rfl⟩
          refine ⟨a, (mem_lot.mp ha).1, (mem_lot.mp ha).2, ?_⟩
          rw [← Nat.xor_assoc, Nat.xor_self, Nat.zero_xor]
          exact (mem_lot.mp hb).2
        · rintro ⟨a, h1, h2, h3⟩
          refine ⟨a, mem_lot.mpr ⟨h1, h2⟩, a ^^^ m, mem_lot.mpr ⟨xor_lt h1 hm2, h3⟩, ?_⟩
          rw [← Nat.xor_assoc, Nat.xor_self, Nat.zero_xor]
end
end XT
/-! _law_due -/
namespace XT
open PySem PySem.Spec PyProof.Rows L2
section
variable {P : Program} {w : World} {K : PySem.W.Frag} {mg : Str → Option Value} {base : Heap}
abbrev nDu : List Str := ["_law_some", "_law_wrong", "_law_found", "_law_other", "_law_k"]
theorem scDu : FnScope nDu ["_law_some"] (defScope sLDue) := ⟨rfl, rfl, rfl, by decide +kernel, rfl, by decide +kernel, by decide +kernel⟩
def spDue (K : PySem.W.Frag) : Sp := fun vs H Q _ => ∃ (L : Addr) (ls : List Lt), vs = [.ref L] ∧ LsAt H L ls ∧ ∀ H' z, Same H H' → Dp K H' (.ref z) (dDue ls) → Q (.ref z) H'
theorem cut_one (x : V) (xs : List V) : cutV (x :: xs) (some 1) none = xs := by
  unfold cutV
  rw [HT.sIx_none, show HT.sIx (x :: xs).length 0 (some 1) = min 1 (x :: xs).length from HT.sIx_nat _ _ 1]
  have e : min 1 (x :: xs).length = 1 := by simp only [List.length_cons]; omega
  rw [e]
  simp
theorem ok_due {f : Addr} {fd : FuncData} {k : Nat} (B : Bl mg) (F : Fun K "_law_due" "_law_due" sLDue f fd) (dT : DefR P w K mg base 1 "_law_total" spTl) : FnOk P w K mg base CX0 (k + 2) f fd ["_law_some"] (spDue K) := by
  refine F.ok scDu (fun vs H Q E h => ?_) (fun cdv A outer s H vs Q E hr h => ?_)
  · obtain ⟨L, ls, rfl, _⟩ := h
    rfl
  · obtain ⟨L, ls, rfl, hL, q⟩ := h
    refine ⟨_, pss_cons (ps_if (pt_cmpR (op_eqD hr.units) (pv 0) (pe_lst pa_nil) (nomark _)) (pss_one (ps_ret (pe_lst (pa_cons pe_str pa_nil)))) pss_nil)
      (pss_cons (ps_setLc (i := 1) (own := [("_law_k", 4)]) (g := gName 4) (tt := (tTest (tOp rNe (tOp (rIxT K) (tOp (rIxL K) (tVar 0) (tVar 4)) (tC (.int 0))) (tOp (rIxT K) (tOp (rIxL K) (tVar 0) (tC (.int 0))) (tC (.int 0)))))) (te := (tVar 4)) rfl scDu.nd rfl rfl (sw_true rfl rfl rfl (by decide +kernel)) (pi_range1 (by rfl) B.range (pa_cons (pe_callB call_len_seq (by rfl) B.len PySem.boot_len (pa_cons (pv 0) pa_nil)) pa_nil)) (blkOk_by (own := [("_law_k", 4)]) (N := nDu) (sc := defScope sLDue) (by decide +kernel))
          (fun _ _ _ _ _ => pg_name (i := 4) scDu.nd rfl (Or.inl rfl)) (fun _ _ _ _ _ => pts_one (pt_cmpR op_ne (pe_ix ix_tup (pe_ix ix_list (pv 0) (pv 4) (fun _ _ => rfl)) pe_int (fun _ _ => rfl)) (pe_ix ix_tup (pe_ix ix_list (pv 0) pe_int (fun _ _ => rfl)) pe_int (fun _ _ => rfl)) (nomark _))) (fun _ _ _ _ _ => (pv 4)))
      (pss_cons (ps_if (pt_cmpR (op_neD hr.units) (pv 1) (pe_lst pa_nil) (nomark _)) (pss_one (ps_ret (pe_lst (pa_cons pe_str (pa_cons (pe_ix ix_list (pv 1) pe_int (fun _ _ => rfl)) pa_nil))))) pss_nil)
      (pss_cons (ps_set (i := 2) scDu.nd rfl (by first | exact Or.inl rfl | exact Or.inr rfl) (pe_ix ix_list (pv 0) pe_int (fun _ _ => rfl)))
      (pss_cons (ps_for PassesOwn.never rfl (pi_list (pe_slice sl_list (pv 0) (po_some pe_int) po_none)) (pg_name (i := 3) scDu.nd rfl (by first | exact Or.inl rfl | exact Or.inr rfl))
      (pss_one (ps_set (i := 2) scDu.nd rfl (by first | exact Or.inl rfl | exact Or.inr rfl) (pe_def dT (hr.mono (by omega)) (by rfl) (pa_cons (pv 3) (pa_cons (pv 2) pa_nil))))))
      (pss_one (ps_ret (pv 2))))))), ?_⟩
    have shL := hL.shw
    refine ⟨.ref L, rfl, sz (n := 0) (by decide), fun Z nZ => ⟨.list (ls.map dLt), .list [], (hL.same (same_new nZ)).dp, .lst (SqL.of upd_same) .nil, shL.shaped (by omega), rfl, _, rfl, ?_⟩⟩
    have sZ := same_new (o := .lst []) nZ
    cases ls with
    | nil =>
      refine iteT ⟨sz (n := 1) (by decide), fun M nM => q _ M (sZ.trans (same_new nM)) (.lst (SqL.of upd_same) (.cons (.str _) .nil))⟩
    | cons l0 ls' =>
      refine iteF ?_
      have hL1 := hL.same sZ
      have hlen : (l0 :: ls').length ≤ 8 := by have := hL.2.1; omega
      have hn0 := (hL.2.2 l0 List.mem_cons_self).2
      have p6 := pow6 (w := l0.n) hn0.2
      refine ⟨.ref L, rfl, L, _, rfl, .inl (SqL.of hL1.1), (((l0 :: ls').map (·.v)).length : Int), rfl, by omega, by rw [List.length_map]; omega, fun D nD => ?_⟩
      rw [show (((l0 :: ls').map (·.v)).length : Int).toNat = (l0 :: ls').length by rw [List.length_map]; rfl]
      refine lcp_range (n := (l0 :: ls').length) (p := fun i => match (l0 :: ls')[i]? with | some l => l.n != l0.n | none => false) (f := fun i => .int (i : Int)) nD (small64 (by omega)) (fun i H2 hi sm => ?_) (fun H2 sm hD => ?_)
      · intro R1 R2 h1 h2
        have hL2 := hL1.same sm
        have gl := List.getElem?_eq_getElem hi
        obtain ⟨x, y, ev, hx, hy⟩ := (hL2.2.2 _ (List.getElem_mem hi)).1
        obtain ⟨x0, y0, ev0, hx0, hy0⟩ := (hL2.2.2 l0 List.mem_cons_self).1
        refine ⟨rfl, .ref L, rfl, _, rfl, L, _, i, ((l0 :: ls')[i]).v, rfl, congrArg V.int (Int.zero_add _), SqL.of hL2.1, atI_nat (by rw [List.getElem?_map, gl]; rfl), x, _, 0, .int ((l0 :: ls')[i]).n, ev, rfl, SqT.of hx, rfl,
          .ref L, rfl, L, _, 0, l0.v, rfl, rfl, SqL.of hL2.1, atI_nat (j := 0) rfl, x0, _, 0, .int l0.n, ev0, rfl, SqT.of hx0, rfl, rfl, _, rfl, ?_⟩
        have e : (!decide (V.int (((l0 :: ls')[i]).n : Int) = V.int (l0.n : Int))) = (match (l0 :: ls')[i]? with | some l => l.n != l0.n | none => false) := by
          rw [gl]
          show _ = (((l0 :: ls')[i]).n != l0.n)
          rw [Bool.eq_iff_iff]
          simp only [Bool.not_eq_true', decide_eq_false_iff_not, bne_iff_ne, ne_eq, V.int.injEq]
          omega
        rw [e]
        refine ite2 (fun z => ⟨_, rfl, ?_⟩) (fun z => h1 (by simpa using z) _ (Same.refl _))
        rw [Int.zero_add]
        exact h2 z _ (Same.refl _)
      · have hD2 : H2 D = some (.lst (vm (wr (l0 :: ls') l0.n))) := hD
        have s2 := sZ.trans sm
        have hL2 := hL.same s2
        have shW : Shw (.list ((wr (l0 :: ls') l0.n).map fun (i : Nat) => PyData.int (i : Int))) 1000 1 := by
          have hw : (wr (l0 :: ls') l0.n).length ≤ 8 := Nat.le_trans (List.length_filter_le _ _) (by rw [List.length_range]; exact hlen)
          have := (shw_nats (ms := wr (l0 :: ls') l0.n) fun i hi => by have := List.mem_range.mp (List.mem_filter.mp hi).1; omega).list
          exact this.mono (by omega) (by omega)
        refine ⟨.ref D, rfl, sz (n := 0) (by decide), fun Y nY => ⟨_, .list [], .lst (SqL.of (same_new nY _ _ hD2)) (dpVm _), .lst (SqL.of upd_same) .nil, shW.shaped (by omega), rfl, _, rfl, ?_⟩⟩
        have sY := same_new (o := .lst []) nY
        have s3 := s2.trans sY
        have hD3 := sY _ _ hD2
        cases hw : wr (l0 :: ls') l0.n with
        | cons i t =>
          rw [hw] at hD3
          refine iteT ⟨.ref D, rfl, D, _, 0, .int (i : Int), rfl, rfl, SqL.of hD3, atI_nat (j := 0) rfl, sz (n := 2) (by decide), fun M nM => q _ M (s3.trans (same_new nM)) ?_⟩
          rw [dDue_odd hw]
          exact .lst (SqL.of upd_same) (.cons (.str _) (.cons (.int _) .nil))
        | nil =>
          have hall := wr_nil.mp hw
          have hL3 := hL.same s3
          refine iteF ⟨.ref L, rfl, L, _, 0, l0.v, rfl, rfl, SqL.of hL3.1, atI_nat (j := 0) rfl, .ref L, rfl, 1, rfl, L, _, rfl, SqL.of hL3.1, fun R nR => ?_⟩
          rw [show cutV (List.map (fun x => x.v) (l0 :: ls')) (some 1) none = ls'.map (·.v) from cut_one _ _]
          have sR := same_new (o := .lst (ls'.map (·.v))) nR
          refine ⟨R, rfl, ⟨_, SqL.of upd_same⟩, ?_⟩
          refine for_list (K := K) (xs := ls'.map (·.v)) (fun j σ H' => ∃ z2 z3, σ = [some (.ref L), some (.ref D), some z2, z3, none] ∧ Same H H' ∧ H' R = some (.lst (ls'.map (·.v))) ∧ LotAt H' z2 l0.n (sumB l0.n (((l0 :: ls').map (·.p)).take (j + 1)))) ⟨l0.v, none, rfl, s3.trans sR, upd_same, ?_⟩ (fun j σ H' _ h => by obtain ⟨z2, z3, _, _, hR, _⟩ := h; exact SqL.of hR) (fun j v σ H4 hv h => ?_) (fun σ H4 h => ?_)
          · exact LotAt.congr ((hL.same (s3.trans sR)).2.2 l0 List.mem_cons_self).1 fun m hm => (sum1 hm).symm
          · obtain ⟨z2, z3, rfl, sm4, hR, lz⟩ := h
            rw [List.getElem?_map] at hv
            obtain ⟨l, hl, rfl⟩ := Option.map_eq_some_iff.mp hv
            have hml : l ∈ (l0 :: ls') := List.mem_cons_of_mem _ (List.mem_of_getElem? hl)
            have hl4 := ((hL.same sm4).2.2 l hml).1
            rw [hall l hml] at hl4
            refine ⟨l.v, rfl, z2, rfl, l.v, z2, l0.n, l.p, _, rfl, hl4, lz, hn0.2, fun H5 z s5 g5 => ⟨z, _, rfl, sm4.trans s5, s5 _ _ hR, LotAt.congr g5 fun m hm => ?_⟩⟩
            have e : ((l0 :: ls').map (·.p))[j + 1]? = some l.p := by
              rw [List.getElem?_map, List.getElem?_cons_succ, hl]
              rfl
            rw [sum_take e]
            exact add_comm' hm
          · obtain ⟨z2, z3, rfl, sm4, hR, lz⟩ := h
            rw [List.length_map, List.take_of_length_le (by rw [List.length_map, List.length_cons]; exact Nat.le_refl _)] at lz
            obtain ⟨x1, y1, rfl, hx1, hy1⟩ := lz
            refine ⟨_, rfl, q _ x1 sm4 ?_⟩
            rw [dDue_all hw]
            exact LotAt.dp ⟨x1, y1, rfl, hx1, hy1⟩
end
end XT
/-! a caught error without a dict: isinstance -/
namespace XT
open PySem PySem.Spec PyProof.Rows L2
section
variable {X : Cx} {a D : Addr} {oe : Obj} {cls : Value} {d : Option Addr} {pn : List (Addr × Obj)}
theorem inst_none {pins : List (Addr × Obj)} {σ : L2.St} {H : Hp} {s : Shared} (I : Inv (X.suite a ((a, oe) :: pn)) pins σ H s) (hz : Zc cls d oe) (hf : ∃ vs, oe.data = .fields vs) (ec : cls = .ref D) (ed : d = none) : PySem.W.InstAt s.heap a oe D none := by
  subst ec ed
  obtain ⟨ha, _⟩ := I.pin (a, oe) (List.mem_append_left _ List.mem_cons_self)
  obtain ⟨vs, hv⟩ := hf
  obtain ⟨oc, od, oda, osl⟩ := oe
  obtain ⟨h1, h2⟩ := hz
  dsimp only at h1 h2 hv
  subst h1 h2 hv
  exact ⟨ha, rfl, rfl, trivial⟩
def rIsN (K : PySem.W.Frag) (D a : Addr) (cls : Value) (d : Option Addr) : List V → Hp → VK → Prop := fun xs H Q => ∃ (c : V) (cv : Value) (b : Bool), xs = [.ref a, c] ∧ ClsV c cv ∧ cls = .ref D ∧ d = none ∧ PySem.W.kitOne K (.ref D) cv = some b ∧ Q (.bl b) H
theorem call_isN (C : ExcC X.K D) (hz : Zc cls d oe) (hf : ∃ vs, oe.data = .fields vs) : CallR (X.suite a ((a, oe) :: pn)) (.builtin "isinstance") (rIsN X.K D a cls d) := by
  intro pins s σ H xs us Q I r h
  obtain ⟨c, cv, b, rfl, kc, ec, ed, e, q⟩ := h
  obtain ⟨u1, u2, rfl, r1, r2⟩ := vals2 r
  cases (show u1 = Value.ref a from r1)
  have e2 := kc.eq r2
  subst e2
  exact PySem.W.kia_one (PySem.W.handS_kitx_exc C.hg C.hk C.hs C.hd C.ha C.hn C.ht C.hm) I.kIn (inst_none I hz hf ec ed) e (fun z => nomatch z) fun tk => ⟨.bl b, H, I.tok tk, rfl, q⟩
def rIsNT (K : PySem.W.Frag) (D a : Addr) (cls : Value) (d : Option Addr) : List V → Hp → VK → Prop := fun xs H Q => ∃ (tp : Addr) (cs : List V) (ws : List Value) (b : Bool), xs = [.ref a, .ref tp] ∧ H tp = some (.tup cs) ∧ Paired ClsV cs ws ∧ cls = .ref D ∧ d = none ∧ PySem.W.kitAny K (.ref D) ws = some b ∧ Q (.bl b) H
theorem call_isNT (C : ExcC X.K D) (hz : Zc cls d oe) (hf : ∃ vs, oe.data = .fields vs) : CallR (X.suite a ((a, oe) :: pn)) (.builtin "isinstance") (rIsNT X.K D a cls d) := by
  intro pins s σ H xs us Q I r h
  obtain ⟨tp, cs, ws, b, rfl, hT, kc, ec, ed, e, q⟩ := h
  obtain ⟨u1, u2, rfl, r1, r2⟩ := vals2 r
  cases (show u1 = Value.ref a from r1)
  cases (show u2 = Value.ref tp from r2)
  have J := inst_none I hz hf ec ed
  have hx : ObjOk X.prog X.w H s.heap tp (.tup cs) := I.hok tp _ hT
  obtain ⟨_, its, rv, o, h1, h2, n, h3⟩ := hx
  have e3 := ClsV.all kc rv
  subst e3
  obtain ⟨oc, od2, dt, sl⟩ := o
  simp only at h2 h3
  subst h2 h3
  exact PySem.W.kia_tup (PySem.W.handS_kitx_exc C.hg C.hk C.hs C.hd C.ha C.hn C.ht C.hm) I.kIn J h1 e (fun z => nomatch z) fun tk => ⟨.bl b, H, I.tok tk, rfl, q⟩
end
end XT
/-! _law_width_error at the handled error, _law_told -/
namespace XT
open PySem PySem.Spec PyProof.Rows L2
/-- what OtherWidth is, and is not -/
structure Cau (K : PySem.W.Frag) (mg : Str → Option Value) (CW : Addr) : Prop where
  is : IsC K CW
  xf : XfC K CW
  no : PySem.W.findIn K (.ref CW) "index" = some none
  hm : mg "OtherWidth" = some (.ref CW)
  exm : PySem.W.exmOne K (.ref CW) (.ref CW) = some true
  cs : ∃ cT cB cN cL : Addr, mg "TurnError" = some (.ref cT) ∧ mg "BadLot" = some (.ref cB) ∧ mg "NoLots" = some (.ref cN) ∧ mg "TooWide" = some (.ref cL) ∧ PySem.W.kitOne K (.ref CW) (.ref cT) = some true ∧ PySem.W.kitAny K (.ref CW) [.ref cB, .ref cN, .ref cL] = some false
theorem scWErr : FnScope ["_law_error"] ["_law_error"] (defScope sWErr) := ⟨rfl, rfl, rfl, by decide +kernel, rfl, by decide +kernel, by decide +kernel⟩
def spWErr (CW : Addr) (cls : Value) (d : Option Addr) : Hp → VK → Prop := fun H Q => ∃ (dd : Addr) (v : V), cls = .ref CW ∧ d = some dd ∧ H dd = some (.xd [("index", v)]) ∧ ∀ H' L, Same H H' → H' L = some (.lst [.str "width", v]) → Q (.ref L) H'
theorem pe_werr {X : Cx} {a : Addr} {oe : Obj} {cls : Value} {d : Option Addr} {pn : List (Addr × Obj)} {f CW : Addr} {fd : FuncData} {e : Expr} {te : TE} {p pos : Pos} (B : Bl X.mg) (C : Cau X.K X.mg CW) (hz : Zc cls d oe) (hf : ∃ vs, oe.data = .fields vs)
    (F : Fun X.K "_law_width_error" "_law_width_error" sWErr f fd) (hg : Gl X "_law_width_error") (hm : X.mg "_law_width_error" = some (.ref f)) (hr : X.A.depth < recursionLimit) (he : PE (X.suite a ((a, oe) :: pn)) e te)
    (hst : starEach [e] X.env = (false, eval e X.env) :: starEach [] X.env := by rfl) :
    PE (X.suite a ((a, oe) :: pn)) (.Call (.Name "_law_width_error" p) [e] [] pos) (fun σ H Q => te σ H fun v H1 => v = .ref a ∧ spWErr CW cls d H1 Q) := by
  refine pe_err F scWErr (fun _ _ _ _ _ _ _ => rfl) hg hm hr (fun cdv outer s H Q h => ?_) he (by decide) hst
  obtain ⟨cT, cB, cN, cL, mT, mB, mN, mL, k1, k2⟩ := C.cs
  obtain ⟨dd, v, rfl, rfl, hd, q⟩ := h
  refine ⟨_, pss_cons (ps_if (PW.pt (pw_or (pt_not (pt_val (pe_callB (call_isD C.is hz hf) (by rfl) B.isinstance bI (pa_cons (pv 0) (pa_cons (pe_glob (v := .ref cT) (by rfl) mT rfl) pa_nil)))))
      (pw_or1 (pt_val (pe_callB (call_isDT C.is hz hf) (by rfl) B.isinstance bI (pa_cons (pv 0) (pa_cons (pe_tup (pa_cons (pe_glob (v := .ref cB) (by rfl) mB rfl) (pa_cons (pe_glob (v := .ref cN) (by rfl) mN rfl) (pa_cons (pe_glob (v := .ref cL) (by rfl) mL rfl) pa_nil)))) pa_nil))))))) pss_never pss_nil)
    (pss_one (ps_ret (pe_lst (pa_cons pe_str (pa_cons (pe_xf C.xf C.no hz hf (pv 0)) pa_nil))))), ?_⟩
  refine ⟨.ref a, rfl, .ref cT, .ref cT, true, dd, _, rfl, .own _, rfl, rfl, hd, k1, true, rfl, iteF ?_⟩
  refine ⟨.ref a, rfl, sz (n := 3) (by decide), fun T nT => ⟨T, _, [.ref cB, .ref cN, .ref cL], false, dd, _, rfl, upd_same, .cons (.own _) (.cons (.own _) (.cons (.own _) .nil)), rfl, rfl, same_new nT _ _ hd, k2, false, rfl, iteF ?_⟩⟩
  refine ⟨.ref a, rfl, rfl, rfl, dd, _, v, rfl, same_new nT _ _ hd, rfl, sz (n := 2) (by decide), fun L nL => ?_⟩
  exact q _ L ((same_new nT).trans (same_new nL)) upd_same
end XT
/-! several clauses 'except x as n', one name -/
namespace XT
open PySem PySem.Spec PyProof.Rows L2
/-- the ends of a suite: the name goes -/
def goneD (i : Nat) (D : Ends) : Ends := { nx := fun σ' H' => D.nx (σ'.set i none) H', rt := D.rt, bk := fun σ' H' => D.bk (σ'.set i none) H', ct := fun σ' H' => D.ct (σ'.set i none) H' }
def wAsM (K : PySem.W.Frag) (i : Nat) (Wout : WX) (D : Ends) : List (Value × (Addr → Value → Option Addr → TS)) → WX
  | [] => Wout
  | (c, ts) :: r => fun cls d σ H => ∃ b, PySem.W.exmOne K cls c = some b ∧ (b = true → ∀ a, H a = none → ts a cls d (goneD i D) (σ.set i (some (.ref a))) H) ∧ (b = false → wAsM K i Wout D r cls d σ H)
inductive HdsAs (X : Cx) (n : Str) : List ExceptHandler → List (Value × (Addr → Value → Option Addr → TS)) → Prop
  | nil : HdsAs X n [] []
  | cons {x : Str} {c : Value} {ts : Addr → Value → Option Addr → TS} {b₀ : Stmt} {suite : List Stmt} {np pos' : Pos} {hds : List ExceptHandler} {l : List (Value × (Addr → Value → Option Addr → TS))} (hc : Names X x c)
      (hsu : ∀ (a : Addr) (oe : Obj) (cls : Value) (d : Option Addr) (pn : List (Addr × Obj)), Zc cls d oe → (∃ vs, oe.data = .fields vs) → PSs (X.suite a ((a, oe) :: pn)) (b₀ :: suite) (ts a cls d)) (r : HdsAs X n hds l) :
      HdsAs X n (.ExceptHandler (some (.Name x np)) (some n) (b₀ :: suite) pos' :: hds) ((c, ts) :: l)
theorem ps_try_asM {X : Cx} {n : Str} {i : Nat} {body : List Stmt} {h₀ : ExceptHandler} {hds : List ExceptHandler} {l : List (Value × (Addr → Value → Option Addr → TS))} {pos : Pos} {tb : WX → TS} {Wout : WX}
    (hs : X.stack = X.env :: X.outer) (hf : X.env.frame = some X.env.locals) (hN : X.N.Nodup) (hi : X.N[i]? = some n) (hln : X.env.kindOf n = some .local) (tk : Takes X Wout)
    (hb : ∀ (W : WX) (pn : List (Addr × Obj)) (xe : Value → Shared → Prop), Takes (X.tr pn xe) W → PassesOwn (model X.prog X.w) X.A X.env xe → PSs (X.tr pn xe) body (tb W))
    (hh : HdsAs X n (h₀ :: hds) l) : PS X (.Try body (h₀ :: hds) [] [] pos) (fun D σ H => tb (wAsM X.K i Wout D l) D σ H) := by
  refine ⟨fun pins s σ H D I h => ?_⟩
  have ok := I.ok
  have hfr : X.A.frames = some (X.env :: X.outer) := by rw [ok.frames, hs]
  have hloc : Loc X.env.scope n := .inl hln
  refine wpAny_Try_except ?_
  refine wpAny_mono ((hb (wAsM X.K i Wout D l) (X.pn ++ pins) (fun e s₁ => wpAny (model X.prog X.w) X.A (noteFrame e X.env) (fun _ s₂ => wpAny (model X.prog X.w) X.A (setFlight e none) (fun _ s₃ =>
    wpAny (model X.prog X.w) X.A (handleBy e X.env (h₀ :: hds)) (SP X pins D) X.xe s₃) X.xe s₂) X.xe s₁) (fun u s' xx => ?_) PassesOwn.looking).run [] s σ H D (I.toTry _) h) (fun f s1 hsp => ?_) (fun e s1 he => he)
  · obtain ⟨a, B, sI, pins', σ', H', cls, d, rfl, J', nb, up, sky, na, os, ag, w⟩ := xx
    have J : Inv X pins σ' H' sI := J'.ofTry ok
    have sky' : Sky B (X.env :: X.outer) a (Zc cls d) X.env.locals s'.heap := by rw [← hs]; exact sky
    show wpAny (model X.prog X.w) X.A (noteFrame (.ref a) X.env) _ _ _
    refine Sky.land Zc.steady hfr hf sky' fun h3 fl3 up3 => ?_
    have J3 : Inv X pins σ' H' { s' with heap := h3 } := J.landed nb fl3.1 (up.trans up3) os ag
    obtain ⟨oe3, vs3, he3, hz3, hd3⟩ := fl3.there
    have nfr : a ∉ frs (X.env :: X.outer) := fun hm => by
      obtain ⟨_, o', e', hnf⟩ := fl3.2.2.1.mem hm
      rw [he3] at e'; cases e'
      exact hnf _ hd3
    have nL : a ≠ X.env.locals := fun z => nfr (List.mem_filterMap.mpr ⟨X.env, List.mem_cons_self, by rw [hf, z]⟩)
    have nF : a ∉ X.fs := fun hm => by
      obtain ⟨e, he, q⟩ := List.mem_filterMap.mp hm
      exact nfr (List.mem_filterMap.mpr ⟨e, List.mem_cons_of_mem _ he, q⟩)
    have S3 := J3.suite he3 hd3 na nL nF
    have go : ∀ {hds' : List ExceptHandler} {l' : List (Value × (Addr → Value → Option Addr → TS))}, HdsAs X n hds' l' → wAsM X.K i Wout D l' cls d σ' H' →
        wpAny (model X.prog X.w) X.A (handleBy (.ref a) X.env hds') (SP X pins D) X.xe { s' with heap := h3 } := by
      intro hds' l' hk
      induction hk with
      | nil =>
        intro w
        refine wpAny_handleBy_nil ?_
        obtain ⟨k1, k2, k3, oe, vs, T, oT, ts', he, hz, hd, h1, hr⟩ := id fl3
        unfold PySem.passOn
        refine wpAny_bind (wpAny_field he hd h1 ?_)
        rw [if_neg (show ¬ ((Value.ref T == Value.none) = true) from by simp)]
        have fin : wpAny (model X.prog X.w) X.A (setFlight (.ref a) X.env.frame) (fun _ s4 => wpAny (model X.prog X.w) X.A (throw (.ref a) : Sem Flow) (SP X pins D) X.xe s4) X.xe { s' with heap := h3 } := by
          rw [hf]
          refine HandSPX.setFlight_upZ fl3 fun h4 hh4 up4 => wpAny_throw (tk _ _ ?_)
          exact ⟨a, B, sI, pins, σ', H', cls, d, rfl, J, nb, (up.trans up3).trans up4, .inr (.inr (by rw [hs]; exact hh4)), na, os, ag, w⟩
        first
          | exact wpAny_bind (wpAny_pure (wpAny_bind fin))
          | exact wpAny_bind fin
      | @cons x c ts b₀ suite np pos' hds2 l2 hc hsu r ih =>
        intro w
        obtain ⟨b, hb1, hyes, hno⟩ := w
        refine wpAny_handleBy_cons (codeAny_handlers_test ?_) (by intro q; cases q)
        have LT : PySem.W.Looks (model X.prog X.w) h3 (typeOf (.ref a)) cls := fun A Q E s k q => wpAny_typeOf_ref (k _ _ he3) (by rw [hz3.1]; exact q)
        have LM := PySem.W.exm_one (M := model X.prog X.w) (J3.kIn) LT hb1
        have test : ∀ {Q : Value → Shared → Prop} {E : Value → Shared → Prop}, Q c { s' with heap := h3 } → wpAny (model X.prog X.w) (X.A.mark (some (.ref a))) (eval (.Name x np) X.env) Q E { s' with heap := h3 } := fun {Q E} q => by
          obtain ⟨hg, hdbg, hm | ⟨hm, hv, hnn⟩⟩ := hc
          · exact ld_glob (X := X.suite a ((a, oe3) :: (X.pn ++ pins))) S3 hg hm q hdbg
          · exact ld_blt (X := X.suite a ((a, oe3) :: (X.pn ++ pins))) S3 hg hm hv q hnn hdbg
        refine test (LM.here ?_)
        cases b with
        | true =>
          refine codeAny_handlers_suite_as ?_
          refine HandSPX.lands_againZ fl3 fun h4 fl4 up4 => ?_
          have J4 : Inv X pins σ' H' { s' with heap := h4 } := J.landed nb fl4.1 ((up.trans up3).trans up4) os ag
          obtain ⟨oe4, vs4, he4, hz4, hd4⟩ := fl4.there
          have S4 := J4.suite he4 hd4 na nL nF
          refine store_ok (X := X.suite a ((a, oe4) :: (X.pn ++ pins))) (v := .ref a) S4 hN hi hloc rfl (fun s5 S5 => ?_) (.inr hln)
          refine wpAny_mono ((hsu a oe4 cls d (X.pn ++ pins) hz4 ⟨_, hd4⟩).run [] s5 _ H' _ S5 (hyes rfl a na)) (fun f s6 hsp => ?_) (fun _ _ z => False.elim z)
          have end_ : ∀ {σ6 : L2.St} {H6 : Hp} {Q : Shared → Prop}, Inv (X.suite a ((a, oe4) :: (X.pn ++ pins))) [] σ6 H6 s6 → (∀ s7, Inv X pins (σ6.set i none) H6 s7 → Q s7) →
              wpAny (model X.prog X.w) X.A (do bindName X.env n .none; unbindBehindTheSuite X.env n pos') (fun _ s7 => Q s7) X.xe s6 := fun {σ6 H6 Q} S6 hq => gone_ok (S6.unsuite ok) hN hi hln hq
          cases f with
          | next =>
            obtain ⟨σ6, H6, S6, q6⟩ := hsp
            exact end_ S6 fun s7 J7 => ⟨_, _, J7, q6⟩
          | brk =>
            obtain ⟨σ6, H6, S6, q6⟩ := hsp
            exact end_ S6 fun s7 J7 => ⟨_, _, J7, q6⟩
          | cont =>
            obtain ⟨σ6, H6, S6, q6⟩ := hsp
            exact end_ S6 fun s7 J7 => ⟨_, _, J7, q6⟩
          | ret u =>
            obtain ⟨v6, σ6, H6, S6, r6, q6⟩ := hsp
            exact end_ S6 fun s7 J7 => ⟨_, _, _, J7, r6, q6⟩
        | false =>
          show wpAny _ X.A (handleBy (.ref a) X.env hds2) _ _ _
          exact ih (hno rfl)
    exact go hh w
  · cases f with
    | next =>
      obtain ⟨σ', H', J', q⟩ := hsp
      exact wpAny_execs_nil ⟨σ', H', J'.ofTry ok, q⟩
    | brk =>
      obtain ⟨σ', H', J', q⟩ := hsp
      exact ⟨σ', H', J'.ofTry ok, q⟩
    | cont =>
      obtain ⟨σ', H', J', q⟩ := hsp
      exact ⟨σ', H', J'.ofTry ok, q⟩
    | ret u =>
      obtain ⟨v, σ', H', J', r, q⟩ := hsp
      exact ⟨v, σ', H', J'.ofTry ok, r, q⟩
end XT
/-! _law_told -/
namespace XT
open PySem PySem.Spec PyProof.Rows L2
structure CauN (K : PySem.W.Frag) (mg : Str → Option Value) (CN CW : Addr) : Prop where
  is : ExcC K CN
  hm : mg "NoLots" = some (.ref CN)
  self : PySem.W.kitOne K (.ref CN) (.ref CN) = some true
  ex1 : PySem.W.exmOne K (.ref CN) (.ref CW) = some false
  cs : ∃ cT cB cL : Addr, mg "TurnError" = some (.ref cT) ∧ mg "BadLot" = some (.ref cB) ∧ mg "TooWide" = some (.ref cL) ∧ PySem.W.exmOne K (.ref CN) (.ref cT) = some true ∧ PySem.W.kitAny K (.ref CN) [.ref cB, .ref cL] = some false
abbrev nTd : List Str := ["_law_some", "_law_error"]
theorem scTd : FnScope nTd ["_law_some"] (defScope sTold) := ⟨rfl, rfl, rfl, by decide +kernel, rfl, by decide +kernel, by decide +kernel⟩
section
variable {P : Program} {w : World} {K : PySem.W.Frag} {mg : Str → Option Value} {base : Heap}
theorem ok_told {f fW CN CW : Addr} {fd fdW : FuncData} {k : Nat} (B : Bl mg) (C : Cau K mg CW) (CN' : CauN K mg CN CW) (F : Fun K "_law_told" "_law_told" sTold f fd) (FW : Fun K "_law_width_error" "_law_width_error" sWErr fW fdW) (hmW : mg "_law_width_error" = some (.ref fW)) (dC : DefX P w K mg base 5 "_law_called" (spCl CN CW)) :
    FnOk P w K mg base CX0 (k + 6) f fd ["_law_some"] (spDue K) := by
  refine F.ok scTd (fun vs H Q E h => ?_) (fun cdv A outer s H vs Q E hr h => ?_)
  · obtain ⟨L, ls, rfl, _⟩ := h
    rfl
  · obtain ⟨L, ls, rfl, hL, q⟩ := h
    have hdp : (A.deeper (envOfC "_law_told" (defScope sTold) s.heap.objs.size f cdv)).depth < recursionLimit := by have := hr.dp; omega
    have hr5 := hr.mono (show 5 ≤ k + 5 by omega)
    obtain ⟨cT, cB, cL, mT, mB, mL, k1, k2⟩ := CN'.cs
    refine ⟨_, pss_one (ps_try_asM (i := 1) rfl rfl scTd.nd rfl rfl takes0
      (fun W pn xe tk _ => pss_one (ps_ret (pe_defX dC hr5 (by rfl) tk (pa_cons (pv 0) pa_nil))))
      (.cons ⟨rfl, by decide, .inl C.hm⟩ (fun a oe cls d pn hz hf => pss_one (ps_ret (pe_werr B C hz hf FW (by rfl) hmW hdp (pv 1))))
        (.cons ⟨rfl, by decide, .inl mT⟩ (fun a oe cls d pn hz hf => pss_one (ps_ret (pe_ifExp (PW.pt (pw_and (pt_val (pe_callB (call_isN CN'.is hz hf) (by rfl) B.isinstance bI (pa_cons (pv 1) (pa_cons (pe_glob (v := .ref CN) (by rfl) CN'.hm rfl) pa_nil))))
            (pw_and1 (pt_not (pt_val (pe_callB (call_isNT CN'.is hz hf) (by rfl) B.isinstance bI (pa_cons (pv 1) (pa_cons (pe_tup (pa_cons (pe_glob (v := .ref cB) (by rfl) mB rfl) (pa_cons (pe_glob (v := .ref cL) (by rfl) mL rfl) pa_nil))) pa_nil))))))))
          (pe_lst (pa_cons pe_str pa_nil)) (pe_lst (pa_cons pe_str pa_nil))))) .nil))), ?_⟩
    refine ⟨.ref L, rfl, L, ls, rfl, hL, fun e H' sm => ?_, fun l0 r e => ⟨fun ha H' z sm hz => ?_, fun i hi H' d sm hd => ?_⟩⟩
    · subst e
      refine ⟨false, CN'.ex1, (fun z => nomatch z), fun _ => ⟨true, k1, fun _ a na => ?_, fun z => nomatch z⟩⟩
      refine ⟨.ref a, rfl, .ref CN, .ref CN, true, rfl, .own _, rfl, rfl, CN'.self, true, rfl, iteT ⟨.ref a, rfl, sz (n := 2) (by decide), fun T nT => ⟨T, _, [.ref cB, .ref cL], false, rfl, upd_same, .cons (.own _) (.cons (.own _) .nil), rfl, rfl, k2, false, rfl, iteT ⟨sz (n := 1) (by decide), fun M nM => q _ M ((sm.trans (same_new nT)).trans (same_new nM)) (.lst (SqL.of upd_same) (.cons (.str _) .nil))⟩⟩⟩⟩
    · subst e
      obtain ⟨x, y, rfl, hx, hy⟩ := hz
      refine q H' x sm ?_
      rw [dDue_all (wr_nil.mpr ha)]
      exact LotAt.dp ⟨x, y, rfl, hx, hy⟩
    · subst e
      obtain ⟨t, ht⟩ := odd_wr hi
      refine ⟨true, C.exm, fun _ a na => ⟨.ref a, rfl, rfl, d, _, rfl, rfl, hd, fun H2 M s2 hM => q H2 M (sm.trans s2) ?_⟩, fun z => nomatch z⟩
      rw [dDue_odd ht]
      exact .lst (SqL.of hM) (.cons (.str _) (.cons (.int _) .nil))
end
end XT
/-! from what k_is answers to what the classes must say -/
namespace XT
open PySem PySem.Spec PyProof.Rows L2
section
variable {K : PySem.W.Frag} {C D : Addr} {b : Bool}
theorem kit_ref (hd : PySem.W.hasDictIn K C = true) (ht : PySem.W.typeIn K (.ref C) = some (.type "type")) (hs : PySem.W.subIn K (.ref D) (.ref C) = some b) (hne : (Value.ref D == Value.ref C) = false) : PySem.W.kitOne K (.ref D) (.ref C) = some b := by
  obtain ⟨cd, hc, _⟩ := PySem.W.any_some hd
  have e2 : ((PySem.W.clsIn K C).isSome && PySem.W.typeIn K (.ref C) == some (.type "type")) = true := by rw [hc, ht] <;> rfl
  unfold PySem.W.kitOne PySem.W.kitCls
  rw [hne]
  show (if ((PySem.W.clsIn K C).isSome && PySem.W.typeIn K (.ref C) == some (.type "type")) = true then PySem.W.subIn K (.ref D) (.ref C) else none) = some b
  rw [if_pos e2]
  exact hs
theorem kit_bt {T : String} (hs : PySem.W.subIn K (.ref D) (.type T) = some b) (hm : PySem.W.kitMeta T = true) : PySem.W.kitOne K (.ref D) (.type T) = some b := by
  unfold PySem.W.kitOne PySem.W.kitCls
  rw [if_neg (by simp)]
  show (if PySem.W.kitMeta T = true then PySem.W.subIn K (.ref D) (.type T) else none) = some b
  rw [if_pos hm]
  exact hs
theorem kit_none {t c : Value} {cs : List Value} (h : PySem.W.kitOne K t c = some false) (r : PySem.W.kitAny K t cs = some false) : PySem.W.kitAny K t (c :: cs) = some false := L2.kitAny_cons h (fun _ => r) (fun z => nomatch z)
def strKey (e : DictEntry) : Bool := match e.key with | .str _ _ => true | _ => false
theorem nsOk_of {N : Addr} {oc : Value} {od : Option Addr} {es : Array DictEntry} {ep : Nat} {sl : Array (Option Value)} (l : K.lookup N = some ⟨oc, od, .dict es ep, sl⟩) (h : es.toList.all strKey = true) : PySem.W.nsOkIn K N = true := by
  unfold PySem.W.nsOkIn
  rw [l]
  rw [Array.all_toList] at h
  exact h
abbrev veTl : List Value := [.type "ValueError", .type "Exception", .type "BaseException", .type "object"]
theorem excIn_of {cN cT NSn NSt : Addr} {nm qn nt qt : Str} {bs sub bst subt mt : List Value} {hd hdt : Bool} {sn snt : List Str} {ab abt del : Bool} {col colt : Option Bool} {dd od : Option Addr} {q0 q1 q2 q3 q5 : Option Value} {oc : Value} {sl : Array (Option Value)}
    (lN : K.lookup cN = some (excClassObj nm qn cN NSn bs [.ref cT, .type "ValueError", .type "Exception", .type "BaseException", .type "object"] hd sn sub ab col dd q0 q1 q2 q3 q5 "ValueError.__new__")) (oN : PySem.W.nsOkIn K NSn = true) (iN : PySem.W.nsIn K NSn "__init__" = some none)
    (lT : K.lookup cT = some ⟨oc, od, .cls { name := nt, bases := bst, mro := mt, ns := NSt, qualname := qt, hasDict := hdt, slotNames := snt, subclasses := subt, abstract := abt, collection := colt, hasDel := del }, sl⟩) (oT : PySem.W.nsOkIn K NSt = true) (iT : PySem.W.nsIn K NSt "__init__" = some none) :
    PySem.W.excIn K cN [.type "ValueError", .type "Exception", .type "BaseException", .type "object"] "ValueError.__new__" = true := by
  have e1 : PySem.W.tailIn K veTl veTl = true := by
    unfold PySem.W.tailIn
    simp
  have e2 : PySem.W.tailIn K veTl (.ref cT :: veTl) = true := by
    unfold PySem.W.tailIn
    dsimp only
    rw [lT]
    simp [oT, iT, e1]
  unfold PySem.W.excIn
  rw [lN]
  simp [oN, iN, e2]
end
end XT
namespace XT
open PySem PySem.Spec PyProof.Rows L2
abbrev nLw : List Str := ["_law_script", "_law_stream_here", "_law_turn", "_law_some", "_law_shown", "_law_due_here", "_law_few", "_law_k"]
theorem scLw : FnScope nLw ["_law_script"] (defScope sLaw) := ⟨rfl, rfl, rfl, by decide +kernel, rfl, by decide +kernel, by decide +kernel⟩
section
variable {K : PySem.W.Frag} {S : Sm} {H1 : Hp} {t0 : Int} {D : Addr} {σ : L2.St} {vs : List Nat} {Qd : Hp → Prop}
/-- one-mask lots of width 3, drawn -/
def PvF (S : Sm) (H1 : Hp) (t0 : Int) (D : Addr) (i : Nat) (H : Hp) : Prop := ∃ (ls : List Lt) (t : Int), Step S H1 t0 H t i ∧ H D = some (.lst (ls.map (·.v))) ∧ ls.length = i ∧ ∀ l ∈ ls, LtAt H l
theorem pvf_app {i : Nat} {H H4 : Hp} {ls : List Lt} {l : Lt} {t t4 : Int} (st0 : Strm S H1 t0) (nD : H1 D = none) (hi : i ≤ 10) (stp : Step S H1 t0 H t i) (hD : H D = some (.lst (ls.map (·.v)))) (hl : ls.length = i) (hall : ∀ l ∈ ls, LtAt H l)
    (s4 : Step S H t H4 t4 1) (h4 : LtAt H4 l) : ∃ acc, H4 D = some (.lst acc) ∧ acc.length < sizeLine ∧ PvF S H1 t0 D (i + 1) (upd H4 D (.lst (acc ++ [l.v]))) := by
  have hD4 := s4.keep.mine st0 nD hD
  have z := stp.trans s4
  have nDs : D ≠ S.s := fun e => by obtain ⟨_, h⟩ := st0; rw [e, h.hs] at nD; cases nD
  have nDp : D ≠ S.p := fun e => by obtain ⟨_, h⟩ := st0; rw [e, h.hp] at nD; cases nD
  have nDq : D ≠ S.q := fun e => by obtain ⟨_, h⟩ := st0; rw [e, h.hq] at nD; cases nD
  refine ⟨_, hD4, small64 (by rw [List.length_map]; omega), ls ++ [l], t4, ⟨fun b o n1 n2 e => ?_, strm_upd z.st nDs nDp nDq, z.lo, z.hi⟩, ?_, by rw [List.length_append, hl]; rfl, fun x hx => ?_⟩
  · rw [upd_ne (ne_of_none e nD)]
    exact z.keep b o n1 n2 e
  · rw [upd_same, List.map_append]; rfl
  · have hx4 : LtAt H4 x := by
      rcases List.mem_append.mp hx with hx | hx
      · exact lt_keep (hall x hx) s4.keep stp.st
      · rw [List.mem_singleton.mp hx]; exact h4
    exact ⟨lot_upd hD4 hx4.1, hx4.2⟩
end
section
variable {P : Program} {w : World} {K : PySem.W.Frag} {mg : Str → Option Value} {base : Heap}
structure Defs (P : Program) (w : World) (K : PySem.W.Frag) (mg : Str → Option Value) (base : Heap) : Prop where
  stream : DefR P w K mg base 6 "_law_stream" (spStream K)
  draw : DefR P w K mg base 6 "_law_draw" spDrawN
  some : DefR P w K mg base 6 "_law_some_lots" spSome
  due : DefR P w K mg base 6 "_law_due" (spDue K)
  told : DefR P w K mg base 6 "_law_told" (spDue K)
def spLaw (K : PySem.W.Frag) : Sp := fun vs H Q _ => ∃ (a : Addr) (ns : List Int), vs = [.ref a] ∧ SqL K H a (ns.map V.int) ∧ ns.length ≤ 63 ∧ ∀ H', Q (.bl true) H'
theorem run_it {f : Addr} {fd : FuncData} (B : Bl mg) (mR : mg "repr" = none) (F : Fun K "law" "law" sLaw f fd) (d : Defs P w K mg base) : RunC P w K mg base 7 f (spLaw K) := by
  refine run_law (k := 6) F scLw (fun _ _ _ _ _ _ _ => rfl) (fun cdv s H v Q hr h => ?_)
  obtain ⟨a0, ns, ev, hA, hlen, q⟩ := h
  cases ev
  have hun : (callerA.deeper (envOfC "law" (defScope sLaw) s.heap.objs.size f cdv)).units + 128 < cLine := by have := hr.un; omega
  have hgd : (callerA.deeper (envOfC "law" (defScope sLaw) s.heap.objs.size f cdv)).guards = some [] := rfl
  refine ⟨_, pss_cons (ps_set (i := 1) scLw.nd rfl (by first | exact Or.inl rfl | exact Or.inr rfl) (pe_def d.stream hr (by rfl) (pa_cons (pv 0) pa_nil)))
      (pss_cons (ps_for PassesOwn.never rfl (pi_range1 (by rfl) B.range (pa_cons pe_int pa_nil)) (pg_name (i := 2) scLw.nd rfl (by first | exact Or.inl rfl | exact Or.inr rfl))
      (pss_cons (ps_set (i := 3) scLw.nd rfl (by first | exact Or.inl rfl | exact Or.inr rfl) (pe_def d.some hr (by rfl) (pa_cons (pv 1) pa_nil)))
      (pss_cons (ps_par (i := 4) (j := 5) (by rfl) scLw.nd rfl rfl (by decide) rfl rfl (pa_cons (pe_callB (cr_repr hgd hun) (by rfl) mR boot_repr (pa_cons (pv 3) pa_nil)) (pa_cons (pe_def d.due hr (by rfl) (pa_cons (pv 3) pa_nil)) pa_nil)) (by rfl))
      (pss_cons (ps_if (PW.pt (pw_or (pt_cmpR op_ne (pe_callB (cr_repr hgd hun) (by rfl) mR boot_repr (pa_cons (pe_lst (pa_cons (pe_def d.told hr (by rfl) (pa_cons (pv 3) pa_nil)) (pa_cons (pe_def d.told hr (by rfl) (pa_cons (pv 3) pa_nil)) pa_nil))) pa_nil)) (pe_callB (cr_repr hgd hun) (by rfl) mR boot_repr (pa_cons (pe_lst (pa_cons (pv 5) (pa_cons (pv 5) pa_nil))) pa_nil)) (nomark _)) (pw_or1 (pt_cmpR op_ne (pe_callB (cr_repr hgd hun) (by rfl) mR boot_repr (pa_cons (pv 3) pa_nil)) (pv 4) (nomark _))))) pss_never pss_nil)
      (pss_cons (ps_setLc (i := 6) (own := [("_law_k", 7)]) (g := gName 7) (tt := tYes) (te := (tTup (tCons (tC (.int 3)) (tCons (tTup (tCons (tDf spDrawN (tCons (tVar 1) (tCons (tC (.int 8)) tNil))) tNil)) tNil)))) rfl scLw.nd rfl rfl (sw_true rfl rfl rfl (by decide +kernel)) (pi_range1 (by rfl) B.range (pa_cons (pe_def d.draw hr (by rfl) (pa_cons (pv 1) (pa_cons pe_int pa_nil))) pa_nil)) (blkOk_by (own := [("_law_k", 7)]) (N := nLw) (sc := defScope sLaw) (by decide +kernel))
          (fun _ _ _ _ _ => pg_name (i := 7) scLw.nd rfl (Or.inl rfl)) (fun _ _ _ _ _ => pts_nil) (fun _ _ _ _ _ => (pe_tup (pa_cons pe_int (pa_cons (pe_tup (pa_cons (pe_def d.draw hr (by rfl) (pa_cons (pv 1) (pa_cons pe_int pa_nil))) pa_nil)) pa_nil)))))
      (pss_one (ps_if (pt_cmpR op_ne (pe_callB (cr_repr hgd hun) (by rfl) mR boot_repr (pa_cons (pe_def d.told hr (by rfl) (pa_cons (pv 6) pa_nil)) pa_nil)) (pe_callB (cr_repr hgd hun) (by rfl) mR boot_repr (pa_cons (pe_def d.due hr (by rfl) (pa_cons (pv 6) pa_nil)) pa_nil)) (nomark _)) pss_never pss_nil)))))))
      (pss_one (ps_ret pe_bl))), ?_⟩
  refine ⟨.ref a0, rfl, a0, ns, rfl, hA, hlen, fun H1 S s1 st1 => ?_⟩
  refine ⟨8, rfl, by decide, by decide, for_range (lo := 0) (n := 8) (fun i σ H' => ∃ (t : Int) (z2 z3 z4 z5 z6 : Option V), σ = [some (.ref a0), some (.ref S.s), z2, z3, z4, z5, z6, none] ∧ Strm S H' t ∧ t ≤ 4010 * i) ⟨0, none, none, none, none, none, rfl, st1, by omega⟩ (fun i σ H2 hi h => ?_) (fun σ H2 h => q H2)⟩
  obtain ⟨t, z2, z3, z4, z5, z6, rfl, st, ht⟩ := h
  refine ⟨.ref S.s, rfl, S, t, rfl, st, by omega, fun H3 L ls t3 s3 hL => ?_⟩
  have hi3 := s3.hi
  have hj3 := s3.lo
  have shL := hL.shw
  have h8 : ls.length ≤ 8 := by have := hL.2.1; omega
  have shD := shw_due (ls := ls) (fun l hl => (hL.2.2 l hl).2.2) h8
  have sh2 := shw_two shD shD
  obtain ⟨shn, hsh⟩ : ∃ shn : Str, shn = (PyData.list (ls.map dLt)).shown := ⟨_, rfl⟩
  refine ⟨.ref L, rfl, L, .list (ls.map dLt), rfl, hL.dp, shL.shaped (by omega), shL.shw, shL.sz (by omega), ?_⟩
  rw [← hsh]
  refine ⟨.ref L, rfl, L, ls, rfl, hL, fun H4 u s4 g4 => ⟨_, _, rfl, ?_⟩⟩
  refine ⟨.ref L, rfl, L, ls, rfl, hL.same s4, fun H5 v1 s5 g5 => ⟨.ref L, rfl, L, ls, rfl, (hL.same s4).same s5, fun H6 v2 s6 g6 => ⟨sz (n := 2) (by decide), fun M nM => ⟨M, .list [dDue ls, dDue ls], rfl, ?_, sh2.shaped (by omega), sh2.shw, sh2.sz (by omega), ?_⟩⟩⟩⟩
  · have sM := same_new (o := .lst [.ref v1, .ref v2]) nM
    exact .lst (SqL.of upd_same) (.cons (Dp_same sM (Dp_same s6 g5)) (.cons (Dp_same sM g6) .nil))
  have sM := same_new (o := .lst [.ref v1, .ref v2]) nM
  refine ⟨.ref u, rfl, .ref u, rfl, sz (n := 2) (by decide), fun M2 nM2 => ⟨M2, .list [dDue ls, dDue ls], rfl, ?_, sh2.shaped (by omega), sh2.shw, sh2.sz (by omega), rfl, _, rfl, iteNS rfl ?_⟩⟩
  · have sM2 := same_new (o := .lst [.ref u, .ref u]) nM2
    have g := Dp_same sM2 (Dp_same sM (Dp_same s6 (Dp_same s5 g4)))
    exact .lst (SqL.of upd_same) (.cons g (.cons g .nil))
  have sM2 := same_new (o := .lst [.ref u, .ref u]) nM2
  have sA := (((s4.trans s5).trans s6).trans sM).trans sM2
  refine ⟨.ref L, rfl, L, .list (ls.map dLt), rfl, (hL.same sA).dp, shL.shaped (by omega), shL.shw, shL.sz (by omega), ?_⟩
  rw [← hsh]
  refine ⟨.str shn, rfl, rfl, _, rfl, iteNS rfl ?_⟩
  have sta := s3.st.same sA
  refine ⟨.ref S.s, rfl, S, t3, 6, rfl, sta, by omega, by omega, by omega, fun H7 r t7 s7 hr6 => ?_⟩
  have hi7 := s7.hi
  have hj7 := s7.lo
  refine ⟨(r : Int), rfl, by omega, by omega, fun D nD => ?_⟩
  rw [show ((r : Nat) : Int).toNat = r by omega]
  refine lc_range (lo := 0) (n := r) (fun i H => PvF S H7 t7 D i H) ⟨[], t7, (Step.refl s7.st).same (same_new nD), upd_same, rfl, fun l hl => nomatch hl⟩ (fun i H8 hi8 h => ?_) (fun H8 h => ?_)
  · obtain ⟨fs, t8, stp, hD, hl, hall⟩ := h
    have hi8' := stp.hi
    have hj8' := stp.lo
    refine ⟨rfl, iteT (B := PvF S H7 t7 D (i + 1) H8) ⟨.ref S.s, rfl, S, t8, 8, rfl, stp.st, by omega, by omega, by omega, fun H9 m t9 s9 hm => ⟨sz (n := 1) (by decide), fun T nT => ⟨sz (n := 2) (by decide), fun U nU => ?_⟩⟩⟩⟩
    have sT := same_new (o := .tup [.int (m : Int)]) nT
    have sU := same_new (o := .tup [.int 3, .ref T]) nU
    refine pvf_app (l := ⟨.ref U, 3, oneB m⟩) s7.st nD (by omega) stp hD hl hall ((s9.same sT).same sU) ⟨⟨U, T, rfl, upd_same, ?_⟩, by show 1 ≤ 3; decide, by show 3 ≤ 6; decide⟩
    rw [lot_one (n := 3) hm]
    exact sU _ _ upd_same
  · obtain ⟨fs, t8, stp, hD, hl, hall⟩ := h
    have hi8' := stp.hi
    have hF : LsAt H8 D fs := ⟨hD, by omega, hall⟩
    have shF := shw_due (ls := fs) (fun l hl => (hall l hl).2.2) (by omega)
    obtain ⟨shf, hsf⟩ : ∃ shf : Str, shf = (dDue fs).shown := ⟨_, rfl⟩
    refine ⟨.ref D, rfl, D, fs, rfl, hF, fun H9 v1 s9 g9 => ⟨v1, dDue fs, rfl, g9, shF.shaped (by omega), shF.shw, shF.sz (by omega), ?_⟩⟩
    rw [← hsf]
    refine ⟨.ref D, rfl, D, fs, rfl, hF.same s9, fun H10 v2 s10 g10 => ⟨v2, dDue fs, rfl, g10, shF.shaped (by omega), shF.shw, shF.sz (by omega), ?_⟩⟩
    rw [← hsf]
    exact ⟨rfl, _, rfl, iteNS rfl ⟨t8, _, _, _, _, _, rfl, (stp.st.same s9).same s10, by omega⟩⟩
end
end XT
namespace XT
open PySem PySem.Spec PyProof.Rows L2
/-! what the top has written -/
theorem all_mk {l : PySem.W.OpenLaw} {w : World} {K : PySem.W.Frag} {h : Heap} {mg : Str → Option Value} {fa : Addr} (X : K.In h) (G : h.Ns mainGlobals mg) (hfa : mg "law" = some (.ref fa))
    {f1 : Addr} {od1 an1 : Option Addr} {sl1 : Array (Option Value)} {oc1 kV1 dc1 pm1 cd1 ct1 : Value}
    (a1 : PySem.W.nsIn K mainGlobals "common_width" = some (some (.ref f1))) (l1 : K.lookup f1 = some ⟨oc1, od1, .func (PySem.W.fnOf "common_width" "common_width" (defArgs sWidth) (defBody sWidth) (defScope sWidth) .none kV1 dc1 pm1 an1 cd1 ct1), sl1⟩) (c1 : PySem.W.codeIn K cd1 "common_width" = true) (k1 : PySem.W.keepIn K (.ref f1) = true)
    {f2 : Addr} {od2 an2 : Option Addr} {sl2 : Array (Option Value)} {oc2 kV2 dc2 pm2 cd2 ct2 : Value}
    (a2 : PySem.W.nsIn K mainGlobals "sum_of" = some (some (.ref f2))) (l2 : K.lookup f2 = some ⟨oc2, od2, .func (PySem.W.fnOf "sum_of" "sum_of" (defArgs sSumOf) (defBody sSumOf) (defScope sSumOf) .none kV2 dc2 pm2 an2 cd2 ct2), sl2⟩) (c2 : PySem.W.codeIn K cd2 "sum_of" = true) (k2 : PySem.W.keepIn K (.ref f2) = true)
    {f3 : Addr} {od3 an3 : Option Addr} {sl3 : Array (Option Value)} {oc3 kV3 dc3 pm3 cd3 ct3 : Value}
    (a3 : PySem.W.nsIn K mainGlobals "_law_stream" = some (some (.ref f3))) (l3 : K.lookup f3 = some ⟨oc3, od3, .func (PySem.W.fnOf "_law_stream" "_law_stream" (defArgs sStream) (defBody sStream) (defScope sStream) .none kV3 dc3 pm3 an3 cd3 ct3), sl3⟩) (c3 : PySem.W.codeIn K cd3 "_law_stream" = true) (k3 : PySem.W.keepIn K (.ref f3) = true)
    {f4 : Addr} {od4 an4 : Option Addr} {sl4 : Array (Option Value)} {oc4 kV4 dc4 pm4 cd4 ct4 : Value}
    (a4 : PySem.W.nsIn K mainGlobals "_law_draw" = some (some (.ref f4))) (l4 : K.lookup f4 = some ⟨oc4, od4, .func (PySem.W.fnOf "_law_draw" "_law_draw" (defArgs sDraw) (defBody sDraw) (defScope sDraw) .none kV4 dc4 pm4 an4 cd4 ct4), sl4⟩) (c4 : PySem.W.codeIn K cd4 "_law_draw" = true) (k4 : PySem.W.keepIn K (.ref f4) = true)
    {f5 : Addr} {od5 an5 : Option Addr} {sl5 : Array (Option Value)} {oc5 kV5 dc5 pm5 cd5 ct5 : Value}
    (a5 : PySem.W.nsIn K mainGlobals "_law_drawn" = some (some (.ref f5))) (l5 : K.lookup f5 = some ⟨oc5, od5, .func (PySem.W.fnOf "_law_drawn" "_law_drawn" (defArgs sDrawn) (defBody sDrawn) (defScope sDrawn) .none kV5 dc5 pm5 an5 cd5 ct5), sl5⟩) (c5 : PySem.W.codeIn K cd5 "_law_drawn" = true) (k5 : PySem.W.keepIn K (.ref f5) = true)
    {f6 : Addr} {od6 an6 : Option Addr} {sl6 : Array (Option Value)} {oc6 kV6 dc6 pm6 cd6 ct6 : Value}
    (a6 : PySem.W.nsIn K mainGlobals "_law_like" = some (some (.ref f6))) (l6 : K.lookup f6 = some ⟨oc6, od6, .func (PySem.W.fnOf "_law_like" "_law_like" (defArgs sLike) (defBody sLike) (defScope sLike) .none kV6 dc6 pm6 an6 cd6 ct6), sl6⟩) (c6 : PySem.W.codeIn K cd6 "_law_like" = true) (k6 : PySem.W.keepIn K (.ref f6) = true)
    {f7 : Addr} {od7 an7 : Option Addr} {sl7 : Array (Option Value)} {oc7 kV7 dc7 pm7 cd7 ct7 : Value}
    (a7 : PySem.W.nsIn K mainGlobals "_law_width_error" = some (some (.ref f7))) (l7 : K.lookup f7 = some ⟨oc7, od7, .func (PySem.W.fnOf "_law_width_error" "_law_width_error" (defArgs sWErr) (defBody sWErr) (defScope sWErr) .none kV7 dc7 pm7 an7 cd7 ct7), sl7⟩) (c7 : PySem.W.codeIn K cd7 "_law_width_error" = true) (k7 : PySem.W.keepIn K (.ref f7) = true)
    {f8 : Addr} {od8 an8 : Option Addr} {sl8 : Array (Option Value)} {oc8 kV8 dc8 pm8 cd8 ct8 : Value}
    (a8 : PySem.W.nsIn K mainGlobals "_law_some_lots" = some (some (.ref f8))) (l8 : K.lookup f8 = some ⟨oc8, od8, .func (PySem.W.fnOf "_law_some_lots" "_law_some_lots" (defArgs sLSomeLots) (defBody sLSomeLots) (defScope sLSomeLots) .none kV8 dc8 pm8 an8 cd8 ct8), sl8⟩) (c8 : PySem.W.codeIn K cd8 "_law_some_lots" = true) (k8 : PySem.W.keepIn K (.ref f8) = true)
    {f9 : Addr} {od9 an9 : Option Addr} {sl9 : Array (Option Value)} {oc9 kV9 dc9 pm9 cd9 ct9 : Value}
    (a9 : PySem.W.nsIn K mainGlobals "_law_total" = some (some (.ref f9))) (l9 : K.lookup f9 = some ⟨oc9, od9, .func (PySem.W.fnOf "_law_total" "_law_total" (defArgs sLTotal) (defBody sLTotal) (defScope sLTotal) .none kV9 dc9 pm9 an9 cd9 ct9), sl9⟩) (c9 : PySem.W.codeIn K cd9 "_law_total" = true) (k9 : PySem.W.keepIn K (.ref f9) = true)
    {f10 : Addr} {od10 an10 : Option Addr} {sl10 : Array (Option Value)} {oc10 kV10 dc10 pm10 cd10 ct10 : Value}
    (a10 : PySem.W.nsIn K mainGlobals "_law_called" = some (some (.ref f10))) (l10 : K.lookup f10 = some ⟨oc10, od10, .func (PySem.W.fnOf "_law_called" "_law_called" (defArgs sLCalled) (defBody sLCalled) (defScope sLCalled) .none kV10 dc10 pm10 an10 cd10 ct10), sl10⟩) (c10 : PySem.W.codeIn K cd10 "_law_called" = true) (k10 : PySem.W.keepIn K (.ref f10) = true)
    {f11 : Addr} {od11 an11 : Option Addr} {sl11 : Array (Option Value)} {oc11 kV11 dc11 pm11 cd11 ct11 : Value}
    (a11 : PySem.W.nsIn K mainGlobals "_law_told" = some (some (.ref f11))) (l11 : K.lookup f11 = some ⟨oc11, od11, .func (PySem.W.fnOf "_law_told" "_law_told" (defArgs sTold) (defBody sTold) (defScope sTold) .none kV11 dc11 pm11 an11 cd11 ct11), sl11⟩) (c11 : PySem.W.codeIn K cd11 "_law_told" = true) (k11 : PySem.W.keepIn K (.ref f11) = true)
    {f12 : Addr} {od12 an12 : Option Addr} {sl12 : Array (Option Value)} {oc12 kV12 dc12 pm12 cd12 ct12 : Value}
    (a12 : PySem.W.nsIn K mainGlobals "_law_due" = some (some (.ref f12))) (l12 : K.lookup f12 = some ⟨oc12, od12, .func (PySem.W.fnOf "_law_due" "_law_due" (defArgs sLDue) (defBody sLDue) (defScope sLDue) .none kV12 dc12 pm12 an12 cd12 ct12), sl12⟩) (c12 : PySem.W.codeIn K cd12 "_law_due" = true) (k12 : PySem.W.keepIn K (.ref f12) = true)
    {f13 : Addr} {od13 an13 : Option Addr} {sl13 : Array (Option Value)} {oc13 kV13 dc13 pm13 cd13 ct13 : Value}
    (a13 : PySem.W.nsIn K mainGlobals "law" = some (some (.ref f13))) (l13 : K.lookup f13 = some ⟨oc13, od13, .func (PySem.W.fnOf "law" "law" (defArgs sLaw) (defBody sLaw) (defScope sLaw) .none kV13 dc13 pm13 an13 cd13 ct13), sl13⟩) (c13 : PySem.W.codeIn K cd13 "law" = true) (k13 : PySem.W.keepIn K (.ref f13) = true)
    {CW cT cB cN cL fI NS : Addr} {nm qn : Str} {bs bm sub : List Value} {sn : List Str} {ab : Bool} {col : Option Bool} {dd od an : Option Addr} {q0 q1 q2 q3 q5 : Option Value} {oc kV dc pm cdv ct : Value} {sl : Array (Option Value)} {NSn NSt : Addr} {nmN qnN nmT qnT : Str} {bsN subN bsT subT mt : List Value} {hdN hdT abN abT delT : Bool} {snN snT : List Str} {colN colT : Option Bool} {ddN odT : Option Addr} {p0 p1 p2 p3 p5 : Option Value} {ocT : Value} {slT : Array (Option Value)} {oc5 oc6 : Value} {od5 od6 : Option Addr} {es5 es6 : Array DictEntry} {ep5 ep6 : Nat} {sl5 sl6 : Array (Option Value)}
    (xW : PySem.W.nsIn K mainGlobals "OtherWidth" = some (some (.ref CW)))
    (xT : PySem.W.nsIn K mainGlobals "TurnError" = some (some (.ref cT)))
    (xB : PySem.W.nsIn K mainGlobals "BadLot" = some (some (.ref cB)))
    (xN : PySem.W.nsIn K mainGlobals "NoLots" = some (some (.ref cN)))
    (xL : PySem.W.nsIn K mainGlobals "TooWide" = some (some (.ref cL)))
    (xo : K.lookup CW = some (excClassObj nm qn CW NS bs bm true sn sub ab col dd q0 q1 q2 q3 q5 "ValueError.__new__"))
    (xr : PySem.HandSPX.refsVE bm = true)
    (xsa : PySem.W.findIn K (.ref CW) "__setattr__" = some (some (.builtin "object.__setattr__")))
    (xex : PySem.W.subIn K (.ref CW) (.type "BaseException") = some true)
    (xty : PySem.W.typeIn K (.ref CW) = some (.type "type"))
    (xk : PySem.W.keepIn K (.ref CW) = true)
    (xno : PySem.W.findIn K (.ref CW) "index" = some none)
    (xi : PySem.W.findIn K (.ref CW) "__init__" = some (some (.ref fI)))
    (xit : PySem.W.typeIn K (.ref fI) = some (.type "function"))
    (xil : K.lookup fI = some ⟨oc, od, .func (PySem.W.fnOf "__init__" "OtherWidth.__init__" (defArgs sOW) (defBody sOW) (defScope sOW) .none kV dc pm an cdv ct), sl⟩)
    (xic : PySem.W.codeIn K cdv "OtherWidth.__init__" = true)
    (xik : PySem.W.keepIn K (.ref fI) = true)
    (xga : PySem.W.findIn K (.ref CW) "__getattribute__" = some (some (.builtin "BaseException.__getattribute__")))
    (xgg : PySem.W.findIn K (.ref CW) "__getattr__" = some none)
    (xha : PySem.W.findIn K (.ref CW) "__class__" = some (some (.builtin "object.__class__")))
    (xhn : PySem.W.specialIn K (.builtin "object.__class__") "__get__" = some (some (.builtin "getset_descriptor.__get__")))
    (xht : PySem.W.takesIn K (.builtin "object.__class__") = some true)
    (xhm : PySem.W.mroIn K CW (.type "object") = some true)
    (xhd : PySem.W.hasDictIn K CW = true)
    (xsw : PySem.W.subIn K (.ref CW) (.ref CW) = some true)
    (xs1 : PySem.W.subIn K (.ref CW) (.ref cT) = some true)
    (xs2 : PySem.W.subIn K (.ref CW) (.ref cB) = some false)
    (xs3 : PySem.W.subIn K (.ref CW) (.ref cN) = some false)
    (xs4 : PySem.W.subIn K (.ref CW) (.ref cL) = some false)
    (xt1 : PySem.W.typeIn K (.ref cT) = some (.type "type"))
    (xt2 : PySem.W.typeIn K (.ref cB) = some (.type "type"))
    (xt3 : PySem.W.typeIn K (.ref cN) = some (.type "type"))
    (xt4 : PySem.W.typeIn K (.ref cL) = some (.type "type"))
    (xd1 : PySem.W.hasDictIn K cT = true)
    (xd2 : PySem.W.hasDictIn K cB = true)
    (xd3 : PySem.W.hasDictIn K cN = true)
    (xd4 : PySem.W.hasDictIn K cL = true)
    (xe1 : (Value.ref CW == Value.ref cT) = false)
    (xe2 : (Value.ref CW == Value.ref cB) = false)
    (xe3 : (Value.ref CW == Value.ref cN) = false)
    (xe4 : (Value.ref CW == Value.ref cL) = false)
    (xnl : K.lookup cN = some (excClassObj nmN qnN cN NSn bsN [.ref cT, .type "ValueError", .type "Exception", .type "BaseException", .type "object"] hdN snN subN abN colN ddN p0 p1 p2 p3 p5 "ValueError.__new__"))
    (xnd : K.lookup NSn = some ⟨oc5, od5, .dict es5 ep5, sl5⟩)
    (xne : es5.toList.all strKey = true)
    (xno2 : PySem.W.nsIn K NSn "__init__" = some none)
    (xtl : K.lookup cT = some ⟨ocT, odT, .cls { name := nmT, bases := bsT, mro := mt, ns := NSt, qualname := qnT, hasDict := hdT, slotNames := snT, subclasses := subT, abstract := abT, collection := colT, hasDel := delT }, slT⟩)
    (xtd : K.lookup NSt = some ⟨oc6, od6, .dict es6 ep6, sl6⟩)
    (xte : es6.toList.all strKey = true)
    (xto2 : PySem.W.nsIn K NSt "__init__" = some none)
    (xnx : PySem.W.subIn K (.ref cN) (.type "BaseException") = some true)
    (xnk : PySem.W.keepIn K (.ref cN) = true)
    (xn1 : PySem.W.findIn K (.ref cN) "__getattribute__" = some (some (.builtin "BaseException.__getattribute__")))
    (xn2 : PySem.W.findIn K (.ref cN) "__getattr__" = some none)
    (xn3 : PySem.W.findIn K (.ref cN) "__class__" = some (some (.builtin "object.__class__")))
    (xn4 : PySem.W.mroIn K cN (.type "object") = some true)
    (xm1 : PySem.W.subIn K (.ref cN) (.ref CW) = some false)
    (xm2 : PySem.W.subIn K (.ref cN) (.ref cN) = some true)
    (xm3 : PySem.W.subIn K (.ref cN) (.ref cT) = some true)
    (xm4 : PySem.W.subIn K (.ref cN) (.ref cB) = some false)
    (xm5 : PySem.W.subIn K (.ref cN) (.ref cL) = some false)
    (xf1 : (Value.ref cN == Value.ref cT) = false)
    (xf2 : (Value.ref cN == Value.ref cB) = false)
    (xf3 : (Value.ref cN == Value.ref CW) = false)
    (xf4 : (Value.ref cN == Value.ref cL) = false)
    (xtx : PySem.W.subIn K (.ref cT) (.type "BaseException") = some true)
    (y1 : PySem.W.nsIn K mainGlobals "repr" = some none)
    (z1 : PySem.W.nsIn K mainGlobals "len" = some none) (z2 : PySem.W.nsIn K mainGlobals "abs" = some none) (z3 : PySem.W.nsIn K mainGlobals "tuple" = some none) (z4 : PySem.W.nsIn K mainGlobals "sorted" = some none) (z5 : PySem.W.nsIn K mainGlobals "isinstance" = some none) (z6 : PySem.W.nsIn K mainGlobals "int" = some none) (z7 : PySem.W.nsIn K mainGlobals "bool" = some none) (z8 : PySem.W.nsIn K mainGlobals "set" = some none) (z9 : PySem.W.nsIn K mainGlobals "all" = some none) (z10 : PySem.W.nsIn K mainGlobals "range" = some none) (z11 : PySem.W.nsIn K mainGlobals "enumerate" = some none) :
    ∀ base : Heap, K.In base → base.Ns mainGlobals mg → RunC l.prog w K mg base 7 fa (spLaw K) := by
  cases hfa.symm.trans (PySem.W.mg_of X G a13)
  have F1 := fun_mk (st := sWidth) l1 c1 k1
  have F2 := fun_mk (st := sSumOf) l2 c2 k2
  have F3 := fun_mk (st := sStream) l3 c3 k3
  have F4 := fun_mk (st := sDraw) l4 c4 k4
  have F5 := fun_mk (st := sDrawn) l5 c5 k5
  have F6 := fun_mk (st := sLike) l6 c6 k6
  have F7 := fun_mk (st := sWErr) l7 c7 k7
  have F8 := fun_mk (st := sLSomeLots) l8 c8 k8
  have F9 := fun_mk (st := sLTotal) l9 c9 k9
  have F10 := fun_mk (st := sLCalled) l10 c10 k10
  have F11 := fun_mk (st := sTold) l11 c11 k11
  have F12 := fun_mk (st := sLDue) l12 c12 k12
  have F13 := fun_mk (st := sLaw) l13 c13 k13
  have b1 := F1.binds (ps := ["lots"]) fun _ _ _ _ _ _ us hl => match us, hl with | [_], _ => rfl
  have b3 := F3.binds (ps := ["_law_script"]) fun _ _ _ _ _ _ us hl => match us, hl with | [_], _ => rfl
  have b4 := F4.binds (ps := ["_law_stream_here", "_law_many"]) fun _ _ _ _ _ _ us hl => match us, hl with | [_, _], _ => rfl
  have b5 := F5.binds (ps := ["_law_stream_here", "_law_most"]) fun _ _ _ _ _ _ us hl => match us, hl with | [_, _], _ => rfl
  have b6 := F6.binds (ps := ["_law_stream_here", "_law_lot"]) fun _ _ _ _ _ _ us hl => match us, hl with | [_, _], _ => rfl
  have b7 := F7.binds (ps := ["_law_error"]) fun _ _ _ _ _ _ us hl => match us, hl with | [_], _ => rfl
  have b8 := F8.binds (ps := ["_law_stream_here"]) fun _ _ _ _ _ _ us hl => match us, hl with | [_], _ => rfl
  have b9 := F9.binds (ps := ["_law_one", "_law_other"]) fun _ _ _ _ _ _ us hl => match us, hl with | [_, _], _ => rfl
  have b10 := F10.binds (ps := ["_law_some"]) fun _ _ _ _ _ _ us hl => match us, hl with | [_], _ => rfl
  have b11 := F11.binds (ps := ["_law_some"]) fun _ _ _ _ _ _ us hl => match us, hl with | [_], _ => rfl
  have b12 := F12.binds (ps := ["_law_some"]) fun _ _ _ _ _ _ us hl => match us, hl with | [_], _ => rfl
  have B : Bl mg := ⟨PySem.W.mg_none_of X G z1, PySem.W.mg_none_of X G z2, PySem.W.mg_none_of X G z3, PySem.W.mg_none_of X G z4, PySem.W.mg_none_of X G z5, PySem.W.mg_none_of X G z6, PySem.W.mg_none_of X G z7, PySem.W.mg_none_of X G z8, PySem.W.mg_none_of X G z9, PySem.W.mg_none_of X G z10, PySem.W.mg_none_of X G z11⟩
  intro base _ _
  have T : OexC K CW := ⟨⟨_, _, _, _, _, _, _, _, _, _, _, _, _, _, _, xo, xr⟩, xsa, xex, xty, xk⟩
  have FI := fun_mk (st := sOW) xil xic xik
  have bI := FI.binds (ps := ["self", "index"]) fun _ _ _ _ _ _ us hl => match us, hl with | [_, _], _ => rfl
  have R : ErrC l.prog w K mg base "OtherWidth" "index" CW := ⟨T, xno, ⟨fI, _, _, xi, xit, ok_ow T xno FI, bI⟩, (PySem.W.mg_of X G xW)⟩
  have RN : ErrN K mg "NoLots" cN := ⟨⟨_, _, _, _, PySem.F.excBase_ValueError, excIn_of xnl (nsOk_of xnd xne) xno2 xtl (nsOk_of xtd xte) xto2⟩, xnx, xt3, xnk, (PySem.W.mg_of X G xN)⟩
  have xcl : (PySem.W.clsIn K CW).isSome = true := by obtain ⟨cd, hc, _⟩ := PySem.W.any_some xhd; rw [hc]; rfl
  have C : Cau K mg CW := ⟨⟨xcl, xga, xgg, xex, xha, xhn, xht, xhm⟩, ⟨xga, xgg, xex, xhd⟩, xno, (PySem.W.mg_of X G xW), PySem.W.exm_ref xex xhd xty xsw, ⟨cT, cB, cN, cL, (PySem.W.mg_of X G xT), (PySem.W.mg_of X G xB), (PySem.W.mg_of X G xN), (PySem.W.mg_of X G xL), kit_ref xd1 xt1 xs1 xe1, kit_none (kit_ref xd2 xt2 xs2 xe2) (kit_none (kit_ref xd3 xt3 xs3 xe3) (kit_none (kit_ref xd4 xt4 xs4 xe4) rfl))⟩⟩
  have dW : DefX l.prog w K mg base 3 "common_width" (spWd K cN CW) := .of (ok_wd B F1 RN R) b1 (PySem.W.mg_of X G a1) k1
  have CN : CauN K mg cN CW := ⟨⟨xn1, xn2, xnx, xd3, xn3, xhn, xht, xn4⟩, (PySem.W.mg_of X G xN), (by unfold PySem.W.kitOne; rw [if_pos (by simp)]), PySem.W.exm_ref xex xhd xty xm1, ⟨cT, cB, cL, (PySem.W.mg_of X G xT), (PySem.W.mg_of X G xB), (PySem.W.mg_of X G xL), PySem.W.exm_ref xtx xd1 xt1 xm3, kit_none (kit_ref xd2 xt2 xm4 xf2) (kit_none (kit_ref xd4 xt4 xm5 xf4) rfl)⟩⟩
  have d_law_draw : DefR l.prog w K mg base 1 "_law_draw" spDrawN := drawN (.of (ok_draw F4 B.len) b4 (PySem.W.mg_of X G a4) k4)
  have dS : DefS l.prog w K mg base 4 "sum_of" (spLg cN CW) := ⟨_, ok_sumx B F2 dW, PySem.W.mg_of X G a2, k2⟩
  have dC : DefX l.prog w K mg base 5 "_law_called" (spCl cN CW) := .of (ok_cl B F10 dS) b10 (PySem.W.mg_of X G a10) k10
  have dT : DefR l.prog w K mg base 1 "_law_total" spTl := .of (ok_tl B F9) b9 (PySem.W.mg_of X G a9) k9
  exact run_it B (PySem.W.mg_none_of X G y1) F13 ⟨.of (ok_stream F3 B.len B.abs) b3 (PySem.W.mg_of X G a3) k3, drawN (.of (ok_draw F4 B.len) b4 (PySem.W.mg_of X G a4) k4), .of (ok_some B F8 (drawN (.of (ok_draw F4 B.len) b4 (PySem.W.mg_of X G a4) k4)) (.of (ok_drawn B F5 d_law_draw) b5 (PySem.W.mg_of X G a5) k5) (.of (ok_like B F6 d_law_draw) b6 (PySem.W.mg_of X G a6) k6)) b8 (PySem.W.mg_of X G a8) k8, .of (ok_due B F12 dT) b12 (PySem.W.mg_of X G a12) k12, .of (ok_told B C CN F11 F7 (PySem.W.mg_of X G a7) dC) b11 (PySem.W.mg_of X G a11) k11⟩
end XT
open PySem PySem.W PyProof.Rows
set_option maxHeartbeats 0 in
theorem PySem.Challenge.cw_xorturns_k41_sums_of_lots_holds : PySem.Challenge.rw_xorturns_k41_sums_of_lots.Holds := by
  w_on; o_law; k_head; (case hw => w_witness2)
  k_fill
  refine XT.walk_ofC (l := PySem.Challenge.rw_xorturns_k41_sums_of_lots) (n := 63) (k := 7) (sp := fun w => XT.spLaw _) rfl (by decide) rfl ⟨rfl, by decide, by decide⟩ (fun w h Y => PySem.W.kIn_of Y) ?F (fun _ _ a ns hl hS => ⟨a, ns, rfl, hS, hl, fun _ => rfl⟩)
  case F =>
    intro w mg fa h KX G hmg
    refine' XT.all_mk KX G hmg ?a1 ?l1 ?c1 ?k1 ?a2 ?l2 ?c2 ?k2 ?a3 ?l3 ?c3 ?k3 ?a4 ?l4 ?c4 ?k4 ?a5 ?l5 ?c5 ?k5 ?a6 ?l6 ?c6 ?k6 ?a7 ?l7 ?c7 ?k7 ?a8 ?l8 ?c8 ?k8 ?a9 ?l9 ?c9 ?k9 ?a10 ?l10 ?c10 ?k10 ?a11 ?l11 ?c11 ?k11 ?a12 ?l12 ?c12 ?k12 ?a13 ?l13 ?c13 ?k13 ?xW ?xT ?xB ?xN ?xL ?xo ?xr ?xsa ?xex ?xty ?xk ?xno ?xi ?xit ?xil ?xic ?xik ?xga ?xgg ?xha ?xhn ?xht ?xhm ?xhd ?xsw ?xs1 ?xs2 ?xs3 ?xs4 ?xt1 ?xt2 ?xt3 ?xt4 ?xd1 ?xd2 ?xd3 ?xd4 ?xe1 ?xe2 ?xe3 ?xe4 ?xnl ?xnd ?xne ?xno2 ?xtl ?xtd ?xte ?xto2 ?xnx ?xnk ?xn1 ?xn2 ?xn3 ?xn4 ?xm1 ?xm2 ?xm3 ?xm4 ?xm5 ?xf1 ?xf2 ?xf3 ?xf4 ?xtx ?y1 ?z1 ?z2 ?z3 ?z4 ?z5 ?z6 ?z7 ?z8 ?z9 ?z10 ?z11
    (case a1 => k_is); (case l1 => k_is); (case c1 => k_is); (case k1 => k_is); (case a2 => k_is); (case l2 => k_is); (case c2 => k_is); (case k2 => k_is); (case a3 => k_is); (case l3 => k_is); (case c3 => k_is); (case k3 => k_is); (case a4 => k_is); (case l4 => k_is); (case c4 => k_is); (case k4 => k_is); (case a5 => k_is); (case l5 => k_is); (case c5 => k_is); (case k5 => k_is); (case a6 => k_is); (case l6 => k_is); (case c6 => k_is); (case k6 => k_is); (case a7 => k_is); (case l7 => k_is); (case c7 => k_is); (case k7 => k_is); (case a8 => k_is); (case l8 => k_is); (case c8 => k_is); (case k8 => k_is); (case a9 => k_is); (case l9 => k_is); (case c9 => k_is); (case k9 => k_is); (case a10 => k_is); (case l10 => k_is); (case c10 => k_is); (case k10 => k_is); (case a11 => k_is); (case l11 => k_is); (case c11 => k_is); (case k11 => k_is); (case a12 => k_is); (case l12 => k_is); (case c12 => k_is); (case k12 => k_is); (case a13 => k_is); (case l13 => k_is); (case c13 => k_is); (case k13 => k_is); (case xW => k_is); (case xT => k_is); (case xB => k_is); (case xN => k_is); (case xL => k_is); (case xo => k_is); (case xr => rfl); (case xsa => k_is); (case xex => k_is); (case xty => k_is); (case xk => k_is); (case xno => k_is); (case xi => k_is); (case xit => k_is); (case xil => k_is); (case xic => k_is); (case xik => k_is); (case xga => k_is); (case xgg => k_is); (case xha => k_is); (case xhn => k_is); (case xht => k_is); (case xhm => k_is); (case xhd => k_is); (case xsw => k_is); (case xs1 => k_is); (case xs2 => k_is); (case xs3 => k_is); (case xs4 => k_is); (case xt1 => k_is); (case xt2 => k_is); (case xt3 => k_is); (case xt4 => k_is); (case xd1 => k_is); (case xd2 => k_is); (case xd3 => k_is); (case xd4 => k_is); (case xe1 => rfl); (case xe2 => rfl); (case xe3 => rfl); (case xe4 => rfl); (case xnl => k_is); (case xnd => k_is); (case xne => rfl); (case xno2 => k_is); (case xtl => k_is); (case xtd => k_is); (case xte => rfl); (case xto2 => k_is); (case xnx => k_is); (case xnk => k_is); (case xn1 => k_is); (case xn2 => k_is); (case xn3 => k_is); (case xn4 => k_is); (case xm1 => k_is); (case xm2 => k_is); (case xm3 => k_is); (case xm4 => k_is); (case xm5 => k_is); (case xf1 => rfl); (case xf2 => rfl); (case xf3 => rfl); (case xf4 => rfl); (case xtx => k_is); (case y1 => k_is); (case z1 => k_is); (case z2 => k_is); (case z3 => k_is); (case z4 => k_is); (case z5 => k_is); (case z6 => k_is); (case z7 => k_is); (case z8 => k_is); (case z9 => k_is); (case z10 => k_is); (case z11 => k_is)
