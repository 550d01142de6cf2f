import PyProof.Rows.All
import Wide.All
import OpenK.AllK
import Wide.FinOn
import PyProof.EqAt
import PyProof.EqKinds
import PyProof.TupleCall
import HandS.ForMost
import HandS.Strs
import HandS.SetFor
import HandS.SortInts
import HandS.Star
import HandS.IsInst
import KE.GoesMore
import HandS.Codes
import PyProof.ReprRoads
import PyProof.StrLawsRepr
import PyProof.ReprLen
import HandS.Conv
import PyProof.FString3
import PyProof.Rows.StrBin
import PyProof.Rows.StrIntSpec
import HandS.FStr
import HandS.Text
import PyProof.WalksMore
import HandS.TupAny
import HandS.ForExc
import HandS.ExcInit
import HandS.ExcField
import HandS.CallSlots
import HandS.HotCalls
import KE.KExcIs
import HandS.ExcIs
import PySem.Challenge.RW_xorturns_k46_flat_lots_around
set_option Elab.async false
set_option linter.all false
set_option maxRecDepth 100000
set_option maxHeartbeats 4000000
namespace XT
open PySem PySem.Spec PyProof.Rows L2
/-! heaps -/
theorem same_new {H : Hp} {p : Addr} {o : HO} (h : H p = none) : Same H (upd H p o) := fun b x e => by
  rw [upd_ne (ne_of_none e h)]; exact e

/-- a stream: its own list, the list of its great cells, the list of its cells -/
structure Sm where
  s : Addr
  p : Addr
  q : Addr
  cs : List Int
structure StrmB (S : Sm) (H : Hp) (t : Int) (big : List Int) : Prop where
  hs : H S.s = some (.lst [.ref S.p, .ref S.q, .int t])
  hp : H S.p = some (.lst (big.map V.int))
  hq : H S.q = some (.lst (S.cs.map V.int))
  sp : S.s ≠ S.p
  sq : S.s ≠ S.q
  pq : S.p ≠ S.q
  ne : 0 < S.cs.length
  t0 : 0 ≤ t
def Strm (S : Sm) (H : Hp) (t : Int) : Prop := ∃ big, StrmB S H t big
def Keep (S : Sm) (H H' : Hp) : Prop := ∀ b o, b ≠ S.s → b ≠ S.p → H b = some o → H' b = some o
theorem Keep.refl (S : Sm) (H : Hp) : Keep S H H := fun _ _ _ _ h => h
theorem Keep.trans {S : Sm} {H H1 H2 : Hp} (a : Keep S H H1) (b : Keep S H1 H2) : Keep S H H2 := fun c o n1 n2 h => b c o n1 n2 (a c o n1 n2 h)
theorem Keep.of {S : Sm} {H H' : Hp} (a : Same H H') : Keep S H H' := fun c o _ _ h => a c o h
theorem StrmB.same {S : Sm} {H H' : Hp} {t : Int} {big : List Int} (h : StrmB S H t big) (e : Same H H') : StrmB S H' t big :=
  ⟨e _ _ h.hs, e _ _ h.hp, e _ _ h.hq, h.sp, h.sq, h.pq, h.ne, h.t0⟩
theorem Strm.same {S : Sm} {H H' : Hp} {t : Int} (h : Strm S H t) (e : Same H H') : Strm S H' t := let ⟨b, h⟩ := h; ⟨b, h.same e⟩
theorem Strm.ns {S : Sm} {H : Hp} {t : Int} {b : Addr} {xs : List V} (h : Strm S H t) (e : H b = some (.tup xs)) : b ≠ S.s := by
  obtain ⟨_, h⟩ := h
  exact ne_of e h.hs (by intro z; cases z)
theorem Strm.np {S : Sm} {H : Hp} {t : Int} {b : Addr} {xs : List V} (h : Strm S H t) (e : H b = some (.tup xs)) : b ≠ S.p := by
  obtain ⟨_, h⟩ := h
  exact ne_of e h.hp (by intro z; cases z)
theorem Keep.tup {S : Sm} {H H' : Hp} {t : Int} {b : Addr} {xs : List V} (k : Keep S H H') (h : Strm S H t) (e : H b = some (.tup xs)) : H' b = some (.tup xs) :=
  k b _ (h.ns e) (h.np e) e
theorem Keep.free {S : Sm} {H H' : Hp} {t : Int} {x : Addr} (k : Keep S H H') (h : Strm S H' t) (e : H' x = none) : H x = none := by
  obtain ⟨_, h⟩ := h
  cases q : H x with
  | none => rfl
  | some o =>
    by_cases h1 : x = S.s
    · rw [h1, h.hs] at e; cases e
    · by_cases h2 : x = S.p
      · rw [h2, h.hp] at e; cases e
      · rw [k x o h1 h2 q] at e; cases e
/-- a list of one's own, new behind H, is neither of the stream's -/
theorem Keep.mine {S : Sm} {H H' H2 : Hp} {t : Int} {x : Addr} {o : HO} (k : Keep S H' H2) (h : Strm S H t) (n : H x = none) (e : H' x = some o) : H2 x = some o := by
  obtain ⟨_, h⟩ := h
  refine k x o (fun z => ?_) (fun z => ?_) e
  · rw [z, h.hs] at n; cases n
  · rw [z, h.hp] at n; cases n

theorem dpInts {K : PySem.W.Frag} {H : Hp} : ∀ ns : List Int, DpAll K H (ns.map V.int) (ns.map PyData.int)
  | [] => .nil
  | n :: ns => .cons (.int n) (dpInts ns)
theorem ke_shaped (ns : List Int) : SeqAt.shaped (.list (ns.map PyData.int)) = true := by
  have h1 : ∀ ns : List Int, PyData.canLay0 (.list (ns.map PyData.int)) = true := by
    intro ns
    induction ns with
    | nil => rfl
    | cons n ns ih => simpa [PyData.canLay0, PyData.canLayAll0] using ih
  have h2 : ∀ ns : List Int, PyData.depth (.list (ns.map PyData.int)) ≤ 2 := by
    intro ns
    induction ns with
    | nil => decide
    | cons n ns ih => simp only [PyData.depth, PyData.depthAll, List.map] at ih ⊢; omega
  unfold SeqAt.shaped
  rw [h1 ns, decide_eq_true (Nat.le_trans (h2 ns) (by decide))]
  rfl
theorem ix0 {n : Nat} (h : 0 < n) : ixN n 0 = some 0 := by
  have h2 : (0 : Int) < n := by omega
  simp [ixN]; omega
theorem sq0 {n : Nat} (h : 0 < n) : seqIndex? 0 n = some 0 := (ixN_seq (ix0 h)).1
theorem pm31 {x : Int} : x % 2147483647 < 2147483647 ∧ 0 ≤ x % 2147483647 := ⟨Int.emod_lt_of_pos _ (by decide), Int.emod_nonneg _ (by decide)⟩
theorem pm87 {x : Int} : x % 2147483587 < 2147483587 ∧ 0 ≤ x % 2147483587 := ⟨Int.emod_lt_of_pos _ (by decide), Int.emod_nonneg _ (by decide)⟩

def spDraw : Sp := fun vs H Q _ => ∃ (S : Sm) (t m : Int), vs = [.ref S.s, .int m] ∧ Strm S H t ∧ 0 < m ∧ m < 1073741824 ∧ t < 1000000000000 ∧
  ∀ (H' : Hp) (r t' : Int), Keep S H H' → Strm S H' t' → t ≤ t' → t' ≤ t + 1 → 0 ≤ r → r < m → Q (.int r) H'
theorem sz {n : Nat} (h : n ≤ 1000) : n ≤ sizeLine := Nat.le_trans h (by decide)
theorem small64 {n : Nat} (h : n ≤ 1000) : n < sizeLine := Nat.lt_of_le_of_lt h (by decide)
def ab (i : Int) : Int := if i < 0 then -i else i
def spStream (K : PySem.W.Frag) : Sp := fun vs H Q _ => ∃ (a : Addr) (ns : List Int), vs = [.ref a] ∧ SqL K H a (ns.map V.int) ∧ ns.length ≤ 63 ∧
  ∀ (H' : Hp) (S : Sm), Same H H' → Strm S H' 0 → Q (.ref S.s) H'
end XT
namespace XT
open PySem PySem.Spec PyProof.Rows L2

/-! comprehensions whose turns only lay new things -/
theorem take_one {α β : Type} (f : α → β) (p : α → Bool) {xs : List α} {i : Nat} {x : α} (h : xs[i]? = some x) :
    ((xs.take (i + 1)).filter p).map f = ((xs.take i).filter p).map f ++ (if p x = true then [f x] else []) := by
  rw [List.take_add_one, h, List.filter_append, List.map_append]
  by_cases hp : p x = true
  · simp [hp]
  · simp [hp]
theorem flt_len {α β : Type} (f : α → β) (p : α → Bool) (xs : List α) (i : Nat) : (((xs.take i).filter p).map f).length ≤ i := by
  rw [List.length_map]
  exact Nat.le_trans (List.length_filter_le _ _) (by rw [List.length_take]; exact Nat.min_le_left _ _)

section
variable {K : PySem.W.Frag} {a : Addr} {g : TG} {tt : TT} {te : TE} {vs : List Nat} {σ : L2.St} {H1 : Hp} {D : Addr} {Qd : Hp → Prop}
/-- what one turn must do -/
def TurnP (g : TG) (tt : TT) (te : TE) (vs : List Nat) (σ : L2.St) (x y : V) (keep : Bool) (H : Hp) : Prop :=
  ∀ (R1 : Hp → Prop) (R2 : V → Hp → Prop), (keep = false → ∀ H3, Same H H3 → R1 H3) → (keep = true → ∀ H4, Same H H4 → R2 y H4) →
    g x (wipe σ vs) H fun σ2 H2 => wipe σ2 vs = wipe σ vs ∧ tt σ2 H2 fun b H3 => if b = true then te σ2 H3 R2 else R1 H3
/-- the invariant -/
def PvP (H1 : Hp) (D : Addr) (ys : List V) (H : Hp) : Prop := Same H1 H ∧ H D = some (.lst ys)
theorem pvp_turn {x y : V} {keep : Bool} {H : Hp} {ys : List V} (nD : H1 D = none) (h : PvP H1 D ys H) (hl : ys.length < sizeLine) (ht : TurnP g tt te vs σ x y keep H) (zs : List V) (ez : zs = ys ++ (if keep = true then [y] else [])) :
    g x (wipe σ vs) H fun σ2 H2 => wipe σ2 vs = wipe σ vs ∧ tt σ2 H2 fun b H3 =>
      if b = true then te σ2 H3 fun y H4 => ∃ acc, H4 D = some (.lst acc) ∧ acc.length < sizeLine ∧ PvP H1 D zs (upd H4 D (.lst (acc ++ [y]))) else PvP H1 D zs H3 := by
  obtain ⟨sm, hD⟩ := h
  refine ht _ _ (fun hk H3 s3 => ?_) (fun hk H4 s4 => ?_)
  · subst hk
    refine ⟨sm.trans s3, ?_⟩
    rw [ez, s3 _ _ hD]
    simp
  · subst hk
    refine ⟨ys, s4 _ _ hD, hl, fun b o e => ?_, ?_⟩
    · rw [upd_ne (ne_of_none e nD)]
      exact s4 _ _ (sm _ _ e)
    · rw [upd_same, ez]
      rfl
theorem lcp_list {xs : List V} (p : V → Bool) (f : V → V) (nD : H1 D = none) (hA : SqL K H1 a xs) (hz : xs.length < sizeLine) (ht : ∀ (i : Nat) x H, xs[i]? = some x → Same H1 H → TurnP g tt te vs σ x (f x) (p x) H)
    (hd : ∀ H, Same H1 H → H D = some (.lst ((xs.filter p).map f)) → Qd H) :
    ∃ W : Nat → Nat → Hp → Prop, (∃ m, W 0 m (upd H1 D (.lst []))) ∧ ∀ i m H, W i m H →
      ((Itl K a).stop i H ∧ Qd H) ∨ ((Itl K a).go i H ∧ ∃ Nx : Hp → Prop, (∀ H', Nx H' → ∃ m', m' < m ∧ W (i + 1) m' H') ∧ ∀ x H', (Itl K a).yld i H x H' → g x (wipe σ vs) H' fun σ2 H2 => wipe σ2 vs = wipe σ vs ∧ tt σ2 H2 fun b H3 =>
        if b = true then te σ2 H3 fun y H4 => ∃ acc, H4 D = some (.lst acc) ∧ acc.length < sizeLine ∧ Nx (upd H4 D (.lst (acc ++ [y]))) else Nx H3) := by
  refine lc_list (xs := xs) (fun i H => PvP H1 D (((xs.take i).filter p).map f) H) ⟨same_new nD, upd_same⟩ (fun i H _ h => h.1.seq hA) (fun i x H hx h => ?_) (fun H h => ?_)
  · have hi : i < xs.length := (List.getElem?_eq_some_iff.mp hx).1
    exact pvp_turn nD h (Nat.lt_of_le_of_lt (flt_len f p xs i) (Nat.lt_trans hi hz)) (ht i x H hx h.1) _ (take_one f p hx)
  · have h2 := h.2
    rw [List.take_length] at h2
    exact hd H h.1 h2
theorem Same.sqT {H H' : Hp} {a : Addr} {xs : List V} (e : Same H H') (h : SqT K H a xs) : SqT K H' a xs := by
  rcases h with (h | ⟨o, h⟩) | h
  · exact .inl (.inl (e _ _ h))
  · exact .inl (.inr ⟨o, e _ _ h⟩)
  · exact .inr h
theorem lcp_tup {xs : List V} (p : V → Bool) (f : V → V) (nD : H1 D = none) (hA : SqT K H1 a xs) (hz : xs.length < sizeLine) (ht : ∀ (i : Nat) x H, xs[i]? = some x → Same H1 H → TurnP g tt te vs σ x (f x) (p x) H)
    (hd : ∀ H, Same H1 H → H D = some (.lst ((xs.filter p).map f)) → Qd H) :
    ∃ W : Nat → Nat → Hp → Prop, (∃ m, W 0 m (upd H1 D (.lst []))) ∧ ∀ i m H, W i m H →
      ((Itt K a).stop i H ∧ Qd H) ∨ ((Itt K a).go i H ∧ ∃ Nx : Hp → Prop, (∀ H', Nx H' → ∃ m', m' < m ∧ W (i + 1) m' H') ∧ ∀ x H', (Itt K a).yld i H x H' → g x (wipe σ vs) H' fun σ2 H2 => wipe σ2 vs = wipe σ vs ∧ tt σ2 H2 fun b H3 =>
        if b = true then te σ2 H3 fun y H4 => ∃ acc, H4 D = some (.lst acc) ∧ acc.length < sizeLine ∧ Nx (upd H4 D (.lst (acc ++ [y]))) else Nx H3) := by
  refine lc_tup (xs := xs) (fun i H => PvP H1 D (((xs.take i).filter p).map f) H) ⟨same_new nD, upd_same⟩ (fun i H _ h => Same.sqT h.1 hA) (fun i x H hx h => ?_) (fun H h => ?_)
  · have hi : i < xs.length := (List.getElem?_eq_some_iff.mp hx).1
    exact pvp_turn nD h (Nat.lt_of_le_of_lt (flt_len f p xs i) (Nat.lt_trans hi hz)) (ht i x H hx h.1) _ (take_one f p hx)
  · have h2 := h.2
    rw [List.take_length] at h2
    exact hd H h.1 h2
theorem lcp_range {n : Nat} (p : Nat → Bool) (f : Nat → V) (nD : H1 D = none) (hz : n < sizeLine) (ht : ∀ (i : Nat) H, i < n → Same H1 H → TurnP g tt te vs σ (.int (0 + (i : Int))) (f i) (p i) H)
    (hd : ∀ H, Same H1 H → H D = some (.lst (((List.range n).filter p).map f)) → Qd H) :
    ∃ W : Nat → Nat → Hp → Prop, (∃ m, W 0 m (upd H1 D (.lst []))) ∧ ∀ i m H, W i m H →
      ((Itr 0 n).stop i H ∧ Qd H) ∨ ((Itr 0 n).go i H ∧ ∃ Nx : Hp → Prop, (∀ H', Nx H' → ∃ m', m' < m ∧ W (i + 1) m' H') ∧ ∀ x H', (Itr 0 n).yld i H x H' → g x (wipe σ vs) H' fun σ2 H2 => wipe σ2 vs = wipe σ vs ∧ tt σ2 H2 fun b H3 =>
        if b = true then te σ2 H3 fun y H4 => ∃ acc, H4 D = some (.lst acc) ∧ acc.length < sizeLine ∧ Nx (upd H4 D (.lst (acc ++ [y]))) else Nx H3) := by
  refine lc_range (lo := 0) (n := n) (fun i H => PvP H1 D ((((List.range n).take i).filter p).map f) H) ⟨same_new nD, upd_same⟩ (fun i H hi h => ?_) (fun H h => ?_)
  · have hx : (List.range n)[i]? = some i := List.getElem?_range hi
    exact pvp_turn nD h (Nat.lt_of_le_of_lt (flt_len f p _ i) (Nat.lt_trans hi hz)) (ht i H hi h.1) _ (take_one f p hx)
  · have h2 := h.2
    rw [List.take_of_length_le (by rw [List.length_range]; exact Nat.le_refl _)] at h2
    exact hd H h.1 h2
end
end XT
/-! set(list of ints); sorted(set of ints) of any number -/
namespace XT
open PySem PySem.Spec PyProof.Rows L2
abbrev newS (w : World) : Obj := { cls := .type "set", dict := none, data := .set #[] 0 (.fresh 0 0 (!w.params.followText "set-order")) }
section
variable {P : Program} {w : World} {A : Around} {E : Value → Shared → Prop} {s : Shared}
abbrev afterS (w : World) (s : Shared) (ns : List Int) (r : Value) (s2 : Shared) : Prop :=
  r = .none ∧ ∃ (hp : Heap) (tk c : Nat), s2 = { s with heap := hp, toks := tk } ∧ SetR w hp s.heap.objs.size (fun j => decide (j ∈ ns)) c ∧ c ≤ ns.length ∧ (∀ b o, s.heap.get? b = some o → hp.get? b = some o)
abbrev withS (w : World) (s : Shared) : Shared := { s with heap := s.heap.push (newS w) }
theorem items_at {items : Array Value} {ns : List Int} (hit : IntsAre items.toList ns) (hz : items.size = ns.length) (i : Nat) (v : Value) (hv : items[i]? = some v) : ∃ k t, ns[i]? = some k ∧ v = .int k t := by
  have hi : i < ns.length := by rw [← hz]; exact (Array.getElem?_eq_some_iff.mp hv).1
  obtain ⟨t, e⟩ := IntsAre.int_at hit i v (by rw [Array.getElem?_toList]; exact hv)
  exact ⟨ns[i], t, List.getElem?_eq_getElem hi, by rw [e, List.getD_eq_getElem?_getD, List.getElem?_eq_getElem hi] <;> rfl⟩
theorem set_listI {l : Addr} {items : Array Value} (ns : List Int) {Q : Value → Shared → Prop} (hh : A.handled = none) (hl : s.heap.IsList l items) (hit : IntsAre items.toList ns) (hb : ns.length + 1 < scanBound)
    (h : ∀ (hp : Heap) (tk c : Nat), SetR w hp s.heap.objs.size (fun j => decide (j ∈ ns)) c → c ≤ ns.length → (∀ b o, s.heap.get? b = some o → hp.get? b = some o) → Q (.ref s.heap.objs.size) { s with heap := hp, toks := tk }) :
    wpAny (model P w) A (call (.type "set") [.ref l]) Q E s := by
  have hz : items.size = ns.length := by
    have e := IntsAre.length hit
    rwa [Array.length_toList] at e
  obtain ⟨mc, mt, m0⟩ := F.called_set.mro
  have m1 := F.called_set.made
  have m2 := F.called_set.sub
  have m3 := F.called_set.notType
  have m4 := F.called_set.canCreate
  have m5 := F.typeCall_set_1 (.ref l)
  refine wpAny_call (codeAny_of_tree ?_)
  show wpAny _ _ (callAny (.type "set") _) _ _ _
  refine wpAny_pure ⟨Code.quiet_builtin _ (by decide +kernel), codeAny_builtin F.entry_type_call ?_⟩
  rw [Around.under_plain (weight_type_call_type "set" [.ref l] []) rfl]
  repeat (any_goals (first | assumption | wp_step))
  refine codeAny_mono (code_set_led1 (.ref l) (E := E) (Q₁ := fun v s1 => v = .ref s.heap.objs.size ∧ s1 = withS w s) ⟨rfl, rfl⟩) fun r s1 hr => ?_
  match r, hr with
  | .error e, hr => exact hr
  | .ok .next, hr => exact hr.elim
  | .ok .brk, hr => exact hr.elim
  | .ok .cont, hr => exact hr.elim
  | .ok (.ret v), hr =>
    obtain ⟨rfl, rfl⟩ := hr
    have g0 : (s.heap.push (newS w)).get? s.heap.objs.size = some (newS w) := Heap.get?_push_size _ rfl
    have g1 : Shared.TypeIs (withS w s) (.ref s.heap.objs.size) "set" := ⟨_, g0, rfl⟩
    have g2 := F.called_set.init.lookup
    have g3 := F.called_set.init.bind (.ref s.heap.objs.size)
    repeat (any_goals (first | assumption | wp_step))
    refine codeAny_mono (codeAny_call_builtin (R := wants (afterS w s ns) E) F.called_set.init.plain F.entry_set_init (check_set_init_1 g1 ?_)) fun r2 s2 hr2 => ?_
    · obtain ⟨ol, hol, hcl, nl, hdl⟩ := hl
      obtain ⟨oc, od, odt, osl⟩ := ol
      simp only at hcl hdl
      subst hcl hdl
      have hol1 : (s.heap.push (newS w)).get? l = some { cls := .type "list", dict := od, data := .seq items nl, slots := osl } := Heap.get?_push_of_some _ hol
      have n1 := F.sub_list_set
      have n2 := F.sub_list_frozenset
      have n3 : (Value.type "list" == Value.type "dict") = false := by decide
      have hl1 : (s.heap.push (newS w)).IsList l items := ⟨_, hol1, rfl, nl, rfl⟩
      have lS : l < s.heap.objs.size := Heap.lt_size hol
      have z1 : (s.heap.push (newS w)).objs.size = s.heap.objs.size + 1 := Heap.size_push ..
      unfold Builtin.«set.__init__» noKeywords Builtin.Frozenset.updateFrom
      generalize hPI : pyIter = PI
      wp_walk
      subst hPI
      refine wpAny_pyIter_list hl1 (wpAny_bind (wpAny_runValue ?_))
      refine set_update_ints ((Walks.list (by simp [hh]) _ l (by rw [z1]; exact Nat.ne_of_lt (Nat.lt_succ_of_lt lS)) items).toS) s.heap.objs.size (by rw [z1]; simp only [List.mem_cons, List.not_mem_nil, or_false, not_or]; exact ⟨Nat.ne_of_lt (Nat.lt_succ_self _), Nat.ne_of_gt lS⟩) ns hz hb (items_at hit hz) (items.size - 0) 0 _ (by omega) (Nat.zero_le _)
        ⟨⟨_, Heap.get?_push_size _ rfl, rfl, rfl⟩, hl1.push _⟩ ⟨0, Nat.le_refl 0, setR_new_at (Heap.get?_push_of_some _ g0)⟩ ?_
      intro s3 c hm hc hS
      obtain ⟨h3, ge, dr, tk, os⟩ := s3
      obtain rfl : ge = s.gens := hm.gens
      obtain rfl : dr = s.drawn := hm.drawn
      obtain rfl : os = s.os := hm.os
      show wpAny _ _ _ _ _ _
      refine wpAny_pure ?_
      show wpAny _ _ (ret Value.none) _ _ _
      rw [hz] at hc
      refine wpAny_pure ⟨rfl, h3, tk, c, rfl, hS, hc, fun b o e => ?_⟩
      have b0 : b < s.heap.objs.size := Heap.lt_size e
      exact hm.heap b o (by rw [z1]; simp only [List.mem_cons, List.not_mem_nil, or_false, not_or]; exact ⟨Nat.ne_of_lt b0, Nat.ne_of_lt (Nat.lt_succ_of_lt b0)⟩) (Heap.get?_push_of_some _ (Heap.get?_push_of_some _ e))
    · match r2, hr2 with
      | .error e, hr2 => exact hr2
      | .ok .next, hr2 => exact hr2.elim
      | .ok .brk, hr2 => exact hr2.elim
      | .ok .cont, hr2 => exact hr2.elim
      | .ok (.ret v), hr2 =>
        obtain ⟨rfl, hp, tk, c, rfl, hS, hc, hk⟩ := hr2
        repeat (any_goals (first | assumption | wp_step))
        exact h _ _ _ hS hc hk
end
end XT
namespace XT
open PySem PySem.Spec PyProof.Rows L2
section
variable {P : Program} {w : World} {A : Around} {E : Value → Shared → Prop} {s : Shared} {a : Addr}
theorem iv_raw (v : Value) (h : ∃ k t, v = Value.int k t) : SrtO.iv v = Builtin.Re.reRawOf v := by
  obtain ⟨k, t, rfl⟩ := h
  rfl
/-- sorted(set of ints), however many -/
theorem sorted_setN {S : Int → Bool} {n : Nat} {Q : Value → Shared → Prop} (R : SetR w s.heap a S n) (hh : A.handled = none)
    (hQ : ∀ s2 p (out : List Value) (c : Nat) (ns : List Int), (∀ b o, s.heap.get? b = some o → s2.heap.get? b = some o) → s2.gens = s.gens → s2.os = s.os → s.heap.objs.size ≤ p →
      s2.heap.get? p = some (seqObj "list" out.toArray c) → IntsAre out ns → ns.Pairwise (· < ·) → (∀ k, k ∈ ns ↔ S k = true) → ns.length = n → Q (.ref p) s2) :
    wpAny (model P w) A (call (.builtin "sorted") [.ref a]) Q E s := by
  obtain ⟨o, es, ep, t, ho, hex, hd, g, nd, hm, hb, hf, hn, hr, hl⟩ := R
  refine Calls.call_function_entry kind_sorted plain_sorted entry_sorted (args_sorted1 _) ?_
  unfold Builtin.«sorted»
  refine wpAny_bind (m := checkCount "sorted" 1 1 _) (wpAny_pure (wpAny_bind (collect_set (A := A.in1) hh ⟨o, ho, hex.1, hd⟩ hf hb hr hl fun s1 vs k1 hz g1 o1 pm => ?_)))
  have vl : vs.length = n := by rw [pm.length_eq, List.length_map, Array.length_toList]; exact hn
  have n0 : n ≤ sizeLine := by rw [sizeLine_eq]; unfold scanBound at hb; omega
  have allI : ∀ v ∈ vs, ∃ k t, v = Value.int k t := fun v hv => by
    obtain ⟨e, he, q⟩ := List.mem_map.mp (pm.mem_iff.mp hv)
    obtain ⟨k, tk, h1, _⟩ := g e he
    exact ⟨k, tk, by rw [← q]; exact h1⟩
  have hI : IntsAre vs (vs.map SrtO.iv) := SrtO.ints_iv allI
  have pk : (vs.map SrtO.iv).Perm (es.toList.map keyOf) := by
    have e1 : vs.map SrtO.iv = vs.map Builtin.Re.reRawOf := List.map_congr_left fun v hv => iv_raw v (allI v hv)
    have q := pm.map Builtin.Re.reRawOf
    rw [List.map_map] at q
    rw [e1]
    exact q
  refine wpAny_bind (wpAny_newList ?_ (by rw [vl]; exact n0))
  have hoL : (s1.heap.push (seqObj "list" vs.toArray 0)).get? s1.heap.objs.size = some (seqObj "list" vs.toArray 0) := Heap.get?_push_size _ rfl
  refine wpAny_bind (wpAny_holding (wpAny_call_entry slot_list_sort ⟨_, hoL, rfl⟩ entry_list_sort (SrtO.list_sort_ord SrtO.swo_int hoL (by rw [vl]; exact n0) (fun h2 => SrtO.ints_sortable hI h2) fun out a1 a2 => ⟨_, rfl, ?_⟩) (args_list_sort _)))
  obtain ⟨j1, j2, j3⟩ := SrtO.ints_out hI a1 a2
  obtain ⟨c, hc⟩ := sortedHeap_at (vs := vs) (out := out.toArray) hoL
  have pn := j2.trans pk
  refine wpAny_pure ⟨_, rfl, hQ _ s1.heap.objs.size out c _ (fun b u e => ?_) g1 o1 hz hc j1 (lt_of_le_nodup _ j3 (pn.nodup_iff.mpr nd)) (fun k => by rw [pn.mem_iff, ← hm k]) ?_⟩
  · have q := k1 b u e
    have lt := Heap.lt_size q
    show (sortedHeap (s1.heap.push (seqObj "list" vs.toArray 0)) s1.heap.objs.size vs out.toArray).get? b = some u
    rw [sortedHeap_old (Nat.ne_of_lt lt) (by rw [size_push']; exact Nat.lt_succ_of_lt lt)]
    exact Heap.get?_push_of_some _ q
  · rw [pn.length_eq, List.length_map, Array.length_toList]; exact hn
end
section
variable {X : Cx}
/-- set(xs), a list of ints -/
def rSetL (K : PySem.W.Frag) (w : World) : List V → Hp → VK → Prop := fun vs H Q => ∃ (a : Addr) (ns : List Int), vs = [V.ref a] ∧ SqL K H a (ns.map V.int) ∧ ns.length ≤ 1000 ∧
  ∀ (p : Addr) (c : Nat), H p = none → Q (.ref p) (upd H p (SetO w p (fun j => decide (j ∈ ns)) c))
theorem cr_setL (hc : X.calm = true) : CallR X (.type "set") (XT.rSetL X.K X.w) := by
  intro pins s σ H vs us Q I r h
  obtain ⟨a, ns, rfl, hs, hn, q⟩ := h
  obtain ⟨its, rv, hl, hz⟩ := I.list hs
  rw [Vals.ref1 r]
  refine set_listI ns (I.ok.hd hc) hl.isList (by simpa using rv.ints) (by unfold scanBound; omega) fun hp tk c hS hcn hk => ?_
  exact ⟨.ref _, _, I.laid (t' := tk) hk (Nat.le_refl _) (setO_new hS), rfl, q _ c (I.hok.fresh (Nat.le_refl _))⟩
/-- sorted(found) -/
def rSortS (w : World) : List V → Hp → VK → Prop := fun vs H Q => ∃ (a : Addr) (S : Int → Bool) (n : Nat), vs = [V.ref a] ∧ H a = some (SetO w a S n) ∧
  ∀ (ns : List Int) (p : Addr), ns.Pairwise (· < ·) → (∀ k : Int, k ∈ ns ↔ S k = true) → H p = none → Q (.ref p) (upd H p (.lst (ns.map V.int)))
theorem cr_sortS (hc : X.calm = true) : CallR X (.builtin "sorted") (rSortS X.w) := by
  intro pins s σ H vs us Q I r h
  obtain ⟨a, S, n, rfl, ha, q⟩ := h
  have R := setO_get I ha
  have n0 : n ≤ sizeLine := by
    obtain ⟨_, _, _, _, _, _, _, _, _, _, hb, _, hn, _⟩ := R
    rw [sizeLine_eq]; unfold scanBound at hb; omega
  rw [Vals.ref1 r]
  refine sorted_setN R (I.ok.hd hc) fun s2 p out c ns k g o hp hg hi hs hm hl => ?_
  have hn : H p = none := I.hok.fresh hp
  have J : Inv X pins σ (upd H p (.lst (ns.map V.int))) { s with heap := s2.heap, gens := s2.gens, drawn := s2.drawn, toks := s2.toks } :=
    I.call (ch := []) (Un.laid k hp hn) (I.hok.laid k hp ⟨by rw [List.length_map, hl]; exact n0, out, c, vals_of_ints hi, hg⟩) (by rw [g]; exact I.bare) (fun _ z => nomatch z)
  have e : s2 = { s with heap := s2.heap, gens := s2.gens, drawn := s2.drawn, toks := s2.toks } := by
    cases s2; cases s; cases o; rfl
  rw [e]
  exact ⟨.ref p, _, J, rfl, q ns p hs hm hn⟩
end
end XT
/-! for i, x in enumerate(t), t a tuple -/
namespace XT
open PySem PySem.Spec PyProof.Rows L2
abbrev enO (it : Addr) : Obj := { cls := .type "enumerate", data := .fields #[.none, .bool false, .ref it, rawInt 0, .none, .none] }
abbrev tiO (t : Addr) : Obj := { cls := .type "tuple_iterator", data := .fields #[.ref t, .int 0 0] }
theorem newEnumT (t : Addr) (items : Array Value) : Meets (Builtin.«enumerate.__new__» ⟨[.type "enumerate", .ref t], []⟩)
    (fun _ R s => s.heap.IsTuple t items ∧ R (.ok (.ret (.ref (s.heap.push (tiO t)).objs.size))) { s with heap := (s.heap.push (tiO t)).push (enO s.heap.objs.size) }) :=
  .of_wp fun prog w A R s h => by
    obtain ⟨hp, ge, dr, tk, os⟩ := s
    obtain ⟨h1, h2⟩ := h
    have sb := sub_enumerate
    have q : ∀ {A2 : Around} {E : Value → Shared → Prop} {Q : Value → Shared → Prop}, Q (.ref hp.objs.size) ⟨hp.push (tiO t), ge, dr, tk, os⟩ → wpAny (model prog w) A2 (pyIter (.ref t)) Q E ⟨hp, ge, dr, tk, os⟩ :=
      fun z => wpAny_pyIter_tuple (s := ⟨hp, ge, dr, tk, os⟩) h1 z
    wp_walk using q
    refine wpAny_stack_any fun st => wpAny_pure ?_
    split
    · rename_i c _ _ _ _ _
      cases (c == Value.type "enumerate") <;> (wp_walk using q; exact ⟨_, rfl, h2⟩)
    · wp_walk using q
      exact ⟨_, rfl, h2⟩
section
variable {prog : Program} {w : World} {A : Around} {E : Value → Shared → Prop} {s : Shared}
theorem call_enumT {t : Addr} {items : Array Value} {Q : Value → Shared → Prop} (hT : s.heap.IsTuple t items)
    (h : ∀ hp, IsEnum hp (s.heap.objs.size + 1) s.heap.objs.size 0 .none → hp.IsTupleIter s.heap.objs.size t 0 → (∀ b o, s.heap.get? b = some o → hp.get? b = some o) → Q (.ref (s.heap.objs.size + 1)) { s with heap := hp }) :
    wpAny (model prog w) A (call (.type "enumerate") [.ref t]) Q E s := by
  refine callType_new F.called_enumerate (by decide) (F.typeCall_enumerate_1 _) (F.newCall_enumerate_1 _) (fun obj => F.args_object_init_2 obj _) F.entry_enumerate_new (newEnumT t items) ⟨hT, ?_⟩
  have z : (s.heap.push (tiO t)).objs.size = s.heap.objs.size + 1 := Heap.size_push ..
  have e0 := Heap.get?_push_size (s.heap.push (tiO t)) (o := enO s.heap.objs.size) rfl
  rw [z] at e0
  show _ ∧ _
  rw [z]
  exact ⟨⟨_, e0, rfl⟩, h _ e0 ⟨_, Heap.get?_push_of_some _ (Heap.get?_push_size _ rfl), rfl, rfl⟩ fun b o x => Heap.get?_push_of_some _ (Heap.get?_push_of_some _ x)⟩
end
/-- the tuple at a, its items in new pairs with their places -/
def ItT (K : PySem.W.Frag) (a : Addr) : It :=
  ⟨fun i H => ∃ (xs : List V) (x : V), SqT K H a xs ∧ xs[i]? = some x,
   fun i H v H2 => ∃ T x, v = .ref T ∧ H T = none ∧ H2 = upd H T (.tup [.int (i : Nat), x]) ∧ ∀ xs, SqT K H a xs → xs[i]? = some x,
   fun i H => ∃ xs : List V, SqT K H a xs ∧ xs.length = i⟩
theorem turn_enumT {P : Program} {w : World} {K : PySem.W.Frag} {elts : List Expr} {kk : Nat} {tpos : Pos} (a e it : Addr) (hne : e ≠ it) (hai : a ≠ it) (hae : e ≠ a) :
    Turn P w K (.Tuple elts kk tpos) (ItT K a) [e, it] e (fun i h => (∃ old, IsEnum h e it ((i : Nat) : Int) old) ∧ h.IsTupleIter it a i) where
  mem := List.mem_cons_self
  obj := fun i h st b hb => by
    obtain ⟨⟨old, he⟩, ⟨o, ho, hc, hd⟩⟩ := st
    rcases List.mem_cons.mp hb with z | z
    · rw [z]; exact ⟨_, he, fun v q => nomatch q⟩
    · rw [List.mem_singleton.mp z]; exact ⟨o, ho, fun v q => by rw [hd] at q; cases q⟩
  keep := fun i h h2 st k => ⟨let ⟨old, he⟩ := st.1; ⟨old, k e (by simp) _ he⟩, st.2.at fun o q => k it (by simp) o q⟩
  item := by
    intro X hP hw hK hc i pins s σ H E I hf st hg
    subst hP hw hK
    obtain ⟨⟨old, he⟩, hit⟩ := st
    obtain ⟨xs, x, hq, hx⟩ := hg
    obtain ⟨its, rv, p, hz⟩ := I.tuple hq
    obtain ⟨u, hu, ru⟩ := rv.get hx
    have p' : s.heap.IsTuple a its.toArray := p
    have el : e < s.heap.objs.size := Heap.lt_size he
    have il : it < s.heap.objs.size := by obtain ⟨_, q, _⟩ := hit; exact Heap.lt_size q
    have hi : i < its.toArray.size := by
      rw [List.size_toArray]; exact (List.getElem?_eq_some_iff.mp hu).1
    refine wpAny_pyNext_enum_itemD (Draws.tuple (A := X.A.in1) (I.ok.hd hc) it a hai its.toArray) he ⟨hit, p'⟩ hi hne (by simp [hne, hae]) fun y h1 tk hy ho hit1 hT hsz hk => ?_
    have ey : y = u := by
      have q : its.toArray[i]? = some u := by simpa using hu
      exact Option.some.inj (hy.symm.trans q)
    subst ey
    refine ⟨_, rfl, wpAny_letOwnedTupleGo_enum (s := { s with heap := h1, toks := tk + 1 }) ho fun h2 he2 sb => ?_⟩
    have gT : h2.get? s.heap.objs.size = some { cls := .type "tuple", data := .seq #[.int i tk, y] } := (sb.2 _ (Nat.ne_of_gt el)).trans hT
    have new : ObjOk X.prog X.w (upd H s.heap.objs.size (.tup [.int (i : Nat), x])) h2 s.heap.objs.size (.tup [.int (i : Nat), x]) :=
      ⟨sz (n := 2) (by decide), [.int i tk, y], .cons ⟨_, rfl⟩ (.cons ru .nil), ⟨_, gT, rfl, _, rfl⟩⟩
    have J := I.turnedNew (t' := tk + 1) (ch := [e, it]) (fun b ob hb q => (sb.2 b (fun z => hb (by simp [z]))).trans (hk b ob (fun z => hb (by simp [z])) (fun z => hb (by simp [z])) q)) hf (Nat.le_refl _) new
    refine ⟨.ref s.heap.objs.size, _, J, rfl, ⟨_, x, rfl, I.hok.fresh (Nat.le_refl _), rfl, fun ys hy => by rw [I.tuple_inj hy hq]; exact hx⟩, ⟨⟨y, ?_⟩, hit1.1.at fun o q => (sb.2 it (Ne.symm hne)).trans q⟩, fun b hb => ?_⟩
    · rw [show ((i + 1 : Nat) : Int) = (i : Int) + 1 by omega]; exact he2
    · have hb2 : b < s.heap.objs.size := by
        rcases List.mem_cons.mp hb with z | z
        · rw [z]; exact el
        · rw [List.mem_singleton.mp z]; exact il
      rw [upd_ne (Nat.ne_of_lt hb2)]
      exact (hf b hb).1
  done := by
    intro X hP hw hK hc i pins s σ H E I hf st hg
    subst hP hw hK
    obtain ⟨⟨old, he⟩, hit⟩ := st
    obtain ⟨xs, hq, hx⟩ := hg
    obtain ⟨its, rv, p, hz⟩ := I.tuple hq
    obtain ⟨f0, f1, f2, f3, f4, f5⟩ := hf it (by simp)
    have hl : its.toArray.size = i := by rw [List.size_toArray, ← rv.length]; exact hx
    have D := Draws.tuple (prog := X.prog) (w := X.w) (A := X.A.in1) (I.ok.hd hc) it a hai its.toArray
    rw [hl] at D
    exact wpAny_pyNext_enum_endD D he ⟨hit, p⟩ fun h2 eb => ⟨rfl, I.turned (t' := s.toks) (fun b o hb q => eb b o hb q) f0 f1 f3 f4 f5⟩
  self := fun A i s Q E st h => let ⟨⟨_, he⟩, _⟩ := st; wpAny_pyIter_enum he h
def iEnT (K : PySem.W.Frag) (ta : TA) : TI := fun σ H R => ta σ H fun vs H1 => ∃ a xs, vs = [.ref a] ∧ SqT K H1 a xs ∧ R (ItT K a) H1
theorem pi_enumT {X : Cx} {e : Expr} {ta : TA} {p pos tpos : Pos} {elts : List Expr} {kk : Nat} (hg : Gl X "enumerate") (hm : X.mg "enumerate" = none) (ha : PA X [e] ta) (hs : starEach [e] X.env = [(false, eval e X.env)] := by rfl) :
    PI X (.Tuple elts kk tpos) (.Call (.Name "enumerate" p) [e] [] pos) (iEnT X.K ta) := by
  refine ⟨fun pins s σ H R I h => Call_ (ld_blt I hg hm boot_enumerate (callWith_type1 (thn (ha.run pos pins s σ H _ I h) fun us s1 ⟨vs, H1, I1, r1, q1⟩ => ?_) hs rfl))⟩
  obtain ⟨a, xs, ex, hq, q⟩ := q1
  subst ex
  obtain ⟨u, rfl, ru⟩ := vals1 r1
  cases (show u = Value.ref a from ru)
  obtain ⟨its, rv, p2, hz⟩ := I1.tuple hq
  have al : a < s1.heap.objs.size := by obtain ⟨o, ho, _⟩ := p2; exact Heap.lt_size ho
  refine call_enumT (items := its.toArray) p2 fun hp he hit hk => wpAny_pyIter_enum he ?_
  have I2 : Inv X pins σ H1 { s1 with heap := hp } := I1.kept (t' := s1.toks) hk
  refine ⟨s1.heap.objs.size + 1, [s1.heap.objs.size + 1, s1.heap.objs.size], _, _, H1, rfl, I2, turn_enumT a (s1.heap.objs.size + 1) s1.heap.objs.size (Nat.succ_ne_self _) (Nat.ne_of_lt al) (Nat.ne_of_gt (Nat.lt_succ_of_lt al)), ⟨⟨.none, he⟩, hit⟩, fun b hb => ?_, q⟩
  have hle : s1.heap.objs.size ≤ b := by
    rcases List.mem_cons.mp hb with z | z
    · rw [z]; exact Nat.le_succ _
    · rw [List.mem_singleton.mp z]; exact Nat.le_refl _
  exact I1.fpOk hle (I1.hok.fresh hle)
end XT
/-! lots as lists of numbers -/
namespace XT
open PySem PySem.Spec PyProof.Rows L2
def lotOf (w : Nat) (P : Nat → Bool) : List Nat := (List.range (2 ^ w)).filter P
def vm (ms : List Nat) : List V := ms.map fun (m : Nat) => V.int (m : Int)
theorem mem_lot {w : Nat} {P : Nat → Bool} {m : Nat} : m ∈ lotOf w P ↔ m < 2 ^ w ∧ P m = true := by
  unfold lotOf
  rw [List.mem_filter, List.mem_range]
theorem lot_congr {w : Nat} {P P' : Nat → Bool} (h : ∀ m, m < 2 ^ w → P m = P' m) : lotOf w P = lotOf w P' := by
  unfold lotOf
  exact List.filter_congr fun m hm => h m (List.mem_range.mp hm)
theorem pow6 {w : Nat} (h : w ≤ 6) : 2 ^ w ≤ 64 := by
  have : w = 0 ∨ w = 1 ∨ w = 2 ∨ w = 3 ∨ w = 4 ∨ w = 5 ∨ w = 6 := by omega
  rcases this with rfl | rfl | rfl | rfl | rfl | rfl | rfl <;> decide
theorem pow0 (w : Nat) : 0 < 2 ^ w := Nat.pow_pos (by decide)
theorem lot_len {w : Nat} (h : w ≤ 6) (P : Nat → Bool) : (lotOf w P).length ≤ 64 := by
  refine Nat.le_trans (List.length_filter_le _ _) ?_
  rw [List.length_range]
  exact pow6 h
theorem vm_len (ms : List Nat) : (vm ms).length = ms.length := List.length_map _
/-- two rising lists with the same members are one -/
theorem rising_eq : ∀ {l m : List Int}, l.Pairwise (· < ·) → m.Pairwise (· < ·) → (∀ k, k ∈ l ↔ k ∈ m) → l = m
  | [], [], _, _, _ => rfl
  | [], b :: m, _, _, h => absurd ((h b).mpr List.mem_cons_self) (by simp)
  | a :: l, [], _, _, h => absurd ((h a).mp List.mem_cons_self) (by simp)
  | a :: l, b :: m, hl, hm, h => by
    obtain ⟨l1, l2⟩ := List.pairwise_cons.mp hl
    obtain ⟨m1, m2⟩ := List.pairwise_cons.mp hm
    have e : a = b := by
      rcases List.mem_cons.mp ((h a).mp List.mem_cons_self) with e | e
      · exact e
      · rcases List.mem_cons.mp ((h b).mpr List.mem_cons_self) with e' | e'
        · exact e'.symm
        · have := m1 a e
          have := l1 b e'
          omega
    subst e
    congr 1
    refine rising_eq l2 m2 fun k => ⟨fun hk => ?_, fun hk => ?_⟩
    · rcases List.mem_cons.mp ((h k).mp (List.mem_cons_of_mem _ hk)) with e | e
      · have := l1 k hk
        omega
      · exact e
    · rcases List.mem_cons.mp ((h k).mpr (List.mem_cons_of_mem _ hk)) with e | e
      · have := m1 k hk
        omega
      · exact e
theorem range_rising (n : Nat) : ((List.range n).map fun (m : Nat) => (m : Int)).Pairwise (· < ·) := by
  rw [List.pairwise_map]
  exact List.pairwise_lt_range.imp fun h => by omega
theorem lot_rising (w : Nat) (P : Nat → Bool) : ((lotOf w P).map fun (m : Nat) => (m : Int)).Pairwise (· < ·) := by
  unfold lotOf
  have h := List.pairwise_map.mp (range_rising (2 ^ w))
  rw [List.pairwise_map]
  exact h.filter _
theorem rising_lot {w : Nat} {P : Nat → Bool} {ns : List Int} (h : ns.Pairwise (· < ·)) (hm : ∀ k, k ∈ ns ↔ ∃ m : Nat, k = m ∧ m < 2 ^ w ∧ P m = true) : ns.map V.int = vm (lotOf w P) := by
  have e : ns = (lotOf w P).map fun (m : Nat) => (m : Int) := rising_eq h (lot_rising w P) fun k => by
    rw [hm k, List.mem_map]
    constructor
    · rintro ⟨m, rfl, h1, h2⟩
      exact ⟨m, mem_lot.mpr ⟨h1, h2⟩, rfl⟩
    · rintro ⟨m, h1, rfl⟩
      exact ⟨m, rfl, mem_lot.mp h1⟩
  rw [e, List.map_map]
  rfl
theorem vm_ints (ms : List Nat) : vm ms = (ms.map fun (m : Nat) => (m : Int)).map V.int := by
  unfold vm
  rw [List.map_map]
  rfl
theorem vm_flat (ms : List Nat) : (vm ms).all flatV = true := by
  rw [List.all_eq_true]
  intro v hv
  obtain ⟨m, _, rfl⟩ := List.mem_map.mp hv
  rfl
theorem in_vm (k : Nat) (ms : List Nat) : inV (.int (k : Int)) (vm ms) = decide (k ∈ ms) := by
  rw [Bool.eq_iff_iff, decide_eq_true_iff]
  unfold inV
  rw [List.any_eq_true]
  constructor
  · rintro ⟨v, hv, e⟩
    obtain ⟨m, hm, rfl⟩ := List.mem_map.mp hv
    have e' : ((m : Int) == (k : Int)) = true := e
    have : (m : Int) = k := by simpa using e'
    have : m = k := by omega
    rw [← this]
    exact hm
  · intro h
    exact ⟨_, List.mem_map.mpr ⟨k, h, rfl⟩, by show ((k : Int) == (k : Int)) = true; simp⟩
theorem in_lot {w : Nat} {P : Nat → Bool} {k : Nat} (hk : k < 2 ^ w) : inV (.int (k : Int)) (vm (lotOf w P)) = P k := by
  rw [in_vm, Bool.eq_iff_iff, decide_eq_true_iff, mem_lot]
  exact ⟨fun h => h.2, fun h => ⟨hk, h⟩⟩
/-- a lot -/
def LotAt (H : Hp) (v : V) (w : Nat) (P : Nat → Bool) : Prop := ∃ p q, v = .ref p ∧ H p = some (.tup [.int (w : Int), .ref q]) ∧ H q = some (.tup (vm (lotOf w P)))
theorem LotAt.same {H H' : Hp} {v : V} {w : Nat} {P : Nat → Bool} (h : LotAt H v w P) (e : Same H H') : LotAt H' v w P := by
  obtain ⟨p, q, rfl, h1, h2⟩ := h
  exact ⟨p, q, rfl, e _ _ h1, e _ _ h2⟩
theorem LotAt.keep {S : Sm} {H H' : Hp} {t : Int} {v : V} {w : Nat} {P : Nat → Bool} (h : LotAt H v w P) (k : Keep S H H') (st : Strm S H t) : LotAt H' v w P := by
  obtain ⟨p, q, rfl, h1, h2⟩ := h
  exact ⟨p, q, rfl, k.tup st h1, k.tup st h2⟩
theorem LotAt.congr {H : Hp} {v : V} {w : Nat} {P P' : Nat → Bool} (h : LotAt H v w P) (e : ∀ m, m < 2 ^ w → P m = P' m) : LotAt H v w P' := by
  obtain ⟨p, q, rfl, h1, h2⟩ := h
  exact ⟨p, q, rfl, h1, by rw [← lot_congr e]; exact h2⟩
def dLot (w : Nat) (P : Nat → Bool) : PyData := .tuple [.int (w : Int), .tuple ((lotOf w P).map fun (m : Nat) => .int (m : Int))]
theorem dpVm {K : PySem.W.Frag} {H : Hp} : ∀ ms : List Nat, DpAll K H (vm ms) (ms.map fun (m : Nat) => .int (m : Int))
  | [] => .nil
  | m :: ms => .cons (.int m) (dpVm ms)
theorem LotAt.dp {K : PySem.W.Frag} {H : Hp} {v : V} {w : Nat} {P : Nat → Bool} (h : LotAt H v w P) : Dp K H v (dLot w P) := by
  obtain ⟨p, q, rfl, h1, h2⟩ := h
  exact .tup (SqT.of h1) (.cons (.int _) (.cons (.tup (SqT.of h2) (dpVm _)) .nil))
theorem ints_lay : ∀ ms : List Nat, PyData.canLayAll0 (ms.map fun (m : Nat) => PyData.int (m : Int)) = true
  | [] => rfl
  | m :: ms => by
    have h := ints_lay ms
    simpa [PyData.canLayAll0, PyData.canLay0] using h
theorem ints_depth : ∀ ms : List Nat, PyData.depthAll (ms.map fun (m : Nat) => PyData.int (m : Int)) ≤ 1
  | [] => by decide
  | m :: ms => by
    have h := ints_depth ms
    simp only [PyData.depthAll, PyData.depth, List.map] at h ⊢
    omega
theorem dLot_shaped (w : Nat) (P : Nat → Bool) : SeqAt.shaped (dLot w P) = true := by
  have h1 : PyData.canLay0 (dLot w P) = true := by
    have h := ints_lay (lotOf w P)
    simp [dLot, PyData.canLay0, PyData.canLayAll0, h]
  have h2 : PyData.depth (dLot w P) ≤ 64 := by
    have h := ints_depth (lotOf w P)
    simp only [dLot, PyData.depth, PyData.depthAll]
    omega
  unfold SeqAt.shaped
  rw [h1, decide_eq_true h2]
  rfl
theorem eqv_ints : ∀ ms : List Nat, PyData.eqvAll (ms.map fun (m : Nat) => PyData.int (m : Int)) (ms.map fun (m : Nat) => PyData.int (m : Int)) = true
  | [] => rfl
  | m :: ms => by
    have h := eqv_ints ms
    simp [PyData.eqvAll, PyData.eqv, h]
theorem eqv_lot {w : Nat} {P P' : Nat → Bool} (h : ∀ m, m < 2 ^ w → P m = P' m) : PyData.eqv (dLot w P) (dLot w P') = true := by
  unfold dLot
  rw [lot_congr h]
  simp [PyData.eqv, PyData.eqvAll, eqv_ints]
/-- a != b, two lots that are one -/
theorem ne_lot {K : PySem.W.Frag} {H : Hp} {x y : V} {w : Nat} {P P' : Nat → Bool} {Q : VK} (hx : LotAt H x w P) (hy : LotAt H y w P') (h : ∀ m, m < 2 ^ w → P m = P' m) (q : Q (.bl false) H) : rNeD K x y H Q := by
  refine ⟨_, _, hx.dp, hy.dp, dLot_shaped _ _, dLot_shaped _ _, ?_⟩
  rw [eqv_lot h]
  exact q
end XT
/-! the program's own defs -/
namespace XT
open PySem PySem.Spec PyProof.Rows L2
def DefR (P : Program) (w : World) (K : PySem.W.Frag) (mg : Str → Option Value) (base : Heap) (k : Nat) (x : Str) (sp : Sp) : Prop :=
  ∃ f, FnR P w K mg base CX0 k f sp ∧ mg x = some (.ref f) ∧ PySem.W.keepIn K (.ref f) = true
theorem DefR.of {P : Program} {w : World} {K : PySem.W.Frag} {mg : Str → Option Value} {base : Heap} {k : Nat} {x : Str} {sp : Sp} {f : Addr} {fd : FuncData} {ps : List Str}
    (F : FnOk P w K mg base CX0 k f fd ps sp) (b : Binds K fd ps []) (hm : mg x = some (.ref f)) (hk : PySem.W.keepIn K (.ref f) = true) : DefR P w K mg base k x sp :=
  ⟨f, (FnOk.raw F b .nil).imp fun vs H Q E h => by rw [List.append_nil]; exact h, hm, hk⟩
section
variable {X : Cx}
/-- f(e, ..) -/
theorem pe_def {j : Nat} {x : Str} {sp : Sp} {e : Expr} {es : List Expr} {t : TA} {p pos : Pos} (D : DefR X.prog X.w X.K X.mg X.base j x sp) (hr : Room j X.A) (hg : Gl X x) (ha : PA X (e :: es) t)
    (hdb : (x == ("__debug__" : Str)) = false := by decide) (he : starEach (e :: es) X.env = (false, eval e X.env) :: starEach es X.env := by rfl) (hpl : (backTo pos (starEach es X.env)).any (·.1) = false := by rfl) :
    PE X (.Call (.Name x p) (e :: es) [] pos) (fun σ H Q => t σ H fun vs H1 => sp vs H1 Q E0) := by
  obtain ⟨f, F, hm, hk⟩ := D
  refine ⟨fun pins s σ H Q I h => wpAny_Call_Name_kw (ld_glob I hg hm ?_ hdb)⟩
  refine PySem.W.callWith_K (h₀ := X.base) I.ok.mod.kin hk (thn (ha.run pos pins s σ H _ I h) fun us s1 ⟨vs, H1, I1, r, q⟩ => ⟨I1.kIn, ?_⟩) he hpl
  refine wpAny_call (codeAny_mono (run_fnR F hr pass0 I1 r q) fun r s2 z => ?_)
  match r, z with
  | .ok (.ret v), z => exact z
  | .ok .next, z => exact z.elim
  | .ok .brk, z => exact z.elim
  | .ok .cont, z => exact z.elim
  | .error e, z => exact z
end
theorem bT : bootBuiltins "tuple" = some (.type "tuple") := by decide +kernel
theorem bS : bootBuiltins "sorted" = some (.builtin "sorted") := by decide +kernel
theorem bI : bootBuiltins "isinstance" = some (.builtin "isinstance") := by decide +kernel
theorem bInt : bootBuiltins "int" = some (.type "int") := by decide +kernel
theorem bBool : bootBuiltins "bool" = some (.type "bool") := by decide +kernel
theorem bSet : bootBuiltins "set" = some (.type "set") := by decide +kernel
theorem bAll : bootBuiltins "all" = some (.builtin "all") := by decide +kernel

section
variable {P : Program} {w : World} {K : PySem.W.Frag} {mg : Str → Option Value} {base : Heap}
/-- the module's names that are still the built-in ones -/
structure Bl (mg : Str → Option Value) : Prop where
  len : mg "len" = none
  abs : mg "abs" = none
  tuple : mg "tuple" = none
  sorted : mg "sorted" = none
  isinstance : mg "isinstance" = none
  int : mg "int" = none
  bool : mg "bool" = none
  set : mg "set" = none
  all : mg "all" = none
  range : mg "range" = none
  enumerate : mg "enumerate" = none

theorem shl1 (n : Nat) : (1 : Int) * 2 ^ ((n : Int).toNat) = ((2 ^ n : Nat) : Int) := by
  rw [Int.toNat_natCast, Int.one_mul]
  norm_cast
theorem cpow {n : Nat} (h : n ≤ 6) : CPow 1 (n : Int) := ⟨by omega, by omega, by decide⟩
theorem xor_lt {a b n : Nat} (ha : a < 2 ^ n) (hb : b < 2 ^ n) : a ^^^ b < 2 ^ n := Nat.xor_lt_two_pow ha hb
theorem bx (a b : Nat) : Builtin.bitXor (a : Int) (b : Int) = ((a ^^^ b : Nat) : Int) := by
  rw [Bits.bitXor_pp (by omega) (by omega)]
  rfl
end
end XT
namespace XT
open PySem PySem.Spec PyProof.Rows L2
theorem lot_filter (n : Nat) (p q : Nat → Bool) : (lotOf n p).filter q = lotOf n (fun m => p m && q m) := by
  unfold lotOf
  rw [List.filter_filter]
  refine List.filter_congr fun m _ => ?_
  rw [Bool.and_comm]
theorem vm_filter (ms : List Nat) (q : Nat → Bool) (r : V → Bool) (h : ∀ m ∈ ms, r (.int (m : Int)) = q m) : ((vm ms).filter r).map id = vm (ms.filter q) := by
  unfold vm
  rw [List.map_id, List.filter_map]
  congr 1
  exact List.filter_congr fun m hm => h m hm
theorem mem_vm {ms : List Nat} {i : Nat} {v : V} (h : (vm ms)[i]? = some v) : ∃ m, ms[i]? = some m ∧ v = .int (m : Int) := by
  unfold vm at h
  rw [List.getElem?_map] at h
  obtain ⟨m, h1, h2⟩ := Option.map_eq_some_iff.mp h
  exact ⟨m, h1, h2.symm⟩
/-- for i, x in enumerate(t) -/
theorem for_enumT {K : PySem.W.Frag} {a : Addr} {xs : List V} {g : TG} {tb : TS} {D : Ends} {σ : L2.St} {H : Hp} (Pv : Nat → L2.St → Hp → Prop) (h0 : Pv 0 σ H) (hl : ∀ i σ H, i ≤ xs.length → Pv i σ H → SqT K H a xs)
    (hs : ∀ i x σ H T, xs[i]? = some x → Pv i σ H → H T = none → g (.ref T) σ (upd H T (.tup [.int (i : Nat), x])) fun σ2 H2 => tb { D with nx := Pv (i + 1), ct := Pv (i + 1), bk := D.nx } σ2 H2) (hd : ∀ σ H, Pv xs.length σ H → D.nx σ H) :
    ∃ W : Nat → Nat → L2.St → Hp → Prop, (∃ m, W 0 m σ H) ∧ ∀ i m σ H, W i m σ H →
      ((ItT K a).stop i H ∧ D.nx σ H) ∨ ((ItT K a).go i H ∧ ∃ N : L2.St → Hp → Prop, (∀ σ' H', N σ' H' → ∃ m', m' < m ∧ W (i + 1) m' σ' H') ∧ ∀ x H', (ItT K a).yld i H x H' → g x σ H' fun σ2 H2 => tb { D with nx := N, ct := N, bk := D.nx } σ2 H2) := by
  refine ⟨fun i m σ H => m = xs.length - i ∧ i ≤ xs.length ∧ Pv i σ H, ⟨xs.length, by simp, Nat.zero_le _, h0⟩, ?_⟩
  rintro i m σ H ⟨rfl, hi, p⟩
  have q := hl i σ H hi p
  rcases Nat.lt_or_ge i xs.length with lt | ge
  · refine .inr ⟨⟨xs, xs[i], q, List.getElem?_eq_getElem lt⟩, Pv (i + 1), fun σ' H' p' => ⟨xs.length - (i + 1), by omega, rfl, lt, p'⟩, fun v H' y => ?_⟩
    obtain ⟨T, x, rfl, nT, rfl, fx⟩ := y
    exact hs i x σ H T (fx xs q) p nT
  · have e : i = xs.length := by omega
    subst e
    exact .inl ⟨⟨xs, q, rfl⟩, hd σ H p⟩
theorem r62 {n : Nat} (h : n ≤ 6) : ((2 ^ n : Nat) : Int) < 2 ^ 62 := by
  have := pow6 h
  omega
theorem l62 {n : Nat} : -(2 ^ 62) ≤ ((2 ^ n : Nat) : Int) := Int.le_trans (by decide : -(2 ^ 62) ≤ (0 : Int)) (Int.natCast_nonneg _)
end XT
/-! draws within comprehensions; the lots that the law draws -/
namespace XT
open PySem PySem.Spec PyProof.Rows L2
/-- the stream's time goes on, all else stays -/
structure Step (S : Sm) (H : Hp) (t : Int) (H' : Hp) (t' : Int) (n : Nat) : Prop where
  keep : Keep S H H'
  st : Strm S H' t'
  lo : t ≤ t'
  hi : t' ≤ t + n
def spDrawN : Sp := fun vs H Q _ => ∃ (S : Sm) (t : Int) (m : Nat), vs = [.ref S.s, .int (m : Int)] ∧ Strm S H t ∧ 0 < m ∧ m ≤ 1000 ∧ t < 100000000 ∧
  ∀ (H' : Hp) (r : Nat) (t' : Int), Step S H t H' t' 1 → r < m → Q (.int (r : Int)) H'
theorem drawN {P : Program} {w : World} {K : PySem.W.Frag} {mg : Str → Option Value} {base : Heap} {k : Nat} {x : Str} (D : DefR P w K mg base k x spDraw) : DefR P w K mg base k x spDrawN := by
  obtain ⟨f, F, h1, h2⟩ := D
  refine ⟨f, F.imp fun vs H Q E ⟨S, t, m, ev, st, m0, m1, t1, q⟩ => ⟨S, t, m, ev, st, by omega, by omega, by omega, fun H' r t' k s a b r0 r1 => ?_⟩, h1, h2⟩
  obtain ⟨n, rfl⟩ := Int.eq_ofNat_of_zero_le r0
  exact q H' n t' ⟨k, s, a, b⟩ (by omega)
theorem Step.refl {S : Sm} {H : Hp} {t : Int} (h : Strm S H t) : Step S H t H t 0 := ⟨Keep.refl S H, h, Int.le_refl _, by omega⟩
theorem Step.trans {S : Sm} {H H1 H2 : Hp} {t t1 t2 : Int} {n m : Nat} (a : Step S H t H1 t1 n) (b : Step S H1 t1 H2 t2 m) : Step S H t H2 t2 (n + m) := ⟨a.keep.trans b.keep, b.st, Int.le_trans a.lo b.lo, by have := a.hi; have := b.hi; omega⟩
theorem Step.same {S : Sm} {H H1 H2 : Hp} {t t1 : Int} {n : Nat} (a : Step S H t H1 t1 n) (b : Same H1 H2) : Step S H t H2 t1 n := ⟨a.keep.trans (Keep.of b), a.st.same b, a.lo, a.hi⟩
theorem Step.mono {S : Sm} {H H1 : Hp} {t t1 : Int} {n m : Nat} (a : Step S H t H1 t1 n) (h : n ≤ m) : Step S H t H1 t1 m := ⟨a.keep, a.st, a.lo, by have := a.hi; omega⟩
section
variable {K : PySem.W.Frag} {a : Addr} {g : TG} {tt : TT} {te : TE} {vs : List Nat} {σ : L2.St} {H1 : Hp} {D : Addr} {Qd : Hp → Prop} {S : Sm} {t0 : Int} {c : Nat}
/-- what one turn must do: the stream is drawn from at most d times, and what is kept is a number below c -/
def TurnS (S : Sm) (c d : Nat) (g : TG) (tt : TT) (te : TE) (vs : List Nat) (σ : L2.St) (x : V) (H : Hp) (t : Int) : Prop :=
  ∀ (R1 : Hp → Prop) (R2 : V → Hp → Prop), (∀ H3 t3, Step S H t H3 t3 d → R1 H3) → (∀ (k : Nat) H4 t4, Step S H t H4 t4 d → k < c → R2 (.int (k : Int)) H4) →
    g x (wipe σ vs) H fun σ2 H2 => wipe σ2 vs = wipe σ vs ∧ tt σ2 H2 fun b H3 => if b = true then te σ2 H3 R2 else R1 H3
def PvS (S : Sm) (c d : Nat) (H1 : Hp) (t0 : Int) (D : Addr) (i : Nat) (H : Hp) : Prop := ∃ (ks : List Nat) (t : Int), Step S H1 t0 H t (d * i) ∧ H D = some (.lst (vm ks)) ∧ (∀ k ∈ ks, k < c) ∧ ks.length ≤ i
theorem pvs_start (st : Strm S H1 t0) (nD : H1 D = none) (d : Nat) : PvS S c d H1 t0 D 0 (upd H1 D (.lst [])) := ⟨[], t0, ((Step.refl st).same (same_new nD)).mono (Nat.zero_le _), upd_same, by simp, by simp⟩
theorem pvs_turn {d i : Nat} {x : V} {H : Hp} (st0 : Strm S H1 t0) (nD : H1 D = none) (hi : i ≤ 1000) (h : PvS S c d H1 t0 D i H) (ht : ∀ t, Step S H1 t0 H t (d * i) → TurnS S c d g tt te vs σ x H t) :
    g x (wipe σ vs) H fun σ2 H2 => wipe σ2 vs = wipe σ vs ∧ tt σ2 H2 fun b H3 =>
      if b = true then te σ2 H3 fun y H4 => ∃ acc, H4 D = some (.lst acc) ∧ acc.length < sizeLine ∧ PvS S c d H1 t0 D (i + 1) (upd H4 D (.lst (acc ++ [y]))) else PvS S c d H1 t0 D (i + 1) H3 := by
  obtain ⟨ks, t, stp, hD, hk, hl⟩ := h
  refine ht t stp _ _ (fun H3 t3 s3 => ?_) (fun k H4 t4 s4 hkc => ?_)
  · exact ⟨ks, t3, (stp.trans s3).mono (by rw [Nat.mul_succ]; exact Nat.le_refl _), s3.keep.mine st0 nD hD, hk, by omega⟩
  · have hD4 := s4.keep.mine st0 nD hD
    refine ⟨_, hD4, small64 (by rw [vm_len]; omega), ks ++ [k], t4, ?_, ?_, ?_, ?_⟩
    · have z := stp.trans s4
      have nDs : D ≠ S.s := fun e => by obtain ⟨_, h⟩ := st0; rw [e, h.hs] at nD; cases nD
      have nDp : D ≠ S.p := fun e => by obtain ⟨_, h⟩ := st0; rw [e, h.hp] at nD; cases nD
      have nDq : D ≠ S.q := fun e => by obtain ⟨_, h⟩ := st0; rw [e, h.hq] at nD; cases nD
      refine ⟨fun b o n1 n2 e => ?_, ?_, z.lo, by have := z.hi; rw [Nat.mul_succ]; exact this⟩
      · rw [upd_ne (ne_of_none e nD)]
        exact z.keep b o n1 n2 e
      · obtain ⟨big, hb⟩ := z.st
        refine ⟨big, ?_, ?_, ?_, hb.sp, hb.sq, hb.pq, hb.ne, hb.t0⟩
        · rw [upd_ne nDs.symm]; exact hb.hs
        · rw [upd_ne nDp.symm]; exact hb.hp
        · rw [upd_ne nDq.symm]; exact hb.hq
    · rw [upd_same]; unfold vm; rw [List.map_append]; rfl
    · intro j hj
      rcases List.mem_append.mp hj with hj | hj
      · exact hk j hj
      · rw [List.mem_singleton.mp hj]; exact hkc
    · rw [List.length_append]; simp; exact hl
theorem lcs_range {n d : Nat} (st0 : Strm S H1 t0) (nD : H1 D = none) (hn : n ≤ 1000) (ht : ∀ (i : Nat) H t, i < n → Step S H1 t0 H t (d * i) → TurnS S c d g tt te vs σ (.int (0 + (i : Int))) H t) (hd : ∀ H, PvS S c d H1 t0 D n H → Qd H) :
    ∃ W : Nat → Nat → Hp → Prop, (∃ m, W 0 m (upd H1 D (.lst []))) ∧ ∀ i m H, W i m H →
      ((Itr 0 n).stop i H ∧ Qd H) ∨ ((Itr 0 n).go i H ∧ ∃ Nx : Hp → Prop, (∀ H', Nx H' → ∃ m', m' < m ∧ W (i + 1) m' H') ∧ ∀ x H', (Itr 0 n).yld i H x H' → g x (wipe σ vs) H' fun σ2 H2 => wipe σ2 vs = wipe σ vs ∧ tt σ2 H2 fun b H3 =>
        if b = true then te σ2 H3 fun y H4 => ∃ acc, H4 D = some (.lst acc) ∧ acc.length < sizeLine ∧ Nx (upd H4 D (.lst (acc ++ [y]))) else Nx H3) :=
  lc_range (lo := 0) (n := n) (fun i H => PvS S c d H1 t0 D i H) (pvs_start st0 nD d) (fun i H hi h => pvs_turn st0 nD (by omega) h fun t s => ht i H t hi s) hd
theorem lcs_list {ms : List Nat} {d : Nat} (st0 : Strm S H1 t0) (nD : H1 D = none) (hA : H1 a = some (.lst (vm ms))) (as : a ≠ S.s) (ap : a ≠ S.p) (hn : ms.length ≤ 1000)
    (ht : ∀ (i : Nat) (m : Nat) H t, ms[i]? = some m → Step S H1 t0 H t (d * i) → TurnS S c d g tt te vs σ (.int (m : Int)) H t) (hd : ∀ H, PvS S c d H1 t0 D ms.length H → Qd H) :
    ∃ W : Nat → Nat → Hp → Prop, (∃ m, W 0 m (upd H1 D (.lst []))) ∧ ∀ i m H, W i m H →
      ((Itl K a).stop i H ∧ Qd H) ∨ ((Itl K a).go i H ∧ ∃ Nx : Hp → Prop, (∀ H', Nx H' → ∃ m', m' < m ∧ W (i + 1) m' H') ∧ ∀ x H', (Itl K a).yld i H x H' → g x (wipe σ vs) H' fun σ2 H2 => wipe σ2 vs = wipe σ vs ∧ tt σ2 H2 fun b H3 =>
        if b = true then te σ2 H3 fun y H4 => ∃ acc, H4 D = some (.lst acc) ∧ acc.length < sizeLine ∧ Nx (upd H4 D (.lst (acc ++ [y]))) else Nx H3) := by
  refine lc_list (xs := vm ms) (fun i H => PvS S c d H1 t0 D i H) (pvs_start st0 nD d) (fun i H _ h => ?_) (fun i x H hx h => ?_) (fun H h => ?_)
  · obtain ⟨_, _, s, _⟩ := h
    exact SqL.of (s.keep a _ as ap hA)
  · obtain ⟨m, hm, rfl⟩ := mem_vm hx
    have hi : i < ms.length := (List.getElem?_eq_some_iff.mp hm).1
    exact pvs_turn st0 nD (by omega) h fun t s => ht i m H t hm s
  · rw [vm_len] at h
    exact hd H h
end
end XT
/-! the law's own call, where no repr is under way; repr of data -/
namespace XT
open PySem PySem.Spec PyProof.Rows L2
def RunC (P : Program) (w : World) (K : PySem.W.Frag) (mg : Str → Option Value) (base : Heap) (k : Nat) (f : Addr) (sp : Sp) : Prop :=
  ∀ (s : Shared) (H : Hp) (u : Value) (v : V) (Q : VK), Room k callerA → Env0 P w K mg base callerA [] s H → RelV v u → sp [v] H Q E0 → codeAny (model P w) callerA (.call (.ref f) ⟨[u], []⟩) (CR CX0 [] P w H s Q E0) s
section
variable {P : Program} {w : World} {K : PySem.W.Frag} {mg : Str → Option Value} {base : Heap}
theorem run_law {x par : Str} {st : Stmt} {f : Addr} {fd : FuncData} {N : List Str} {k : Nat} {sp : Sp} (F : Fun K x x st f fd) (S : FnScope N [par] (defScope st))
    (hb : ∀ (kV doc pm : Value) (an : Option Addr) (cdv ct u : Value), bindArgs (PySem.W.fnOf x x (defArgs st) (defBody st) (defScope st) .none kV doc pm an cdv ct) ⟨[u], []⟩ = pure [(par, u)])
    (hbody : ∀ (cdv : Value) (s : Shared) (H : Hp) (v : V) (Q : VK), Room k (callerA.deeper (envOfC x (defScope st) s.heap.objs.size f cdv)) → sp [v] H Q E0 →
      ∃ t, PSs (cxOf CX0 P w K mg base N x (defScope st) f cdv callerA [] s H E0).nox (defBody st) t ∧ t { nx := fun _ H' => Q .non H', rt := Q } (start N [v]) H) : RunC P w K mg base (k + 1) f sp := by
  obtain ⟨oc, od, kV, doc, pm, an, cdv, ct, osl, rfl, lk, hcd⟩ := F.ex
  intro s H u v Q hr e0 rv hsp
  refine StX.run_bnd lk hcd S hr e0 (G := fun vs H2 => vs = [v] ∧ H2 = H) (fun A2 Ex Q2 h => ?_) fun s2 H2 vs ⟨ev, eH⟩ hr2 => ?_
  · rw [hb kV doc pm an cdv ct u]
    exact wpAny_pure (h s H [v] [u] e0 Un.refl rfl (fun _ _ z => z) (.cons rv .nil) rfl ⟨rfl, rfl⟩)
  · subst ev eH
    obtain ⟨t, h1, h2⟩ := hbody cdv s2 H2 v Q hr2 hsp
    exact ⟨t, h1.nox, h2⟩
/-- from the law's promise to what the row asks of its call -/
theorem law_end {mb : Str → Option Value} {k : Nat} {fa a : Addr} {sp : Sp} {s1 : Shared} {vs : List Value} {ns : List Int} (KX : K.In s1.heap) (hns : s1.heap.Ns mainGlobals mg) (hb : s1.heap.Ns builtinsNs mb)
    (hbb : ∀ x : Str, x ≠ "__name__" → mb x = bootBuiltins x) (hlim : s1.heap.NoLimit) (hg : s1.gens = #[]) (ha : s1.heap.get? a = some { cls := .type "list", data := .seq vs.toArray }) (hi : IntsAre vs ns) (hl : ns.length ≤ sizeLine)
    (hr : Room k callerA) (F : ∀ base : Heap, K.In base → base.Ns mainGlobals mg → RunC P w K mg base k fa sp) (hsp : ∀ H : Hp, SqL K H a (ns.map V.int) → sp [.ref a] H (fun v _ => v = .bl true) E0) :
    codeAny (model P w) callerA (.call (.ref fa) ⟨[.ref a], []⟩) (fun r s2 => r = .ok (.ret (.bool true)) ∧ OldK s1.heap s2.heap ∧ s2.os = s1.os ∧ AllBare s2.gens) s1 := by
  have rv : Vals (ns.map V.int) vs := vals_of_ints hi
  have nl := hi.length
  have go : ∀ H : Hp, SqL K H a (ns.map V.int) → HOk P w H s1.heap → (∀ b, H b = none ∨ (b = a ∧ K.lookup a = none ∧ ∃ o xs, H b = some (.frz o (.lst xs)))) →
      codeAny (model P w) callerA (.call (.ref fa) ⟨[.ref a], []⟩) (fun r s2 => r = .ok (.ret (.bool true)) ∧ OldK s1.heap s2.heap ∧ s2.os = s1.os ∧ AllBare s2.gens) s1 := by
    intro H hS hok hO
    have nsK : ∀ {b : Addr} {m : Str → Option Value}, s1.heap.Ns b m → (hidT s1.heap H).Ns b m := fun {b m} ⟨o, es, ep, e, d, r⟩ => by
      refine ⟨o, es, ep, hidT_get e ?_, d, r⟩
      rcases hO b with z | ⟨z, _, _⟩
      · exact z
      · rw [z, ha] at e
        cases e
        have d2 : Data.seq vs.toArray _ = Data.dict es ep := d
        cases d2
    have kb : K.In (hidT s1.heap H) := fun b o e => by
      refine hidT_get (KX b o e) ?_
      rcases hO b with z | ⟨z, y, _⟩
      · exact z
      · rw [z, y] at e; cases e
    have M : Mod K mg (hidT s1.heap H) := ⟨kb, nsK hns, ⟨mb, nsK hb, hbb⟩, let ⟨mc, h1, h2⟩ := hlim; ⟨mc, nsK h1, h2⟩⟩
    have e0 : Env0 P w K mg (hidT s1.heap H) callerA [] s1 H := ⟨rfl, M, fun b o e => of_hidT e, Nat.le_of_eq (hidT_size _ _), trivial, fun b z => absurd (show b ∈ ([] : List Addr) from z) (by simp), hok, .of_eq hg⟩
    refine codeAny_mono (F _ kb (nsK hns) s1 H (.ref a) (.ref a) _ hr e0 rfl (hsp H hS)) fun r s2 z => ?_
    match r, z with
    | .error e, z => exact z.elim
    | .ok .next, z => exact z.elim
    | .ok .brk, z => exact z.elim
    | .ok .cont, z => exact z.elim
    | .ok (.ret u), z =>
      obtain ⟨v, H2, os, bare, un, hok2, rr, q⟩ := z
      have q : v = .bl true := q
      subst q
      obtain rfl : u = Value.bool true := rr
      refine ⟨rfl, OldK.of_keep fun b o e => ?_, os, bare⟩
      rcases hO b with y | ⟨_, _, ob, xs, y⟩
      · exact un.keep b o e y (fun z => absurd (show b ∈ ([] : List Addr) from z) (by simp)) (by simp)
      · obtain ⟨g1, _⟩ := hok b _ y
        obtain ⟨g2, _⟩ := hok2 b _ (un.frzs b ob _ y)
        rw [e] at g1
        cases g1
        exact g2
  cases hk : K.lookup a with
  | some o =>
    have e := KX a o hk
    rw [ha] at e
    cases e
    exact go (fun _ => none) (.inr ⟨_, vs.toArray, _, hk, rfl, rfl, rfl, by rw [List.size_toArray, nl]; exact hl, by simpa using rv⟩) (fun b u z => nomatch z) fun _ => .inl rfl
  | none =>
    refine go (upd (fun _ => none) a (.frz { cls := .type "list", data := .seq vs.toArray } (.lst (ns.map V.int)))) (.inl (.inr ⟨_, upd_same⟩)) (fun b u z => ?_) fun b => ?_
    · by_cases e : b = a
      · subst e
        rw [upd_same] at z
        cases z
        exact ⟨ha, by rw [List.length_map]; exact hl, vs, _, rv, ha⟩
      · rw [upd_ne e] at z
        cases z
    · by_cases e : b = a
      · exact .inr ⟨e, hk, _, _, by rw [e]; exact upd_same⟩
      · exact .inl (upd_ne e)
end
theorem walk_ofC {l : PySem.W.OpenLaw} {n k : Nat} {q : Program} {loose : List Str} {XP : (Str → Option Value) → Heap → Prop} {YP : World → Heap → Prop} {d : DefRec} {K : Params → PySem.W.Frag} {sp : World → Sp}
    (hn : l.most = some n) (hn2 : n ≤ sizeLine) (hdf : d.params.defaults = []) (hr : Room k callerA) (hY : ∀ (w : World) (h : Heap), YP w h → (K w.params).In h)
    (F : ∀ (w : World) (mg : Str → Option Value) (fa : Addr) (h : Heap), (K w.params).In h → h.Ns mainGlobals mg → mg d.name = some (.ref fa) → ∀ base : Heap, (K w.params).In base → base.Ns mainGlobals mg → RunC l.prog w (K w.params) mg base k fa (sp w))
    (hsp : ∀ (w : World) (H : Hp) (a : Addr) (ns : List Int), ns.length ≤ n → SqL (K w.params) H a (ns.map V.int) → sp w [.ref a] H (fun v _ => v = .bl true) E0) :
    PySem.W.WalkO q loose XP YP l.row.toRowW d [] (fun f vs => PySem.call f vs) :=
  Att.attach_call hn hdf fun w s0 s1 mg mb fa o pm cd doc a vs ns G Y ho hd hcd hmg hobj hints hlen hg =>
    law_end (hY w _ Y) G.T.g G.T.b G.T.builtins G.T.nolimit hg hobj hints (Nat.le_trans hlen hn2) hr (F w mg fa _ (hY w _ Y) G.T.g hmg) fun H hS => hsp w H a ns hlen hS
/-! repr -/
section
variable {X : Cx}
def rRepr (K : PySem.W.Frag) : List V → Hp → VK → Prop := fun xs H Q => ∃ (a : Addr) (d : PyData), xs = [.ref a] ∧ Dp K H (.ref a) d ∧ SeqAt.shaped d = true ∧ d.showable = true ∧ d.shown.length ≤ sizeLine ∧ Q (.str d.shown) H
theorem cr_repr (hg : X.A.guards = some []) (hu : X.A.units + 128 < cLine) : CallR X (.builtin "repr") (rRepr X.K) := by
  intro pins s σ H xs us Q I r h
  obtain ⟨a, d, rfl, hd, hs, hw, hz, q⟩ := h
  rw [Vals.ref1 r]
  obtain ⟨as, rd⟩ := Dp.reads I d (.ref a) (.ref a) hd rfl
  have nd : d.hasDict = false := PyData.hasDict_of_canLay d (SeqAt.canLay_of_shaped hs)
  have dp := SeqAt.depth_of_shaped hs
  refine repr_of_reads' rd hw (PyData.noDict_hsm nd) hg (by omega) (fun _ _ e => e) (fun h2 u tk k => ?_) hz
  exact ⟨.str d.shown, H, I.kept (t' := tk) k, ⟨u, rfl⟩, q⟩
end
end XT
/-! how long data are when shown -/
namespace XT
open PySem PySem.Spec PyProof.Rows L2
structure Shw (d : PyData) (n k : Nat) : Prop where
  lay : PyData.canLay0 d = true
  dep : PyData.depth d ≤ k
  shw : PyData.showable d = true
  len : (PyData.shown d).length ≤ n
structure ShwAll (ds : List PyData) (n k : Nat) : Prop where
  lay : PyData.canLayAll0 ds = true
  dep : PyData.depthAll ds ≤ k
  shw : PyData.showableAll ds = true
  len : ((PyData.shownAll ds).map (·.length)).sum + 2 * (PyData.shownAll ds).length ≤ n
theorem ShwAll.nil {k : Nat} : ShwAll [] 0 k := ⟨rfl, Nat.zero_le _, rfl, Nat.le_refl _⟩
theorem ShwAll.cons {d : PyData} {ds : List PyData} {n m k : Nat} (h : Shw d n k) (t : ShwAll ds m k) : ShwAll (d :: ds) (n + 2 + m) k := by
  refine ⟨?_, ?_, ?_, ?_⟩
  · simp only [PyData.canLayAll0, h.lay, t.lay, Bool.and_self]
  · simp only [PyData.depthAll]
    exact Nat.max_le.mpr ⟨h.dep, t.dep⟩
  · simp only [PyData.showableAll, h.shw, t.shw, Bool.and_self]
  · have h1 := h.len
    have h2 := t.len
    simp only [PyData.shownAll, List.map_cons, List.sum_cons, List.length_cons]
    omega
theorem Shw.mono {d : PyData} {n m k j : Nat} (h : Shw d n k) (a : n ≤ m) (b : k ≤ j) : Shw d m j := ⟨h.lay, Nat.le_trans h.dep b, h.shw, Nat.le_trans h.len a⟩
theorem ShwAll.mono {d : List PyData} {n m k j : Nat} (h : ShwAll d n k) (a : n ≤ m) (b : k ≤ j) : ShwAll d m j := ⟨h.lay, Nat.le_trans h.dep b, h.shw, Nat.le_trans h.len a⟩
theorem ShwAll.list {ds : List PyData} {n k : Nat} (h : ShwAll ds n k) : Shw (.list ds) (n + 3) (k + 1) := by
  refine ⟨by simpa only [PyData.canLay0] using h.lay, ?_, by simpa only [PyData.showable] using h.shw, ?_⟩
  · simp only [PyData.depth]
    have := h.dep
    omega
  · simp only [PyData.shown]
    have := listText_len_le (PyData.shownAll ds)
    have := h.len
    omega
theorem ShwAll.tuple {ds : List PyData} {n k : Nat} (h : ShwAll ds n k) : Shw (.tuple ds) (n + 3) (k + 1) := by
  refine ⟨by simpa only [PyData.canLay0] using h.lay, ?_, by simpa only [PyData.showable] using h.shw, ?_⟩
  · simp only [PyData.depth]
    have := h.dep
    omega
  · simp only [PyData.shown]
    have := tupleText_len_le (PyData.shownAll ds)
    have := h.len
    omega
theorem shw_nat {m : Nat} (h : m < 1000000) : Shw (.int (m : Int)) 13 0 := by
  refine ⟨rfl, Nat.le_refl _, ?_, PyData.shown_int_le (by omega)⟩
  show decide ((m : Int).natAbs.log2 < 1920) = true
  rw [decide_eq_true_iff, Int.natAbs_natCast]
  by_cases h0 : m = 0
  · subst h0; decide
  · exact Nat.lt_of_lt_of_le ((Nat.log2_lt h0).mpr (show m < 2 ^ 20 by omega)) (by decide)
theorem shw_nats : ∀ {ms : List Nat}, (∀ m ∈ ms, m < 1000000) → ShwAll (ms.map fun (m : Nat) => PyData.int (m : Int)) (15 * ms.length) 0
  | [], _ => ShwAll.nil
  | m :: ms, h => by
    have := ShwAll.cons (shw_nat (h m List.mem_cons_self)) (shw_nats (ms := ms) fun x hx => h x (List.mem_cons_of_mem _ hx))
    exact this.mono (by rw [List.length_cons]; omega) (Nat.le_refl _)
theorem shw_lot {n : Nat} (hn : n ≤ 6) (p : Nat → Bool) : Shw (dLot n p) 1000 2 := by
  have h6 := pow6 (w := n) hn
  have hl := lot_len hn p
  have h := (shw_nats (ms := lotOf n p) fun m hm => by have := (mem_lot.mp hm).1; omega).tuple
  have := (ShwAll.cons ((shw_nat (m := n) (by omega)).mono (Nat.le_refl _) (Nat.zero_le 1)) (ShwAll.cons (h.mono (Nat.le_refl _) (by omega)) ShwAll.nil)).tuple
  exact this.mono (by omega) (by omega)
theorem shw_width (i : Nat) (h : i < 1000000) : Shw (.list [.str "width", .int (i : Int)]) 1000 2 := by
  have hs : Shw (.str "width") 10 0 := ⟨by decide +kernel, Nat.le_refl _, rfl, by decide +kernel⟩
  exact (ShwAll.cons hs (ShwAll.cons (shw_nat h) ShwAll.nil)).list.mono (by omega) (by omega)
theorem shw_two {a b : PyData} {n m k : Nat} (ha : Shw a n k) (hb : Shw b m k) : Shw (.list [a, b]) (n + m + 7) (k + 1) := (ShwAll.cons ha (ShwAll.cons hb ShwAll.nil)).list.mono (by omega) (by omega)
theorem Shw.shaped {d : PyData} {n k : Nat} (hs : Shw d n k) (hk : k ≤ 64) : SeqAt.shaped d = true := by
  unfold SeqAt.shaped
  rw [hs.lay, decide_eq_true (Nat.le_trans hs.dep hk)]
  rfl
theorem Shw.sz {d : PyData} {n k : Nat} (hs : Shw d n k) (hn : n ≤ 10000000) : d.shown.length ≤ sizeLine := by
  rw [sizeLine_eq]
  have := hs.len
  omega
end XT
/-! lots with their widths; a comprehension of drawn lots; when two lots are equal -/
namespace XT
open PySem PySem.Spec PyProof.Rows L2
abbrev rXor : R2 := rI0 fun i j => .int (Builtin.bitXor i j)
/-- f(..) by its promise, as pe_def reads it -/
abbrev tDf (sp : Sp) (t : TA) : TE := fun σ H Q => t σ H fun vs H1 => sp vs H1 Q E0
structure Lt where
  v : V
  n : Nat
  p : Nat → Bool
def LtAt (H : Hp) (l : Lt) : Prop := LotAt H l.v l.n l.p ∧ 1 ≤ l.n ∧ l.n ≤ 6
theorem LtAt.same {H H' : Hp} {l : Lt} (h : LtAt H l) (e : Same H H') : LtAt H' l := ⟨h.1.same e, h.2⟩
theorem lt_keep {S : Sm} {H H' : Hp} {t : Int} {l : Lt} (h : LtAt H l) (k : Keep S H H') (st : Strm S H t) : LtAt H' l := ⟨h.1.keep k st, h.2⟩
theorem at_ne' {H : Hp} {a b : Addr} {x y : HO} (h1 : H a = some x) (h2 : H b = some y) (n : x ≠ y) : b ≠ a := fun e => by
  rw [e, h1] at h2
  exact n (Option.some.inj h2)
theorem lot_upd {H : Hp} {R : Addr} {xs ys : List V} {v : V} {n : Nat} {p : Nat → Bool} (hR : H R = some (.lst xs)) (h : LotAt H v n p) : LotAt (upd H R (.lst ys)) v n p := by
  obtain ⟨x, y, rfl, hx, hy⟩ := h
  exact ⟨x, y, rfl, by rw [upd_ne (at_ne' hR hx (by simp))]; exact hx, by rw [upd_ne (at_ne' hR hy (by simp))]; exact hy⟩
theorem strm_upd {S : Sm} {H : Hp} {t : Int} {R : Addr} {o : HO} (h : Strm S H t) (n1 : R ≠ S.s) (n2 : R ≠ S.p) (n3 : R ≠ S.q) : Strm S (upd H R o) t := by
  obtain ⟨big, s⟩ := h
  exact ⟨big, by rw [upd_ne (Ne.symm n1)]; exact s.hs, by rw [upd_ne (Ne.symm n2)]; exact s.hp, by rw [upd_ne (Ne.symm n3)]; exact s.hq, s.sp, s.sq, s.pq, s.ne, s.t0⟩
theorem strm_ne {S : Sm} {H : Hp} {t : Int} {R : Addr} (h : Strm S H t) (n : H R = none) : R ≠ S.s ∧ R ≠ S.p ∧ R ≠ S.q := by
  obtain ⟨big, s⟩ := h
  exact ⟨(ne_of_none s.hs n).symm, (ne_of_none s.hp n).symm, (ne_of_none s.hq n).symm⟩
mutual
theorem Dp_same {K : PySem.W.Frag} {H H' : Hp} (e : Same H H') : ∀ {v : V} {d : PyData}, Dp K H v d → Dp K H' v d
  | _, _, .non => .non
  | _, _, .bl b => .bl b
  | _, _, .int i => .int i
  | _, _, .str x => .str x
  | _, _, .lst h a => .lst (e.seq h) (DpAll_same e a)
  | _, _, .tup h a => .tup (Same.sqT e h) (DpAll_same e a)
theorem DpAll_same {K : PySem.W.Frag} {H H' : Hp} (e : Same H H') : ∀ {vs : List V} {ds : List PyData}, DpAll K H vs ds → DpAll K H' vs ds
  | _, _, .nil => .nil
  | _, _, .cons h a => .cons (Dp_same e h) (DpAll_same e a)
end
/-! a list of one's own is changed: what was there before it is still there -/
theorem same_upd {H0 H : Hp} {R : Addr} {o : HO} (h : Same H0 H) (n : H0 R = none) : Same H0 (upd H R o) := fun b x e => by
  rw [upd_ne (ne_of_none e n)]
  exact h b x e
/-! tuples of masks -/
def TupAt (H : Hp) (v : V) (ms : List Nat) : Prop := ∃ q, v = .ref q ∧ H q = some (.tup (vm ms))
theorem TupAt.same {H H' : Hp} {v : V} {ms : List Nat} (h : TupAt H v ms) (e : Same H H') : TupAt H' v ms := by
  obtain ⟨q, rfl, h⟩ := h
  exact ⟨q, rfl, e _ _ h⟩
theorem TupAt.dp {K : PySem.W.Frag} {H : Hp} {v : V} {ms : List Nat} (h : TupAt H v ms) : Dp K H v (.tuple (ms.map fun (m : Nat) => .int (m : Int))) := by
  obtain ⟨q, rfl, h⟩ := h
  exact .tup (SqT.of h) (dpVm _)
theorem shw_tup {n : Nat} (hn : n ≤ 6) (p : Nat → Bool) : Shw (.tuple ((lotOf n p).map fun (m : Nat) => PyData.int (m : Int))) 1000 1 := by
  have h6 := pow6 (w := n) hn
  have hl := lot_len hn p
  have h := (shw_nats (ms := lotOf n p) fun m hm => by have := (mem_lot.mp hm).1; omega).tuple
  exact h.mono (by omega) (by omega)
/-! when two lists of numbers, two lots are equal -/
theorem eqv_nats : ∀ ms ks : List Nat, PyData.eqvAll (ms.map fun (m : Nat) => PyData.int (m : Int)) (ks.map fun (m : Nat) => PyData.int (m : Int)) = decide (ms = ks)
  | [], [] => rfl
  | [], k :: ks => by simp [PyData.eqvAll]
  | m :: ms, [] => by simp [PyData.eqvAll]
  | m :: ms, k :: ks => by
    have h := eqv_nats ms ks
    simp only [List.map_cons, PyData.eqvAll, PyData.eqv, h]
    rw [Bool.eq_iff_iff]
    simp only [Bool.and_eq_true, decide_eq_true_iff, beq_iff_eq, List.cons.injEq]
    constructor
    · rintro ⟨a, b⟩
      exact ⟨by omega, b⟩
    · rintro ⟨a, b⟩
      exact ⟨by omega, b⟩
theorem lot_eq_iff {n : Nat} {p r : Nat → Bool} : lotOf n p = lotOf n r ↔ ∀ m, m < 2 ^ n → p m = r m := by
  refine ⟨fun h m hm => ?_, lot_congr⟩
  have h2 : m ∈ lotOf n p ↔ m ∈ lotOf n r := by rw [h]
  rw [mem_lot, mem_lot] at h2
  rw [Bool.eq_iff_iff]
  exact ⟨fun z => (h2.mp ⟨hm, z⟩).2, fun z => (h2.mpr ⟨hm, z⟩).2⟩
theorem eqv_lots (n : Nat) (p r : Nat → Bool) : PyData.eqv (dLot n p) (dLot n r) = decide (∀ m, m < 2 ^ n → p m = r m) := by
  simp only [dLot, PyData.eqv, PyData.eqvAll, eqv_nats]
  rw [Bool.eq_iff_iff]
  simp [lot_eq_iff]
/-- what one turn must do: the stream is drawn from at most d times, and what is kept is a lot -/
def TurnL (S : Sm) (d : Nat) (g : TG) (tt : TT) (te : TE) (vs : List Nat) (σ : L2.St) (x : V) (H : Hp) (t : Int) : Prop :=
  ∀ (R1 : Hp → Prop) (R2 : V → Hp → Prop), (∀ (l : Lt) H4 t4, Step S H t H4 t4 d → LtAt H4 l → R2 l.v H4) →
    g x (wipe σ vs) H fun σ2 H2 => wipe σ2 vs = wipe σ vs ∧ tt σ2 H2 fun b H3 => if b = true then te σ2 H3 R2 else R1 H3
def PvL (S : Sm) (d : Nat) (H1 : Hp) (t0 : Int) (D : Addr) (i : Nat) (H : Hp) : Prop := ∃ (ls : List Lt) (t : Int), Step S H1 t0 H t (d * i) ∧ H D = some (.lst (ls.map (·.v))) ∧ (∀ l ∈ ls, LtAt H l) ∧ ls.length = i
theorem lcl_range {g : TG} {tt : TT} {te : TE} {vs : List Nat} {σ : L2.St} {H1 : Hp} {D : Addr} {Qd : Hp → Prop} {S : Sm} {t0 : Int} {n d : Nat} (st0 : Strm S H1 t0) (nD : H1 D = none) (hn : n ≤ 1000)
    (ht : ∀ (i : Nat) H t, i < n → Step S H1 t0 H t (d * i) → TurnL S d g tt te vs σ (.int (0 + (i : Int))) H t) (hd : ∀ H, PvL S d H1 t0 D n H → Qd H) :
    ∃ W : Nat → Nat → Hp → Prop, (∃ m, W 0 m (upd H1 D (.lst []))) ∧ ∀ i m H, W i m H →
      ((Itr 0 n).stop i H ∧ Qd H) ∨ ((Itr 0 n).go i H ∧ ∃ Nx : Hp → Prop, (∀ H', Nx H' → ∃ m', m' < m ∧ W (i + 1) m' H') ∧ ∀ x H', (Itr 0 n).yld i H x H' → g x (wipe σ vs) H' fun σ2 H2 => wipe σ2 vs = wipe σ vs ∧ tt σ2 H2 fun b H3 =>
        if b = true then te σ2 H3 fun y H4 => ∃ acc, H4 D = some (.lst acc) ∧ acc.length < sizeLine ∧ Nx (upd H4 D (.lst (acc ++ [y]))) else Nx H3) := by
  refine lc_range (lo := 0) (n := n) (fun i H => PvL S d H1 t0 D i H) ⟨[], t0, ((Step.refl st0).same (same_new nD)).mono (Nat.zero_le _), upd_same, by simp, rfl⟩ (fun i H hi h => ?_) hd
  obtain ⟨ls, t, stp, hD, hall, hl⟩ := h
  refine ht i H t hi stp _ _ (fun l H4 t4 s4 hl4 => ?_)
  have hD4 := s4.keep.mine st0 nD hD
  refine ⟨_, hD4, small64 (by rw [List.length_map]; omega), ls ++ [l], t4, ?_, ?_, ?_, ?_⟩
  · have z := stp.trans s4
    obtain ⟨nDs, nDp, nDq⟩ := strm_ne st0 nD
    refine ⟨fun b o n1 n2 e => ?_, strm_upd z.st nDs nDp nDq, z.lo, by have := z.hi; rw [Nat.mul_succ]; exact this⟩
    rw [upd_ne (ne_of_none e nD)]
    exact z.keep b o n1 n2 e
  · rw [upd_same, List.map_append]; rfl
  · intro j hj
    have h6 : LtAt H4 j := by
      rcases List.mem_append.mp hj with hj | hj
      · exact lt_keep (hall j hj) s4.keep stp.st
      · rw [List.mem_singleton.mp hj]; exact hl4
    exact ⟨lot_upd hD4 h6.1, h6.2⟩
  · rw [List.length_append, hl]; rfl
end XT
/-! more of lots, of lists and tuples of masks -/
namespace XT
open PySem PySem.Spec PyProof.Rows L2
theorem bList : bootBuiltins "list" = some (.type "list") := by decide +kernel
theorem bSum : bootBuiltins "sum" = some (.builtin "sum") := by decide +kernel
theorem bMin : bootBuiltins "min" = some (.builtin "min") := by decide +kernel
theorem bMax : bootBuiltins "max" = some (.builtin "max") := by decide +kernel
theorem lot_none (n : Nat) : lotOf n (fun _ => false) = [] := by
  unfold lotOf
  rw [List.filter_eq_nil_iff]
  intro m _
  decide
theorem lot_nil_iff {n : Nat} {p : Nat → Bool} : lotOf n p = [] ↔ ∀ m, m < 2 ^ n → p m = false := by
  unfold lotOf
  rw [List.filter_eq_nil_iff]
  simp
theorem range_lot (n : Nat) : rgV 0 ((2 ^ n : Nat) : Int) = vm (lotOf n fun _ => true) := by
  unfold rgV vm lotOf
  rw [List.filter_eq_self.mpr (fun _ _ => rfl), Int.sub_zero]
  show List.map (fun (i : Nat) => V.int (0 + (i : Int))) (List.range (2 ^ n)) = _
  exact List.map_congr_left fun m _ => by rw [Int.zero_add]
theorem lot_take {n : Nat} {p : Nat → Bool} {i : Nat} (hi : i < 2 ^ n) : ((List.range (2 ^ n)).take (i + 1)).filter p = ((List.range (2 ^ n)).take i).filter p ++ (if p i = true then [i] else []) := by
  have h := take_one (id : Nat → Nat) p (xs := List.range (2 ^ n)) (i := i) (x := i) (List.getElem?_range hi)
  simpa using h
theorem nats_shaped (ns : List Nat) : SeqAt.shaped (.list (ns.map fun (m : Nat) => PyData.int (m : Int))) = true := by
  have h := ke_shaped (ns.map fun (m : Nat) => (m : Int))
  rw [List.map_map] at h
  exact h
theorem tupN_shaped (ms : List Nat) : SeqAt.shaped (.tuple (ms.map fun (m : Nat) => PyData.int (m : Int))) = true := by
  have h1 : PyData.canLay0 (.tuple (ms.map fun (m : Nat) => PyData.int (m : Int))) = true := by
    have h := ints_lay ms
    simp [PyData.canLay0, h]
  have h2 : PyData.depth (.tuple (ms.map fun (m : Nat) => PyData.int (m : Int))) ≤ 64 := by
    have h := ints_depth ms
    simp only [PyData.depth]
    omega
  unfold SeqAt.shaped
  rw [h1, decide_eq_true h2]
  rfl
theorem eqv_lstN (ms ks : List Nat) : PyData.eqv (.list (ms.map fun (m : Nat) => PyData.int (m : Int))) (.list (ks.map fun (m : Nat) => PyData.int (m : Int))) = decide (ms = ks) := by
  have h := eqv_nats ms ks
  simpa [PyData.eqv] using h
theorem eqv_tupN (ms ks : List Nat) : PyData.eqv (.tuple (ms.map fun (m : Nat) => PyData.int (m : Int))) (.tuple (ks.map fun (m : Nat) => PyData.int (m : Int))) = decide (ms = ks) := by
  have h := eqv_nats ms ks
  simpa [PyData.eqv] using h
theorem eqv_nilN (ms : List Nat) : PyData.eqv (.list (ms.map fun (m : Nat) => PyData.int (m : Int))) (.list []) = decide (ms = []) := eqv_lstN ms []
/-- a list of masks -/
def LsN (H : Hp) (v : V) (ms : List Nat) : Prop := ∃ q, v = .ref q ∧ H q = some (.lst (vm ms))
theorem LsN.same {H H' : Hp} {v : V} {ms : List Nat} (h : LsN H v ms) (e : Same H H') : LsN H' v ms := by
  obtain ⟨q, rfl, h⟩ := h
  exact ⟨q, rfl, e _ _ h⟩
theorem LsN.dp {K : PySem.W.Frag} {H : Hp} {v : V} {ms : List Nat} (h : LsN H v ms) : Dp K H v (.list (ms.map fun (m : Nat) => .int (m : Int))) := by
  obtain ⟨q, rfl, h⟩ := h
  exact .lst (SqL.of h) (dpVm _)
/-- a != b of tuples, of lists of masks -/
theorem ne_tupN {K : PySem.W.Frag} {H : Hp} {x y : V} {ms ks : List Nat} {Q : VK} (hx : TupAt H x ms) (hy : TupAt H y ks) (q : Q (.bl (!decide (ms = ks))) H) : rNeD K x y H Q := by
  refine ⟨_, _, hx.dp, hy.dp, tupN_shaped _, tupN_shaped _, ?_⟩
  rw [eqv_tupN]
  exact q
theorem eq_tupN {K : PySem.W.Frag} {H : Hp} {x y : V} {ms ks : List Nat} {Q : VK} (hx : TupAt H x ms) (hy : TupAt H y ks) (q : Q (.bl (decide (ms = ks))) H) : rEqD K x y H Q := by
  refine ⟨_, _, hx.dp, hy.dp, tupN_shaped _, tupN_shaped _, ?_⟩
  rw [eqv_tupN]
  exact q
theorem ne_lstN {K : PySem.W.Frag} {H : Hp} {x y : V} {ms ks : List Nat} {Q : VK} (hx : LsN H x ms) (hy : LsN H y ks) (q : Q (.bl (!decide (ms = ks))) H) : rNeD K x y H Q := by
  refine ⟨_, _, hx.dp, hy.dp, nats_shaped _, nats_shaped _, ?_⟩
  rw [eqv_lstN]
  exact q
theorem eq_lstN {K : PySem.W.Frag} {H : Hp} {x y : V} {ms ks : List Nat} {Q : VK} (hx : LsN H x ms) (hy : LsN H y ks) (q : Q (.bl (decide (ms = ks))) H) : rEqD K x y H Q := by
  refine ⟨_, _, hx.dp, hy.dp, nats_shaped _, nats_shaped _, ?_⟩
  rw [eqv_lstN]
  exact q
theorem ne_lots {K : PySem.W.Frag} {H : Hp} {x y : V} {w : Nat} {P P' : Nat → Bool} {Q : VK} (hx : LotAt H x w P) (hy : LotAt H y w P') (q : Q (.bl (!decide (∀ m, m < 2 ^ w → P m = P' m))) H) : rNeD K x y H Q := by
  refine ⟨_, _, hx.dp, hy.dp, dLot_shaped _ _, dLot_shaped _ _, ?_⟩
  rw [eqv_lots]
  exact q
theorem eq_lots {K : PySem.W.Frag} {H : Hp} {x y : V} {w : Nat} {P P' : Nat → Bool} {Q : VK} (hx : LotAt H x w P) (hy : LotAt H y w P') (q : Q (.bl (decide (∀ m, m < 2 ^ w → P m = P' m))) H) : rEqD K x y H Q := by
  refine ⟨_, _, hx.dp, hy.dp, dLot_shaped _ _, dLot_shaped _ _, ?_⟩
  rw [eqv_lots]
  exact q
theorem nodup_lot (n : Nat) (p : Nat → Bool) : (lotOf n p).Nodup := by
  unfold lotOf
  exact List.Pairwise.filter _ (List.nodup_range)
theorem nodup_xor (a : Nat) {l : List Nat} (h : l.Nodup) : (l.map fun (m : Nat) => ((m ^^^ a : Nat) : Int)).Nodup := by
  unfold List.Nodup at h ⊢
  rw [List.pairwise_map]
  refine h.imp fun {x y} hxy e => hxy ?_
  have e2 : x ^^^ a = y ^^^ a := by omega
  have e3 := congrArg (· ^^^ a) e2
  simpa [Nat.xor_assoc] using e3
theorem xor_back (m a : Nat) : m ^^^ a ^^^ a = m := by rw [Nat.xor_assoc, Nat.xor_self, Nat.xor_zero]
/-- sorted([x ^ a for x in lot]) -/
theorem sort_xor {n a : Nat} {p : Nat → Bool} {ns : List Int} (ha : a < 2 ^ n) (perm : ns.Perm ((lotOf n p).map fun (m : Nat) => ((m ^^^ a : Nat) : Int))) (asc : ns.Pairwise (· ≤ ·)) : ns.map V.int = vm (lotOf n fun m => p (m ^^^ a)) := by
  have nd : ns.Nodup := by
    rw [perm.nodup_iff]
    exact nodup_xor a (nodup_lot n p)
  refine rising_lot (lt_of_le_nodup ns asc nd) fun k => ?_
  rw [perm.mem_iff, List.mem_map]
  constructor
  · rintro ⟨m, hm, rfl⟩
    obtain ⟨h1, h2⟩ := mem_lot.mp hm
    exact ⟨m ^^^ a, rfl, xor_lt h1 ha, by rw [xor_back]; exact h2⟩
  · rintro ⟨m, rfl, h1, h2⟩
    exact ⟨m ^^^ a, mem_lot.mpr ⟨xor_lt h1 ha, h2⟩, by rw [xor_back]⟩
theorem iteNT {A B : Prop} {b : Bool} (h : b = false) (x : B) : if b = true then A else B := by rw [h]; exact x
end XT
/-! sums of lots as numbers -/
namespace XT
open PySem PySem.Spec PyProof.Rows L2
/-- how many numbers below N the set has -/
def cnt (N : Nat) (S : Int → Bool) : Nat := ((List.range N).filter fun (m : Nat) => S (m : Int)).length
theorem cnt_le (N : Nat) (S : Int → Bool) : cnt N S ≤ N := by
  unfold cnt
  refine Nat.le_trans (List.length_filter_le _ _) ?_
  rw [List.length_range]
  exact Nat.le_refl _
theorem cnt_succ (N : Nat) (S : Int → Bool) : cnt (N + 1) S = cnt N S + if S (N : Int) = true then 1 else 0 := by
  unfold cnt
  rw [List.range_succ, List.filter_append, List.length_append]
  by_cases h : S (N : Int) = true
  · simp [h]
  · simp [h]
theorem cnt_old {N m : Nat} (S : Int → Bool) (h : N ≤ m) : cnt N (fun j => S j || decide (j = (m : Int))) = cnt N S := by
  unfold cnt
  congr 1
  refine List.filter_congr fun x hx => ?_
  have h2 := List.mem_range.mp hx
  show (S (x : Int) || decide ((x : Int) = (m : Int))) = S (x : Int)
  rw [decide_eq_false (by omega), Bool.or_false]
theorem cnt_add {m : Nat} (S : Int → Bool) : ∀ {N : Nat}, m < N → cnt N (fun j => S j || decide (j = (m : Int))) = if S (m : Int) = true then cnt N S else cnt N S + 1
  | 0, h => absurd h (Nat.not_lt_zero _)
  | N + 1, h => by
    rw [cnt_succ, cnt_succ]
    by_cases e : m = N
    · subst e
      rw [cnt_old S (Nat.le_refl _)]
      by_cases hS : S (m : Int) = true
      · simp [hS]
      · simp [hS]
    · rw [cnt_add S (show m < N by omega), decide_eq_false (show ¬((N : Int) = (m : Int)) by omega), Bool.or_false]
      by_cases hS : S (m : Int) = true
      · simp [hS]
      · simp [hS]; omega
/-- the sum of two lots -/
def addB (n : Nat) (p r : Nat → Bool) (m : Nat) : Bool := (List.range (2 ^ n)).any fun x => p x && r (x ^^^ m)
theorem add_iff {n : Nat} {p r : Nat → Bool} {m : Nat} : addB n p r m = true ↔ ∃ x, x < 2 ^ n ∧ p x = true ∧ r (x ^^^ m) = true := by
  unfold addB
  rw [List.any_eq_true]
  constructor
  · rintro ⟨x, h1, h2⟩
    rw [Bool.and_eq_true] at h2
    exact ⟨x, List.mem_range.mp h1, h2.1, h2.2⟩
  · rintro ⟨x, h1, h2, h3⟩
    exact ⟨x, List.mem_range.mpr h1, by rw [h2, h3]; rfl⟩
def zeroB (m : Nat) : Bool := decide (m = 0)
def sumB (n : Nat) (ps : List (Nat → Bool)) : Nat → Bool := ps.foldl (addB n) zeroB
theorem lot_zero (n : Nat) : lotOf n zeroB = [0] := by
  have h : ∀ N, 0 < N → (List.range N).filter zeroB = [0] := by
    intro N hN
    obtain ⟨k, rfl⟩ : ∃ k, N = k + 1 := ⟨N - 1, by omega⟩
    rw [List.range_succ_eq_map, List.filter_cons]
    have e : (List.filter zeroB (List.map Nat.succ (List.range k))) = [] := by
      rw [List.filter_eq_nil_iff]
      intro a ha
      obtain ⟨b, _, rfl⟩ := List.mem_map.mp ha
      simp [zeroB]
    rw [e]
    rfl
  exact h _ (pow0 n)
theorem sum_take {n : Nat} {ps : List (Nat → Bool)} {i : Nat} {p : Nat → Bool} (h : ps[i]? = some p) : sumB n (ps.take (i + 1)) = addB n (sumB n (ps.take i)) p := by
  unfold sumB
  rw [List.take_add_one, h, List.foldl_append]
  rfl
theorem add_congr {n : Nat} {p p' r r' : Nat → Bool} {m : Nat} (hm : m < 2 ^ n) (h1 : ∀ x, x < 2 ^ n → p x = p' x) (h2 : ∀ x, x < 2 ^ n → r x = r' x) : addB n p r m = addB n p' r' m := by
  rw [Bool.eq_iff_iff, add_iff, add_iff]
  constructor
  · rintro ⟨x, a, b, c⟩
    exact ⟨x, a, by rw [← h1 x a]; exact b, by rw [← h2 _ (xor_lt a hm)]; exact c⟩
  · rintro ⟨x, a, b, c⟩
    exact ⟨x, a, by rw [h1 x a]; exact b, by rw [h2 _ (xor_lt a hm)]; exact c⟩
theorem add_zero' {n : Nat} {p : Nat → Bool} {m : Nat} (hm : m < 2 ^ n) : addB n zeroB p m = p m := by
  rw [Bool.eq_iff_iff, add_iff]
  constructor
  · rintro ⟨x, a, b, c⟩
    have : x = 0 := of_decide_eq_true b
    subst this
    rwa [Nat.zero_xor] at c
  · intro h
    exact ⟨0, pow0 n, rfl, by rw [Nat.zero_xor]; exact h⟩
theorem add_comm' {n : Nat} {p r : Nat → Bool} {m : Nat} (hm : m < 2 ^ n) : addB n p r m = addB n r p m := by
  have go : ∀ {p r : Nat → Bool}, addB n p r m = true → addB n r p m = true := fun {p r} h => by
    obtain ⟨x, a, b, c⟩ := add_iff.mp h
    exact add_iff.mpr ⟨x ^^^ m, xor_lt a hm, c, by rw [xor_back]; exact b⟩
  rw [Bool.eq_iff_iff]
  exact ⟨go, go⟩
theorem add_assoc' {n : Nat} {p r o : Nat → Bool} {m : Nat} (hm : m < 2 ^ n) : addB n (addB n p r) o m = addB n p (addB n r o) m := by
  rw [Bool.eq_iff_iff, add_iff, add_iff]
  constructor
  · rintro ⟨x, a, b, c⟩
    obtain ⟨y, a2, b2, c2⟩ := add_iff.mp b
    refine ⟨y, a2, b2, add_iff.mpr ⟨y ^^^ x, xor_lt a2 a, c2, ?_⟩⟩
    have e : y ^^^ x ^^^ (y ^^^ m) = x ^^^ m := by rw [Nat.xor_comm y x, Nat.xor_assoc, ← Nat.xor_assoc y y m, Nat.xor_self, Nat.zero_xor]
    rw [e]
    exact c
  · rintro ⟨y, a2, b2, c⟩
    obtain ⟨z, a, c2, c3⟩ := add_iff.mp c
    refine ⟨y ^^^ z, xor_lt a2 a, add_iff.mpr ⟨y, a2, b2, ?_⟩, ?_⟩
    · have e : y ^^^ (y ^^^ z) = z := by rw [← Nat.xor_assoc, Nat.xor_self, Nat.zero_xor]
      rw [e]
      exact c2
    · have e : y ^^^ z ^^^ m = z ^^^ (y ^^^ m) := by rw [Nat.xor_comm y z, Nat.xor_assoc]
      rw [e]
      exact c3
/-- the greatest addend of p for r -/
def gaB (n : Nat) (p r : Nat → Bool) (m : Nat) : Bool := (lotOf n p).all fun x => r (x ^^^ m)
theorem ga_iff {n : Nat} {p r : Nat → Bool} {m : Nat} : gaB n p r m = true ↔ ∀ x, x < 2 ^ n → p x = true → r (x ^^^ m) = true := by
  unfold gaB
  rw [List.all_eq_true]
  exact ⟨fun h x a b => h x (mem_lot.mpr ⟨a, b⟩), fun h x hx => h x (mem_lot.mp hx).1 (mem_lot.mp hx).2⟩
/-! sums as numbers -/
theorem sum1 {n : Nat} {p : Nat → Bool} {m : Nat} (hm : m < 2 ^ n) : sumB n [p] m = p m := add_zero' hm
theorem sum2 {n : Nat} {p r : Nat → Bool} {m : Nat} (hm : m < 2 ^ n) : sumB n [p, r] m = addB n p r m := add_congr hm (fun _ h => add_zero' h) fun _ _ => rfl
theorem sum3 {n : Nat} {p r o : Nat → Bool} {m : Nat} (hm : m < 2 ^ n) : sumB n [p, r, o] m = addB n (addB n p r) o m := add_congr hm (fun _ h => sum2 h) fun _ _ => rfl
theorem add_or {n : Nat} {p r o : Nat → Bool} {m : Nat} : addB n p (fun x => r x || o x) m = (addB n p r m || addB n p o m) := by
  rw [Bool.eq_iff_iff, Bool.or_eq_true, add_iff, add_iff, add_iff]
  constructor
  · rintro ⟨x, a, b, c⟩
    rcases Bool.or_eq_true_iff.mp c with c | c
    · exact .inl ⟨x, a, b, c⟩
    · exact .inr ⟨x, a, b, c⟩
  · rintro (⟨x, a, b, c⟩ | ⟨x, a, b, c⟩)
    · exact ⟨x, a, b, by rw [c]; rfl⟩
    · exact ⟨x, a, b, by rw [c, Bool.or_true]⟩
def oneB (a m : Nat) : Bool := decide (m = a)
theorem lot_one {n a : Nat} (ha : a < 2 ^ n) : vm (lotOf n (oneB a)) = [.int (a : Int)] := by
  refine (rising_lot (ns := [(a : Int)]) (by simp) fun k => ?_).symm
  constructor
  · intro h
    have : k = (a : Int) := by simpa using h
    exact ⟨a, this, ha, decide_eq_true rfl⟩
  · rintro ⟨m, h1, h2, h3⟩
    have : m = a := of_decide_eq_true h3
    rw [h1, this]
    exact List.mem_singleton.mpr rfl
theorem add_one {n a : Nat} {p : Nat → Bool} {m : Nat} (ha : a < 2 ^ n) (hm : m < 2 ^ n) : addB n (oneB a) p m = p (m ^^^ a) := by
  rw [Bool.eq_iff_iff, add_iff]
  constructor
  · rintro ⟨x, a', b, c⟩
    have : x = a := of_decide_eq_true b
    subst this
    rwa [Nat.xor_comm] at c
  · intro h
    exact ⟨a, ha, decide_eq_true rfl, by rw [Nat.xor_comm]; exact h⟩
theorem lot_mono {n : Nat} {p r : Nat → Bool} (h : ∀ m, m < 2 ^ n → p m = true → r m = true) : (lotOf n p).length ≤ (lotOf n r).length := by
  unfold lotOf
  rw [← List.countP_eq_length_filter, ← List.countP_eq_length_filter]
  exact List.countP_mono_left fun m hm => h m (List.mem_range.mp hm)
theorem nodup_le : ∀ {l m : List Nat}, l.Nodup → l ⊆ m → l.length ≤ m.length
  | [], _, _, _ => Nat.zero_le _
  | x :: l, m, h, s => by
    obtain ⟨h1, h2⟩ := List.nodup_cons.mp h
    have hx : x ∈ m := s List.mem_cons_self
    have h3 := nodup_le (l := l) (m := m.erase x) h2 fun y hy => (List.mem_erase_of_ne (fun e => h1 (by rw [← e]; exact hy))).mpr (s (List.mem_cons_of_mem _ hy))
    rw [List.length_erase_of_mem hx] at h3
    have h4 : 0 < m.length := List.length_pos_of_mem hx
    rw [List.length_cons]
    omega
theorem lot_len_xor {n a : Nat} {p : Nat → Bool} (ha : a < 2 ^ n) : (lotOf n fun m => p (m ^^^ a)).length = (lotOf n p).length := by
  have sub : ∀ {p : Nat → Bool}, (lotOf n p).length ≤ (lotOf n fun m => p (m ^^^ a)).length := fun {p} => by
    have h1 : ((lotOf n p).map fun (m : Nat) => m ^^^ a).Nodup := by
      have h := nodup_lot n p
      unfold List.Nodup at h ⊢
      rw [List.pairwise_map]
      refine h.imp fun {x y} hxy e => hxy ?_
      have e3 := congrArg (· ^^^ a) e
      simpa [Nat.xor_assoc] using e3
    have h2 : ((lotOf n p).map fun (m : Nat) => m ^^^ a) ⊆ (lotOf n fun m => p (m ^^^ a)) := by
      intro z hz
      obtain ⟨m, hm, rfl⟩ := List.mem_map.mp hz
      obtain ⟨h3, h4⟩ := mem_lot.mp hm
      exact mem_lot.mpr ⟨xor_lt h3 ha, by rw [xor_back]; exact h4⟩
    have h3 := nodup_le h1 h2
    rw [List.length_map] at h3
    exact h3
  refine Nat.le_antisymm ?_ sub
  have h := sub (p := fun m => p (m ^^^ a))
  have e : (lotOf n fun m => p (m ^^^ a ^^^ a)) = lotOf n p := lot_congr fun m _ => by rw [xor_back]
  rw [e] at h
  exact h
end XT
/-! what some masks combine to; the base -/
namespace XT
open PySem PySem.Spec PyProof.Rows L2
def spS (s : Nat → Bool) (m x : Nat) : Bool := s x || s (x ^^^ m)
def span (ms : List Nat) : Nat → Bool := ms.foldl spS zeroB
structure Sub (s : Nat → Bool) : Prop where
  zero : s 0 = true
  add : ∀ {x y}, s x = true → s y = true → s (x ^^^ y) = true
theorem sub_zero : Sub zeroB := ⟨rfl, fun {x y} hx hy => by
  have h1 : x = 0 := of_decide_eq_true hx
  have h2 : y = 0 := of_decide_eq_true hy
  rw [h1, h2]
  rfl⟩
theorem xor_4 (x y m : Nat) : x ^^^ m ^^^ (y ^^^ m) = x ^^^ y := by rw [Nat.xor_assoc, Nat.xor_comm y m, ← Nat.xor_assoc m m y, Nat.xor_self, Nat.zero_xor]
theorem sub_step {s : Nat → Bool} (h : Sub s) (m : Nat) : Sub (spS s m) := by
  refine ⟨by unfold spS; rw [h.zero]; rfl, fun {x y} hx hy => ?_⟩
  unfold spS at *
  rw [Bool.or_eq_true] at *
  rcases hx with hx | hx <;> rcases hy with hy | hy
  · exact .inl (h.add hx hy)
  · exact .inr (by rw [Nat.xor_assoc]; exact h.add hx hy)
  · refine .inr ?_
    have := h.add hx hy
    rwa [Nat.xor_assoc, Nat.xor_comm m y, ← Nat.xor_assoc] at this
  · refine .inl ?_
    have := h.add hx hy
    rwa [xor_4] at this
theorem span_in {s : Nat → Bool} (h : Sub s) {m : Nat} (hm : s m = true) (x : Nat) : spS s m x = s x := by
  unfold spS
  cases e : s x
  · cases e2 : s (x ^^^ m)
    · rfl
    · have := h.add e2 hm
      rw [xor_back, e] at this
      cases this
  · rfl
theorem sub_span (ms : List Nat) : Sub (span ms) := by
  unfold span
  have go : ∀ (ms : List Nat) (s : Nat → Bool), Sub s → Sub (ms.foldl spS s) := by
    intro ms
    induction ms with
    | nil => exact fun s h => h
    | cons m ms ih => exact fun s h => ih _ (sub_step h m)
  exact go ms _ sub_zero
theorem span_take {ms : List Nat} {i m : Nat} (h : ms[i]? = some m) : span (ms.take (i + 1)) = spS (span (ms.take i)) m := by
  unfold span
  rw [List.take_add_one, h, List.foldl_append]
  rfl
/-- the base, one mask after the other -/
def baF (st : List Nat × (Nat → Bool)) (m : Nat) : List Nat × (Nat → Bool) := if st.2 m = true then st else (st.1 ++ [m], spS st.2 m)
def baS (ms : List Nat) : List Nat × (Nat → Bool) := ms.foldl baF ([], zeroB)
theorem ba_take {ms : List Nat} {i m : Nat} (h : ms[i]? = some m) : baS (ms.take (i + 1)) = baF (baS (ms.take i)) m := by
  unfold baS
  rw [List.take_add_one, h, List.foldl_append]
  rfl
theorem ba_span (ms : List Nat) : ∀ i, (baS (ms.take i)).2 = span (ms.take i)
  | 0 => rfl
  | i + 1 => by
    have ih := ba_span ms i
    cases h : ms[i]? with
    | none =>
      have e : ms.take (i + 1) = ms.take i := by rw [List.take_add_one, h]; simp
      rw [e, ih]
    | some m =>
      rw [ba_take h, span_take h]
      unfold baF
      by_cases hm : (baS (ms.take i)).2 m = true
      · rw [if_pos hm, ih]
        funext x
        rw [ih] at hm
        exact (span_in (sub_span _) hm x).symm
      · rw [if_neg hm, ih]
theorem ba_len (ms : List Nat) : ∀ i, (baS (ms.take i)).1.length ≤ i
  | 0 => Nat.le_refl _
  | i + 1 => by
    have ih := ba_len ms i
    cases h : ms[i]? with
    | none =>
      have e : ms.take (i + 1) = ms.take i := by rw [List.take_add_one, h]; simp
      rw [e]; omega
    | some m =>
      rw [ba_take h]
      unfold baF
      split
      · omega
      · rw [List.length_append]; simp; omega
theorem ba_mem (ms : List Nat) : ∀ i, ∀ x ∈ (baS (ms.take i)).1, x ∈ ms
  | 0, x, h => by cases h
  | i + 1, x, hx => by
    have ih := ba_mem ms i x
    cases h : ms[i]? with
    | none =>
      have e : ms.take (i + 1) = ms.take i := by rw [List.take_add_one, h]; simp
      rw [e] at hx
      exact ih hx
    | some m =>
      rw [ba_take h] at hx
      unfold baF at hx
      split at hx
      · exact ih hx
      · rcases List.mem_append.mp hx with hx | hx
        · exact ih hx
        · rw [List.mem_singleton.mp hx]
          exact List.mem_of_getElem? h
/-- the masks reached so far: each once, below 2 ^ n, those of s -/
structure Rch (n : Nat) (F : List Nat) (s : Nat → Bool) : Prop where
  nd : F.Nodup
  lt : ∀ x ∈ F, x < 2 ^ n
  iff : ∀ x, x ∈ F ↔ s x = true
theorem Rch.len {n : Nat} {F : List Nat} {s : Nat → Bool} (h : Rch n F s) : F.length ≤ 2 ^ n := by
  have := nodup_le h.nd (m := List.range (2 ^ n)) fun x hx => List.mem_range.mpr (h.lt x hx)
  rwa [List.length_range] at this
theorem rch_zero (n : Nat) : Rch n [0] zeroB := ⟨by simp, fun x hx => by rw [List.mem_singleton.mp hx]; exact pow0 n, fun x => by rw [List.mem_singleton]; unfold zeroB; rw [decide_eq_true_iff]⟩
theorem Rch.step {n : Nat} {F : List Nat} {s : Nat → Bool} (h : Rch n F s) {m : Nat} (hm : m < 2 ^ n) : Rch n (F ++ ((F.filter fun x => !s (m ^^^ x)).map fun x => m ^^^ x)) (spS s m) := by
  have inj : ∀ {x y : Nat}, m ^^^ x = m ^^^ y → x = y := fun {x y} e => by
    have := congrArg (m ^^^ ·) e
    simpa [← Nat.xor_assoc] using this
  refine ⟨?_, fun x hx => ?_, fun x => ?_⟩
  · refine List.nodup_append.mpr ⟨h.nd, ?_, ?_⟩
    · have h2 : (F.filter fun x => !s (m ^^^ x)).Nodup := List.Pairwise.filter _ h.nd
      unfold List.Nodup at h2 ⊢
      rw [List.pairwise_map]
      exact h2.imp fun hxy e => hxy (inj e)
    · intro x hx y hy e
      obtain ⟨z, hz, rfl⟩ := List.mem_map.mp hy
      have h3 := (List.mem_filter.mp hz).2
      rw [← e, (h.iff x).mp hx] at h3
      cases h3
  · rcases List.mem_append.mp hx with hx | hx
    · exact h.lt x hx
    · obtain ⟨z, hz, rfl⟩ := List.mem_map.mp hx
      exact xor_lt hm (h.lt z (List.mem_filter.mp hz).1)
  · unfold spS
    rw [List.mem_append, Bool.or_eq_true, h.iff x]
    constructor
    · rintro (h1 | h1)
      · exact .inl h1
      · obtain ⟨z, hz, rfl⟩ := List.mem_map.mp h1
        refine .inr ?_
        rw [Nat.xor_comm m z, xor_back]
        exact (h.iff z).mp (List.mem_filter.mp hz).1
    · intro h1
      by_cases hx : s x = true
      · exact .inl hx
      · rcases h1 with h1 | h1
        · exact absurd h1 hx
        · refine .inr (List.mem_map.mpr ⟨x ^^^ m, List.mem_filter.mpr ⟨(h.iff _).mpr h1, ?_⟩, ?_⟩)
          · rw [Nat.xor_comm x m, ← Nat.xor_assoc, Nat.xor_self, Nat.zero_xor]
            simpa using hx
          · rw [Nat.xor_comm x m, ← Nat.xor_assoc, Nat.xor_self, Nat.zero_xor]
end XT
/-! closed masks: what they combine to, how many they are, how many masks a kept lot has -/
namespace XT
open PySem PySem.Spec PyProof.Rows L2
theorem ba_fold (ms : List Nat) : ∀ i, (baS (ms.take i)).2 = span (baS (ms.take i)).1
  | 0 => rfl
  | i + 1 => by
    have ih := ba_fold ms i
    cases h : ms[i]? with
    | none =>
      have e : ms.take (i + 1) = ms.take i := by rw [List.take_add_one, h]; simp
      rw [e]
      exact ih
    | some m =>
      rw [ba_take h]
      unfold baF
      split
      · exact ih
      · show spS (baS (ms.take i)).2 m = span ((baS (ms.take i)).1 ++ [m])
        unfold span
        rw [List.foldl_append]
        show spS _ m = spS _ m
        rw [ih]
        rfl
theorem span_le {k : Nat → Bool} (hk : Sub k) : ∀ {ms : List Nat} {s : Nat → Bool}, (∀ x, s x = true → k x = true) → (∀ m ∈ ms, k m = true) → ∀ x, ms.foldl spS s x = true → k x = true
  | [], s, hs, _, x, h => hs x h
  | m :: ms, s, hs, hm, x, h => by
    refine span_le hk (ms := ms) (s := spS s m) (fun y hy => ?_) (fun y hy => hm y (List.mem_cons_of_mem _ hy)) x h
    rcases Bool.or_eq_true_iff.mp hy with hy | hy
    · exact hs y hy
    · have := hk.add (hs _ hy) (hm m List.mem_cons_self)
      rwa [xor_back] at this
theorem span_mono : ∀ {ms : List Nat} {s : Nat → Bool} {x : Nat}, s x = true → ms.foldl spS s x = true
  | [], _, _, h => h
  | m :: ms, s, x, h => span_mono (ms := ms) (s := spS s m) (by unfold spS; rw [h]; rfl)
theorem span_has : ∀ {ms : List Nat} {s : Nat → Bool} {m : Nat}, s 0 = true → m ∈ ms → ms.foldl spS s m = true
  | [], _, _, _, h => by cases h
  | a :: ms, s, m, h0, hm => by
    rcases List.mem_cons.mp hm with rfl | hm
    · refine span_mono (ms := ms) (s := spS s m) ?_
      unfold spS
      rw [Nat.xor_self, h0, Bool.or_true]
    · refine span_has (ms := ms) (s := spS s a) ?_ hm
      unfold spS
      rw [h0]
      rfl
/-- closed masks combine to themselves -/
theorem span_self {k : Nat → Bool} (hk : Sub k) {ms : List Nat} (hm : ∀ x, x ∈ ms ↔ k x = true) (x : Nat) : span ms x = k x := by
  rw [Bool.eq_iff_iff]
  constructor
  · exact span_le hk (fun y hy => by rw [of_decide_eq_true hy]; exact hk.zero) (fun m h => (hm m).mp h) x
  · exact fun h => span_has rfl ((hm x).mpr h)
/-- the base doubles -/
theorem ba_rch {n : Nat} {ks : List Nat} (hlt : ∀ m ∈ ks, m < 2 ^ n) : ∀ i, ∃ F, Rch n F (baS (ks.take i)).2 ∧ F.length = 2 ^ (baS (ks.take i)).1.length
  | 0 => ⟨[0], rch_zero n, rfl⟩
  | i + 1 => by
    obtain ⟨F, rch, hl⟩ := ba_rch hlt i
    cases h : ks[i]? with
    | none =>
      have e : ks.take (i + 1) = ks.take i := by rw [List.take_add_one, h]; simp
      rw [e]
      exact ⟨F, rch, hl⟩
    | some m =>
      rw [ba_take h]
      unfold baF
      split
      · exact ⟨F, rch, hl⟩
      · rename_i hm
        have st := rch.step (hlt m (List.mem_of_getElem? h))
        have sb : Sub (baS (ks.take i)).2 := by rw [ba_span]; exact sub_span _
        have ef : F.filter (fun x => !(baS (ks.take i)).2 (m ^^^ x)) = F := by
          rw [List.filter_eq_self]
          intro x hx
          cases e : (baS (ks.take i)).2 (m ^^^ x)
          · rfl
          · have := sb.add e ((rch.iff x).mp hx)
            rw [xor_back] at this
            exact absurd this hm
        rw [ef] at st
        refine ⟨_, st, ?_⟩
        rw [List.length_append, List.length_map, hl, List.length_append]
        show _ = 2 ^ ((baS (ks.take i)).1.length + 1)
        rw [Nat.pow_succ]
        omega
theorem filter_split (p c : Nat → Bool) : ∀ l : List Nat, (l.filter p).length = (l.filter fun x => p x && c x).length + (l.filter fun x => p x && !c x).length
  | [] => rfl
  | x :: l => by
    have ih := filter_split p c l
    rw [List.filter_cons, List.filter_cons, List.filter_cons]
    cases p x <;> cases c x <;> simp <;> omega
/-- a lot that closed masks keep has a multiple of them -/
theorem kept_mult {n : Nat} {k : Nat → Bool} (hk : Sub k) (hlt : ∀ x, k x = true → x < 2 ^ n) : ∀ (N : Nat) (p : Nat → Bool), (lotOf n p).length ≤ N → (∀ m, k m = true → ∀ x, x < 2 ^ n → p (x ^^^ m) = p x) → (lotOf n k).length ∣ (lotOf n p).length
  | N, p, hN, hp => by
    by_cases h0 : lotOf n p = []
    · rw [h0]
      exact Nat.dvd_zero _
    · obtain ⟨a, ha⟩ := List.exists_mem_of_ne_nil _ h0
      obtain ⟨ha1, ha2⟩ := mem_lot.mp ha
      have kpos : 0 < (lotOf n k).length := List.length_pos_of_mem (mem_lot.mpr ⟨pow0 n, hk.zero⟩)
      have hs := filter_split p (fun x => k (x ^^^ a)) (List.range (2 ^ n))
      have e1 : ((List.range (2 ^ n)).filter fun x => p x && k (x ^^^ a)) = lotOf n (fun x => k (x ^^^ a)) := by
        refine List.filter_congr fun x hx => ?_
        have hx := List.mem_range.mp hx
        cases e : k (x ^^^ a)
        · simp
        · have h2 := hp _ e a ha1
          rw [Nat.xor_comm x a, ← Nat.xor_assoc, Nat.xor_self, Nat.zero_xor] at h2
          rw [h2, ha2]
          rfl
      have e2 : ((List.range (2 ^ n)).filter fun x => p x && !k (x ^^^ a)) = lotOf n (fun x => p x && !k (x ^^^ a)) := rfl
      rw [e1, e2, lot_len_xor ha1] at hs
      have hs : (lotOf n p).length = (lotOf n k).length + (lotOf n fun x => p x && !k (x ^^^ a)).length := hs
      match N, hN with
      | 0, hN => omega
      | N + 1, hN =>
        have ih := kept_mult hk hlt N (fun x => p x && !k (x ^^^ a)) (by omega) fun m hm x hx => by
          show (p (x ^^^ m) && !k (x ^^^ m ^^^ a)) = (p x && !k (x ^^^ a))
          rw [hp m hm x hx]
          have e3 : k (x ^^^ m ^^^ a) = k (x ^^^ a) := by
            have e4 : x ^^^ m ^^^ a = x ^^^ a ^^^ m := by rw [Nat.xor_assoc, Nat.xor_comm m a, ← Nat.xor_assoc]
            rw [e4, Bool.eq_iff_iff]
            constructor
            · intro h
              have := hk.add h hm
              rwa [xor_back] at this
            · exact fun h => hk.add h hm
          rw [e3]
        rw [hs]
        exact Nat.dvd_add (Nat.dvd_refl _) ih
end XT
/-! comprehensions whose turns lay new things, of which something is known -/
namespace XT
open PySem PySem.Spec PyProof.Rows L2
section
variable {K : PySem.W.Frag} {a : Addr} {g : TG} {tt : TT} {te : TE} {vs : List Nat} {σ : L2.St} {H1 : Hp} {D : Addr} {Qd : Hp → Prop} {G : Nat → V → Hp → Prop}
/-- what is known stays when new things are laid, and when a list is changed -/
structure Stay (G : Nat → V → Hp → Prop) : Prop where
  same : ∀ {j y H H'}, G j y H → Same H H' → G j y H'
  put : ∀ {j y H D xs ys}, G j y H → H D = some (.lst xs) → G j y (upd H D (.lst ys))
def TurnG (G : Nat → V → Hp → Prop) (g : TG) (tt : TT) (te : TE) (vs : List Nat) (σ : L2.St) (i : Nat) (x : V) (H : Hp) : Prop :=
  ∀ (R1 : Hp → Prop) (R2 : V → Hp → Prop), (∀ y H4, Same H H4 → G i y H4 → R2 y H4) →
    g x (wipe σ vs) H fun σ2 H2 => wipe σ2 vs = wipe σ vs ∧ tt σ2 H2 fun b H3 => if b = true then te σ2 H3 R2 else R1 H3
def PvG (H1 : Hp) (D : Addr) (G : Nat → V → Hp → Prop) (i : Nat) (H : Hp) : Prop := Same H1 H ∧ ∃ ys, H D = some (.lst ys) ∧ ys.length = i ∧ ∀ j y, ys[j]? = some y → G j y H
theorem pvg_turn {i : Nat} {x : V} {H : Hp} (hG : Stay G) (nD : H1 D = none) (hi : i ≤ 1000) (h : PvG H1 D G i H) (ht : TurnG G g tt te vs σ i x H) :
    g x (wipe σ vs) H fun σ2 H2 => wipe σ2 vs = wipe σ vs ∧ tt σ2 H2 fun b H3 =>
      if b = true then te σ2 H3 fun y H4 => ∃ acc, H4 D = some (.lst acc) ∧ acc.length < sizeLine ∧ PvG H1 D G (i + 1) (upd H4 D (.lst (acc ++ [y]))) else PvG H1 D G (i + 1) H3 := by
  obtain ⟨sm, ys, hD, hl, hall⟩ := h
  refine ht _ _ fun y H4 s4 gy => ⟨ys, s4 _ _ hD, small64 (by omega), same_upd (sm.trans s4) nD, ys ++ [y], upd_same, by rw [List.length_append, hl]; rfl, fun j z hz => hG.put ?_ (s4 _ _ hD)⟩
  rcases Nat.lt_or_ge j ys.length with lt | ge
  · rw [List.getElem?_append_left lt] at hz
    exact hG.same (hall j z hz) s4
  · rw [List.getElem?_append_right ge] at hz
    obtain ⟨h1, h2⟩ := List.getElem?_eq_some_iff.mp hz
    have e : j = i := by simp at h1; omega
    subst e
    have e2 : y = z := by simpa using h2
    rw [← e2]
    exact gy
theorem lcg_tup {xs : List V} (hG : Stay G) (nD : H1 D = none) (hA : SqT K H1 a xs) (hz : xs.length ≤ 1000) (ht : ∀ (i : Nat) x H, xs[i]? = some x → Same H1 H → TurnG G g tt te vs σ i x H) (hd : ∀ H, PvG H1 D G xs.length H → Qd H) :
    ∃ W : Nat → Nat → Hp → Prop, (∃ m, W 0 m (upd H1 D (.lst []))) ∧ ∀ i m H, W i m H →
      ((Itt K a).stop i H ∧ Qd H) ∨ ((Itt K a).go i H ∧ ∃ Nx : Hp → Prop, (∀ H', Nx H' → ∃ m', m' < m ∧ W (i + 1) m' H') ∧ ∀ x H', (Itt K a).yld i H x H' → g x (wipe σ vs) H' fun σ2 H2 => wipe σ2 vs = wipe σ vs ∧ tt σ2 H2 fun b H3 =>
        if b = true then te σ2 H3 fun y H4 => ∃ acc, H4 D = some (.lst acc) ∧ acc.length < sizeLine ∧ Nx (upd H4 D (.lst (acc ++ [y]))) else Nx H3) :=
  lc_tup (xs := xs) (fun i H => PvG H1 D G i H) ⟨same_new nD, [], upd_same, rfl, fun j y h => by simp at h⟩ (fun i H _ h => Same.sqT h.1 hA) (fun i x H hx h => pvg_turn hG nD (by have := (List.getElem?_eq_some_iff.mp hx).1; omega) h (ht i x H hx h.1)) hd
theorem lcg_list {xs : List V} (hG : Stay G) (nD : H1 D = none) (hA : SqL K H1 a xs) (hz : xs.length ≤ 1000) (ht : ∀ (i : Nat) x H, xs[i]? = some x → Same H1 H → TurnG G g tt te vs σ i x H) (hd : ∀ H, PvG H1 D G xs.length H → Qd H) :
    ∃ W : Nat → Nat → Hp → Prop, (∃ m, W 0 m (upd H1 D (.lst []))) ∧ ∀ i m H, W i m H →
      ((Itl K a).stop i H ∧ Qd H) ∨ ((Itl K a).go i H ∧ ∃ Nx : Hp → Prop, (∀ H', Nx H' → ∃ m', m' < m ∧ W (i + 1) m' H') ∧ ∀ x H', (Itl K a).yld i H x H' → g x (wipe σ vs) H' fun σ2 H2 => wipe σ2 vs = wipe σ vs ∧ tt σ2 H2 fun b H3 =>
        if b = true then te σ2 H3 fun y H4 => ∃ acc, H4 D = some (.lst acc) ∧ acc.length < sizeLine ∧ Nx (upd H4 D (.lst (acc ++ [y]))) else Nx H3) :=
  lc_list (xs := xs) (fun i H => PvG H1 D G i H) ⟨same_new nD, [], upd_same, rfl, fun j y h => by simp at h⟩ (fun i H _ h => h.1.seq hA) (fun i x H hx h => pvg_turn hG nD (by have := (List.getElem?_eq_some_iff.mp hx).1; omega) h (ht i x H hx h.1)) hd
theorem lcg_range {n : Nat} (hG : Stay G) (nD : H1 D = none) (hz : n ≤ 1000) (ht : ∀ (i : Nat) H, i < n → Same H1 H → TurnG G g tt te vs σ i (.int (0 + (i : Int))) H) (hd : ∀ H, PvG H1 D G n H → Qd H) :
    ∃ W : Nat → Nat → Hp → Prop, (∃ m, W 0 m (upd H1 D (.lst []))) ∧ ∀ i m H, W i m H →
      ((Itr 0 n).stop i H ∧ Qd H) ∨ ((Itr 0 n).go i H ∧ ∃ Nx : Hp → Prop, (∀ H', Nx H' → ∃ m', m' < m ∧ W (i + 1) m' H') ∧ ∀ x H', (Itr 0 n).yld i H x H' → g x (wipe σ vs) H' fun σ2 H2 => wipe σ2 vs = wipe σ vs ∧ tt σ2 H2 fun b H3 =>
        if b = true then te σ2 H3 fun y H4 => ∃ acc, H4 D = some (.lst acc) ∧ acc.length < sizeLine ∧ Nx (upd H4 D (.lst (acc ++ [y]))) else Nx H3) :=
  lc_range (lo := 0) (n := n) (fun i H => PvG H1 D G i H) ⟨same_new nD, [], upd_same, rfl, fun j y h => by simp at h⟩ (fun i H hi h => pvg_turn hG nD (by omega) h (ht i H hi h.1)) hd
end
theorem stay_lot (n : Nat) (p : Nat → Nat → Bool) : Stay (fun j y H => LotAt H y n (p j)) := ⟨fun h e => h.same e, fun h e => lot_upd e h⟩
end XT
/-! pair counts -/
namespace XT
open PySem PySem.Spec PyProof.Rows L2
def pcN (n : Nat) (p : Nat → Bool) (m : Nat) : Nat := ((lotOf n p).filter fun x => p (x ^^^ m)).length
def pcL (n : Nat) (p : Nat → Bool) : List Nat := (List.range (2 ^ n)).map (pcN n p)
def spPc : Sp := fun vs H Q _ => ∃ (v : V) (n : Nat) (p : Nat → Bool), vs = [v] ∧ LotAt H v n p ∧ n ≤ 6 ∧ ∀ H' z, Same H H' → TupAt H' z (pcL n p) → Q z H'
abbrev ttPc (K : PySem.W.Frag) : TT := tTest (tOp (rIn K false) (tOp rXor (tVar 4) (tVar 3)) (tVar 2))
abbrev rLenK (K : PySem.W.Frag) : List V → Hp → VK → Prop := fun vs H R => ∃ a zs, vs = [.ref a] ∧ (SqL K H a zs ∨ SqT K H a zs) ∧ R (.int zs.length) H
abbrev tePc (K : PySem.W.Frag) : TE := tCB (rLenK K) (tCons (tLc (iTup K (tVar 2)) (gName 4) (ttPc K) (tVar 4) [4]) tNil)
theorem pc_walk {K : PySem.W.Frag} {n : Nat} {p : Nat → Bool} {y : Addr} {H : Hp} {v1 : V} {z1 z3 z4 : Option V} {D : Addr} {Qd : Hp → Prop} (hn : n ≤ 6) (hy : H y = some (.tup (vm (lotOf n p)))) (nD : H D = none)
    (hd : ∀ H3, Same H H3 → H3 D = some (.lst (vm (pcL n p))) → Qd H3) :
    ∃ W : Nat → Nat → Hp → Prop, (∃ m, W 0 m (upd H D (.lst []))) ∧ ∀ i m H, W i m H →
      ((Itr 0 (2 ^ n)).stop i H ∧ Qd H) ∨ ((Itr 0 (2 ^ n)).go i H ∧ ∃ Nx : Hp → Prop, (∀ H', Nx H' → ∃ m', m' < m ∧ W (i + 1) m' H') ∧ ∀ x H', (Itr 0 (2 ^ n)).yld i H x H' → gName 3 x (wipe [some v1, z1, some (.ref y), z3, z4] [3]) H' fun σ2 H2 => wipe σ2 [3] = wipe [some v1, z1, some (.ref y), z3, z4] [3] ∧ tYes σ2 H2 fun c H3 =>
        if c = true then tePc K σ2 H3 fun y H4 => ∃ acc, H4 D = some (.lst acc) ∧ acc.length < sizeLine ∧ Nx (upd H4 D (.lst (acc ++ [y]))) else Nx H3) := by
  have h6 := pow6 hn
  have hl := lot_len hn p
  refine lcp_range (n := 2 ^ n) (p := fun _ => true) (f := fun m => .int (pcN n p m : Int)) nD (small64 (by omega)) (fun i H3 hi s3 => ?_) (fun H3 s3 hD => hd H3 s3 ?_)
  · intro R1 R2 h1 h2
    have hy3 := s3 _ _ hy
    refine ⟨rfl, iteT (B := R1 H3) ⟨.ref y, rfl, y, rfl, ⟨_, SqT.of hy3⟩, fun B2 nB => ?_⟩⟩
    refine lcp_tup (p := fun v => match v with | .int k => p (k.toNat ^^^ i) | _ => false) (f := id) nB (SqT.of hy3) (small64 (by rw [vm_len]; omega)) (fun k z H4 hz s4 => ?_) (fun H4 s4 hD2 => ?_)
    · intro R3 R4 h3 h4
      obtain ⟨m, hm, rfl⟩ := mem_vm hz
      have hm2 := (mem_lot.mp (List.mem_of_getElem? hm)).1
      refine ⟨rfl, _, rfl, _, rfl, (m : Int), 0 + (i : Int), rfl, rfl, .ref y, rfl, y, _, rfl, .inr (SqT.of (s4 _ _ hy3)), rfl, vm_flat _, _, rfl, ?_⟩
      have e : inV (.int (Builtin.bitXor (m : Int) (0 + (i : Int)))) (vm (lotOf n p)) = p (m ^^^ i) := by
        rw [Int.zero_add, bx, in_lot (xor_lt hm2 hi)]
      show if inV (.int (Builtin.bitXor (m : Int) (0 + (i : Int)))) (vm (lotOf n p)) = true then _ else _
      rw [e]
      refine ite2 (fun z => ?_) (fun z => ?_)
      · exact ⟨_, rfl, h4 z _ (Same.refl _)⟩
      · exact h3 (by simpa using z) _ (Same.refl _)
    · rw [vm_filter (lotOf n p) (fun m => p (m ^^^ i)) _ fun m hm => rfl] at hD2
      refine ⟨B2, _, rfl, .inl (SqL.of hD2), ?_⟩
      rw [vm_len]
      exact h2 rfl _ s4
  · rw [hD, List.filter_eq_self.mpr (fun _ _ => rfl)]
    unfold pcL vm
    rw [List.map_map]
    rfl
end XT
/-! f"{m:b}" -/
namespace XT
open PySem PySem.Spec PyProof.Rows L2 Builtin
def binL (m : Nat) : List Nat := (Nat.toDigits 2 m).map Char.toNat
def binS (m : Nat) : Str := ⟨(binL m).toArray⟩
def sB : Str := ⟨#[98]⟩
def fB : Float.FormatSpec := { align := 62, type := some 98 }
theorem binL_ne (m : Nat) : (binL m).isEmpty = false := by
  have h := toDigits_len_ge 2 m
  unfold binL
  cases e : Nat.toDigits 2 m with
  | nil => rw [e] at h; simp at h
  | cons a b => rfl
theorem field_b (m : Nat) : intField' fB false [] (binL m) [] 4 = binS m := by
  unfold intField' binS
  have h := binL_ne m
  have h1 : 1 ≤ (binL m).length := by
    cases e : binL m with
    | nil => rw [e] at h; simp at h
    | cons a b => simp
  simp only [h, fB]
  simp
theorem gives_b (m : Nat) (t u : Tok) : Gives («int.__format__» ⟨[.int (m : Int) t, .str sB u], []⟩) (.str (binS m)) := by
  intro prog w A R s hq
  unfold Builtin.«int.__format__»
  simp only [selfAndOne, noKeywords, Int.intOfSelf, asInt?, asStr?, pure_bind, bind_pure, bind_assoc, List.isEmpty_nil, if_true, show (Value.str sB u == Value.none) = false from rfl, Bool.false_eq_true, if_false]
  refine wpAny_bind (wpAny_typeNameOf (T := "str") (typeIs_str s sB u) (by decide) fun _ => ?_)
  rw [if_neg (by decide), if_neg (by decide)]
  refine wpAny_bind (wpAny_typeNameOfCut_int ?_)
  have hp : Float.parseFormatSpec sB.cps.toList "int" 62 = .ok fB := rfl
  rw [hp]
  dsimp only
  have ht : fB.type.getD (if (sB.cps.back? == some 0) = true then 0 else 100) = 98 := rfl
  rw [ht, if_pos (by decide)]
  show wpAny _ _ (retStr _) _ _ _
  unfold retStr
  have hneg : decide ((m : Int) < 0) = false := decide_eq_false (by omega)
  rw [hneg]
  change wpAny _ _ (mkStr (intField' fB false [] (binL m) [] 4) >>= fun d => ret d) _ _ _
  rw [field_b]
  exact wpAny_bind (wpAny_mkStr (wpAny_pure hq.2) hq.1)
/-- {m:b} -/
def tFmtB (te : TE) : TE := fun σ H Q => te σ H fun x H1 => ∃ m : Nat, x = .int (m : Int) ∧ m < 2 ^ 900 ∧ Q (.str (binS m)) H1
theorem binL_len {m k : Nat} (hk : 1 ≤ k) (h : m < 2 ^ k) : (binL m).length ≤ k := by
  unfold binL
  rw [List.length_map]
  exact toDigits_len_pow (by decide) hk h
theorem binS_len (m : Nat) : (binS m).length = (binL m).length := by
  unfold binS Str.length
  simp
section
variable {X : Cx}
theorem pe_fmtB {e : Expr} {te : TE} {pos p1 p2 : Pos} {j : Nat} {b : Str} (hb : b = sB) (he : PE X e te) : PE X (.FormattedValue e (-1) (some (.JoinedStr [.Constant (.str b) j p1] p2)) pos) (tFmtB te) := by
  subst hb
  have hs : PE X (.JoinedStr [.Constant (.str sB) j p1] p2) (tC (.str sB)) := pe_joined1 pe_str
  refine ⟨fun pins s σ H Q I h => ?_⟩
  refine wpAny_FormattedValue_spec (thn (he.run pins s σ H _ I h) fun v s1 hv => ?_)
  obtain ⟨x, H1, I1, r1, m, rfl, hm, q⟩ := hv
  obtain ⟨t, rfl⟩ := r1
  refine thn (hs.run pins s1 σ H1 (fun x H2 => x = .str sB ∧ H2 = H1) I1 ⟨rfl, rfl⟩) fun r s2 hr => ?_
  obtain ⟨y, H2, I2, ry, ey, eH⟩ := hr
  subst ey eH
  obtain ⟨t2, rfl⟩ := ry
  refine ⟨sB, t2, rfl, wpAny_formatField_spec (by decide) (fun s' => typeIs_int s' _ _) PySem.F.slot_int_format PySem.F.entry_int_format PySem.F.args_int_format_2 (fun u => gives_b m t u) ⟨.str (binS m), H2, I2.tok _, ⟨_, rfl⟩, q⟩ (by decide) ?_⟩
  rw [binS_len]
  exact Nat.le_trans (binL_len (by decide) hm) (sz (by decide))
end
end XT
/-! how many ones a number has -/
namespace XT
open PySem PySem.Spec PyProof.Rows L2 Builtin Builtin.Str
def pop (m : Nat) : Nat := (binL m).count 49
theorem pop_lt {m : Nat} (h : m < 2) : pop m = m := by
  have : m = 0 ∨ m = 1 := by omega
  rcases this with rfl | rfl <;> decide
theorem pop_half (m : Nat) : pop m = pop (m / 2) + m % 2 := by
  by_cases h : m < 2
  · have : m = 0 ∨ m = 1 := by omega
    rcases this with rfl | rfl <;> decide
  · unfold pop binL
    rw [Nat.toDigits_of_base_le (by decide) (by omega), List.map_append, List.count_append]
    congr 1
    have : m % 2 = 0 ∨ m % 2 = 1 := by omega
    rcases this with e | e <;> rw [e] <;> decide
theorem occ_count (s : PySem.Str) (c limit : Nat) : ∀ (k a : Nat) (st : Array Nat × Nat), st.snd ≤ a → st.fst.size + k ≤ limit →
    (forIn (List.range' a k) st (StrLaws.occBody s ⟨#[c]⟩ s.length limit)).run.fst.size = st.fst.size + ((List.range' a k).filter fun i => decide (s.cps.toList[i]? = some c)).length
  | 0, a, st, _, _ => by simp
  | k + 1, a, st, h1, h2 => by
    rw [List.range'_succ, List.forIn_cons, List.filter_cons]
    unfold StrLaws.occBody
    have hs := StrLaws.subAt_one s c a
    by_cases hc : s.cps.toList[a]? = some c
    · obtain ⟨q1, q2⟩ := hs.mpr hc
      have hif : ((st.fst.size < limit ∧ st.snd ≤ a) ∧ a + (⟨#[c]⟩ : PySem.Str).length ≤ s.length) ∧ subAt s ⟨#[c]⟩ a = true := ⟨⟨⟨by omega, h1⟩, q1⟩, q2⟩
      rw [if_pos hif, if_pos (decide_eq_true hc)]
      have ih := occ_count s c limit k (a + 1) (st.fst.push a, a + 1) (Nat.le_refl _) (by simp; omega)
      rw [Array.size_push] at ih
      rw [List.length_cons]
      refine Eq.trans ih ?_
      omega
    · have hif : ¬(((st.fst.size < limit ∧ st.snd ≤ a) ∧ a + (⟨#[c]⟩ : PySem.Str).length ≤ s.length) ∧ subAt s ⟨#[c]⟩ a = true) := fun z => hc (hs.mp ⟨z.1.2, z.2⟩)
      rw [if_neg hif, if_neg (by simpa using hc)]
      exact occ_count s c limit k (a + 1) st (by omega) (by omega)
theorem count_list (c : Nat) : ∀ l : List Nat, ((List.range' 0 (l.length + 1)).filter fun i => decide (l[i]? = some c)).length = l.count c
  | [] => by simp [List.range'_succ]
  | x :: l => by
    have ih := count_list c l
    have e : List.range' 0 ((x :: l).length + 1) = 0 :: (List.range' 0 (l.length + 1)).map (· + 1) := by
      rw [List.length_cons, List.range'_succ]
      congr 1
      rw [List.range'_eq_map_range, List.range'_eq_map_range, List.map_map]
      refine List.map_congr_left fun i _ => ?_
      show 0 + 1 + i = 0 + i + 1
      omega
    rw [e, List.filter_cons, List.filter_map, List.count_cons]
    have e2 : ((fun i => decide ((x :: l)[i]? = some c)) ∘ fun x => x + 1) = fun i => decide (l[i]? = some c) := by
      funext i
      simp
    rw [e2]
    by_cases hx : x = c
    · subst hx
      simp [ih]
    · simp [hx, ih]
theorem count_one (m : Nat) : (occurrences (binS m) ⟨#[49]⟩ 0 (binS m).length ((binS m).length + 1)).length = pop m := by
  rw [StrLaws.occ_eq, Array.length_toList]
  have h := occ_count (binS m) 49 ((binS m).length + 1) ((binS m).length + 1) 0 (#[], 0) (Nat.le_refl _) (by simp)
  have h2 := count_list 49 (binL m)
  have e : (binS m).cps.toList = binL m := by unfold binS; simp
  rw [e, binS_len] at h
  simp only [Nat.sub_zero]
  rw [binS_len]
  refine h.trans ?_
  rw [h2]
  show 0 + pop m = pop m
  omega
/-- the sign of two numbers -/
def sgn (a b : Nat) : Int := if pop (a &&& b) % 2 = 0 then 1 else -1
theorem and_half (a b : Nat) : (a &&& b) / 2 = a / 2 &&& b / 2 := Nat.and_div_two
theorem and_mod (a b : Nat) : (a &&& b) % 2 = a % 2 * (b % 2) := by
  have e : (a &&& b) &&& 1 = (a &&& 1) &&& (b &&& 1) := by
    apply Nat.eq_of_testBit_eq
    intro i
    simp only [Nat.testBit_and]
    cases a.testBit i <;> cases b.testBit i <;> cases (1 : Nat).testBit i <;> rfl
  rw [Nat.and_one_is_mod, Nat.and_one_is_mod, Nat.and_one_is_mod] at e
  rw [e]
  have h1 : a % 2 = 0 ∨ a % 2 = 1 := by omega
  have h2 : b % 2 = 0 ∨ b % 2 = 1 := by omega
  rcases h1 with h1 | h1 <;> rcases h2 with h2 | h2 <;> rw [h1, h2] <;> rfl
theorem sgn_step (a b : Nat) : sgn a b = (if a % 2 = 1 ∧ b % 2 = 1 then -1 else 1) * sgn (a / 2) (b / 2) := by
  unfold sgn
  rw [pop_half (a &&& b), and_half, and_mod]
  have h1 : a % 2 = 0 ∨ a % 2 = 1 := by omega
  have h2 : b % 2 = 0 ∨ b % 2 = 1 := by omega
  rcases h1 with h1 | h1 <;> rcases h2 with h2 | h2 <;> simp only [h1, h2] <;> simp <;> split <;> split <;> omega
theorem sgn_zeroL (b : Nat) : sgn 0 b = 1 := by
  unfold sgn
  rw [Nat.zero_and]
  decide
theorem sgn_comm (a b : Nat) : sgn a b = sgn b a := by
  unfold sgn
  rw [Nat.and_comm]
theorem sgn_zeroR (a : Nat) : sgn a 0 = 1 := by rw [sgn_comm, sgn_zeroL]
end XT
/-! signed counts -/
namespace XT
open PySem PySem.Spec PyProof.Rows L2
def scI (n : Nat) (p : Nat → Bool) (u : Nat) : Int := ((lotOf n p).map fun x => sgn u x).sum
def scL (n : Nat) (p : Nat → Bool) : List Int := (List.range (2 ^ n)).map (scI n p)
def TupI (H : Hp) (v : V) (is : List Int) : Prop := ∃ q, v = .ref q ∧ H q = some (.tup (is.map V.int))
theorem TupI.same {H H' : Hp} {v : V} {is : List Int} (h : TupI H v is) (e : Same H H') : TupI H' v is := by
  obtain ⟨q, rfl, h⟩ := h
  exact ⟨q, rfl, e _ _ h⟩
def spSc : Sp := fun vs H Q _ => ∃ (v : V) (n : Nat) (p : Nat → Bool), vs = [v] ∧ LotAt H v n p ∧ n ≤ 6 ∧ ∀ H' z, Same H H' → TupI H' z (scL n p) → Q z H'
def spSgn : Sp := fun vs H Q _ => ∃ a b : Nat, vs = [.int (a : Int), .int (b : Int)] ∧ a < 2 ^ 900 ∧ b < 2 ^ 900 ∧ ∀ H', Same H H' → Q (.int (sgn a b)) H'
abbrev teSc (K : PySem.W.Frag) : TE := tCB (rSum K) (tCons (tLc (iTup K (tVar 2)) (gName 4) tYes (tDf spSgn (tCons (tVar 3) (tCons (tVar 4) tNil))) [4]) tNil)
theorem lt900 {a : Nat} (h : a < 64) : a < 2 ^ 900 := Nat.lt_of_lt_of_le h (by decide)
theorem sc_walk {K : PySem.W.Frag} {n : Nat} {p : Nat → Bool} {y : Addr} {H : Hp} {v1 : V} {z1 z3 z4 : Option V} {D : Addr} {Qd : Hp → Prop} (hn : n ≤ 6) (hy : H y = some (.tup (vm (lotOf n p)))) (nD : H D = none)
    (hd : ∀ H3, Same H H3 → H3 D = some (.lst ((scL n p).map V.int)) → Qd H3) :
    ∃ W : Nat → Nat → Hp → Prop, (∃ m, W 0 m (upd H D (.lst []))) ∧ ∀ i m H, W i m H →
      ((Itr 0 (2 ^ n)).stop i H ∧ Qd H) ∨ ((Itr 0 (2 ^ n)).go i H ∧ ∃ Nx : Hp → Prop, (∀ H', Nx H' → ∃ m', m' < m ∧ W (i + 1) m' H') ∧ ∀ x H', (Itr 0 (2 ^ n)).yld i H x H' → gName 3 x (wipe [some v1, z1, some (.ref y), z3, z4] [3]) H' fun σ2 H2 => wipe σ2 [3] = wipe [some v1, z1, some (.ref y), z3, z4] [3] ∧ tYes σ2 H2 fun c H3 =>
        if c = true then teSc K σ2 H3 fun y H4 => ∃ acc, H4 D = some (.lst acc) ∧ acc.length < sizeLine ∧ Nx (upd H4 D (.lst (acc ++ [y]))) else Nx H3) := by
  have h6 := pow6 hn
  have hl := lot_len hn p
  refine lcp_range (n := 2 ^ n) (p := fun _ => true) (f := fun m => .int (scI n p m)) nD (small64 (by omega)) (fun i H3 hi s3 => ?_) (fun H3 s3 hD => hd H3 s3 ?_)
  · intro R1 R2 h1 h2
    have hy3 := s3 _ _ hy
    refine ⟨rfl, iteT (B := R1 H3) ⟨.ref y, rfl, y, rfl, ⟨_, SqT.of hy3⟩, fun B2 nB => ?_⟩⟩
    refine lcp_tup (p := fun _ => true) (f := fun v => match v with | .int k => .int (sgn i k.toNat) | v => v) nB (SqT.of hy3) (small64 (by rw [vm_len]; omega)) (fun k z H4 hz s4 => ?_) (fun H4 s4 hD2 => ?_)
    · intro R3 R4 h3 h4
      obtain ⟨m, hm, rfl⟩ := mem_vm hz
      have hm2 := (mem_lot.mp (List.mem_of_getElem? hm)).1
      exact ⟨rfl, iteT (B := R3 H4) ⟨_, rfl, _, rfl, i, m, congrArg (fun z => [V.int z, V.int (m : Int)]) (Int.zero_add _), lt900 (by omega), lt900 (by omega), fun H5 s5 => h4 rfl _ s5⟩⟩
    · have e : (((vm (lotOf n p)).filter fun _ => true).map fun v => match v with | .int k => V.int (sgn i k.toNat) | v => v) = ((lotOf n p).map fun x => sgn i x).map V.int := by
        rw [List.filter_eq_self.mpr (fun _ _ => rfl)]
        unfold vm
        rw [List.map_map, List.map_map]
        rfl
      rw [e] at hD2
      exact ⟨B2, _, rfl, SqL.of hD2, h2 rfl _ s4⟩
  · rw [hD, List.filter_eq_self.mpr (fun _ _ => rfl)]
    unfold scL
    rw [List.map_map]
    rfl
end XT
/-! signed counts determine the lot -/
namespace XT
open PySem PySem.Spec PyProof.Rows L2
theorem xor_half (x y : Nat) : (x ^^^ y) / 2 = x / 2 ^^^ y / 2 := Nat.xor_div_two
theorem xor_mod (x y : Nat) : (x ^^^ y) % 2 = (x % 2 + y % 2) % 2 := by
  have e : (x ^^^ y) &&& 1 = (x &&& 1) ^^^ (y &&& 1) := by
    apply Nat.eq_of_testBit_eq
    intro i
    simp only [Nat.testBit_and, Nat.testBit_xor]
    cases x.testBit i <;> cases y.testBit i <;> cases (1 : Nat).testBit i <;> rfl
  rw [Nat.and_one_is_mod, Nat.and_one_is_mod, Nat.and_one_is_mod] at e
  rw [e]
  have h1 : x % 2 = 0 ∨ x % 2 = 1 := by omega
  have h2 : y % 2 = 0 ∨ y % 2 = 1 := by omega
  rcases h1 with h1 | h1 <;> rcases h2 with h2 | h2 <;> rw [h1, h2] <;> rfl
theorem sgn_xor : ∀ (u x y : Nat), sgn u (x ^^^ y) = sgn u x * sgn u y
  | 0, x, y => by rw [sgn_zeroL, sgn_zeroL, sgn_zeroL]; rfl
  | u + 1, x, y => by
    have ih := sgn_xor ((u + 1) / 2) (x / 2) (y / 2)
    rw [sgn_step (u + 1) (x ^^^ y), sgn_step (u + 1) x, sgn_step (u + 1) y, xor_half, ih, xor_mod]
    have h1 : (u + 1) % 2 = 0 ∨ (u + 1) % 2 = 1 := by omega
    have h2 : x % 2 = 0 ∨ x % 2 = 1 := by omega
    have h3 : y % 2 = 0 ∨ y % 2 = 1 := by omega
    generalize sgn ((u + 1) / 2) (x / 2) = A
    generalize sgn ((u + 1) / 2) (y / 2) = C
    rcases h1 with h1 | h1 <;> rcases h2 with h2 | h2 <;> rcases h3 with h3 | h3 <;> simp [h1, h2, h3, Int.neg_mul, Int.mul_neg]
  termination_by u => u
  decreasing_by omega
def orthB (n : Nat) : Bool := (List.range (2 ^ n)).all fun z => decide (((List.range (2 ^ n)).map fun u => sgn u z).sum = if z = 0 then ((2 ^ n : Nat) : Int) else 0)
theorem orth_all : ∀ n, n ≤ 6 → orthB n = true := by
  intro n hn
  have : n = 0 ∨ n = 1 ∨ n = 2 ∨ n = 3 ∨ n = 4 ∨ n = 5 ∨ n = 6 := by omega
  rcases this with rfl | rfl | rfl | rfl | rfl | rfl | rfl <;> decide +kernel
theorem orth {n z : Nat} (hn : n ≤ 6) (hz : z < 2 ^ n) : ((List.range (2 ^ n)).map fun u => sgn u z).sum = if z = 0 then ((2 ^ n : Nat) : Int) else 0 :=
  of_decide_eq_true (List.all_eq_true.mp (orth_all n hn) z (List.mem_range.mpr hz))
/-! sums -/
theorem sum_add (f g : Nat → Int) : ∀ l : List Nat, (l.map fun x => f x + g x).sum = (l.map f).sum + (l.map g).sum
  | [] => rfl
  | x :: l => by
    have ih := sum_add f g l
    simp only [List.map_cons, List.sum_cons, ih]
    omega
theorem sum_mul (c : Int) (f : Nat → Int) : ∀ l : List Nat, (l.map fun x => c * f x).sum = c * (l.map f).sum
  | [] => by simp
  | x :: l => by
    have ih := sum_mul c f l
    simp only [List.map_cons, List.sum_cons, ih, Int.mul_add]
theorem sum_zero : ∀ l : List Nat, (l.map fun _ => (0 : Int)).sum = 0
  | [] => rfl
  | x :: l => by
    have ih := sum_zero l
    simp only [List.map_cons, List.sum_cons, ih]
    rfl
theorem sum_swap (f : Nat → Nat → Int) : ∀ l m : List Nat, (l.map fun x => (m.map fun y => f x y).sum).sum = (m.map fun y => (l.map fun x => f x y).sum).sum
  | [], m => by simp [sum_zero]
  | x :: l, m => by
    have ih := sum_swap f l m
    simp only [List.map_cons, List.sum_cons, ih]
    rw [← sum_add]
theorem sum_congr {f g : Nat → Int} {l : List Nat} (h : ∀ x ∈ l, f x = g x) : (l.map f).sum = (l.map g).sum := by rw [List.map_congr_left h]
theorem sum_perm {l m : List Int} (h : l.Perm m) : l.sum = m.sum := by
  induction h with
  | nil => rfl
  | cons x _ ih => simp only [List.sum_cons, ih]
  | swap x y l => simp only [List.sum_cons]; omega
  | trans _ _ i1 i2 => rw [i1, i2]
theorem sum_one {c : Int} {y : Nat} : ∀ {l : List Nat}, l.Nodup → (l.map fun x => if x = y then c else 0).sum = if y ∈ l then c else 0
  | [], _ => by simp
  | x :: l, h => by
    obtain ⟨h1, h2⟩ := List.nodup_cons.mp h
    have ih := sum_one (c := c) (y := y) h2
    simp only [List.map_cons, List.sum_cons, ih]
    by_cases e : x = y
    · subst e
      simp [h1]
    · have e2 : ¬ y = x := fun z => e z.symm
      simp [e, e2]
theorem perm_nodup {l m : List Nat} (hl : l.Nodup) (hm : m.Nodup) (h : ∀ x, x ∈ l ↔ x ∈ m) : l.Perm m := by
  rw [List.perm_iff_count]
  intro a
  by_cases ha : a ∈ l
  · rw [List.Nodup.count hl, List.Nodup.count hm, if_pos ha, if_pos ((h a).mp ha)]
  · rw [List.Nodup.count hl, List.Nodup.count hm, if_neg ha, if_neg (fun z => ha ((h a).mpr z))]
/-- the signed counts lead back to the lot -/
theorem inv {n y : Nat} {p : Nat → Bool} (hn : n ≤ 6) (hy : y < 2 ^ n) : ((List.range (2 ^ n)).map fun u => scI n p u * sgn u y).sum = if p y = true then ((2 ^ n : Nat) : Int) else 0 := by
  have e1 : ((List.range (2 ^ n)).map fun u => scI n p u * sgn u y).sum = ((List.range (2 ^ n)).map fun u => ((lotOf n p).map fun x => sgn u (x ^^^ y)).sum).sum := by
    refine sum_congr fun u _ => ?_
    unfold scI
    rw [Int.mul_comm, ← sum_mul]
    exact sum_congr fun x _ => by rw [sgn_xor, Int.mul_comm]
  rw [e1, sum_swap]
  have e2 : ((lotOf n p).map fun x => ((List.range (2 ^ n)).map fun u => sgn u (x ^^^ y)).sum).sum = ((lotOf n p).map fun x => if x = y then ((2 ^ n : Nat) : Int) else 0).sum := by
    refine sum_congr fun x hx => ?_
    rw [orth hn (xor_lt (mem_lot.mp hx).1 hy)]
    by_cases e : x = y
    · rw [if_pos e, if_pos (by rw [e, Nat.xor_self])]
    · rw [if_neg e, if_neg (fun z => e ?_)]
      have h := congrArg (· ^^^ y) z
      simpa [Nat.xor_assoc] using h
  rw [e2, sum_one (nodup_lot n p)]
  by_cases h : p y = true
  · rw [if_pos h, if_pos (mem_lot.mpr ⟨hy, h⟩)]
  · rw [if_neg h, if_neg (fun z => h (mem_lot.mp z).2)]
/-- a turned lot's signed counts -/
theorem sc_turn {n m u : Nat} {p : Nat → Bool} (hm : m < 2 ^ n) : scI n (fun x => p (x ^^^ m)) u = sgn u m * scI n p u := by
  unfold scI
  have pm : (lotOf n fun x => p (x ^^^ m)).Perm ((lotOf n p).map (· ^^^ m)) := by
    refine perm_nodup (nodup_lot _ _) ?_ fun x => ?_
    · have h := nodup_lot n p
      unfold List.Nodup at h ⊢
      rw [List.pairwise_map]
      refine h.imp fun {x y} hxy e => hxy ?_
      have e3 := congrArg (· ^^^ m) e
      simpa [Nat.xor_assoc] using e3
    · rw [List.mem_map, mem_lot]
      constructor
      · rintro ⟨h1, h2⟩
        exact ⟨x ^^^ m, mem_lot.mpr ⟨xor_lt h1 hm, h2⟩, xor_back x m⟩
      · rintro ⟨y, hy, rfl⟩
        obtain ⟨h1, h2⟩ := mem_lot.mp hy
        exact ⟨xor_lt h1 hm, by rw [xor_back]; exact h2⟩
  rw [sum_perm (pm.map fun x => sgn u x), List.map_map, ← sum_mul]
  exact sum_congr fun x _ => by
    show sgn u (x ^^^ m) = _
    rw [sgn_xor, Int.mul_comm]
end XT
/-! flat lots -/
namespace XT
open PySem PySem.Spec PyProof.Rows L2
def FlP (n : Nat) (q : Nat → Bool) : Prop := ∀ x y z, x < 2 ^ n → y < 2 ^ n → z < 2 ^ n → q x = true → q y = true → q z = true → q (x ^^^ y ^^^ z) = true
def hd (n : Nat) (p : Nat → Bool) : Nat := (lotOf n p).headD 0
def dsL (n : Nat) (p : Nat → Bool) : List Nat := (lotOf n p).map fun x => hd n p ^^^ x
def flB (n : Nat) (p : Nat → Bool) (x : Nat) : Bool := span (dsL n p) (hd n p ^^^ x)
theorem not_in_step' {s : Nat → Bool} (h : Sub s) {m : Nat} (hm : ¬ s m = true) {F : List Nat} (hF : ∀ x ∈ F, s x = true) : F.filter (fun x => !s (m ^^^ x)) = F := by
  rw [List.filter_eq_self]
  intro x hx
  cases e : s (m ^^^ x)
  · rfl
  · have := h.add e (hF x hx)
    rw [xor_back] at this
    exact absurd this hm
/-- no bend of a with the i'th and the j'th mask, for all pairs before (i, j) -/
def NoB (p : Nat → Bool) (a : Nat) (xs : List Nat) (i j : Nat) : Prop := ∀ (i' j' y z : Nat), i' < j' → (i' < i ∨ (i' = i ∧ j' < j)) → xs[i']? = some y → xs[j']? = some z → p (a ^^^ y ^^^ z) = true
section
variable {n : Nat} {p q r : Nat → Bool}
theorem xb (a b : Nat) : a ^^^ (a ^^^ b) = b := by rw [← Nat.xor_assoc, Nat.xor_self, Nat.zero_xor]
theorem hd_mem (hne : lotOf n p ≠ []) : hd n p < 2 ^ n ∧ p (hd n p) = true := by
  unfold hd
  cases e : lotOf n p with
  | nil => exact absurd e hne
  | cons x l => exact mem_lot.mp (by rw [e]; exact List.mem_cons_self ..)
theorem ne_of {x : Nat} (hx : x < 2 ^ n) (h : p x = true) : lotOf n p ≠ [] := fun e => by
  have := mem_lot.mpr ⟨hx, h⟩
  rw [e] at this
  cases this
theorem ds_lt (hne : lotOf n p ≠ []) : ∀ m ∈ dsL n p, m < 2 ^ n := by
  intro m hm
  obtain ⟨x, hx, rfl⟩ := List.mem_map.mp hm
  exact xor_lt (hd_mem hne).1 (mem_lot.mp hx).1
theorem x3 (a x y z : Nat) : a ^^^ (x ^^^ y ^^^ z) = (a ^^^ x) ^^^ (a ^^^ y) ^^^ (a ^^^ z) := by
  apply Nat.eq_of_testBit_eq
  intro i
  simp only [Nat.testBit_xor]
  cases a.testBit i <;> cases x.testBit i <;> cases y.testBit i <;> cases z.testBit i <;> rfl
theorem x4 (a x y : Nat) : a ^^^ (x ^^^ y) = (a ^^^ x) ^^^ (a ^^^ y) ^^^ a := by
  apply Nat.eq_of_testBit_eq
  intro i
  simp only [Nat.testBit_xor]
  cases a.testBit i <;> cases x.testBit i <;> cases y.testBit i <;> rfl
theorem fl_flat : FlP n (flB n p) := by
  intro x y z _ _ _ hx hy hz
  unfold flB at *
  have sb := sub_span (dsL n p)
  rw [x3]
  exact sb.add (sb.add hx hy) hz
theorem fl_has {x : Nat} (hx : x < 2 ^ n) (h : p x = true) : flB n p x = true := span_has rfl (List.mem_map.mpr ⟨x, mem_lot.mpr ⟨hx, h⟩, rfl⟩)
theorem fl_least (hne : lotOf n p ≠ []) (hq : FlP n q) (hs : ∀ x, x < 2 ^ n → p x = true → q x = true) {x : Nat} (h : flB n p x = true) : q x = true := by
  obtain ⟨h1, h2⟩ := hd_mem hne
  have hk : Sub (fun d => decide (d < 2 ^ n) && q (hd n p ^^^ d)) := by
    refine ⟨?_, fun {a b} ha hb => ?_⟩
    · rw [Nat.xor_zero, hs _ h1 h2, decide_eq_true (pow0 n)]
      rfl
    · rw [Bool.and_eq_true, decide_eq_true_iff] at ha hb ⊢
      refine ⟨xor_lt ha.1 hb.1, ?_⟩
      rw [x4]
      exact hq _ _ _ (xor_lt h1 ha.1) (xor_lt h1 hb.1) h1 ha.2 hb.2 (hs _ h1 h2)
  have h3 := span_le hk (ms := dsL n p) (s := zeroB) (fun x hx => by
    have e : x = 0 := of_decide_eq_true hx
    rw [e]
    exact hk.zero) (fun m hm => by
    obtain ⟨y, hy, rfl⟩ := List.mem_map.mp hm
    rw [Bool.and_eq_true, decide_eq_true_iff]
    refine ⟨xor_lt h1 (mem_lot.mp hy).1, ?_⟩
    rw [xb]
    exact hs _ (mem_lot.mp hy).1 (mem_lot.mp hy).2) _ h
  rw [Bool.and_eq_true, xb] at h3
  exact h3.2
theorem fl_lt (hne : lotOf n p ≠ []) {x : Nat} (h : flB n p x = true) : x < 2 ^ n := by
  have := fl_least (q := fun x => decide (x < 2 ^ n)) hne (fun x y z hx hy hz _ _ _ => decide_eq_true (xor_lt (xor_lt hx hy) hz)) (fun x hx _ => decide_eq_true hx) h
  exact of_decide_eq_true this
theorem fl_ne (hne : lotOf n p ≠ []) : lotOf n (flB n p) ≠ [] := by
  obtain ⟨h1, h2⟩ := hd_mem hne
  exact ne_of h1 (fl_has h1 h2)
theorem fl_iff (hne : lotOf n p ≠ []) : (∀ m, m < 2 ^ n → flB n p m = p m) ↔ FlP n p := by
  constructor
  · intro h x y z hx hy hz px py pz
    rw [← h _ (xor_lt (xor_lt hx hy) hz)]
    exact fl_flat x y z hx hy hz (by rw [h x hx]; exact px) (by rw [h y hy]; exact py) (by rw [h z hz]; exact pz)
  · intro h m hm
    rw [Bool.eq_iff_iff]
    exact ⟨fun z => fl_least hne h (fun _ _ k => k) z, fun z => fl_has hm z⟩
theorem fl_mono (hne : lotOf n p ≠ []) (hs : ∀ x, x < 2 ^ n → p x = true → r x = true) {x : Nat} (h : flB n p x = true) : flB n r x = true :=
  fl_least hne fl_flat (fun y hy hp => fl_has hy (hs y hy hp)) h
theorem flp_turn {a : Nat} (ha : a < 2 ^ n) (h : FlP n q) : FlP n (fun x => q (x ^^^ a)) := by
  intro x y z hx hy hz qx qy qz
  have := h _ _ _ (xor_lt hx ha) (xor_lt hy ha) (xor_lt hz ha) qx qy qz
  have e : x ^^^ a ^^^ (y ^^^ a) ^^^ (z ^^^ a) = x ^^^ y ^^^ z ^^^ a := by
    apply Nat.eq_of_testBit_eq
    intro i
    simp only [Nat.testBit_xor]
    cases a.testBit i <;> cases x.testBit i <;> cases y.testBit i <;> cases z.testBit i <;> rfl
  rw [e] at this
  exact this
theorem ne_turn {a : Nat} (ha : a < 2 ^ n) (hne : lotOf n p ≠ []) : lotOf n (fun x => p (x ^^^ a)) ≠ [] := by
  obtain ⟨h1, h2⟩ := hd_mem hne
  exact ne_of (xor_lt h1 ha) (by rw [xor_back]; exact h2)
theorem fl_turn {a m : Nat} (ha : a < 2 ^ n) (hne : lotOf n p ≠ []) : flB n (fun x => p (x ^^^ a)) m = flB n p (m ^^^ a) := by
  rw [Bool.eq_iff_iff]
  constructor
  · intro h
    exact fl_least (q := fun x => flB n p (x ^^^ a)) (ne_turn ha hne) (flp_turn ha fl_flat) (fun x hx hp => fl_has (xor_lt hx ha) hp) h
  · intro h
    have := fl_least (q := fun x => flB n (fun x => p (x ^^^ a)) (x ^^^ a)) hne (flp_turn ha fl_flat) (fun x hx hp => fl_has (xor_lt hx ha) (by rw [xor_back]; exact hp)) h
    rwa [xor_back] at this
theorem flp_add (hp : FlP n p) (hr : FlP n r) : FlP n (addB n p r) := by
  intro x y z hx hy hz qx qy qz
  rw [add_iff] at *
  obtain ⟨a, ha, pa, ra⟩ := qx
  obtain ⟨b, hb, pb, rb⟩ := qy
  obtain ⟨c, hc, pc, rc⟩ := qz
  refine ⟨a ^^^ b ^^^ c, xor_lt (xor_lt ha hb) hc, hp _ _ _ ha hb hc pa pb pc, ?_⟩
  have e : a ^^^ b ^^^ c ^^^ (x ^^^ y ^^^ z) = (a ^^^ x) ^^^ (b ^^^ y) ^^^ (c ^^^ z) := by
    apply Nat.eq_of_testBit_eq
    intro i
    simp only [Nat.testBit_xor]
    cases a.testBit i <;> cases b.testBit i <;> cases c.testBit i <;> cases x.testBit i <;> cases y.testBit i <;> cases z.testBit i <;> rfl
  rw [e]
  exact hr _ _ _ (xor_lt ha hx) (xor_lt hb hy) (xor_lt hc hz) ra rb rc
theorem ne_add (hp : lotOf n p ≠ []) (hr : lotOf n r ≠ []) : lotOf n (addB n p r) ≠ [] := by
  obtain ⟨h1, h2⟩ := hd_mem hp
  obtain ⟨h3, h4⟩ := hd_mem hr
  exact ne_of (xor_lt h1 h3) (add_iff.mpr ⟨_, h1, h2, by rw [xb]; exact h4⟩)
theorem fl_sum {m : Nat} (hp : lotOf n p ≠ []) (hr : lotOf n r ≠ []) (hm : m < 2 ^ n) : addB n (flB n p) (flB n r) m = flB n (addB n p r) m := by
  rw [Bool.eq_iff_iff]
  constructor
  · intro h
    obtain ⟨x, hx, px, rx⟩ := add_iff.mp h
    have hne := ne_add hp hr
    have k1 : ∀ b, b < 2 ^ n → r b = true → ∀ x, flB n p x = true → flB n (addB n p r) (x ^^^ b) = true := fun b hb rb x hx =>
      fl_least (q := fun x => flB n (addB n p r) (x ^^^ b)) hp (flp_turn hb fl_flat) (fun y hy py => fl_has (xor_lt hy hb) (add_iff.mpr ⟨y, hy, py, by rw [xb]; exact rb⟩)) hx
    have k2 := fl_least (q := fun y => flB n (addB n p r) (y ^^^ x)) hr (flp_turn hx fl_flat) (fun y hy ry => by
      show flB n (addB n p r) (y ^^^ x) = true
      rw [Nat.xor_comm]
      exact k1 y hy ry x px) rx
    have e : x ^^^ m ^^^ x = m := by rw [Nat.xor_comm x m, xor_back]
    rw [e] at k2
    exact k2
  · intro h
    refine fl_least (ne_add hp hr) (flp_add fl_flat fl_flat) (fun y hy z => ?_) h
    obtain ⟨a, ha, pa, ra⟩ := add_iff.mp z
    exact add_iff.mpr ⟨a, ha, fl_has ha pa, fl_has (xor_lt ha hy) ra⟩
theorem lot_len_eq {s t : Nat → Bool} (h : ∀ x, x < 2 ^ n → s x = true → t x = true) (hl : (lotOf n s).length = (lotOf n t).length) {x : Nat} (hx : x < 2 ^ n) (ht : t x = true) : s x = true := by
  by_cases hs : s x = true
  · exact hs
  · exfalso
    have nd : (x :: lotOf n s).Nodup := List.nodup_cons.mpr ⟨fun z => hs (mem_lot.mp z).2, nodup_lot n s⟩
    have := nodup_le nd (m := lotOf n t) (fun y hy => by
      rcases List.mem_cons.mp hy with rfl | hy
      · exact mem_lot.mpr ⟨hx, ht⟩
      · exact mem_lot.mpr ⟨(mem_lot.mp hy).1, h _ (mem_lot.mp hy).1 (mem_lot.mp hy).2⟩)
    rw [List.length_cons] at this
    omega
theorem fl_kp (hne : lotOf n p ≠ []) : ((lotOf n fun a => decide (∀ m, m < 2 ^ n → p (m ^^^ a) = p m)).length = (lotOf n p).length) ↔ FlP n p := by
  obtain ⟨h1, h2⟩ := hd_mem hne
  rw [← lot_len_xor (p := fun a => decide (∀ m, m < 2 ^ n → p (m ^^^ a) = p m)) h1]
  have sb : ∀ x, x < 2 ^ n → decide (∀ m, m < 2 ^ n → p (m ^^^ (x ^^^ hd n p)) = p m) = true → p x = true := fun x hx h => by
    have := of_decide_eq_true h (hd n p) h1
    rw [h2] at this
    rw [← this, Nat.xor_comm x, xb]
  constructor
  · intro h x y z hx hy hz px py pz
    have k := of_decide_eq_true (lot_len_eq sb h hx px)
    have k2 := of_decide_eq_true (lot_len_eq sb h hy py)
    have a1 := k2 z hz
    have a2 := k (z ^^^ (y ^^^ hd n p)) (xor_lt hz (xor_lt hy h1))
    rw [a1, pz] at a2
    rw [← a2]
    congr 1
    generalize hd n p = a
    apply Nat.eq_of_testBit_eq
    intro i
    simp only [Nat.testBit_xor]
    cases a.testBit i <;> cases x.testBit i <;> cases y.testBit i <;> cases z.testBit i <;> rfl
  · intro h
    refine congrArg List.length (lot_congr fun x hx => ?_)
    rw [Bool.eq_iff_iff]
    refine ⟨sb x hx, fun px => decide_eq_true fun m hm => ?_⟩
    have k : ∀ m, m < 2 ^ n → p m = true → p (m ^^^ (x ^^^ hd n p)) = true := fun m hm pm => by
      have := h m x _ hm hx h1 pm px h2
      rwa [Nat.xor_assoc] at this
    rw [Bool.eq_iff_iff]
    refine ⟨fun z => ?_, k m hm⟩
    have := k _ (xor_lt hm (xor_lt hx h1)) z
    rwa [xor_back] at this
theorem fl_pow (hn : n ≤ 6) (hne : lotOf n p ≠ []) : ∃ k, k < 7 ∧ (lotOf n (flB n p)).length = 2 ^ k := by
  obtain ⟨F, hF, hl⟩ := ba_rch (ds_lt hne) (dsL n p).length
  rw [ba_span, List.take_length] at hF
  obtain ⟨h1, h2⟩ := hd_mem hne
  have e : (lotOf n (flB n p)).length = F.length := by
    have nd : (F.map fun x => hd n p ^^^ x).Nodup := by
      have h := hF.nd
      unfold List.Nodup at h ⊢
      rw [List.pairwise_map]
      refine h.imp fun {a b} hab e => hab ?_
      have e3 := congrArg (hd n p ^^^ ·) e
      simpa [xb] using e3
    have pm : (lotOf n (flB n p)).Perm (F.map fun x => hd n p ^^^ x) := perm_nodup (nodup_lot _ _) nd fun x => by
      rw [mem_lot, List.mem_map]
      constructor
      · rintro ⟨hx, hf⟩
        exact ⟨hd n p ^^^ x, (hF.iff _).mpr hf, xb _ _⟩
      · rintro ⟨y, hy, rfl⟩
        refine ⟨xor_lt h1 (hF.lt y hy), ?_⟩
        unfold flB
        rw [xb]
        exact (hF.iff y).mp hy
    rw [pm.length_eq, List.length_map]
  refine ⟨_, ?_, by rw [e, hl]⟩
  have := hF.len
  rw [hl] at this
  have h7 : 2 ^ n < 2 ^ 7 := Nat.pow_lt_pow_right (by decide) (by omega)
  exact (Nat.pow_lt_pow_iff_right (by decide)).mp (Nat.lt_of_le_of_lt this h7)
/-- no bend with the least mask is no bend at all -/
theorem fl_bend (h : ∀ y z, y < 2 ^ n → z < 2 ^ n → p y = true → p z = true → p (hd n p ^^^ y ^^^ z) = true) : FlP n p := by
  intro x y z hx hy hz px py pz
  have hne := ne_of hx px
  obtain ⟨h1, h2⟩ := hd_mem hne
  have a1 := h x y hx hy px py
  have a2 := h (hd n p ^^^ x ^^^ y) z (xor_lt (xor_lt h1 hx) hy) hz a1 pz
  have e : hd n p ^^^ (hd n p ^^^ x ^^^ y) ^^^ z = x ^^^ y ^^^ z := by
    rw [Nat.xor_assoc (hd n p) x y, xb]
  rw [e] at a2
  exact a2
theorem nob_flat (h : NoB p (hd n p) (lotOf n p) (lotOf n p).length 0) : FlP n p := by
  refine fl_bend fun y z hy hz py pz => ?_
  obtain ⟨h1, h2⟩ := hd_mem (ne_of hy py)
  obtain ⟨i, hi⟩ := List.mem_iff_getElem?.mp (mem_lot.mpr ⟨hy, py⟩)
  obtain ⟨j, hj⟩ := List.mem_iff_getElem?.mp (mem_lot.mpr ⟨hz, pz⟩)
  have li := (List.getElem?_eq_some_iff.mp hi).1
  have lj := (List.getElem?_eq_some_iff.mp hj).1
  rcases Nat.lt_trichotomy i j with l | l | l
  · exact h i j y z l (.inl li) hi hj
  · subst l
    rw [hi] at hj
    cases hj
    rw [xor_back]
    exact h2
  · have := h j i z y l (.inl lj) hj hi
    rw [Nat.xor_assoc] at this ⊢
    rwa [Nat.xor_comm y z]
theorem flat_bend {i j y z : Nat} (h : FlP n p) (hy : (lotOf n p)[i]? = some y) (hz : (lotOf n p)[j]? = some z) : p (hd n p ^^^ y ^^^ z) = true := by
  have h1 := mem_lot.mp (List.mem_of_getElem? hy)
  have h2 := mem_lot.mp (List.mem_of_getElem? hz)
  have h3 := hd_mem (ne_of h1.1 h1.2)
  exact h _ _ _ h3.1 h1.1 h2.1 h3.2 h1.2 h2.2
end
end XT
/-! set(t), t[a:b], t + u of tuples; a comprehension over a tuple, with draws -/
namespace XT
open PySem PySem.Spec PyProof.Rows L2
section
variable {P : Program} {w : World} {A : Around} {E : Value → Shared → Prop} {s : Shared}
theorem set_tupI {l : Addr} {items : Array Value} (ns : List Int) {Q : Value → Shared → Prop} (hh : A.handled = none) (hl : s.heap.IsTuple l items) (hit : IntsAre items.toList ns) (hb : ns.length + 1 < scanBound)
    (h : ∀ (hp : Heap) (tk c : Nat), SetR w hp s.heap.objs.size (fun j => decide (j ∈ ns)) c → c ≤ ns.length → (∀ b o, s.heap.get? b = some o → hp.get? b = some o) → Q (.ref s.heap.objs.size) { s with heap := hp, toks := tk }) :
    wpAny (model P w) A (call (.type "set") [.ref l]) Q E s := by
  have hz : items.size = ns.length := by
    have e := IntsAre.length hit
    rwa [Array.length_toList] at e
  obtain ⟨mc, mt, m0⟩ := F.called_set.mro
  have m1 := F.called_set.made
  have m2 := F.called_set.sub
  have m3 := F.called_set.notType
  have m4 := F.called_set.canCreate
  have m5 := F.typeCall_set_1 (.ref l)
  refine wpAny_call (codeAny_of_tree ?_)
  show wpAny _ _ (callAny (.type "set") _) _ _ _
  refine wpAny_pure ⟨Code.quiet_builtin _ (by decide +kernel), codeAny_builtin F.entry_type_call ?_⟩
  rw [Around.under_plain (weight_type_call_type "set" [.ref l] []) rfl]
  repeat (any_goals (first | assumption | wp_step))
  refine codeAny_mono (code_set_led1 (.ref l) (E := E) (Q₁ := fun v s1 => v = .ref s.heap.objs.size ∧ s1 = withS w s) ⟨rfl, rfl⟩) fun r s1 hr => ?_
  match r, hr with
  | .error e, hr => exact hr
  | .ok .next, hr => exact hr.elim
  | .ok .brk, hr => exact hr.elim
  | .ok .cont, hr => exact hr.elim
  | .ok (.ret v), hr =>
    obtain ⟨rfl, rfl⟩ := hr
    have g0 : (s.heap.push (newS w)).get? s.heap.objs.size = some (newS w) := Heap.get?_push_size _ rfl
    have g1 : Shared.TypeIs (withS w s) (.ref s.heap.objs.size) "set" := ⟨_, g0, rfl⟩
    have g2 := F.called_set.init.lookup
    have g3 := F.called_set.init.bind (.ref s.heap.objs.size)
    repeat (any_goals (first | assumption | wp_step))
    refine codeAny_mono (codeAny_call_builtin (R := wants (afterS w s ns) E) F.called_set.init.plain F.entry_set_init (check_set_init_1 g1 ?_)) fun r2 s2 hr2 => ?_
    · obtain ⟨ol, hol, hcl, nl, hdl⟩ := hl
      obtain ⟨oc, od, odt, osl⟩ := ol
      simp only at hcl hdl
      subst hcl hdl
      have hol1 : (s.heap.push (newS w)).get? l = some { cls := .type "tuple", dict := od, data := .seq items nl, slots := osl } := Heap.get?_push_of_some _ hol
      have n1 := F.sub_tuple_set
      have n2 := F.sub_tuple_frozenset
      have n3 : (Value.type "tuple" == Value.type "dict") = false := by decide
      have hl1 : (s.heap.push (newS w)).IsTuple l items := ⟨_, hol1, rfl, nl, rfl⟩
      have lS : l < s.heap.objs.size := Heap.lt_size hol
      have z1 : (s.heap.push (newS w)).objs.size = s.heap.objs.size + 1 := Heap.size_push ..
      unfold Builtin.«set.__init__» noKeywords Builtin.Frozenset.updateFrom
      generalize hPI : pyIter = PI
      wp_walk
      subst hPI
      refine wpAny_pyIter_tuple hl1 (wpAny_bind (wpAny_runValue ?_))
      refine set_update_ints ((Walks.tuple (by simp [hh]) _ l (by rw [z1]; exact Nat.ne_of_lt (Nat.lt_succ_of_lt lS)) items).toS) s.heap.objs.size (by rw [z1]; simp only [List.mem_cons, List.not_mem_nil, or_false, not_or]; exact ⟨Nat.ne_of_lt (Nat.lt_succ_self _), Nat.ne_of_gt lS⟩) ns hz hb (items_at hit hz) (items.size - 0) 0 _ (by omega) (Nat.zero_le _)
        ⟨⟨_, Heap.get?_push_size _ rfl, rfl, rfl⟩, hl1.push _⟩ ⟨0, Nat.le_refl 0, setR_new_at (Heap.get?_push_of_some _ g0)⟩ ?_
      intro s3 c hm hc hS
      obtain ⟨h3, ge, dr, tk, os⟩ := s3
      obtain rfl : ge = s.gens := hm.gens
      obtain rfl : dr = s.drawn := hm.drawn
      obtain rfl : os = s.os := hm.os
      show wpAny _ _ _ _ _ _
      refine wpAny_pure ?_
      show wpAny _ _ (ret Value.none) _ _ _
      rw [hz] at hc
      refine wpAny_pure ⟨rfl, h3, tk, c, rfl, hS, hc, fun b o e => ?_⟩
      have b0 : b < s.heap.objs.size := Heap.lt_size e
      exact hm.heap b o (by rw [z1]; simp only [List.mem_cons, List.not_mem_nil, or_false, not_or]; exact ⟨Nat.ne_of_lt b0, Nat.ne_of_lt (Nat.lt_succ_of_lt b0)⟩) (Heap.get?_push_of_some _ (Heap.get?_push_of_some _ e))
    · match r2, hr2 with
      | .error e, hr2 => exact hr2
      | .ok .next, hr2 => exact hr2.elim
      | .ok .brk, hr2 => exact hr2.elim
      | .ok .cont, hr2 => exact hr2.elim
      | .ok (.ret v), hr2 =>
        obtain ⟨rfl, hp, tk, c, rfl, hS, hc, hk⟩ := hr2
        repeat (any_goals (first | assumption | wp_step))
        exact h _ _ _ hS hc hk
end
section
variable {X : Cx}
theorem cutV_whole {xs : List V} {lo hi : Option Int} (h : HT.sIx xs.length 0 lo = 0 ∧ HT.sIx xs.length xs.length hi = xs.length) : cutV xs lo hi = xs := by
  unfold cutV
  rw [h.1, h.2, List.drop_zero, Nat.sub_zero, List.take_length]
/-- a cut of a tuple, the same one or a new one -/
def rSlU (K : PySem.W.Frag) : V → Option Int → Option Int → Hp → VK → Prop := fun x lo hi H Q => ∃ a xs, x = .ref a ∧ SqT K H a xs ∧ ∀ H' p, Same H H' → SqT K H' p (cutV xs lo hi) → Q (.ref p) H'
theorem sl_tupU : SlR X (rSlU X.K) := by
  intro pins s σ H x v vl vu lo hi sl Q I rx hs pl pu h
  obtain ⟨a, xs, rfl, hx, q⟩ := h
  refine sl_tupA pins s σ H _ v vl vu lo hi sl Q I rx hs pl pu ⟨a, xs, rfl, hx, fun hw => q H a (Same.refl H) (by rw [cutV_whole hw]; exact hx), fun _ p np => q _ p (same_new np) (SqT.of upd_same)⟩
/-- t + u -/
def rCatU (K : PySem.W.Frag) : R2 := fun x y H Q => ∃ a b xs ys, x = .ref a ∧ y = .ref b ∧ SqT K H a xs ∧ SqT K H b ys ∧ xs.length + ys.length ≤ sizeLine ∧ ∀ H' p, Same H H' → SqT K H' p (xs ++ ys) → Q (.ref p) H'
theorem op_catU : OpR X (binaryOp .Add) (rCatU X.K) := by
  intro pins s σ H x y v u Q I rx ry h
  obtain ⟨a, b, xs, ys, rfl, rfl, ha, hb, hz, q⟩ := h
  refine op_catA pins s σ H _ _ v u Q I rx ry ⟨a, b, xs, ys, rfl, rfl, ha, hb, hz, fun e => q H b (Same.refl H) (by rw [e]; exact hb), fun _ e => q H a (Same.refl H) (by rw [e, List.append_nil]; exact ha), fun _ _ p np => q _ p (same_new np) (SqT.of upd_same)⟩
/-- set(t) -/
def rSetT (K : PySem.W.Frag) (w : World) : List V → Hp → VK → Prop := fun vs H Q => ∃ (a : Addr) (ns : List Int), vs = [V.ref a] ∧ SqT K H a (ns.map V.int) ∧ ns.length ≤ 1000 ∧ ∀ (p : Addr) (c : Nat), H p = none → Q (.ref p) (upd H p (SetO w p (fun j => decide (j ∈ ns)) c))
theorem cr_setT (hc : X.calm = true) : CallR X (.type "set") (rSetT X.K X.w) := by
  intro pins s σ H vs us Q I r h
  obtain ⟨a, ns, rfl, hs, hn, q⟩ := h
  obtain ⟨its, rv, hl, hz⟩ := I.tuple hs
  rw [Vals.ref1 r]
  refine set_tupI ns (I.ok.hd hc) hl (by simpa using rv.ints) (by unfold scanBound; omega) fun hp tk c hS hcn hk => ?_
  exact ⟨.ref _, _, I.laid (t' := tk) hk (Nat.le_refl _) (setO_new hS), rfl, q _ c (I.hok.fresh (Nat.le_refl _))⟩
end
/-- [m for m in t if draw ..]: some of the masks, in their order -/
theorem lcd_tup {K : PySem.W.Frag} {a : Addr} {g : TG} {tt : TT} {te : TE} {vs : List Nat} {σ : L2.St} {H1 : Hp} {D : Addr} {Qd : Hp → Prop} {S : Sm} {t0 : Int} {ms : List Nat} {d : Nat} (st0 : Strm S H1 t0) (nD : H1 D = none) (hA : H1 a = some (.tup (vm ms))) (hn : ms.length ≤ 1000)
    (ht : ∀ (i : Nat) (m : Nat) H t, ms[i]? = some m → Step S H1 t0 H t (d * i) → ∀ (R1 : Hp → Prop) (R2 : V → Hp → Prop), (∀ H3 t3, Step S H t H3 t3 d → R1 H3) → (∀ H4 t4, Step S H t H4 t4 d → R2 (.int (m : Int)) H4) →
      g (.int (m : Int)) (wipe σ vs) H fun σ2 H2 => wipe σ2 vs = wipe σ vs ∧ tt σ2 H2 fun b H3 => if b = true then te σ2 H3 R2 else R1 H3)
    (hd : ∀ H ks t, Step S H1 t0 H t (d * ms.length) → H D = some (.lst (vm ks)) → ks.Sublist ms → Qd H) :
    ∃ W : Nat → Nat → Hp → Prop, (∃ m, W 0 m (upd H1 D (.lst []))) ∧ ∀ i m H, W i m H →
      ((Itt K a).stop i H ∧ Qd H) ∨ ((Itt K a).go i H ∧ ∃ Nx : Hp → Prop, (∀ H', Nx H' → ∃ m', m' < m ∧ W (i + 1) m' H') ∧ ∀ x H', (Itt K a).yld i H x H' → g x (wipe σ vs) H' fun σ2 H2 => wipe σ2 vs = wipe σ vs ∧ tt σ2 H2 fun b H3 =>
        if b = true then te σ2 H3 fun y H4 => ∃ acc, H4 D = some (.lst acc) ∧ acc.length < sizeLine ∧ Nx (upd H4 D (.lst (acc ++ [y]))) else Nx H3) := by
  refine lc_tup (xs := vm ms) (fun i H => ∃ (ks : List Nat) (t : Int), Step S H1 t0 H t (d * i) ∧ H D = some (.lst (vm ks)) ∧ ks.Sublist (ms.take i)) ⟨[], t0, ((Step.refl st0).same (same_new nD)).mono (Nat.zero_le _), upd_same, by simp⟩ (fun i H _ h => ?_) (fun i x H hx h => ?_) (fun H h => ?_)
  · obtain ⟨_, _, s, _⟩ := h
    exact SqT.of (s.keep.tup st0 hA)
  · obtain ⟨m, hm, rfl⟩ := mem_vm hx
    have hi : i < ms.length := (List.getElem?_eq_some_iff.mp hm).1
    obtain ⟨ks, t, stp, hD, hk⟩ := h
    have hkl : ks.length ≤ i := by
      have h1 := hk.length_le
      rw [List.length_take] at h1
      omega
    refine ht i m H t hm stp _ _ (fun H3 t3 s3 => ?_) (fun H4 t4 s4 => ?_)
    · refine ⟨ks, t3, (stp.trans s3).mono (by rw [Nat.mul_succ]; exact Nat.le_refl _), s3.keep.mine st0 nD hD, ?_⟩
      rw [List.take_add_one]
      exact hk.trans (List.sublist_append_left _ _)
    · have hD4 := s4.keep.mine st0 nD hD
      obtain ⟨nDs, nDp, nDq⟩ := strm_ne st0 nD
      have z := stp.trans s4
      refine ⟨_, hD4, small64 (by rw [vm_len]; omega), ks ++ [m], t4, ⟨fun b o n1 n2 e => ?_, strm_upd z.st nDs nDp nDq, z.lo, by have := z.hi; rw [Nat.mul_succ]; exact this⟩, ?_, ?_⟩
      · rw [upd_ne (ne_of_none e nD)]
        exact z.keep b o n1 n2 e
      · rw [upd_same]; unfold vm; rw [List.map_append]; rfl
      · rw [List.take_add_one, hm]
        exact hk.append (List.Sublist.refl _)
  · rw [vm_len] at h
    obtain ⟨ks, t, s, hD, hk⟩ := h
    rw [List.take_length] at hk
    exact hd H ks t s hD hk
/-- some masks of a lot, in their order, are a lot -/
theorem sub_lot {n : Nat} {p : Nat → Bool} {ks : List Nat} (h : ks.Sublist (lotOf n p)) : vm ks = vm (lotOf n fun m => decide (m ∈ ks)) := by
  have r := lot_rising n p
  have r2 : (ks.map fun (m : Nat) => (m : Int)).Pairwise (· < ·) := r.sublist (h.map _)
  rw [vm_ints ks]
  refine rising_lot r2 fun k => ?_
  rw [List.mem_map]
  constructor
  · rintro ⟨m, hm, rfl⟩
    exact ⟨m, rfl, (mem_lot.mp (h.subset hm)).1, decide_eq_true hm⟩
  · rintro ⟨m, rfl, _, hm⟩
    exact ⟨m, of_decide_eq_true hm, rfl⟩
/-- sorted(set(ns)) of masks -/
theorem sort_set {n : Nat} {ks : List Nat} {ns : List Int} (asc : ns.Pairwise (· < ·)) (hk : ∀ k ∈ ks, k < 2 ^ n) (hm : ∀ k : Int, k ∈ ns ↔ decide (k ∈ ks.map fun (m : Nat) => (m : Int)) = true) : ns.map V.int = vm (lotOf n fun m => decide (m ∈ ks)) := by
  refine rising_lot asc fun z => ?_
  rw [hm z, decide_eq_true_iff, List.mem_map]
  constructor
  · rintro ⟨m, h1, h2⟩
    exact ⟨m, h2.symm, hk m h1, decide_eq_true h1⟩
  · rintro ⟨m, h1, h2, h3⟩
    exact ⟨m, of_decide_eq_true h3, h1.symm⟩
end XT
/-! cuts and sums of tuples that are laid -/
namespace XT
open PySem PySem.Spec PyProof.Rows L2
section
variable {X : Cx}
def rSlV : V → Option Int → Option Int → Hp → VK → Prop := fun x lo hi H Q => ∃ a xs, x = .ref a ∧ H a = some (.tup xs) ∧ ∀ H' p, Same H H' → H' p = some (.tup (cutV xs lo hi)) → Q (.ref p) H'
theorem sl_tupV : SlR X rSlV := by
  intro pins s σ H x v vl vu lo hi sl Q I rx hs pl pu h
  obtain ⟨a, xs, rfl, hx, q⟩ := h
  exact sl_tupA pins s σ H _ v vl vu lo hi sl Q I rx hs pl pu ⟨a, xs, rfl, SqT.of hx, fun hw => q H a (Same.refl H) (by rw [cutV_whole hw]; exact hx), fun _ p np => q _ p (same_new np) upd_same⟩
def rCatV : R2 := fun x y H Q => ∃ a b xs ys, x = .ref a ∧ y = .ref b ∧ H a = some (.tup xs) ∧ H b = some (.tup ys) ∧ xs.length + ys.length ≤ sizeLine ∧ ∀ H' p, Same H H' → H' p = some (.tup (xs ++ ys)) → Q (.ref p) H'
theorem op_catV : OpR X (binaryOp .Add) rCatV := by
  intro pins s σ H x y v u Q I rx ry h
  obtain ⟨a, b, xs, ys, rfl, rfl, ha, hb, hz, q⟩ := h
  exact op_catA pins s σ H _ _ v u Q I rx ry ⟨a, b, xs, ys, rfl, rfl, SqT.of ha, SqT.of hb, hz, fun e => q H b (Same.refl H) (by rw [e]; exact hb), fun _ e => q H a (Same.refl H) (by rw [e, List.append_nil]; exact ha), fun _ _ p np => q _ p (same_new np) upd_same⟩
end
theorem cut_vm (ms : List Nat) (lo hi : Option Int) : ∃ ks : List Nat, cutV (vm ms) lo hi = vm ks ∧ ks.Sublist ms := by
  refine ⟨(ms.drop (HT.sIx (vm ms).length 0 lo)).take (HT.sIx (vm ms).length (vm ms).length hi - HT.sIx (vm ms).length 0 lo), ?_, (List.take_sublist _ _).trans (List.drop_sublist _ _)⟩
  unfold cutV vm
  rw [← List.map_drop, ← List.map_take]
end XT
namespace XT
open PySem PySem.Spec PyProof.Rows L2

def topS (i : Nat) : Stmt := PySem.Challenge.pw_xorturns_k46_flat_lots_around.main.body.getD i (.Pass ⟨0, 0, 0, 0⟩)
abbrev sFlatAround : Stmt := topS 7
abbrev sStream : Stmt := topS 9
abbrev sDraw : Stmt := topS 10
abbrev sDrawn : Stmt := topS 11
abbrev sLOddOnes : Stmt := topS 12
abbrev sTold : Stmt := topS 13
abbrev sLaw : Stmt := topS 14

theorem scD : FnScope ["_law_stream_here", "_law_many", "_law_rest", "_law_turn", "_law_cell", "_law_mixed"] ["_law_stream_here", "_law_many"] (defScope sDraw) := ⟨rfl, rfl, rfl, by decide +kernel, rfl, by decide +kernel, by decide +kernel⟩
section
variable {P : Program} {w : World} {K : PySem.W.Frag} {mg : Str → Option Value} {base : Heap}
theorem ok_draw {f : Addr} {fd : FuncData} {k : Nat} (F : Fun K "_law_draw" "_law_draw" sDraw f fd) (ml : mg "len" = none) : FnOk P w K mg base CX0 (k + 1) f fd ["_law_stream_here", "_law_many"] spDraw := by
  refine F.ok scD (fun vs H Q E h => ?_) (fun cdv A outer s H vs Q E hr h => ?_)
  · obtain ⟨S, t, m, rfl, _⟩ := h
    rfl
  · obtain ⟨S, t, m, rfl, ⟨big0, hS0⟩, m0, m1, t1, q⟩ := h
    refine ⟨_, pss_cons (ps_while PassesOwn.never
        (pt_cmpR (op_neD hr.units) (pe_ix ix_list (pv 0) pe_int (fun _ _ => rfl)) (pe_lst pa_nil) (nomark _))
        (pss_cons (ps_set (i := 2) scD.nd rfl (.inl rfl) (pe_ix ix_list (pe_ix ix_list (pv 0) pe_int (fun _ _ => rfl)) pe_int (fun _ _ => rfl)))
        (pss_cons (ps_if (pt_cmpR op_gt (pv 2) pe_int (nomark _))
          (pss_cons (ps_asg (pe_op op_fdiv (pv 2) (pv 1)) (pg_sub (pe_ix ix_list (pv 0) pe_int (fun _ _ => rfl)) pe_int set_list))
          (pss_one (ps_ret (pe_op op_mod (pv 2) (pv 1))))) pss_nil)
        (pss_one (ps_expr (pe_bm PySem.F.plainAttrs_list PySem.F.slot_list_pop PySem.F.type_list_pop mt_popAt (pe_ix ix_list (pv 0) pe_int (fun _ _ => rfl)) (pa_cons pe_int pa_nil)))))))
      (pss_cons (ps_set (i := 3) scD.nd rfl (.inl rfl) (pe_op op_add (pe_ix ix_list (pv 0) pe_int (fun _ _ => rfl)) pe_int))
      (pss_cons (ps_asg (pv 3) (pg_sub (pv 0) pe_int set_list))
      (pss_cons (ps_set (i := 4) scD.nd rfl (.inl rfl) (pe_op op_mod (pe_ix ix_list (pe_ix ix_list (pv 0) pe_int (fun _ _ => rfl)) (pe_op op_mod (pv 3) (pe_callB call_len_seq (by rfl) ml PySem.boot_len (pa_cons (pe_ix ix_list (pv 0) pe_int (fun _ _ => rfl)) pa_nil))) (fun _ _ => rfl)) pe_int))
      (pss_cons (ps_set (i := 5) scD.nd rfl (.inl rfl) (pe_op op_mod (pe_op op_add (pe_op op_add (pe_op op_mul (pv 4) (pe_op op_add pe_int (pe_op op_mul pe_int (pv 3)))) (pe_op op_mul (pe_op op_mul pe_int (pv 3)) (pv 3))) pe_int) pe_int))
      (pss_one (ps_ret (pe_op op_mod (pe_op op_fdiv (pe_op op_mod (pe_op op_mul (pv 5) (pv 5)) pe_int) pe_int) (pv 1)))))))), ?_⟩
    refine ⟨fun n σ H1 => ∃ big y2, σ = [some (.ref S.s), some (.int m), y2, none, none, none] ∧ n = big.length ∧ StrmB S H1 t big ∧ Keep S H H1,
      ⟨big0.length, big0, none, rfl, rfl, hS0, Keep.refl S H⟩, ?_⟩
    rintro n σ H1 ⟨big, y2, rfl, rfl, hS, hk⟩
    -- while stream[0] != []
    refine ⟨.ref S.s, rfl, S.s, _, 0, .ref S.p, rfl, rfl, SqL.of hS.hs, rfl, Nat.zero_le _, fun z nz => ?_⟩
    have sm : Same H1 (upd H1 z (.lst [])) := same_new nz
    have hz : (upd H1 z (.lst [])) z = some (.lst []) := upd_same
    have hS' := hS.same sm
    have hk' : Keep S H (upd H1 z (.lst [])) := hk.trans (Keep.of sm)
    generalize upd H1 z (.lst []) = H2 at *
    clear hS hk sm nz
    refine ⟨_, _, .lst (SqL.of hS'.hp) (dpInts big), .lst (SqL.of hz) .nil, ke_shaped big, rfl, _, rfl, ?_⟩
    cases big with
    | cons x rest =>
      have e : (!PyData.eqv (.list ((x :: rest).map PyData.int)) (.list [])) = true := rfl
      rw [e]
      refine iteT ?_
      refine ⟨fun σ' H' => ∃ y2, σ' = [some (.ref S.s), some (.int m), y2, none, none, none] ∧ StrmB S H' t rest ∧ Keep S H H', ?_, ?_⟩
      · rintro σ' H' ⟨y, rfl, h1, h2⟩
        exact ⟨rest.length, Nat.lt_succ_self _, rest, y, rfl, rfl, h1, h2⟩
      · refine ⟨.ref S.s, rfl, S.s, _, 0, .ref S.p, rfl, rfl, SqL.of hS'.hs, rfl, S.p, _, 0, .int x, rfl, rfl, SqL.of hS'.hp, atI_nat (j := 0) rfl, ?_⟩
        refine ⟨.int x, rfl, x, 0, rfl, rfl, _, rfl, ite2 (fun hx => ?_) (fun hx => ?_)⟩
        · refine ⟨.int x, rfl, .int m, rfl, x, m, rfl, rfl, ⟨m0, m1⟩, ?_⟩
          refine ⟨.ref S.s, rfl, S.s, _, 0, .ref S.p, rfl, rfl, SqL.of hS'.hs, rfl, S.p, _, 0, 0, rfl, rfl, hS'.hp, ix0 (Nat.succ_pos _), ?_⟩
          refine ⟨.int x, rfl, .int m, rfl, x, m, rfl, rfl, m0, ?_⟩
          refine q _ _ t (fun b o n1 n2 eb => ?_) ⟨(x / m) :: rest, ?_⟩ (Int.le_refl _) (by omega) (Int.emod_nonneg _ (by omega)) (Int.emod_lt_of_pos _ m0)
          · rw [upd_ne n2]; exact hk' b o n1 n2 eb
          · refine ⟨?_, upd_same, ?_, hS'.sp, hS'.sq, hS'.pq, hS'.ne, hS'.t0⟩
            · rw [upd_ne hS'.sp]; exact hS'.hs
            · rw [upd_ne hS'.pq.symm]; exact hS'.hq
        · refine ⟨.ref S.s, rfl, S.s, _, 0, .ref S.p, rfl, rfl, SqL.of hS'.hs, rfl, .inl ⟨rfl, _, SqL.of hS'.hp⟩, S.p, _, 0, 0, .int x, rfl, rfl, hS'.hp, by decide, by decide, sq0 (Nat.succ_pos _), rfl, ?_⟩
          refine ⟨_, rfl, ⟨?_, upd_same, ?_, hS'.sp, hS'.sq, hS'.pq, hS'.ne, hS'.t0⟩, fun b o n1 n2 eb => ?_⟩
          · rw [upd_ne hS'.sp]; exact hS'.hs
          · rw [upd_ne hS'.pq.symm]; exact hS'.hq
          · rw [upd_ne n2]; exact hk' b o n1 n2 eb
    | nil =>
      have e : (!PyData.eqv (.list (([] : List Int).map PyData.int)) (.list [])) = false := rfl
      rw [e]
      refine iteF ?_
      have t0 := hS'.t0
      -- turn = stream[2] + 1; stream[2] = turn
      refine ⟨.ref S.s, rfl, S.s, _, 2, .int t, rfl, rfl, SqL.of hS'.hs, rfl, t, 1, rfl, rfl, ?_⟩
      refine ⟨.int (t + 1), rfl, .ref S.s, rfl, S.s, _, 2, 2, rfl, rfl, hS'.hs, rfl, ?_⟩
      generalize hH3 : upd H2 S.s (.lst ([V.ref S.p, .ref S.q, .int t].set 2 (.int (t + 1)))) = H3
      have hS3 : StrmB S H3 (t + 1) [] := by
        subst hH3
        refine ⟨upd_same, ?_, ?_, hS'.sp, hS'.sq, hS'.pq, hS'.ne, by omega⟩
        · rw [upd_ne hS'.sp.symm]; exact hS'.hp
        · rw [upd_ne hS'.sq.symm]; exact hS'.hq
      have hk3 : Keep S H H3 := fun b o n1 n2 eb => by
        subst hH3
        rw [upd_ne n1]; exact hk' b o n1 n2 eb
      clear hH3
      -- cell
      have hl : (0 : Int) < ((S.cs.map V.int).length : Nat) := by rw [List.length_map]; have := hS'.ne; omega
      have hm1 : (t + 1) % ((S.cs.map V.int).length : Nat) < ((S.cs.map V.int).length : Nat) := Int.emod_lt_of_pos _ hl
      have hm0 : 0 ≤ (t + 1) % ((S.cs.map V.int).length : Nat) := Int.emod_nonneg _ (by omega)
      obtain ⟨j, hj⟩ : ∃ j : Nat, (t + 1) % ((S.cs.map V.int).length : Nat) = j := ⟨_, (Int.toNat_of_nonneg hm0).symm⟩
      have hjl : j < S.cs.length := by rw [List.length_map] at hm1 hj; omega
      have hat : atI (S.cs.map V.int) ((t + 1) % ((S.cs.map V.int).length : Nat)) = some (.int S.cs[j]) := by
        rw [hj]
        refine atI_nat ?_
        rw [List.getElem?_map, List.getElem?_eq_getElem hjl]
        rfl
      refine ⟨.ref S.s, rfl, S.s, _, 1, .ref S.q, rfl, rfl, SqL.of hS3.hs, rfl, .int (t + 1), rfl, .ref S.s, rfl, S.s, _, 1, .ref S.q, rfl, rfl, SqL.of hS3.hs, rfl, S.q, _, rfl, .inl (SqL.of hS3.hq), _, _, rfl, rfl, hl, ?_⟩
      have k87 : (0 : Int) < 2147483587 := by decide
      have k47 : (0 : Int) < 2147483647 := by decide
      have k29 : (0 : Int) < 2147483629 := by decide
      refine ⟨S.q, _, _, .int S.cs[j], rfl, rfl, SqL.of hS3.hq, hat, S.cs[j], _, rfl, rfl, k87, ?_⟩
      obtain ⟨c1, c0⟩ := pm87 (x := S.cs[j])
      obtain ⟨c, hc⟩ : ∃ c, S.cs[j] % 2147483587 = c := ⟨_, rfl⟩
      rw [hc] at c1 c0
      -- mixed
      refine ⟨.int c, congrArg (fun x => some (some (V.int x))) hc, .int (t + 1), rfl, 40692, t + 1, rfl, rfl, .inl ⟨by decide, by decide⟩, 69621, 40692 * (t + 1), rfl, rfl, c, 69621 + 40692 * (t + 1), rfl, rfl, .inl ⟨by omega, by omega⟩, ?_⟩
      refine ⟨.int (t + 1), rfl, 48271, t + 1, rfl, rfl, .inl ⟨by decide, by decide⟩, .int (t + 1), rfl, 48271 * (t + 1), t + 1, rfl, rfl, .inr ⟨by omega, by omega⟩, c * (69621 + 40692 * (t + 1)), 48271 * (t + 1) * (t + 1), rfl, rfl, _, 47, rfl, rfl, c * (69621 + 40692 * (t + 1)) + 48271 * (t + 1) * (t + 1) + 47, 2147483647, rfl, rfl, k47, ?_⟩
      obtain ⟨d1, d0⟩ := pm31 (x := c * (69621 + 40692 * (t + 1)) + 48271 * (t + 1) * (t + 1) + 47)
      obtain ⟨d, hd⟩ : ∃ d, (c * (69621 + 40692 * (t + 1)) + 48271 * (t + 1) * (t + 1) + 47) % 2147483647 = d := ⟨_, rfl⟩
      rw [hd] at d1 d0
      have ed : some (some (V.int ((c * (69621 + 40692 * (t + 1)) + 48271 * (t + 1) * (t + 1) + 47) % 2147483647))) = some (some (V.int d)) := congrArg (fun x => some (some (V.int x))) hd
      refine ⟨.int d, ed, .int d, ed, d, d, rfl, rfl, .inl ⟨by omega, by omega⟩, d * d, 2147483629, rfl, rfl, k29, d * d % 2147483629, 16, rfl, rfl, ⟨by decide, by decide⟩, .int m, rfl, _, m, rfl, rfl, m0, ?_⟩
      exact q _ _ (t + 1) hk3 ⟨_, hS3⟩ (by omega) (Int.le_refl _) (Int.emod_nonneg _ (by omega)) (Int.emod_lt_of_pos _ m0)
end
end XT
/-! a caught error with a dict: isinstance; handed to a def -/
namespace XT
open PySem PySem.Spec PyProof.Rows L2
/-- what the class D of an error must say for isinstance -/
structure IsC (K : PySem.W.Frag) (D : Addr) : Prop where
  cl : (PySem.W.clsIn K D).isSome = true
  ga : PySem.W.findIn K (.ref D) "__getattribute__" = some (some (.builtin "BaseException.__getattribute__"))
  gg : PySem.W.findIn K (.ref D) "__getattr__" = some none
  sb : PySem.W.subIn K (.ref D) (.type "BaseException") = some true
  ha : PySem.W.findIn K (.ref D) "__class__" = some (some (.builtin "object.__class__"))
  hn : PySem.W.specialIn K (.builtin "object.__class__") "__get__" = some (some (.builtin "getset_descriptor.__get__"))
  ht : PySem.W.takesIn K (.builtin "object.__class__") = some true
  hm : PySem.W.mroIn K D (.type "object") = some true
section
variable {X : Cx} {a D : Addr} {oe : Obj} {cls : Value} {d : Option Addr} {pn : List (Addr × Obj)}
theorem inst_of {pins : List (Addr × Obj)} {σ : L2.St} {H : Hp} {s : Shared} {dd : Addr} {fs : List (Str × V)} (I : Inv (X.suite a ((a, oe) :: pn)) pins σ H s) (hz : Zc cls d oe) (hf : ∃ vs, oe.data = .fields vs) (ec : cls = .ref D) (ed : d = some dd) (hd : H dd = some (.xd fs)) :
    ∃ od, PySem.W.InstAt s.heap a oe D (some od) := by
  subst ec ed
  obtain ⟨ha, _⟩ := I.pin (a, oe) (List.mem_append_left _ List.mem_cons_self)
  obtain ⟨vs, hv⟩ := hf
  have hx : ObjOk X.prog X.w H s.heap dd (.xd fs) := I.hok dd _ hd
  obtain ⟨mA, hns, _⟩ := hx
  obtain ⟨od, ho, _⟩ := lookIn_ns hns
  exact ⟨od, ha, hz.1, by unfold PySem.W.notCls; rw [hv] <;> rfl, by rw [hz.2]; exact ho⟩
/-- isinstance(e, c) -/
def rIsD (K : PySem.W.Frag) (D a : Addr) (cls : Value) (d : Option Addr) : List V → Hp → VK → Prop := fun xs H Q => ∃ (c : V) (cv : Value) (b : Bool) (dd : Addr) (fs : List (Str × V)), xs = [.ref a, c] ∧ ClsV c cv ∧ cls = .ref D ∧ d = some dd ∧ H dd = some (.xd fs) ∧ PySem.W.kitOne K (.ref D) cv = some b ∧ Q (.bl b) H
theorem call_isD (C : IsC X.K D) (hz : Zc cls d oe) (hf : ∃ vs, oe.data = .fields vs) : CallR (X.suite a ((a, oe) :: pn)) (.builtin "isinstance") (rIsD X.K D a cls d) := by
  intro pins s σ H xs us Q I r h
  obtain ⟨c, cv, b, dd, fs, rfl, kc, ec, ed, hd, e, q⟩ := h
  obtain ⟨u1, u2, rfl, r1, r2⟩ := vals2 r
  cases (show u1 = Value.ref a from r1)
  have e2 := kc.eq r2
  subst e2
  obtain ⟨od, J⟩ := inst_of I hz hf ec ed hd
  exact PySem.W.kia_one (PySem.W.kitx_exc C.cl C.ga C.gg C.sb C.ha C.hn C.ht C.hm) I.kIn J e (fun z => nomatch z) fun tk => ⟨.bl b, H, I.tok tk, rfl, q⟩
/-- isinstance(e, (c1, c2, ..)) -/
def rIsDT (K : PySem.W.Frag) (D a : Addr) (cls : Value) (d : Option Addr) : List V → Hp → VK → Prop := fun xs H Q => ∃ (tp : Addr) (cs : List V) (ws : List Value) (b : Bool) (dd : Addr) (fs : List (Str × V)), xs = [.ref a, .ref tp] ∧ H tp = some (.tup cs) ∧ Paired ClsV cs ws ∧ cls = .ref D ∧ d = some dd ∧ H dd = some (.xd fs) ∧ PySem.W.kitAny K (.ref D) ws = some b ∧ Q (.bl b) H
theorem call_isDT (C : IsC X.K D) (hz : Zc cls d oe) (hf : ∃ vs, oe.data = .fields vs) : CallR (X.suite a ((a, oe) :: pn)) (.builtin "isinstance") (rIsDT X.K D a cls d) := by
  intro pins s σ H xs us Q I r h
  obtain ⟨tp, cs, ws, b, dd, fs, rfl, hT, kc, ec, ed, hd, e, q⟩ := h
  obtain ⟨u1, u2, rfl, r1, r2⟩ := vals2 r
  cases (show u1 = Value.ref a from r1)
  cases (show u2 = Value.ref tp from r2)
  obtain ⟨od, J⟩ := inst_of I hz hf ec ed hd
  have hx : ObjOk X.prog X.w H s.heap tp (.tup cs) := I.hok tp _ hT
  obtain ⟨_, its, rv, o, h1, h2, n, h3⟩ := hx
  have e3 := ClsV.all kc rv
  subst e3
  obtain ⟨oc, od2, dt, sl⟩ := o
  simp only at h2 h3
  subst h2 h3
  exact PySem.W.kia_tup (PySem.W.kitx_exc C.cl C.ga C.gg C.sb C.ha C.hn C.ht C.hm) I.kIn J h1 e (fun z => nomatch z) fun tk => ⟨.bl b, H, I.tok tk, rfl, q⟩
/-- f(e), e the error that is handled, by f's body -/
theorem pe_err {x par : Str} {st : Stmt} {f : Addr} {fd : FuncData} {N : List Str} {sp : Hp → VK → Prop} {e : Expr} {te : TE} {p pos : Pos} (F : Fun X.K x x st f fd) (S : FnScope N [par] (defScope st))
    (hb : ∀ (kV doc pm : Value) (an : Option Addr) (cdv ct u : Value), bindArgs (PySem.W.fnOf x x (defArgs st) (defBody st) (defScope st) .none kV doc pm an cdv ct) ⟨[u], []⟩ = pure [(par, u)])
    (hg : Gl X x) (hm : X.mg x = some (.ref f)) (hr : X.A.depth < recursionLimit)
    (hbody : ∀ (cdv : Value) (outer : List Env) (s : Shared) (H : Hp) (Q : VK), sp H Q → ∃ t, PSs ((cxOf CX0 X.prog X.w X.K X.mg X.base N x (defScope st) f cdv X.A outer s H E0).nox.suite a [(a, oe)]) (defBody st) t ∧ t { nx := fun _ H' => Q .non H', rt := Q } (start N [.ref a]) H)
    (he : PE (X.suite a ((a, oe) :: pn)) e te) (hdb : (x == ("__debug__" : Str)) = false := by decide) (hst : starEach [e] X.env = (false, eval e X.env) :: starEach [] X.env := by rfl) :
    PE (X.suite a ((a, oe) :: pn)) (.Call (.Name x p) [e] [] pos) (fun σ H Q => te σ H fun v H1 => v = .ref a ∧ sp H1 Q) := by
  have kp := F.kp
  obtain ⟨oc, od, kV, doc, pm, an, cdv, ct, osl, rfl, lk, hcd⟩ := F.ex
  refine ⟨fun pins s σ H Q I h => wpAny_Call_Name_kw (ld_glob I hg hm ?_ hdb)⟩
  refine PySem.W.callWith_K (h₀ := X.base) I.ok.mod.kin kp ?_ hst (by rfl)
  rw [hst]
  show wpAny _ _ (spliced ((false, eval e X.env) :: backTo pos (starEach [] X.env))) _ _ s
  refine Calls.spliced_cons (thn (he.run pins s σ H _ I h) fun u s1 ⟨v, H1, I1, r1, ev, hsp⟩ => ?_)
  subst ev
  cases (show u = Value.ref a from r1)
  refine Calls.spliced_nil ⟨I1.kIn, ?_⟩
  show wpAny _ _ (call (.ref f) [.ref a]) _ _ _
  have P1 := I1.pin (a, oe) (List.mem_append_left _ List.mem_cons_self)
  have hpin : L2H.PinOk X.stack H1 s1 (a, oe) := ⟨P1.1, P1.2.1, fun hmm => (List.mem_cons.mp (I1.stkSub a hmm)).elim P1.2.2.1 P1.2.2.2.1, P1.2.2.2.2⟩
  have e0 := I1.env0
  have KX : X.K.In s1.heap := I1.kIn
  have lim : s1.heap.NoLimit := I1.nolimit
  refine wpAny_call (codeAny_mono (R := CR CX0 X.stack X.prog X.w H1 s1 Q E0) ?_ fun r s2 z => ?_)
  · refine codeAny_call_function hr (KX _ _ lk) rfl S.co S.gen rfl (PySem.W.codeRec_of KX hcd) ?_
    rw [hb kV doc pm an cdv ct (.ref a)]
    refine wpAny_pure ?_
    have hkind : ∀ y ∈ [par].zip [Value.ref a], (defScope st).names.lookup y.1 = some .local ∨ ((defScope st).names.lookup y.1 = some .cell ∧ ((cellsFrom (s1.heap.objs.size + 1) (defScope st).names []).lookup y.1).isSome = true) := fun y hy => by
      rcases S.par y.1 (List.of_mem_zip hy).1 with q | q
      · exact .inl q
      · exact .inr ⟨q, PySem.W.cellsFrom_some _ _ _ (.inl q)⟩
    refine wpAny_newFunctionEnv_cells (s := s1) S.kind hkind fun env henv s3 x3 => ?_
    subst henv
    refine ⟨lim.keeps x3.toInCall.keep, codeAny_func ?_⟩
    obtain ⟨t, ht, hq⟩ := hbody cdv X.stack s1 H1 Q hsp
    have J := L2H.inv_startH (CX := CX0) (E := E0) S hpin e0 (vs := [.ref a]) rfl (.cons rfl .nil) x3
    have ht2 : PSs (L2H.cxH CX0 X.prog X.w X.K X.mg X.base N x (defScope st) f cdv (X.A.mark (some (.ref a))) X.stack s1 H1 E0 (a, oe)) (defBody st) t := PSs.nox ht
    refine wpAny_mono (ht2.run [] s3 _ H1 _ J hq) (fun fl s4 hs => ?_) fun e4 s4 hs => hs
    match fl, hs with
    | .ret u, ⟨v, σ4, H4, J4, rv, q⟩ => exact ⟨v, H4, J4.os, J4.bare, J4.base, J4.hok, rv, q⟩
    | .next, ⟨σ4, H4, J4, q⟩ => exact ⟨.non, H4, J4.os, J4.bare, J4.base, J4.hok, rfl, q⟩
    | .brk, ⟨_, _, _, q⟩ => exact q.elim
    | .cont, ⟨_, _, _, q⟩ => exact q.elim
  · match r, z with
    | .error e4, z => exact z.elim
    | .ok .next, z => exact z.elim
    | .ok .brk, z => exact z.elim
    | .ok .cont, z => exact z.elim
    | .ok (.ret u), z => exact I1.after z
end
end XT
/-! own errors: made with one field or with none, and raised by common_width -/
namespace XT
open PySem PySem.Spec PyProof.Rows L2
theorem PMk.imp {X : Cx} {e : Expr} {t t' : L2.St → Hp → XK → Prop} (h : PMk X e t) (i : ∀ σ H Q, t' σ H Q → t σ H Q) : PMk X e t' := fun pins s σ H Q I q => h pins s σ H Q I (i _ _ _ q)
/-- self.f = y in a class's __init__ -/
def spInit (K : PySem.W.Frag) (C : Addr) (f : Str) : Sp := fun vs H Q _ => ∃ (a : Addr) (y : V), vs = [.ref a, y] ∧ H a = some (exo a C none) ∧ ∀ dx, H dx = none → dx ≠ a → Q .non (upd (upd H dx (exd dx [(f, y)])) a (exo a C (some dx)))
/-- an own error class over ValueError with one field -/
structure ErrC (P : Program) (w : World) (K : PySem.W.Frag) (mg : Str → Option Value) (base : Heap) (x f : Str) (C : Addr) : Prop where
  T : OexC K C
  no : PySem.W.findIn K (.ref C) f = some none
  ini : ∃ (fI : Addr) (fd : FuncData) (ps : List Str), PySem.W.findIn K (.ref C) "__init__" = some (some (.ref fI)) ∧ PySem.W.typeIn K (.ref fI) = some (.type "function") ∧ FnOk P w K mg base CX0 1 fI fd ps (spInit K C f) ∧ Binds K fd ps []
  hm : mg x = some (.ref C)
theorem same_xd {H : Hp} {a dx C : Addr} {o o' : HO} {fs : List (Str × V)} (n : H a = none) (m : H dx = none) (ne : dx ≠ a) : Same H (upd (del (upd (upd (upd H a o) dx o') a (exo a C (some dx))) a) dx (.xd fs)) := fun b x e => by
  have h1 : b ≠ dx := ne_of_none e m
  have h2 : b ≠ a := ne_of_none e n
  rw [upd_ne h1, del_ne h2, upd_ne h2, upd_ne h1, upd_ne h2]
  exact e
section
variable {X : Cx} {C : Addr} {x f : Str} {e : Expr} {ta : TA} {p pos : Pos}
/-- C(e) -/
theorem pmk_err (R : ErrC X.prog X.w X.K X.mg X.base x f C) (hr : Room 2 X.A) (hg : Gl X x) (ha : PA X [e] ta)
    (hdb : (x == ("__debug__" : Str)) = false := by decide) (he : starEach [e] X.env = (false, eval e X.env) :: starEach [] X.env := by rfl) (hpl : (backTo pos (starEach [] X.env)).any (·.1) = false := by rfl) :
    PMk X (.Call (.Name x p) [e] [] pos) (tMkO C (spInit X.K C f) [] ta) := by
  obtain ⟨fI, fd, ps, hi, ht, F, hb⟩ := R.ini
  exact pmk_oex (CX := CX0) (k := 1) (dvs := []) (ds := []) R.T hi ht F hr hb .nil pass0 hg R.hm ha hdb he hpl
theorem mko_in {K : PySem.W.Frag} {H1 : Hp} {Q : XK} {y : V} (h : ∀ H' d, Same H1 H' → H' d = some (.xd [(f, y)]) → Q (.ref C) (some d) H') :
    [y].length ≤ 1000 ∧ ∀ a, H1 a = none → spInit K C f (.ref a :: ([y] ++ [])) (upd H1 a (exo a C none))
      (fun v H2 => v = .non ∧ ∃ (d : Addr) (fs : List (Str × V)), H2 a = some (exo a C (some d)) ∧ H2 d = some (exd d fs) ∧ H1 d = none ∧ Q (.ref C) (some d) (upd (del H2 a) d (.xd fs))) (fun _ _ _ => False) := by
  refine ⟨by simp, fun a n => ⟨a, y, rfl, upd_same, fun dx nd ne => ⟨rfl, dx, [(f, y)], upd_same, ?_, ?_, ?_⟩⟩⟩
  · exact (upd_ne ne).trans upd_same
  · rw [upd_ne ne] at nd
    exact nd
  · rw [upd_ne ne] at nd
    exact h _ dx (same_xd n nd ne) upd_same
/-- C(), no own __init__ -/
theorem pmk_none {bmB : List Value} {B newId initId : String} (F : ExcBaseFacts B newId initId bmB) (q : PySem.W.excIn X.K C bmB newId = true) (gC : X.mg x = some (.ref C)) (kC : PySem.W.keepIn X.K (.ref C) = true) (r : Raises X (.ref C)) (hg : Gl X x)
    (hdb : (x == ("__debug__" : Str)) = false := by decide) : PMk X (.Call (.Name x p) [] [] pos) (fun _ H Q => Q (.ref C) none H) := by
  intro pins s σ H Q I h
  refine wpAny_Call_Name_kw (ld_glob I hg gC ?_ hdb)
  refine PySem.W.callWith_K0 I.kIn kC ?_
  obtain ⟨bm, N, nm, qn, bs, hdct, sn, sub, ab, col, dd, k0, k1, k2, k3, k5, mN, hC, hN, hni, T⟩ := exc_obj I.kIn q
  obtain ⟨hp, g, dr, tk, os⟩ := s
  refine wpAny_call_exc_subT F T hC hN hni (fun h' e hm => ?_) (by show 0 ≤ sizeLine; omega)
  exact mk_of I hm r h (I.hok.gone hm.new)
end
end XT
namespace XT
open PySem PySem.Spec PyProof.Rows L2
/-- what the own error without fields needs -/
structure ErrN (K : PySem.W.Frag) (mg : Str → Option Value) (x : Str) (C : Addr) : Prop where
  ex : ∃ (bmB : List Value) (B newId initId : String), ExcBaseFacts B newId initId bmB ∧ PySem.W.excIn K C bmB newId = true
  exC : PySem.W.subIn K (.ref C) (.type "BaseException") = some true
  tyC : PySem.W.typeIn K (.ref C) = some (.type "type")
  kC : PySem.W.keepIn K (.ref C) = true
  hm : mg x = some (.ref C)
end XT
namespace XT
open PySem PySem.Spec PyProof.Rows L2
section
variable {P : Program} {w : World} {K : PySem.W.Frag} {mg : Str → Option Value} {base : Heap}
abbrev nFa : List Str := ["lot", "width", "masks", "reached", "mask", "x"]
theorem scFa : FnScope nFa ["lot"] (defScope sFlatAround) := ⟨rfl, rfl, rfl, by decide +kernel, rfl, by decide +kernel, by decide +kernel⟩
def spFe (CE : Addr) : Sp := fun vs H Q E => ∃ (v : V) (n : Nat) (p : Nat → Bool), vs = [v] ∧ LotAt H v n p ∧ n ≤ 6 ∧ (lotOf n p ≠ [] → ∀ H' r, Same H H' → LotAt H' r n (flB n p) → Q r H') ∧ (lotOf n p = [] → E (.ref CE) none H)
theorem ok_fe {f CE : Addr} {fd : FuncData} {k : Nat} (B : Bl mg) (F : Fun K "flat_around" "flat_around" sFlatAround f fd) (RE : ErrN K mg "EmptyLot" CE) : FnOk P w K mg base (L2.CX P w) (k + 1) f fd ["lot"] (spFe CE) := by
  refine F.okX scFa (fun vs H Q E h => ?_) (fun cdv A outer s H vs Q E hr h => ?_)
  · obtain ⟨v, n, p, rfl, _⟩ := h
    rfl
  · obtain ⟨v, n, p, rfl, ⟨x0, y0, rfl, hx, hy⟩, hn, q, qe⟩ := h
    obtain ⟨bmB, Bn, newId, initId, eF, eq⟩ := RE.ex
    refine ⟨_, pss_cons (ps_asg (pv 0) (pg_tup rfl (pgs_cons (pg_name (i := 1) scFa.nd rfl (by first | exact Or.inl rfl | exact Or.inr rfl)) (pgs_cons (pg_name (i := 2) scFa.nd rfl (by first | exact Or.inl rfl | exact Or.inr rfl)) pgs_nil))))
      (pss_cons (ps_if (pt_cmpR op_eq (pe_callB call_len_seq (by rfl) B.len PySem.boot_len (pa_cons (pv 2) pa_nil)) pe_int (nomark _)) (pss_one (ps_raise rfl (takes_of rfl rfl rfl rfl) (pmk_none eF eq RE.hm RE.kC (raises_own RE.exC RE.tyC) (by rfl)))) pss_nil)
      (PSs.nox (pss_cons (ps_set (i := 3) scFa.nd rfl (by first | exact Or.inl rfl | exact Or.inr rfl) (pe_lst (pa_cons (pe_ix ix_tup (pv 2) pe_int (fun _ _ => rfl)) pa_nil)))
      (pss_cons (ps_for PassesOwn.never rfl (pi_tup (pv 2)) (pg_name (i := 4) scFa.nd rfl (by first | exact Or.inl rfl | exact Or.inr rfl))
        (pss_one (ps_if (pt_cmpR op_notIn_seq (pv 4) (pv 3) (by rfl))
          (pss_one (ps_set (i := 3) scFa.nd rfl (by first | exact Or.inl rfl | exact Or.inr rfl) (pe_op op_cat (pv 3)
            (pe_lc (own := [("x", 5)]) (g := gName 5) (tt := tYes) (te := tOp rXor (tOp rXor (tVar 5) (tOp (rIxT K) (tVar 2) (tC (.int 0)))) (tVar 4)) rfl scFa.nd (pi_list (pv 3)) (blkOk_by (own := [("x", 5)]) (N := nFa) (sc := defScope sFlatAround) (by decide +kernel))
              (fun _ _ _ _ _ => pg_name (i := 5) scFa.nd rfl (Or.inl rfl)) (fun _ _ _ _ _ => pts_nil) (fun _ _ _ _ _ => pe_op op_xor (pe_op op_xor (pv 5) (pe_ix ix_tup (pv 2) pe_int (fun _ _ => rfl))) (pv 4)))))) pss_nil)))
      (pss_one (ps_ret (pe_tup (pa_cons (pv 1) (pa_cons (pe_callTy call_tuple_of (by rfl) B.tuple bT (pa_cons (pe_callB cr_sortedI (by rfl) B.sorted bS (pa_cons (pv 3) pa_nil)) pa_nil)) pa_nil))))))))), ?_⟩
    refine ⟨.ref x0, rfl, x0, _, rfl, SqT.of hx, rfl, _, _, rfl, _, _, rfl, rfl, ?_⟩
    refine ⟨.ref y0, rfl, y0, _, rfl, .inr (SqT.of hy), rfl, _, rfl, ?_⟩
    by_cases hne : lotOf n p = []
    · rw [vm_len, hne]
      exact iteT (qe hne)
    have q := q hne
    have hlen : 0 < (lotOf n p).length := List.length_pos_iff.mpr hne
    refine iteNT ?_ ?_
    · rw [vm_len]
      refine decide_eq_false fun z => ?_
      have := V.int.inj z
      omega
    have h6 := pow6 hn
    obtain ⟨hd1, hd2⟩ := hd_mem hne
    obtain ⟨a, ea⟩ : ∃ a, hd n p = a := ⟨_, rfl⟩
    have hat : (vm (lotOf n p))[0]? = some (.int (a : Int)) := by
      rw [← ea]
      unfold hd vm
      cases e : lotOf n p with
      | nil => exact absurd e hne
      | cons z l => rfl
    have ll := lot_len hn p
    rw [ea] at hd1 hd2
    refine ⟨.ref y0, rfl, y0, _, 0, .int (a : Int), rfl, rfl, SqT.of hy, atI_nat (j := 0) hat, sz (n := 1) (by decide), fun R0 nR0 => ?_⟩
    have s0 := same_new (o := .lst [V.int (a : Int)]) nR0
    have eds : ∀ i m, (lotOf n p)[i]? = some m → (dsL n p)[i]? = some (a ^^^ m) := fun i m hm => by
      unfold dsL
      rw [List.getElem?_map, hm, ea]
      rfl
    have dlen : (dsL n p).length = (lotOf n p).length := by unfold dsL; rw [List.length_map]
    refine ⟨.ref y0, rfl, y0, rfl, ⟨_, SqT.of (s0 _ _ hy)⟩, for_tup (K := K) (xs := vm (lotOf n p)) (fun i σ H' => Same H H' ∧ ∃ (R : Addr) (F : List Nat) (z4 : Option V), σ = [some (.ref x0), some (.int (n : Int)), some (.ref y0), some (.ref R), z4, none] ∧ H' R = some (.lst (vm (F.map fun x => a ^^^ x))) ∧ Rch n F (baS ((dsL n p).take i)).2) ⟨s0, R0, [0], none, rfl, by rw [upd_same]; simp [vm], rch_zero n⟩ (fun i σ H' _ h => SqT.of (h.1 _ _ hy)) (fun i x σ H2 hx2 h => ?_) (fun σ H2 h => ?_)⟩
    · obtain ⟨sm, R, F, z4, rfl, hR, rch⟩ := h
      obtain ⟨m, hm, rfl⟩ := mem_vm hx2
      have hm2 := (mem_lot.mp (List.mem_of_getElem? hm)).1
      have hdm := eds i m hm
      have bt := ba_take hdm
      have bs := ba_span (dsL n p) i
      have fl := rch.len
      have hdm2 := xor_lt hd1 hm2
      refine ⟨.int (m : Int), rfl, .ref R, rfl, R, _, rfl, .inl (SqL.of hR), rfl, vm_flat _, _, rfl, ?_⟩
      show if (!inV (.int (m : Int)) (vm (F.map fun x => a ^^^ x))) = true then _ else _
      rw [in_vm]
      have hmem : decide (m ∈ F.map fun x => a ^^^ x) = (baS ((dsL n p).take i)).2 (a ^^^ m) := by
        rw [Bool.eq_iff_iff, decide_eq_true_iff, ← rch.iff]
        rw [List.mem_map]
        constructor
        · rintro ⟨y, hy, rfl⟩
          rw [xb]
          exact hy
        · intro h
          exact ⟨_, h, xb _ _⟩
      rw [hmem]
      refine ite2 (fun e => ?_) (fun e => ?_)
      · have e2 : ¬ (baS ((dsL n p).take i)).2 (a ^^^ m) = true := by simpa using e
        have bt1 : (baS ((dsL n p).take (i + 1))).2 = spS (baS ((dsL n p).take i)).2 (a ^^^ m) := by rw [bt]; unfold baF; rw [if_neg e2]
        have sb : Sub (baS ((dsL n p).take i)).2 := by rw [bs]; exact sub_span _
        have hy2 := sm _ _ hy
        refine ⟨.ref R, rfl, .ref R, rfl, R, rfl, ⟨_, SqL.of hR⟩, fun C nC => lcp_list (p := fun _ => true) (f := fun v => match v with | .int j => .int (Builtin.bitXor (Builtin.bitXor j (a : Int)) (m : Int)) | v => v) nC (SqL.of hR) (small64 (by rw [vm_len, List.length_map]; omega)) (fun j z H4 hz s4 => ?_) (fun H4 s4 hC => ?_)⟩
        · intro R1 R2 h1' h2'
          obtain ⟨y, hy', rfl⟩ := mem_vm hz
          exact ⟨rfl, iteT (B := R1 H4) ⟨_, rfl, .ref y0, rfl, y0, _, 0, .int (a : Int), rfl, rfl, SqT.of (s4 _ _ hy2), atI_nat (j := 0) hat, (y : Int), (a : Int), rfl, rfl, .int (m : Int), rfl, _, (m : Int), rfl, rfl, h2' rfl _ (Same.refl _)⟩⟩
        · have eC : (((vm (F.map fun x => a ^^^ x)).filter fun _ => true).map fun v => match v with | .int j => V.int (Builtin.bitXor (Builtin.bitXor j (a : Int)) (m : Int)) | v => v) = vm ((F.map fun x => (a ^^^ m) ^^^ x).map fun x => a ^^^ x) := by
            rw [List.filter_eq_self.mpr (fun _ _ => rfl)]
            unfold vm
            rw [List.map_map, List.map_map, List.map_map, List.map_map]
            refine List.map_congr_left fun y _ => ?_
            show V.int (Builtin.bitXor (Builtin.bitXor ((a ^^^ y : Nat) : Int) (a : Int)) (m : Int)) = V.int ((a ^^^ (a ^^^ m ^^^ y) : Nat) : Int)
            rw [bx, bx, Nat.xor_assoc a m y, xb, Nat.xor_comm a y, xor_back, Nat.xor_comm y m]
          rw [eC] at hC
          refine ⟨R, C, _, _, rfl, rfl, s4 _ _ hR, hC, by simp only [vm_len, List.length_map]; exact sz (by omega), fun T nT => ?_⟩
          have sT := same_new (o := .lst (vm (F.map fun x => a ^^^ x) ++ vm ((F.map fun x => (a ^^^ m) ^^^ x).map fun x => a ^^^ x))) nT
          have s5 := s4.trans sT
          have st := rch.step hdm2
          rw [not_in_step' sb e2 fun x hx => (rch.iff x).mp hx] at st
          refine ⟨sm.trans s5, T, F ++ F.map (fun x => (a ^^^ m) ^^^ x), _, rfl, ?_, by rw [bt1]; exact st⟩
          rw [upd_same]
          unfold vm
          rw [List.map_append, List.map_append]
      · have e2 : (baS ((dsL n p).take i)).2 (a ^^^ m) = true := by simpa using e
        have bt1 : baS ((dsL n p).take (i + 1)) = baS ((dsL n p).take i) := by rw [bt]; unfold baF; rw [if_pos e2]
        exact ⟨sm, R, F, _, rfl, hR, by rw [bt1]; exact rch⟩
    · obtain ⟨sm, R, F, z4, rfl, hR, rch⟩ := h
      rw [vm_len, ← dlen, ba_span, List.take_length] at rch
      have fl := rch.len
      have hR' : SqL K H2 R ((F.map fun x => ((a ^^^ x : Nat) : Int)).map V.int) := by
        refine SqL.of ?_
        rw [hR]
        unfold vm
        rw [List.map_map, List.map_map]
        rfl
      refine ⟨.int n, rfl, .ref R, rfl, R, _, rfl, hR', fun ns L perm asc nL => ?_⟩
      have s4 := same_new (o := .lst (ns.map V.int)) nL
      refine ⟨L, _, rfl, .inl ⟨SqL.of upd_same, fun T nT => ?_⟩⟩
      have s5 := same_new (o := .tup (ns.map V.int)) nT
      refine ⟨sz (n := 2) (by decide), fun U nU => ?_⟩
      have s6 := same_new (o := .tup [.int (n : Int), .ref T]) nU
      have nd : ns.Nodup := by
        rw [perm.nodup_iff]
        have h := rch.nd
        unfold List.Nodup at h ⊢
        rw [List.pairwise_map]
        refine h.imp fun {x y} hxy e => hxy ?_
        have e2 : a ^^^ x = a ^^^ y := by omega
        have e3 := congrArg (a ^^^ ·) e2
        simpa [xb] using e3
      have hm : ns.map V.int = vm (lotOf n (flB n p)) := by
        refine rising_lot (lt_of_le_nodup ns asc nd) fun k => ?_
        rw [perm.mem_iff, List.mem_map]
        constructor
        · rintro ⟨y, hy', rfl⟩
          refine ⟨a ^^^ y, rfl, xor_lt hd1 (rch.lt y hy'), ?_⟩
          unfold flB
          rw [ea, xb]
          exact (rch.iff y).mp hy'
        · rintro ⟨m, rfl, h1, h2⟩
          unfold flB at h2
          rw [ea] at h2
          exact ⟨a ^^^ m, (rch.iff _).mpr h2, by rw [xb]⟩
      refine q _ _ (((sm.trans s4).trans s5).trans s6) ⟨U, T, rfl, upd_same, ?_⟩
      rw [← hm]
      exact s6 _ _ upd_same
end
end XT
/-! a caught error without a dict: isinstance -/
namespace XT
open PySem PySem.Spec PyProof.Rows L2
section
variable {X : Cx} {a D : Addr} {oe : Obj} {cls : Value} {d : Option Addr} {pn : List (Addr × Obj)}
theorem inst_none {pins : List (Addr × Obj)} {σ : L2.St} {H : Hp} {s : Shared} (I : Inv (X.suite a ((a, oe) :: pn)) pins σ H s) (hz : Zc cls d oe) (hf : ∃ vs, oe.data = .fields vs) (ec : cls = .ref D) (ed : d = none) : PySem.W.InstAt s.heap a oe D none := by
  subst ec ed
  obtain ⟨ha, _⟩ := I.pin (a, oe) (List.mem_append_left _ List.mem_cons_self)
  obtain ⟨vs, hv⟩ := hf
  obtain ⟨oc, od, oda, osl⟩ := oe
  obtain ⟨h1, h2⟩ := hz
  dsimp only at h1 h2 hv
  subst h1 h2 hv
  exact ⟨ha, rfl, rfl, trivial⟩
def rIsN (K : PySem.W.Frag) (D a : Addr) (cls : Value) (d : Option Addr) : List V → Hp → VK → Prop := fun xs H Q => ∃ (c : V) (cv : Value) (b : Bool), xs = [.ref a, c] ∧ ClsV c cv ∧ cls = .ref D ∧ d = none ∧ PySem.W.kitOne K (.ref D) cv = some b ∧ Q (.bl b) H
theorem call_isN (C : ExcC X.K D) (hz : Zc cls d oe) (hf : ∃ vs, oe.data = .fields vs) : CallR (X.suite a ((a, oe) :: pn)) (.builtin "isinstance") (rIsN X.K D a cls d) := by
  intro pins s σ H xs us Q I r h
  obtain ⟨c, cv, b, rfl, kc, ec, ed, e, q⟩ := h
  obtain ⟨u1, u2, rfl, r1, r2⟩ := vals2 r
  cases (show u1 = Value.ref a from r1)
  have e2 := kc.eq r2
  subst e2
  exact PySem.W.kia_one (PySem.W.handS_kitx_exc C.hg C.hk C.hs C.hd C.ha C.hn C.ht C.hm) I.kIn (inst_none I hz hf ec ed) e (fun z => nomatch z) fun tk => ⟨.bl b, H, I.tok tk, rfl, q⟩
def rIsNT (K : PySem.W.Frag) (D a : Addr) (cls : Value) (d : Option Addr) : List V → Hp → VK → Prop := fun xs H Q => ∃ (tp : Addr) (cs : List V) (ws : List Value) (b : Bool), xs = [.ref a, .ref tp] ∧ H tp = some (.tup cs) ∧ Paired ClsV cs ws ∧ cls = .ref D ∧ d = none ∧ PySem.W.kitAny K (.ref D) ws = some b ∧ Q (.bl b) H
theorem call_isNT (C : ExcC X.K D) (hz : Zc cls d oe) (hf : ∃ vs, oe.data = .fields vs) : CallR (X.suite a ((a, oe) :: pn)) (.builtin "isinstance") (rIsNT X.K D a cls d) := by
  intro pins s σ H xs us Q I r h
  obtain ⟨tp, cs, ws, b, rfl, hT, kc, ec, ed, e, q⟩ := h
  obtain ⟨u1, u2, rfl, r1, r2⟩ := vals2 r
  cases (show u1 = Value.ref a from r1)
  cases (show u2 = Value.ref tp from r2)
  have J := inst_none I hz hf ec ed
  have hx : ObjOk X.prog X.w H s.heap tp (.tup cs) := I.hok tp _ hT
  obtain ⟨_, its, rv, o, h1, h2, n, h3⟩ := hx
  have e3 := ClsV.all kc rv
  subst e3
  obtain ⟨oc, od2, dt, sl⟩ := o
  simp only at h2 h3
  subst h2 h3
  exact PySem.W.kia_tup (PySem.W.handS_kitx_exc C.hg C.hk C.hs C.hd C.ha C.hn C.ht C.hm) I.kIn J h1 e (fun z => nomatch z) fun tk => ⟨.bl b, H, I.tok tk, rfl, q⟩
end
end XT
namespace XT
open PySem PySem.Spec PyProof.Rows L2
def DefX (P : Program) (w : World) (K : PySem.W.Frag) (mg : Str → Option Value) (base : Heap) (k : Nat) (x : Str) (sp : Sp) : Prop :=
  ∃ f fd ps, FnOk P w K mg base (L2.CX P w) k f fd ps sp ∧ Binds K fd ps [] ∧ mg x = some (.ref f) ∧ PySem.W.keepIn K (.ref f) = true
theorem DefX.of {P : Program} {w : World} {K : PySem.W.Frag} {mg : Str → Option Value} {base : Heap} {k : Nat} {x : Str} {sp : Sp} {f : Addr} {fd : FuncData} {ps : List Str}
    (F : FnOk P w K mg base (L2.CX P w) k f fd ps sp) (b : Binds K fd ps []) (hm : mg x = some (.ref f)) (hk : PySem.W.keepIn K (.ref f) = true) : DefX P w K mg base k x sp := ⟨f, fd, ps, F, b, hm, hk⟩
section
variable {X : Cx}
/-- f(e, ..), f may raise -/
theorem pe_defX {j : Nat} {x : Str} {sp : Sp} {W : WX} {e : Expr} {es : List Expr} {t : TA} {p pos : Pos} (D : DefX X.prog X.w X.K X.mg X.base j x sp) (hr : Room j X.A) (hg : Gl X x) (tk : Takes X W) (ha : PA X (e :: es) t)
    (hdb : (x == ("__debug__" : Str)) = false := by decide) (he : starEach (e :: es) X.env = (false, eval e X.env) :: starEach es X.env := by rfl) (hpl : (backTo pos (starEach es X.env)).any (·.1) = false := by rfl) :
    PE X (.Call (.Name x p) (e :: es) [] pos) (tCallS sp (WE W) t) := by
  obtain ⟨f, fd, ps, F, b, hm, hk⟩ := D
  exact pe_callS F hr hg hm hk b (fun σ => passAt tk σ) ha hdb he hpl
end
end XT
/-! _law_told -/
namespace XT
open PySem PySem.Spec PyProof.Rows L2
theorem bLE : bootBuiltins "LookupError" = some (.type "LookupError") := by decide +kernel
structure CauE (K : PySem.W.Frag) (mg : Str → Option Value) (CE : Addr) : Prop where
  is : ExcC K CE
  hm : mg "EmptyLot" = some (.ref CE)
  self : PySem.W.kitOne K (.ref CE) (.ref CE) = some true
  lk : mg "LookupError" = none
  cs : ∃ cT cB cN cL : Addr, mg "TurnError" = some (.ref cT) ∧ mg "BadLot" = some (.ref cB) ∧ mg "NoLots" = some (.ref cN) ∧ mg "TooWide" = some (.ref cL) ∧ PySem.W.exmOne K (.ref CE) (.ref cT) = some true ∧ PySem.W.kitAny K (.ref CE) [.ref cB, .type "LookupError", .ref cN, .ref cL] = some false
def dFl (n : Nat) (p : Nat → Bool) : PyData := if lotOf n p = [] then .list [.str "empty", .bool true] else dLot n (flB n p)
section
variable {P : Program} {w : World} {K : PySem.W.Frag} {mg : Str → Option Value} {base : Heap}
abbrev nTe : List Str := ["_law_some", "error", "_law_alone"]
theorem scTe : FnScope nTe ["_law_some"] (defScope sTold) := ⟨rfl, rfl, rfl, by decide +kernel, rfl, by decide +kernel, by decide +kernel⟩
def spTe (K : PySem.W.Frag) : Sp := fun vs H Q _ => ∃ (v : V) (n : Nat) (p : Nat → Bool), vs = [v] ∧ LotAt H v n p ∧ n ≤ 6 ∧ ∀ H' z, Same H H' → Dp K H' z (dFl n p) → Q z H'
theorem ok_te {f CE : Addr} {fd : FuncData} {k : Nat} (B : Bl mg) (C : CauE K mg CE) (F : Fun K "_law_told" "_law_told" sTold f fd) (dF : DefX P w K mg base 1 "flat_around" (spFe CE)) : FnOk P w K mg base CX0 (k + 2) f fd ["_law_some"] (spTe K) := by
  refine F.ok scTe (fun vs H Q E h => ?_) (fun cdv A outer s H vs Q E hr h => ?_)
  · obtain ⟨v, n, p, rfl, _⟩ := h
    rfl
  · obtain ⟨v, n, p, rfl, hv, hn, q⟩ := h
    obtain ⟨cT, cB, cN, cL, mT, mB, mN, mL, k1, k2⟩ := C.cs
    refine ⟨_, pss_one (ps_try_as (i := 1) rfl rfl scTe.nd rfl rfl ⟨rfl, by decide, .inl mT⟩ takes0
      (fun W pn xe tk _ => pss_one (ps_ret (pe_defX dF (hr.mono (by omega)) (by rfl) tk (pa_cons (pv 0) pa_nil))))
      (fun a oe cls d pn hz hf => pss_cons (ps_set (i := 2) scTe.nd rfl (by first | exact Or.inl rfl | exact Or.inr rfl) (pe_and (pe_callB (call_isN C.is hz hf) (by rfl) B.isinstance bI (pa_cons (pv 1) (pa_cons (pe_glob (v := .ref CE) (by rfl) C.hm rfl) pa_nil)))
          (pe_one (pe_not (pe_callB (call_isNT C.is hz hf) (by rfl) B.isinstance bI (pa_cons (pv 1) (pa_cons (pe_tup (pa_cons (pe_glob (v := .ref cB) (by rfl) mB rfl) (pa_cons (pe_bltn (v := .ty "LookupError") (by rfl) C.lk bLE rfl) (pa_cons (pe_glob (v := .ref cN) (by rfl) mN rfl) (pa_cons (pe_glob (v := .ref cL) (by rfl) mL rfl) pa_nil))))) pa_nil)))))))
        (pss_one (ps_ret (pe_lst (pa_cons pe_str (pa_cons (pv 2) pa_nil))))))), ?_⟩
    refine ⟨v, rfl, v, n, p, rfl, hv, hn, fun hne H' r s' lr => q _ _ s' ?_, fun hnil => ⟨true, k1, fun _ a na => ?_, fun z => nomatch z⟩⟩
    · unfold dFl
      rw [if_neg hne]
      exact lr.dp
    · refine ⟨.ref a, rfl, .ref CE, .ref CE, true, rfl, .own _, rfl, rfl, C.self, true, rfl, iteT ⟨.ref a, rfl, sz (n := 4) (by decide), fun T nT => ⟨T, _, [.ref cB, .type "LookupError", .ref cN, .ref cL], false, rfl, upd_same, .cons (.own _) (.cons (.ty _) (.cons (.own _) (.cons (.own _) .nil))), rfl, rfl, k2, false, rfl, ?_⟩⟩⟩
      refine ⟨.bl true, rfl, sz (n := 2) (by decide), fun M nM => q _ _ ((same_new nT).trans (same_new nM)) ?_⟩
      unfold dFl
      rw [if_pos hnil]
      exact .lst (SqL.of upd_same) (.cons (.str _) (.cons (.bl _) .nil))
end
end XT
/-! set of a long list -/
namespace XT
open PySem PySem.Spec PyProof.Rows L2
section
variable {X : Cx}
def rSetB (K : PySem.W.Frag) (w : World) : List V → Hp → VK → Prop := fun vs H Q => ∃ (a : Addr) (ns : List Int), vs = [V.ref a] ∧ SqL K H a (ns.map V.int) ∧ ns.length ≤ 4000 ∧ ∀ (p : Addr) (c : Nat), H p = none → Q (.ref p) (upd H p (SetO w p (fun j => decide (j ∈ ns)) c))
theorem cr_setB (hc : X.calm = true) : CallR X (.type "set") (rSetB X.K X.w) := by
  intro pins s σ H vs us Q I r h
  obtain ⟨a, ns, rfl, hs, hn, q⟩ := h
  obtain ⟨its, rv, hl, hz⟩ := I.list hs
  rw [Vals.ref1 r]
  refine set_listI ns (I.ok.hd hc) hl.isList (by simpa using rv.ints) (by unfold scanBound; omega) fun hp tk c hS hcn hk => ?_
  exact ⟨.ref _, _, I.laid (t' := tk) hk (Nat.le_refl _) (setO_new hS), rfl, q _ c (I.hok.fresh (Nat.le_refl _))⟩
end
theorem szl {n : Nat} (h : n ≤ 100000) : n ≤ sizeLine := by rw [sizeLine_eq]; omega
theorem pow5 {w : Nat} (h : w ≤ 5) : 2 ^ w ≤ 32 := by
  have : w = 0 ∨ w = 1 ∨ w = 2 ∨ w = 3 ∨ w = 4 ∨ w = 5 := by omega
  rcases this with rfl | rfl | rfl | rfl | rfl | rfl <;> decide
theorem lot_len5 {w : Nat} (h : w ≤ 5) (P : Nat → Bool) : (lotOf w P).length ≤ 32 := by
  refine Nat.le_trans (List.length_filter_le _ _) ?_
  rw [List.length_range]
  exact pow5 h
end XT
/-! set of a list of any length whose members are small -/
namespace XT
open PySem PySem.Spec PyProof.Rows L2
section
variable {P : Program} {w : World} {A : Around} {E : Value → Shared → Prop} {s : Shared}
theorem upd_small {I : Addr} {fp wr : List Addr} {G : Array GenState → Array GenState → Prop} {n N : Nat} {Pv : Nat → Value → Prop} {St : Nat → Shared → Prop} {R : Result → Shared → Prop} (W : WalksS P w A.in1 I fp wr G n Pv St) (S : Addr) (hSf : S ∉ fp) (ns : List Int) (hn : n = ns.length) (hN : N ≤ 1000) (hsm : ∀ k ∈ ns, ∃ m : Nat, k = (m : Int) ∧ m < N) (hval : ∀ i v, Pv i v → ∃ k t, ns[i]? = some k ∧ v = .int k t) :
    ∀ (k i : Nat) (s : Shared), n - i = k → i ≤ n → St i s → SetR w s.heap S (fun j => decide (j ∈ ns.take i)) (cnt N fun j => decide (j ∈ ns.take i)) → (∀ s', Moved (S :: wr) G s s' → SetR w s'.heap S (fun j => decide (j ∈ ns)) (cnt N fun j => decide (j ∈ ns)) → R (.ok (.ret .none)) s') →
      codeAny (model P w) A (.builtin "set.update.loop" ⟨[.ref S, .ref I], []⟩) R s := by
  have hw1 : S ∉ wr := fun z => hSf (W.sub _ z)
  have hw2 : ∀ b ∈ wr, b ∈ S :: wr := fun b z => List.mem_cons_of_mem _ z
  intro k; induction k with
  | zero =>
    intro i s hk1 hi hst hS hR
    obtain rfl : i = n := by omega
    refine codeAny_builtin F.entry_set_update_loop ?_; rw [Around.under_plainId F.plain_set_update_loop _]
    show wpAny _ A.in1 (pyNext (.ref I) >>= _) _ _ s; refine wpAny_bind (W.done s _ _ hst fun s1 hm => ?_)
    have e0 : ns.take i = ns := List.take_of_length_le (by omega)
    rw [e0] at hS
    show wpAny _ A.in1 (ret Value.none) _ _ s1; exact wpAny_pure (hR s1 (hm.mono hw2) (hS.at fun o z => hm.heap S o hw1 z))
  | succ k ih =>
    intro i s hk1 hi hst hS hR
    have hin : i < n := by omega
    refine codeAny_builtin F.entry_set_update_loop ?_; rw [Around.under_plainId F.plain_set_update_loop _]
    show wpAny _ A.in1 (pyNext (.ref I) >>= _) _ _ s; refine wpAny_bind (W.item i s _ _ hin hst fun v s1 hP hst1 hm => ?_)
    obtain ⟨z, t, hz, rfl⟩ := hval i v hP
    obtain ⟨m, em, hmN⟩ := hsm z (List.mem_of_getElem? hz)
    have hS1 : SetR w s1.heap S (fun j => decide (j ∈ ns.take i)) (cnt N fun j => decide (j ∈ ns.take i)) := hS.at fun o e => hm.heap S o hw1 e
    have cl := cnt_le N fun j => decide (j ∈ ns.take i)
    show wpAny _ A.in1 (holding [Value.int z t] (setAdd S (.int z t)) >>= _) _ _ s1; refine wpAny_bind (wpAny_holding ?_)
    unfold setAdd; refine wpAny_holding (wpAny_bind ((intKind P w).pyHash (k := z) (intKind_is _ _ _ _) ?_))
    refine setR_add_hashed (s := { s1 with toks := s1.toks + 1 }) hS1 (by unfold scanBound; omega) fun h2 hsb hS2 => ?_
    have ef : (fun j => decide (j ∈ ns.take i) || decide (j = z)) = fun j => decide (j ∈ ns.take (i + 1)) := funext fun j => by rw [List.take_add_one, hz]; simp [List.mem_append]
    have ec : (if decide (z ∈ ns.take i) = true then cnt N (fun j => decide (j ∈ ns.take i)) else cnt N (fun j => decide (j ∈ ns.take i)) + 1) = cnt N fun j => decide (j ∈ ns.take (i + 1)) := by
      rw [← ef, em]
      exact (cnt_add (fun j => decide (j ∈ ns.take i)) hmN).symm
    rw [ec] at hS2
    have hS3 : SetR w h2 S (fun j => decide (j ∈ ns.take (i + 1))) (cnt N fun j => decide (j ∈ ns.take (i + 1))) := by rw [← ef] at hS2 ⊢; exact hS2
    refine wpAny_pure ⟨plainId_quiet F.plain_set_update_loop _, ih (i + 1) _ (by omega) hin (W.frame _ s1 _ _ hst1 (Nat.le_succ _) fun b hb o e => ?_) hS3 fun s3 hm3 hS4 => ?_⟩
    · rw [hsb.2 b fun z => hSf (by rw [← z]; exact hb)]; exact e
    · refine hR s3 (Moved.trans W.gtrans ((hm.mono hw2).then_heap (Nat.le_succ _) fun b o hb e => ?_) hm3) hS4
      rw [hsb.2 b fun z => hb (by rw [z]; exact List.mem_cons_self)]; exact e
abbrev aftS (w : World) (s : Shared) (ns : List Int) (r : Value) (s2 : Shared) : Prop := r = .none ∧ ∃ (hp : Heap) (tk c : Nat), s2 = { s with heap := hp, toks := tk } ∧ SetR w hp s.heap.objs.size (fun j => decide (j ∈ ns)) c ∧ (∀ b o, s.heap.get? b = some o → hp.get? b = some o)
theorem set_small {l : Addr} {items : Array Value} (ns : List Int) {N : Nat} {Q : Value → Shared → Prop} (hh : A.handled = none) (hl : s.heap.IsList l items) (hit : IntsAre items.toList ns) (hN : N ≤ 1000) (hsm : ∀ k ∈ ns, ∃ m : Nat, k = (m : Int) ∧ m < N)
    (h : ∀ (hp : Heap) (tk c : Nat), SetR w hp s.heap.objs.size (fun j => decide (j ∈ ns)) c → (∀ b o, s.heap.get? b = some o → hp.get? b = some o) → Q (.ref s.heap.objs.size) { s with heap := hp, toks := tk }) : wpAny (model P w) A (call (.type "set") [.ref l]) Q E s := by
  have hz : items.size = ns.length := by
    have e := IntsAre.length hit
    rwa [Array.length_toList] at e
  obtain ⟨mc, mt, m0⟩ := F.called_set.mro
  have m1 := F.called_set.made
  have m2 := F.called_set.sub
  have m3 := F.called_set.notType
  have m4 := F.called_set.canCreate
  have m5 := F.typeCall_set_1 (.ref l)
  refine wpAny_call (codeAny_of_tree ?_); show wpAny _ _ (callAny (.type "set") _) _ _ _
  refine wpAny_pure ⟨Code.quiet_builtin _ (by decide +kernel), codeAny_builtin F.entry_type_call ?_⟩; rw [Around.under_plain (weight_type_call_type "set" [.ref l] []) rfl]
  repeat (any_goals (first | assumption | wp_step))
  refine codeAny_mono (code_set_led1 (.ref l) (E := E) (Q₁ := fun v s1 => v = .ref s.heap.objs.size ∧ s1 = withS w s) ⟨rfl, rfl⟩) fun r s1 hr => ?_
  match r, hr with
  | .error e, hr => exact hr
  | .ok .next, hr => exact hr.elim
  | .ok .brk, hr => exact hr.elim
  | .ok .cont, hr => exact hr.elim
  | .ok (.ret v), hr =>
    obtain ⟨rfl, rfl⟩ := hr
    have g0 : (s.heap.push (newS w)).get? s.heap.objs.size = some (newS w) := Heap.get?_push_size _ rfl
    have g1 : Shared.TypeIs (withS w s) (.ref s.heap.objs.size) "set" := ⟨_, g0, rfl⟩
    have g2 := F.called_set.init.lookup
    have g3 := F.called_set.init.bind (.ref s.heap.objs.size)
    repeat (any_goals (first | assumption | wp_step))
    refine codeAny_mono (codeAny_call_builtin (R := wants (aftS w s ns) E) F.called_set.init.plain F.entry_set_init (check_set_init_1 g1 ?_)) fun r2 s2 hr2 => ?_
    · obtain ⟨ol, hol, hcl, nl, hdl⟩ := hl
      obtain ⟨oc, od, odt, osl⟩ := ol
      simp only at hcl hdl
      subst hcl hdl
      have hol1 : (s.heap.push (newS w)).get? l = some { cls := .type "list", dict := od, data := .seq items nl, slots := osl } := Heap.get?_push_of_some _ hol
      have n1 := F.sub_list_set
      have n2 := F.sub_list_frozenset
      have n3 : (Value.type "list" == Value.type "dict") = false := by decide
      have hl1 : (s.heap.push (newS w)).IsList l items := ⟨_, hol1, rfl, nl, rfl⟩
      have lS : l < s.heap.objs.size := Heap.lt_size hol
      have z1 : (s.heap.push (newS w)).objs.size = s.heap.objs.size + 1 := Heap.size_push ..
      unfold Builtin.«set.__init__» noKeywords Builtin.Frozenset.updateFrom
      generalize hPI : pyIter = PI
      wp_walk
      subst hPI
      refine wpAny_pyIter_list hl1 (wpAny_bind (wpAny_runValue ?_))
      have c0 : cnt N (fun j => decide (j ∈ ns.take 0)) = 0 := by unfold cnt; simp
      refine upd_small (N := N) ((Walks.list (by simp [hh]) _ l (by rw [z1]; exact Nat.ne_of_lt (Nat.lt_succ_of_lt lS)) items).toS) s.heap.objs.size (by rw [z1]; simp only [List.mem_cons, List.not_mem_nil, or_false, not_or]; exact ⟨Nat.ne_of_lt (Nat.lt_succ_self _), Nat.ne_of_gt lS⟩) ns hz hN hsm (items_at hit hz) (items.size - 0) 0 _ (by omega) (Nat.zero_le _)
        ⟨⟨_, Heap.get?_push_size _ rfl, rfl, rfl⟩, hl1.push _⟩ (by rw [c0]; exact setR_new_at (Heap.get?_push_of_some _ g0)) ?_
      intro s3 hm hS
      obtain ⟨h3, ge, dr, tk, os⟩ := s3
      obtain rfl : ge = s.gens := hm.gens
      obtain rfl : dr = s.drawn := hm.drawn
      obtain rfl : os = s.os := hm.os
      show wpAny _ _ _ _ _ _; refine wpAny_pure ?_
      show wpAny _ _ (ret Value.none) _ _ _; refine wpAny_pure ⟨rfl, h3, tk, _, rfl, hS, fun b o e => ?_⟩
      have b0 : b < s.heap.objs.size := Heap.lt_size e
      exact hm.heap b o (by rw [z1]; simp only [List.mem_cons, List.not_mem_nil, or_false, not_or]; exact ⟨Nat.ne_of_lt b0, Nat.ne_of_lt (Nat.lt_succ_of_lt b0)⟩) (Heap.get?_push_of_some _ (Heap.get?_push_of_some _ e))
    · match r2, hr2 with
      | .error e, hr2 => exact hr2
      | .ok .next, hr2 => exact hr2.elim
      | .ok .brk, hr2 => exact hr2.elim
      | .ok .cont, hr2 => exact hr2.elim
      | .ok (.ret v), hr2 =>
        obtain ⟨rfl, hp, tk, c, rfl, hS, hk⟩ := hr2
        repeat (any_goals (first | assumption | wp_step))
        exact h _ _ _ hS hk
end
section
variable {X : Cx}
def rSetF (K : PySem.W.Frag) (w : World) : List V → Hp → VK → Prop := fun vs H Q => ∃ (a : Addr) (ks : List Nat) (N : Nat), vs = [V.ref a] ∧ SqL K H a (vm ks) ∧ N ≤ 1000 ∧ (∀ k ∈ ks, k < N) ∧ ∀ (p : Addr) (c : Nat), H p = none → Q (.ref p) (upd H p (SetO w p (fun j => decide (j ∈ ks.map fun (m : Nat) => (m : Int))) c))
theorem cr_setF (hc : X.calm = true) : CallR X (.type "set") (rSetF X.K X.w) := by
  intro pins s σ H vs us Q I r h
  obtain ⟨a, ks, N, rfl, hs, hN, hk, q⟩ := h
  rw [vm_ints] at hs
  obtain ⟨its, rv, hl, hz⟩ := I.list hs
  rw [Vals.ref1 r]
  refine set_small (N := N) (ks.map fun (m : Nat) => (m : Int)) (I.ok.hd hc) hl.isList (by simpa using rv.ints) hN (fun k h => ?_) fun hp tk c hS hkp => ?_
  · obtain ⟨m, hm, rfl⟩ := List.mem_map.mp h
    exact ⟨m, rfl, hk m hm⟩
  · exact ⟨.ref _, _, I.laid (t' := tk) hkp (Nat.le_refl _) (setO_new hS), rfl, q _ c (I.hok.fresh (Nat.le_refl _))⟩
end
end XT
/-! the masks that are found by going on -/
namespace XT
open PySem PySem.Spec PyProof.Rows L2
theorem span_cl {k : Nat → Bool} : ∀ {ms : List Nat} {s : Nat → Bool}, (∀ d ∈ ms, ∀ z, k z = true → k (z ^^^ d) = true) → (∀ x, s x = true → k x = true) → ∀ x, ms.foldl spS s x = true → k x = true
  | [], s, _, h, x, hx => h x hx
  | m :: ms, s, hc, h, x, hx => by
    refine span_cl (fun d hd => hc d (List.mem_cons_of_mem _ hd)) (fun y hy => ?_) x hx
    unfold spS at hy
    rcases Bool.or_eq_true_iff.mp hy with h1 | h1
    · exact h y h1
    · have := hc m List.mem_cons_self _ (h _ h1)
      rwa [xor_back] at this
/-- one turn: what is reached from q by two masks of p -/
def stB (n : Nat) (p q : Nat → Bool) (m : Nat) : Bool := q m || (lotOf n p).any fun y => q (y ^^^ hd n p ^^^ m)
theorem st_fl {n : Nat} {p q : Nat → Bool} (hne : lotOf n p ≠ []) (hq : ∀ x, x < 2 ^ n → q x = true → flB n p x = true) {m : Nat} (hm : m < 2 ^ n) (h : stB n p q m = true) : flB n p m = true := by
  unfold stB at h
  rcases Bool.or_eq_true_iff.mp h with h | h
  · exact hq m hm h
  · obtain ⟨y, hy, hq2⟩ := List.any_eq_true.mp h
    have hy := mem_lot.mp hy
    have hh := hd_mem hne
    have h3 := fl_flat (n := n) (p := p) (y ^^^ hd n p ^^^ m) y (hd n p) (xor_lt (xor_lt hy.1 hh.1) hm) hy.1 hh.1 (hq _ (xor_lt (xor_lt hy.1 hh.1) hm) hq2) (fl_has hy.1 hy.2) (fl_has hh.1 hh.2)
    have e : y ^^^ hd n p ^^^ m ^^^ y ^^^ hd n p = m := by
      rw [Nat.xor_assoc (y ^^^ hd n p ^^^ m) y, Nat.xor_comm (y ^^^ hd n p) m, xor_back]
    rwa [e] at h3
theorem st_end {n : Nat} {p q : Nat → Bool} (hne : lotOf n p ≠ []) (hp : ∀ x, x < 2 ^ n → p x = true → q x = true) (hq : ∀ x, x < 2 ^ n → q x = true → flB n p x = true) (hs : ∀ m, m < 2 ^ n → stB n p q m = true → q m = true) {m : Nat} (hm : m < 2 ^ n) : q m = flB n p m := by
  have hd := hd_mem hne
  rw [Bool.eq_iff_iff]
  refine ⟨hq m hm, fun h => ?_⟩
  unfold flB span at h
  have := span_cl (k := fun z => decide (z < 2 ^ n) && q (XT.hd n p ^^^ z)) (fun d hdm z hz => ?_) (fun x hx => ?_) _ h
  · have := (Bool.and_eq_true_iff.mp this).2
    rwa [xb] at this
  · obtain ⟨y, hy, rfl⟩ := List.mem_map.mp hdm
    have hy2 := mem_lot.mp hy
    obtain ⟨z1, z2⟩ := Bool.and_eq_true_iff.mp hz
    have z1 := of_decide_eq_true z1
    have lt : z ^^^ (XT.hd n p ^^^ y) < 2 ^ n := xor_lt z1 (xor_lt hd.1 hy2.1)
    refine Bool.and_eq_true_iff.mpr ⟨decide_eq_true lt, hs _ (xor_lt hd.1 lt) ?_⟩
    unfold stB
    refine Bool.or_eq_true_iff.mpr (.inr (List.any_eq_true.mpr ⟨y, hy, ?_⟩))
    have e : y ^^^ XT.hd n p ^^^ (XT.hd n p ^^^ (z ^^^ (XT.hd n p ^^^ y))) = XT.hd n p ^^^ z := by
      rw [Nat.xor_assoc, xb, Nat.xor_comm (XT.hd n p) y, ← Nat.xor_assoc z, Nat.xor_comm z y, Nat.xor_assoc y, xb, Nat.xor_comm]
    rw [e]
    exact z2
  · unfold zeroB at hx
    have hx := of_decide_eq_true hx
    subst hx
    refine Bool.and_eq_true_iff.mpr ⟨decide_eq_true (pow0 n), ?_⟩
    rw [Nat.xor_zero]
    exact hp _ hd.1 hd.2
section
variable {P : Program} {w : World} {K : PySem.W.Frag} {mg : Str → Option Value} {base : Heap}
abbrev nOo : List Str := ["_law_masks", "_law_found", "_law_many", "_law_more", "_law_one", "_law_mask"]
theorem scOo : FnScope nOo ["_law_masks"] (defScope sLOddOnes) := ⟨rfl, rfl, rfl, by decide +kernel, rfl, by decide +kernel, by decide +kernel⟩
def spOo : Sp := fun vs H Q _ => ∃ (v : V) (n : Nat) (p : Nat → Bool), vs = [v] ∧ TupAt H v (lotOf n p) ∧ n ≤ 6 ∧ lotOf n p ≠ [] ∧ ∀ H' r, Same H H' → TupAt H' r (lotOf n (flB n p)) → Q r H'
theorem ok_oo {f : Addr} {fd : FuncData} {k : Nat} (B : Bl mg) (mL : mg "list" = none) (F : Fun K "_law_odd_ones" "_law_odd_ones" sLOddOnes f fd) : FnOk P w K mg base CX0 (k + 1) f fd ["_law_masks"] spOo := by
  refine F.ok scOo (fun vs H Q E h => ?_) (fun cdv A outer s H vs Q E hr h => ?_)
  · obtain ⟨v, n, p, rfl, _⟩ := h
    rfl
  · obtain ⟨v, n, p, rfl, ⟨y0, rfl, hy⟩, hn, hne, q⟩ := h
    refine ⟨_, pss_cons (ps_par (i := 1) (j := 2) (by rfl) scOo.nd rfl rfl (by decide) rfl rfl (pa_cons (pe_callTy call_list_of (by rfl) mL bList (pa_cons (pv 0) pa_nil)) (pa_cons pe_int pa_nil)) (by rfl))
      (pss_cons (ps_while PassesOwn.never (pt_cmpR op_gt (pe_callB call_len_seq (by rfl) B.len PySem.boot_len (pa_cons (pv 1) pa_nil)) (pv 2) (nomark _))
        (pss_cons (ps_par (i := 2) (j := 3) (by rfl) scOo.nd rfl rfl (by decide) rfl rfl (pa_cons (pe_callB call_len_seq (by rfl) B.len PySem.boot_len (pa_cons (pv 1) pa_nil)) (pa_cons (pe_callTy call_list_of (by rfl) mL bList (pa_cons (pv 1) pa_nil)) pa_nil)) (by rfl))
        (pss_cons (ps_for PassesOwn.never rfl (pi_tup (pv 0)) (pg_name (i := 4) scOo.nd rfl (by first | exact Or.inl rfl | exact Or.inr rfl))
          (pss_one (ps_set (i := 3) scOo.nd rfl (by first | exact Or.inl rfl | exact Or.inr rfl) (pe_op op_cat (pv 3)
            (pe_lc (own := [("_law_mask", 5)]) (g := gName 5) (tt := tYes) (te := tOp rXor (tOp rXor (tVar 4) (tOp (rIxT K) (tVar 0) (tC (.int 0)))) (tVar 5)) rfl scOo.nd (pi_list (pv 1)) (blkOk_by (own := [("_law_mask", 5)]) (N := nOo) (sc := defScope sLOddOnes) (by decide +kernel))
              (fun _ _ _ _ _ => pg_name (i := 5) scOo.nd rfl (Or.inl rfl)) (fun _ _ _ _ _ => pts_nil) (fun _ _ _ _ _ => pe_op op_xor (pe_op op_xor (pv 4) (pe_ix ix_tup (pv 0) pe_int (fun _ _ => rfl))) (pv 5)))))))
        (pss_one (ps_set (i := 1) scOo.nd rfl (by first | exact Or.inl rfl | exact Or.inr rfl) (pe_callB (cr_sortS rfl) (by rfl) B.sorted bS (pa_cons (pe_callTy (cr_setF rfl) (by rfl) B.set bSet (pa_cons (pv 3) pa_nil)) pa_nil)))))))
      (pss_one (ps_ret (pe_callTy call_tuple_of (by rfl) B.tuple bT (pa_cons (pv 1) pa_nil))))), ?_⟩
    have h6 := pow6 hn
    obtain ⟨hd1, hd2⟩ := hd_mem hne
    obtain ⟨a, ea⟩ : ∃ a, hd n p = a := ⟨_, rfl⟩
    have hat : (vm (lotOf n p))[0]? = some (.int (a : Int)) := by
      rw [← ea]
      unfold hd vm
      cases e : lotOf n p with
      | nil => exact absurd e hne
      | cons z l => rfl
    have hlen : 0 < (lotOf n p).length := List.length_pos_iff.mpr hne
    have ll := lot_len hn p
    rw [ea] at hd1 hd2
    refine ⟨.ref y0, rfl, y0, _, rfl, .inr (SqT.of hy), fun L0 nL0 => ⟨_, _, rfl, ?_⟩⟩
    have s0 := same_new (o := .lst (vm (lotOf n p))) nL0
    refine ⟨fun m σ H1 => Same H H1 ∧ ∃ (F : Addr) (r : Nat → Bool) (many : Nat) (z3 z4 : Option V), σ = [some (.ref y0), some (.ref F), some (.int (many : Int)), z3, z4, none] ∧ H1 F = some (.lst (vm (lotOf n r))) ∧ many ≤ 64 ∧ m = 64 - many ∧ (∀ x, x < 2 ^ n → p x = true → r x = true) ∧ (∀ x, x < 2 ^ n → r x = true → flB n p x = true) ∧ (many = 0 ∨ ∃ o : Nat → Bool, many = (lotOf n o).length ∧ (∀ x, x < 2 ^ n → o x = true → r x = true) ∧ ∀ x, x < 2 ^ n → r x = stB n p o x), ⟨64, s0, L0, p, 0, none, none, rfl, upd_same, by decide, rfl, fun _ _ h => h, fun x hx h => fl_has hx h, .inl rfl⟩, ?_⟩
    rintro m σ H1 ⟨s1, F, r, many, z3, z4, rfl, hF, hm64, hm, hpr, hrf, hor⟩
    have lr := lot_len hn r
    have lpr : (lotOf n p).length ≤ (lotOf n r).length := lot_mono hpr
    refine ⟨.ref F, rfl, F, _, rfl, .inl (SqL.of hF), .int (many : Int), rfl, _, _, rfl, rfl, _, rfl, ite2 (fun e => ?_) (fun e => ?_)⟩
    · have e : many < (lotOf n r).length := by
        have := of_decide_eq_true e
        rw [vm_len] at this
        omega
      refine ⟨fun σ' H' => Same H H' ∧ ∃ (F : Addr) (r' : Nat → Bool) (z3 z4 : Option V), σ' = [some (.ref y0), some (.ref F), some (.int ((lotOf n r).length : Int)), z3, z4, none] ∧ H' F = some (.lst (vm (lotOf n r'))) ∧ (∀ x, x < 2 ^ n → r' x = stB n p r x), ?_, ?_⟩
      · rintro σ' H' ⟨s', F', r', w3, w4, rfl, hF', hr'⟩
        refine ⟨64 - (lotOf n r).length, by omega, s', F', r', (lotOf n r).length, w3, w4, rfl, hF', lr, rfl, fun x hx h => ?_, fun x hx h => ?_, .inr ⟨r, rfl, fun x hx h => ?_, hr'⟩⟩
        · rw [hr' x hx]
          unfold stB
          rw [hpr x hx h]
          rfl
        · rw [hr' x hx] at h
          exact st_fl hne hrf hx h
        · rw [hr' x hx]
          unfold stB
          rw [h]
          rfl
      · refine ⟨.ref F, rfl, F, _, rfl, .inl (SqL.of hF), .ref F, rfl, F, _, rfl, .inl (SqL.of hF), fun M nM => ⟨_, _, rfl, ?_⟩⟩
        have sM := same_new (o := .lst (vm (lotOf n r))) nM
        have elen : ((vm (lotOf n r)).length : Int) = ((lotOf n r).length : Int) := by rw [vm_len]
        rw [elen]
        have s1M := s1.trans sM
        refine ⟨.ref y0, rfl, y0, rfl, ⟨_, SqT.of (s1M _ _ hy)⟩, for_tup (K := K) (xs := vm (lotOf n p)) (fun i σ H' => Same (upd H1 M (.lst (vm (lotOf n r)))) H' ∧ ∃ (R : Addr) (ks : List Nat) (z4 : Option V), σ = [some (.ref y0), some (.ref F), some (.int ((lotOf n r).length : Int)), some (.ref R), z4, none] ∧ H' R = some (.lst (vm ks)) ∧ ks.length ≤ 64 * (i + 1) ∧ ∀ m, m ∈ ks ↔ m < 2 ^ n ∧ (r m = true ∨ ∃ j y, j < i ∧ (lotOf n p)[j]? = some y ∧ r (y ^^^ a ^^^ m) = true)) ⟨Same.refl _, M, lotOf n r, z4, rfl, upd_same, by omega, fun m => by rw [mem_lot]; exact ⟨fun ⟨a, b⟩ => ⟨a, .inl b⟩, fun ⟨a, b⟩ => ⟨a, b.elim id fun ⟨j, y, z, _⟩ => absurd z (Nat.not_lt_zero _)⟩⟩⟩ (fun i σ H' _ h => SqT.of (h.1 _ _ (s1M _ _ hy))) (fun i x σ H2 hx2 h => ?_) (fun σ H2 h => ?_)⟩
        · obtain ⟨s2, R, ks, w4, rfl, hR, hkl, hks⟩ := h
          obtain ⟨y, hy2, rfl⟩ := mem_vm hx2
          have hyl := mem_lot.mp (List.mem_of_getElem? hy2)
          have hi : i < (lotOf n p).length := (List.getElem?_eq_some_iff.mp hy2).1
          have hF2 := s2 _ _ (sM _ _ hF)
          have hyy := s2 _ _ (s1M _ _ hy)
          refine ⟨.ref R, rfl, .ref F, rfl, F, rfl, ⟨_, SqL.of hF2⟩, fun C nC => lcp_list (p := fun _ => true) (f := fun v => match v with | .int j => .int (Builtin.bitXor (Builtin.bitXor (y : Int) (a : Int)) j) | v => v) nC (SqL.of hF2) (small64 (by rw [vm_len]; omega)) (fun j z H4 hz s4 => ?_) (fun H4 s4 hC => ?_)⟩
          · intro R1 R2 h1' h2'
            obtain ⟨b, hb, rfl⟩ := mem_vm hz
            exact ⟨rfl, iteT (B := R1 H4) ⟨_, rfl, .ref y0, rfl, y0, _, 0, .int (a : Int), rfl, rfl, SqT.of (s4 _ _ hyy), atI_nat (j := 0) hat, (y : Int), (a : Int), rfl, rfl, .int (b : Int), rfl, _, (b : Int), rfl, rfl, h2' rfl _ (Same.refl _)⟩⟩
          · have eC : (((vm (lotOf n r)).filter fun _ => true).map fun v => match v with | .int j => V.int (Builtin.bitXor (Builtin.bitXor (y : Int) (a : Int)) j) | v => v) = vm ((lotOf n r).map fun x => y ^^^ a ^^^ x) := by
              rw [List.filter_eq_self.mpr (fun _ _ => rfl)]
              unfold vm
              rw [List.map_map, List.map_map]
              refine List.map_congr_left fun b _ => ?_
              show V.int (Builtin.bitXor (Builtin.bitXor (y : Int) (a : Int)) (b : Int)) = V.int ((y ^^^ a ^^^ b : Nat) : Int)
              rw [bx, bx]
            rw [eC] at hC
            refine ⟨R, C, _, _, rfl, rfl, s4 _ _ hR, hC, by simp only [vm_len, List.length_map]; exact szl (by omega), fun T nT => ?_⟩
            have sT := same_new (o := .lst (vm ks ++ vm ((lotOf n r).map fun x => y ^^^ a ^^^ x))) nT
            refine ⟨s2.trans (s4.trans sT), T, ks ++ (lotOf n r).map (fun x => y ^^^ a ^^^ x), _, rfl, by rw [upd_same]; unfold vm; rw [List.map_append], by rw [List.length_append, List.length_map]; omega, fun m => ?_⟩
            rw [List.mem_append, hks, List.mem_map]
            constructor
            · rintro (⟨h1, h2⟩ | ⟨x, hx, rfl⟩)
              · refine ⟨h1, h2.imp id fun ⟨j, y', hj, h3, h4⟩ => ⟨j, y', by omega, h3, h4⟩⟩
              · have hx := mem_lot.mp hx
                refine ⟨xor_lt (xor_lt hyl.1 hd1) hx.1, .inr ⟨i, y, by omega, hy2, ?_⟩⟩
                rw [xb]
                exact hx.2
            · rintro ⟨h1, h2⟩
              rcases h2 with h2 | ⟨j, y', hj, h3, h4⟩
              · exact .inl ⟨h1, .inl h2⟩
              · by_cases ej : j = i
                · subst ej
                  cases hy2.symm.trans h3
                  exact .inr ⟨y ^^^ a ^^^ m, mem_lot.mpr ⟨xor_lt (xor_lt hyl.1 hd1) h1, h4⟩, xb _ _⟩
                · exact .inl ⟨h1, .inr ⟨j, y', by omega, h3, h4⟩⟩
        · obtain ⟨s2, R, ks, w4, rfl, hR, hkl, hks⟩ := h
          refine ⟨.ref R, rfl, R, ks, 64, rfl, SqL.of hR, by decide, fun k hk => Nat.lt_of_lt_of_le ((hks k).mp hk).1 h6, fun S1 c nS1 => ⟨S1, _, _, rfl, upd_same, fun ns L2 asc hmm nL2 => ?_⟩⟩
          have sS := same_new (o := SetO w S1 (fun j => decide (j ∈ ks.map fun (m : Nat) => (m : Int))) c) nS1
          have sL2 := same_new (o := .lst (ns.map V.int)) nL2
          have es := sort_set (n := n) asc (fun k hk => ((hks k).mp hk).1) hmm
          refine ⟨((s1M.trans s2).trans sS).trans sL2, L2, fun m => decide (m ∈ ks), _, _, rfl, by rw [upd_same, es], fun x hx => ?_⟩
          rw [Bool.eq_iff_iff, decide_eq_true_iff, hks]
          unfold stB
          rw [Bool.or_eq_true_iff, List.any_eq_true, ea]
          constructor
          · rintro ⟨h1, h2⟩
            exact h2.imp id fun ⟨j, y, hj, h3, h4⟩ => ⟨y, List.mem_of_getElem? h3, h4⟩
          · intro h2
            refine ⟨hx, h2.imp id fun ⟨y, h3, h4⟩ => ?_⟩
            obtain ⟨j, hj⟩ := List.mem_iff_getElem?.mp h3
            have := (List.getElem?_eq_some_iff.mp hj).1
            exact ⟨j, y, by rw [vm_len]; exact this, hj, h4⟩
    · have e : (lotOf n r).length ≤ many := by
        rw [vm_len] at e
        have : ¬ ((many : Int) < ((lotOf n r).length : Int)) := fun z => e (decide_eq_true z)
        omega
      refine ⟨.ref F, rfl, F, _, rfl, .inl ⟨SqL.of hF, fun T nT => ?_⟩⟩
      refine q _ _ (s1.trans (same_new nT)) ⟨T, rfl, ?_⟩
      rw [upd_same]
      rcases hor with h0 | ⟨o, ho, hor, hst⟩
      · omega
      · have heq : ∀ x, x < 2 ^ n → r x = true → o x = true := fun x hx h => lot_len_eq hor (by have := lot_mono hor; omega) hx h
        have hro : ∀ x, x < 2 ^ n → r x = o x := fun x hx => by rw [Bool.eq_iff_iff]; exact ⟨heq x hx, hor x hx⟩
        rw [lot_congr fun m hm => st_end hne hpr hrf (fun m hm h => by
          rw [hst m hm]
          unfold stB at h ⊢
          rw [hro m hm] at h
          refine (Bool.or_eq_true_iff.mp h).elim (fun z => by rw [z]; rfl) fun z => ?_
          obtain ⟨y, hy, hz⟩ := List.any_eq_true.mp z
          have hyl := mem_lot.mp hy
          have hd := hd_mem hne
          rw [hro _ (xor_lt (xor_lt hyl.1 hd.1) hm)] at hz
          exact Bool.or_eq_true_iff.mpr (.inr (List.any_eq_true.mpr ⟨y, hy, hz⟩))) hm]
end
end XT
namespace XT
open PySem PySem.Spec PyProof.Rows L2

theorem scSt : FnScope ["_law_script", "_law_cells", "_law_cell"] ["_law_script"] (defScope sStream) := ⟨rfl, rfl, rfl, by decide +kernel, rfl, by decide +kernel, by decide +kernel⟩
section
variable {P : Program} {w : World} {K : PySem.W.Frag} {mg : Str → Option Value} {base : Heap}
theorem ok_stream {f : Addr} {fd : FuncData} {k : Nat} (F : Fun K "_law_stream" "_law_stream" sStream f fd) (ml : mg "len" = none) (ma : mg "abs" = none) : FnOk P w K mg base CX0 (k + 1) f fd ["_law_script"] (spStream K) := by
  refine F.ok scSt (fun vs H Q E h => ?_) (fun cdv A outer s H vs Q E hr h => ?_)
  · obtain ⟨a, ns, rfl, _⟩ := h
    rfl
  · obtain ⟨a, ns, rfl, hA, hlen, q⟩ := h
    refine ⟨_, pss_cons (ps_setLc (i := 1) (own := [("_law_cell", 2)]) (g := gName 2) (tt := tYes) rfl scSt.nd rfl rfl (sw_true rfl rfl rfl (by decide +kernel)) (pi_list (pv 0)) (blkOk_by (own := [("_law_cell", 2)]) (N := ["_law_script", "_law_cells", "_law_cell"]) (sc := defScope sStream) (by decide +kernel))
          (fun _ _ _ _ _ => pg_name (i := 2) scSt.nd rfl (Or.inl rfl)) (fun _ _ _ _ _ => pts_nil) (fun _ _ _ _ _ => pe_callB call_abs (by rfl) ma (by decide +kernel) (pa_cons (pv 2) pa_nil)))
        (pss_one (ps_ret (pe_lst (pa_cons
          (pe_lc (own := [("_law_cell", 2)]) (g := gName 2) rfl scSt.nd (pi_list (pv 1)) (blkOk_by (own := [("_law_cell", 2)]) (N := ["_law_script", "_law_cells", "_law_cell"]) (sc := defScope sStream) (by decide +kernel))
            (fun _ _ _ _ _ => pg_name (i := 2) scSt.nd rfl (Or.inl rfl)) (fun _ _ _ _ _ => pts_one (pt_cmpR op_ge (pv 2) (pe_op op_pow pe_int pe_int) (nomark _))) (fun _ _ _ _ _ => pv 2))
          (pa_cons (pe_op op_cat (pv 1) (pe_lst (pa_cons (pe_op op_add (pe_callB call_len_seq (by rfl) ml PySem.boot_len (pa_cons (pv 1) pa_nil)) pe_int) pa_nil)))
          (pa_cons pe_int pa_nil)))))), ?_⟩
    have hml : (ns.map V.int).length ≤ 63 := by rw [List.length_map]; exact hlen
    refine ⟨.ref a, rfl, a, rfl, ⟨_, hA⟩, fun D nD => lcp_list (p := fun _ => true) (f := fun v => match v with | .int i => .int (ab i) | v => v) nD hA (small64 (by omega)) (fun i x H3 hx sm => ?_) (fun H3 sm hD => ?_)⟩
    · intro R1 R2 h1 h2
      rw [List.getElem?_map] at hx
      obtain ⟨n, -, rfl⟩ := Option.map_eq_some_iff.mp hx
      exact ⟨rfl, iteT (B := R1 H3) ⟨_, rfl, n, rfl, h2 rfl _ (Same.refl _)⟩⟩
    · -- cells
      obtain ⟨cs, hcs, hcl⟩ : ∃ cs : List Int, (((ns.map V.int).filter fun _ => true).map fun v => match v with | .int i => V.int (ab i) | v => v) = cs.map V.int ∧ cs.length = ns.length := by
        refine ⟨ns.map ab, ?_, List.length_map _⟩
        rw [List.filter_eq_self.mpr (fun _ _ => rfl), List.map_map, List.map_map]
        rfl
      rw [hcs] at hD
      have hDl : (cs.map V.int).length ≤ 63 := by rw [List.length_map]; omega
      refine ⟨.ref D, rfl, D, rfl, ⟨_, SqL.of hD⟩, fun B nB => lcp_list (p := fun v => match v with | .int i => decide (10 ^ 18 ≤ i) | _ => false) (f := id) nB (SqL.of hD) (small64 (by omega)) (fun i x H4 hx sm4 => ?_) (fun H4 sm4 hB => ?_)⟩
      · intro R1 R2 h1 h2
        rw [List.getElem?_map] at hx
        obtain ⟨n, -, rfl⟩ := Option.map_eq_some_iff.mp hx
        refine ⟨rfl, _, rfl, 10, 18, rfl, rfl, ⟨by decide, by decide, by decide⟩, n, _, rfl, rfl, _, rfl, ite2 (fun e => ?_) (fun e => ?_)⟩
        · exact ⟨_, rfl, h2 e _ (Same.refl _)⟩
        · exact h1 (by simpa using e) _ (Same.refl _)
      · have hD4 := sm4 _ _ hD
        obtain ⟨big, hbig⟩ : ∃ big : List Int, (((cs.map V.int).filter fun v => match v with | .int i => decide (10 ^ 18 ≤ i) | _ => false).map id) = big.map V.int := by
          refine ⟨cs.filter fun i => decide (10 ^ 18 ≤ i), ?_⟩
          rw [List.map_id, List.filter_map]
          rfl
        rw [hbig] at hB
        refine ⟨.ref D, rfl, .ref D, rfl, D, _, rfl, .inl (SqL.of hD4), _, _, rfl, rfl, sz (n := 1) (by decide), fun L nL => ?_⟩
        have s5 : Same H4 (upd H4 L (.lst [.int (((cs.map V.int).length : Nat) + 37)])) := same_new nL
        refine ⟨D, L, _, _, rfl, rfl, s5 _ _ hD4, upd_same, ?_, fun C nC => ?_⟩
        · rw [sizeLine_eq]; simp only [List.length_map, List.length_cons, List.length_nil]; omega
        · have s6 := same_new (o := .lst (cs.map V.int ++ [.int (((cs.map V.int).length : Nat) + 37)])) nC
          refine ⟨sz (n := 3) (by decide), fun G nG => ?_⟩
          have s7 := same_new (o := .lst [V.ref B, .ref C, .int 0]) nG
          have hBC : B ≠ C := ne_of_none (s5 _ _ hB) nC
          refine q _ ⟨G, B, C, cs ++ [(((cs.map V.int).length : Nat) : Int) + 37]⟩ (((sm.trans sm4).trans (s5.trans s6)).trans s7) ⟨big, upd_same, s7 _ _ (s6 _ _ (s5 _ _ hB)), s7 _ _ ?_, ?_, ?_, hBC, ?_, Int.le_refl _⟩
          · rw [upd_same, List.map_append]; rfl
          · exact (ne_of_none (s6 _ _ (s5 _ _ hB)) nG).symm
          · exact (ne_of_none (show (upd _ C _) C = some _ from upd_same) nG).symm
          · show 0 < (cs ++ _).length
            rw [List.length_append]; exact Nat.succ_pos _
end
end XT
namespace XT
open PySem PySem.Spec PyProof.Rows L2
abbrev nDn : List Str := ["_law_stream_here", "_law_most", "_law_width", "_law_way", "_law_count", "_law_masks", "_law_k", "_law_turn", "_law_out", "_law_mask"]
theorem scDn : FnScope nDn ["_law_stream_here", "_law_most"] (defScope sDrawn) := ⟨rfl, rfl, rfl, by decide +kernel, rfl, by decide +kernel, by decide +kernel⟩
section
variable {P : Program} {w : World} {K : PySem.W.Frag} {mg : Str → Option Value} {base : Heap}
def spDrawn : Sp := fun vs H Q _ => ∃ (S : Sm) (t : Int) (most : Nat), vs = [.ref S.s, .int (most : Int)] ∧ Strm S H t ∧ 1 ≤ most ∧ most ≤ 6 ∧ t < 10000000 ∧
  ∀ (H' : Hp) (r : V) (n : Nat) (p : Nat → Bool) (t' : Int), Step S H t H' t' 300 → 1 ≤ n → n ≤ most → LotAt H' r n p → Q r H'
/-- the masks so far -/
def MidD (S : Sm) (H : Hp) (t : Int) (most n way B : Nat) (σ : L2.St) (H' : Hp) : Prop := ∃ (M : Addr) (ks : List Nat) (t' : Int) (y6 y7 y8 : Option V),
  σ = [some (.ref S.s), some (.int (most : Int)), some (.int (n : Int)), some (.int (way : Int)), some (.int ((2 ^ n : Nat) : Int)), some (.ref M), y6, y7, y8, none] ∧
  Step S H t H' t' B ∧ H' M = some (.lst (vm ks)) ∧ M ≠ S.s ∧ M ≠ S.p ∧ (∀ k ∈ ks, k < 2 ^ n) ∧ ks.length ≤ 64
theorem fresh_s {S : Sm} {H : Hp} {t : Int} {x : Addr} (h : Strm S H t) (n : H x = none) : x ≠ S.s ∧ x ≠ S.p := by
  obtain ⟨_, h⟩ := h
  exact ⟨fun e => (by rw [e, h.hs] at n; cases n), fun e => (by rw [e, h.hp] at n; cases n)⟩
abbrev tDr (m : TE) : TE := fun σ H Q => tCons (tVar 0) (tCons m tNil) σ H fun vs H1 => spDrawN vs H1 Q E0
theorem or_eq {σ : L2.St} {H : Hp} {i : Nat} {x a b : Int} {Q : Bool → Hp → Prop} (hx : σ[i]? = some (some (.int x))) (h : Q (decide (x = a ∨ x = b)) H) : tOr (tTest (tOp rEq (tVar i) (tC (.int a)))) (tTest (tOp rEq (tVar i) (tC (.int b)))) σ H Q := by
  refine ⟨.int x, hx, rfl, _, rfl, ite2 (fun e => ?_) (fun e => ⟨.int x, hx, rfl, _, rfl, ?_⟩)⟩
  · have e1 : x = a := V.int.inj (of_decide_eq_true e)
    rw [decide_eq_true (Or.inl e1)] at h
    exact h
  · have e1 : x ≠ a := fun z => e (decide_eq_true (by rw [z]))
    by_cases e2 : x = b
    · rw [decide_eq_true (Or.inr e2)] at h
      rw [decide_eq_true (by rw [e2])]
      exact h
    · rw [decide_eq_false (fun z => z.elim e1 e2)] at h
      rw [decide_eq_false (fun z => e2 (V.int.inj z))]
      exact h
theorem ok_drawn {f : Addr} {fd : FuncData} {k : Nat} (B : Bl mg) (F : Fun K "_law_drawn" "_law_drawn" sDrawn f fd) (dD : DefR P w K mg base 1 "_law_draw" spDrawN) : FnOk P w K mg base CX0 (k + 2) f fd ["_law_stream_here", "_law_most"] spDrawn := by
  refine F.ok scDn (fun vs H Q E h => ?_) (fun cdv A outer s H vs Q E hr h => ?_)
  · obtain ⟨S, t, most, rfl, _⟩ := h
    rfl
  · obtain ⟨S, t, most, rfl, st, ml, mh, ht, q⟩ := h
    have hr1 : Room 1 (A.deeper (envOfC "_law_drawn" (defScope sDrawn) s.heap.objs.size f cdv)) := hr.mono (by omega)
    refine ⟨_, pss_cons (ps_asg (pe_tup (pa_cons (pe_op op_add pe_int (pe_def dD hr1 (by rfl) (pa_cons (pv 0) (pa_cons (pv 1) pa_nil)))) (pa_cons (pe_def dD hr1 (by rfl) (pa_cons (pv 0) (pa_cons pe_int pa_nil))) pa_nil)))
          (pg_tup rfl (pgs_cons (pg_name (i := 2) scDn.nd rfl (.inl rfl)) (pgs_cons (pg_name (i := 3) scDn.nd rfl (.inr rfl)) pgs_nil))))
      (C8.pss_cut (ps_asg (pe_tup (pa_cons (pe_op op_shl pe_int (pv 2)) (pa_cons (pe_lst pa_nil) pa_nil)))
          (pg_tup rfl (pgs_cons (pg_name (i := 4) scDn.nd rfl (.inr rfl)) (pgs_cons (pg_name (i := 5) scDn.nd rfl (.inl rfl)) pgs_nil))))
      (C8.pss_cut (ps_if (pt_cmpR op_eq (pv 3) pe_int (nomark _))
          (pss_one (ps_setLc (i := 5) (own := [("_law_mask", 9)]) (g := gName 9) (te := tVar 9) rfl scDn.nd rfl rfl (sw_true rfl rfl rfl (by decide +kernel)) (pi_range1 (by rfl) B.range (pa_cons (pv 4) pa_nil)) (blkOk_by (own := [("_law_mask", 9)]) (N := nDn) (sc := defScope sDrawn) (by decide +kernel))
            (fun _ _ _ _ _ => pg_name (i := 9) scDn.nd rfl (Or.inl rfl)) (fun _ _ _ _ _ => pts_one (pt_cmpR op_eq (pe_def dD hr1 (by rfl) (pa_cons (pv 0) (pa_cons pe_int pa_nil))) pe_int (nomark _))) (fun _ _ _ _ _ => pv 9))) pss_nil)
      (C8.pss_cut (ps_if (PW.pt (pw_or (pt_cmpR op_eq (pv 3) pe_int (nomark _)) (pw_or1 (pt_cmpR op_eq (pv 3) pe_int (nomark _)))))
          (pss_one (ps_setLc (i := 5) (own := [("_law_k", 6)]) (g := gName 6) (tt := tYes) rfl scDn.nd rfl rfl (sw_true rfl rfl rfl (by decide +kernel))
            (pi_range1 (by rfl) B.range (pa_cons (pe_def dD hr1 (by rfl) (pa_cons (pv 0) (pa_cons (pe_ix ix_list (pe_lst (pa_cons pe_int (pa_cons pe_int pa_nil))) (pe_op op_sub (pv 3) pe_int) (fun _ _ => rfl)) pa_nil))) pa_nil)) (blkOk_by (own := [("_law_k", 6)]) (N := nDn) (sc := defScope sDrawn) (by decide +kernel))
            (fun _ _ _ _ _ => pg_name (i := 6) scDn.nd rfl (Or.inl rfl)) (fun _ _ _ _ _ => pts_nil) (fun _ _ _ _ _ => pe_def dD hr1 (by rfl) (pa_cons (pv 0) (pa_cons (pv 4) pa_nil))))) pss_nil)
      (C8.pss_cut (ps_if (PW.pt (pw_or (pt_cmpR op_eq (pv 3) pe_int (nomark _)) (pw_or1 (pt_cmpR op_eq (pv 3) pe_int (nomark _)))))
          (pss_cons (ps_set (i := 5) scDn.nd rfl (.inl rfl) (pe_lst (pa_cons (pe_def dD hr1 (by rfl) (pa_cons (pv 0) (pa_cons (pv 4) pa_nil))) pa_nil)))
          (pss_one (ps_for PassesOwn.never rfl (pi_range1 (by rfl) B.range (pa_cons (pe_def dD hr1 (by rfl) (pa_cons (pv 0) (pa_cons pe_int pa_nil))) pa_nil)) (pg_name (i := 6) scDn.nd rfl (.inl rfl))
            (pss_cons (ps_set (i := 7) scDn.nd rfl (.inr rfl) (pe_def dD hr1 (by rfl) (pa_cons (pv 0) (pa_cons (pv 4) pa_nil))))
            (pss_one (ps_set (i := 5) scDn.nd rfl (.inl rfl) (pe_op op_cat (pv 5)
              (pe_lc (own := [("_law_mask", 9)]) (g := gName 9) rfl scDn.nd (pi_list (pv 5)) (blkOk_by (own := [("_law_mask", 9)]) (N := nDn) (sc := defScope sDrawn) (by decide +kernel))
                (fun _ _ _ _ _ => pg_name (i := 9) scDn.nd rfl (Or.inl rfl)) (fun _ _ _ _ _ => pts_one (pt_cmpR op_gt (pe_def dD hr1 (by rfl) (pa_cons (pv 0) (pa_cons pe_int pa_nil))) (pe_op op_sub pe_int (pv 3)) (nomark _)))
                (fun _ _ _ _ _ => pe_op op_xor (pv 9) (pv 7)))))))))) pss_nil)
      (C8.pss_cut (ps_if (pt_cmpR op_eq (pv 3) pe_int (nomark _))
          (pss_cons (ps_set (i := 8) scDn.nd rfl (.inr rfl)
            (pe_lc (own := [("_law_k", 6)]) (g := gName 6) (tt := tYes) rfl scDn.nd (pi_range1 (by rfl) B.range (pa_cons (pe_def dD hr1 (by rfl) (pa_cons (pv 0) (pa_cons pe_int pa_nil))) pa_nil)) (blkOk_by (own := [("_law_k", 6)]) (N := nDn) (sc := defScope sDrawn) (by decide +kernel))
              (fun _ _ _ _ _ => pg_name (i := 6) scDn.nd rfl (Or.inl rfl)) (fun _ _ _ _ _ => pts_nil) (fun _ _ _ _ _ => pe_def dD hr1 (by rfl) (pa_cons (pv 0) (pa_cons (pv 4) pa_nil)))))
          (pss_one (ps_setLc (i := 5) (own := [("_law_mask", 9)]) (g := gName 9) (tt := tTest (tOp (rIn K true) (tVar 9) (tVar 8))) (te := tVar 9) rfl scDn.nd rfl rfl (sw_true rfl rfl rfl (by decide +kernel)) (pi_range1 (by rfl) B.range (pa_cons (pv 4) pa_nil)) (blkOk_by (own := [("_law_mask", 9)]) (N := nDn) (sc := defScope sDrawn) (by decide +kernel))
            (fun _ _ _ _ _ => pg_name (i := 9) scDn.nd rfl (Or.inl rfl)) (fun _ _ _ _ _ => pts_one (pt_cmpR op_notIn_seq (pv 9) (pv 8) (by rfl))) (fun _ _ _ _ _ => pv 9)))) pss_nil)
      (pss_one (ps_ret (pe_tup (pa_cons (pv 2) (pa_cons (pe_callTy call_tuple_of (by rfl) B.tuple bT (pa_cons (pe_callB (cr_sortS rfl) (by rfl) B.sorted bS (pa_cons (pe_callTy (cr_setL rfl) (by rfl) B.set bSet (pa_cons (pv 5) pa_nil)) pa_nil)) pa_nil)) pa_nil)))))))))), ?_⟩
    -- width, way
    refine ⟨.ref S.s, rfl, .int most, rfl, S, t, most, rfl, st, by omega, by omega, by omega, fun H1 r1 t1 s1 hr1 => ?_⟩
    refine ⟨1, r1, rfl, rfl, .ref S.s, rfl, S, t1, 6, rfl, s1.st, by omega, by omega, by have := s1.hi; omega, fun H2 way t2 s2 hway => ?_⟩
    refine ⟨sz (n := 2) (by decide), fun T nT => ⟨T, _, rfl, SqT.of upd_same, rfl, _, _, rfl, _, _, rfl, rfl, ?_⟩⟩
    have s3 := (s1.trans s2).same (same_new (o := .tup [.int (1 + (r1 : Int)), .int (way : Int)]) nT)
    obtain ⟨n, hn⟩ : ∃ n : Nat, n = 1 + r1 := ⟨_, rfl⟩
    have hn1 : 1 ≤ n := by omega
    have hn6 : n ≤ most := by omega
    -- count, masks
    refine ⟨MidD S H t most n way 10, ?_, fun σ0 H0 mid0 => ?_⟩
    · refine ⟨.int (1 + (r1 : Int)), rfl, 1, (n : Int), rfl, by rw [hn]; rfl, cpow (by omega), sz (n := 0) (by decide), fun M nM => ⟨sz (n := 2) (by decide), fun T2 nT2 => ⟨T2, _, rfl, SqT.of upd_same, rfl, _, _, rfl, _, _, rfl, rfl, ?_⟩⟩⟩
      have fs := fresh_s s3.st nM
      have s4 := s3.same (same_new (o := .lst []) nM)
      refine ⟨M, [], t2, none, none, none, ?_, (s4.same (same_new nT2)).mono (by omega), ?_, fs.1, fs.2, by simp, by simp⟩
      · rw [← shl1 n, hn]
        rfl
      · rw [upd_ne (ne_of_none upd_same nT2)]
        exact upd_same
    -- if way == 0
    refine ⟨MidD S H t most n way 80, ?_, fun σ1 H1 mid1 => ?_⟩
    · obtain ⟨M, ks, t', y6, y7, y8, rfl, stp, hM, as, ap, hk, hl⟩ := mid0
      refine ⟨.int way, rfl, rfl, _, rfl, ite2 (fun e => ?_) (fun e => ?_)⟩
      · refine ⟨.int ((2 ^ n : Nat) : Int), rfl, ((2 ^ n : Nat) : Int), rfl, l62, r62 (by omega), fun D nD => ?_⟩
        have p6 := pow6 (w := n) (by omega)
        have hi0 := stp.hi
        refine lcs_range (S := S) (c := 2 ^ n) (d := 1) (n := 2 ^ n) stp.st nD (by omega) (fun i H3 t3 hi s3 => ?_) (fun H3 pv => ?_)
        · intro R1 R2 h1 h2
          have hi3 := s3.hi
          refine ⟨rfl, .ref S.s, rfl, S, t3, 2, rfl, s3.st, by omega, by omega, by omega, fun H4 r t4 s4 hr4 => ⟨rfl, _, rfl, ite2 (fun e => ?_) (fun e => ?_)⟩⟩
          · refine ⟨.int (0 + (i : Int)), rfl, ?_⟩
            rw [Int.zero_add]
            exact h2 i H4 t4 s4 hi
          · exact h1 H4 t4 s4
        · obtain ⟨ks2, t3, s3, hD, hk2, hl2⟩ := pv
          have fs := fresh_s stp.st nD
          exact ⟨D, ks2, t3, y6, y7, y8, rfl, (stp.trans s3).mono (by omega), hD, fs.1, fs.2, hk2, by omega⟩
      · exact ⟨M, ks, t', y6, y7, y8, rfl, stp.mono (by omega), hM, as, ap, hk, hl⟩
    -- if way == 1 or way == 2
    refine ⟨MidD S H t most n way 100, ?_, fun σ2 H2 mid2 => ?_⟩
    · obtain ⟨M, ks, t', y6, y7, y8, rfl, stp, hM, as, ap, hk, hl⟩ := mid1
      refine or_eq (x := (way : Int)) rfl (ite2 (fun e => ?_) (fun e => ?_))
      · have e1 : way = 1 ∨ way = 2 := by
          have := of_decide_eq_true e
          omega
        obtain ⟨m, hm, hm7⟩ : ∃ m : Nat, atI [V.int 3, V.int 7] ((way : Int) - 1) = some (.int (m : Int)) ∧ (m = 3 ∨ m = 7) := by
          rcases e1 with rfl | rfl
          · exact ⟨3, rfl, .inl rfl⟩
          · exact ⟨7, rfl, .inr rfl⟩
        have hi0 := stp.hi
        refine ⟨.ref S.s, rfl, sz (n := 2) (by decide), fun L nL => ⟨.int way, rfl, way, 1, rfl, rfl, L, _, (way : Int) - 1, .int (m : Int), rfl, rfl, SqL.of upd_same, hm, ?_⟩⟩
        have s0 := stp.same (same_new (o := .lst [.int 3, .int 7]) nL)
        refine ⟨S, t', m, rfl, s0.st, by omega, by omega, by omega, fun H3 r t3 s3 hr3 => ?_⟩
        have hi3 := s3.hi
        refine ⟨r, rfl, by omega, by omega, fun D nD => ?_⟩
        have p6 := pow6 (w := n) (by omega)
        have p0 := pow0 n
        refine lcs_range (S := S) (c := 2 ^ n) (d := 1) (n := r) (g := gName 6) (tt := tYes) (te := tDr (tVar 4)) (vs := [6]) s3.st nD (by omega) (fun i H4 t4 hi s4 => ?_) (fun H4 pv => ?_)
        · intro R1 R2 h1 h2
          have hi4 := s4.hi
          refine ⟨rfl, iteT (B := R1 H4) ⟨.ref S.s, rfl, .int ((2 ^ n : Nat) : Int), rfl, S, t4, 2 ^ n, rfl, s4.st, by omega, by omega, by omega, fun H5 r5 t5 s5 hr5 => h2 r5 H5 t5 s5 hr5⟩⟩
        · obtain ⟨ks2, t4, s4, hD, hk2, hl2⟩ := pv
          have fs := fresh_s s3.st nD
          exact ⟨D, ks2, t4, y6, y7, y8, rfl, ((s0.trans s3).trans s4).mono (by omega), hD, fs.1, fs.2, hk2, by omega⟩
      · exact ⟨M, ks, t', y6, y7, y8, rfl, stp.mono (by omega), hM, as, ap, hk, hl⟩
    -- if way == 3 or way == 4
    refine ⟨MidD S H t most n way 200, ?_, fun σ3 H3 mid3 => ?_⟩
    · obtain ⟨M, ks, t', y6, y7, y8, rfl, stp, hM, as, ap, hk, hl⟩ := mid2
      refine or_eq (x := (way : Int)) rfl (ite2 (fun e => ?_) (fun e => ?_))
      · have hi0 := stp.hi
        have p6 := pow6 (w := n) (by omega)
        have p0 := pow0 n
        refine ⟨.ref S.s, rfl, .int ((2 ^ n : Nat) : Int), rfl, S, t', 2 ^ n, rfl, stp.st, by omega, by omega, by omega, fun H3 r t3 s3 hr3 => ⟨sz (n := 1) (by decide), fun L nL => ?_⟩⟩
        have fs := fresh_s s3.st nL
        have s4 := (stp.trans s3).same (same_new (o := .lst [.int (r : Int)]) nL)
        have hi4 := s4.hi
        refine ⟨.ref S.s, rfl, S, t3, 4, rfl, s4.st, by omega, by omega, by omega, fun H5 r5 t5 s5 hr5 => ⟨r5, rfl, by omega, by omega, ?_⟩⟩
        have hL5 := s5.keep L _ fs.1 fs.2 (show (upd H3 L (.lst [.int (r : Int)])) L = some (.lst (vm [r])) from upd_same)
        refine for_range (lo := 0) (n := r5) (fun i σ K0 => ∃ (M : Addr) (ks : List Nat) (t' : Int) (z6 z7 : Option V),
          σ = [some (.ref S.s), some (.int (most : Int)), some (.int (n : Int)), some (.int (way : Int)), some (.int ((2 ^ n : Nat) : Int)), some (.ref M), z6, z7, y8, none] ∧
          Step S H t K0 t' (102 + 9 * i) ∧ K0 M = some (.lst (vm ks)) ∧ M ≠ S.s ∧ M ≠ S.p ∧ (∀ k ∈ ks, k < 2 ^ n) ∧ ks.length ≤ 2 ^ i) ?_ (fun i σ K0 hi h => ?_) (fun σ K0 h => ?_)
        · exact ⟨L, [r], t5, y6, y7, rfl, (s4.trans s5).mono (by omega), hL5, fs.1, fs.2, by simpa using hr3, by simp⟩
        · obtain ⟨M, ks, t6, z6, z7, rfl, s6, hM6, as6, ap6, hk6, hl6⟩ := h
          have hi6 := s6.hi
          have pi : 2 ^ i ≤ 4 := by
            have : i = 0 ∨ i = 1 ∨ i = 2 := by omega
            rcases this with rfl | rfl | rfl <;> decide
          refine ⟨.ref S.s, rfl, .int ((2 ^ n : Nat) : Int), rfl, S, t6, 2 ^ n, rfl, s6.st, by omega, by omega, by omega, fun H7 r7 t7 s7 hr7 => ?_⟩
          have hi7 := s7.hi
          have hM7 := s7.keep M _ as6 ap6 hM6
          refine ⟨.ref M, rfl, .ref M, rfl, M, rfl, ⟨_, SqL.of hM7⟩, fun D nD => ?_⟩
          have fsD := fresh_s s7.st nD
          refine lcs_list (S := S) (c := 2 ^ n) (d := 1) (ms := ks) s7.st nD hM7 as6 ap6 (by omega) (fun j m H8 t8 hj s8 => ?_) (fun H8 pv => ?_)
          · intro R1 R2 h1 h2
            have hi8 := s8.hi
            have hjl : j < ks.length := (List.getElem?_eq_some_iff.mp hj).1
            refine ⟨rfl, .ref S.s, rfl, S, t8, 9, rfl, s8.st, by omega, by omega, by omega, fun H9 r9 t9 s9 hr9 => ⟨.int way, rfl, 4, way, rfl, rfl, r9, _, rfl, rfl, _, rfl, ite2 (fun e => ?_) (fun e => ?_)⟩⟩
            · refine ⟨.int m, rfl, .int r7, rfl, m, r7, rfl, rfl, ?_⟩
              show R2 (.int (Builtin.bitXor (m : Int) (r7 : Int))) H9
              rw [bx]
              exact h2 (m ^^^ r7) H9 t9 s9 (xor_lt (hk6 m (List.mem_of_getElem? hj)) hr7)
            · exact h1 H9 t9 s9
          · obtain ⟨ks8, t8, s8, hD8, hk8, hl8⟩ := pv
            have hM8 := s8.keep M _ as6 ap6 hM7
            refine ⟨M, D, vm ks, vm ks8, rfl, rfl, hM8, hD8, ?_, fun C nC => ?_⟩
            · rw [vm_len, vm_len]; exact sz (by omega)
            · have fsC := fresh_s s8.st nC
              have s9 := ((s6.trans s7).trans s8).same (same_new (o := .lst (vm ks ++ vm ks8)) nC)
              refine ⟨C, ks ++ ks8, t8, some (.int (0 + (i : Int))), some (.int (r7 : Int)), rfl, s9.mono (by omega), ?_, fsC.1, fsC.2, ?_, ?_⟩
              · rw [upd_same]; unfold vm; rw [List.map_append]
              · intro k hk
                rcases List.mem_append.mp hk with hk | hk
                · exact hk6 k hk
                · exact hk8 k hk
              · rw [List.length_append, Nat.pow_succ]; omega
        · obtain ⟨M, ks, t6, z6, z7, rfl, s6, hM6, as6, ap6, hk6, hl6⟩ := h
          have pi : 2 ^ r5 ≤ 8 := by
            have : r5 = 0 ∨ r5 = 1 ∨ r5 = 2 ∨ r5 = 3 := by omega
            rcases this with rfl | rfl | rfl | rfl <;> decide
          exact ⟨M, ks, t6, z6, z7, y8, rfl, s6.mono (by omega), hM6, as6, ap6, hk6, by omega⟩
      · exact ⟨M, ks, t', y6, y7, y8, rfl, stp.mono (by omega), hM, as, ap, hk, hl⟩
    -- if way == 5
    refine ⟨MidD S H t most n way 300, ?_, fun σ4 H4 mid4 => ?_⟩
    · obtain ⟨M, ks, t', y6, y7, y8, rfl, stp, hM, as, ap, hk, hl⟩ := mid3
      refine ⟨.int way, rfl, rfl, _, rfl, ite2 (fun e => ?_) (fun e => ?_)⟩
      · have hi0 := stp.hi
        have p6 := pow6 (w := n) (by omega)
        have p0 := pow0 n
        refine ⟨.ref S.s, rfl, S, t', 4, rfl, stp.st, by omega, by omega, by omega, fun H5 r5 t5 s5 hr5 => ⟨r5, rfl, by omega, by omega, fun D nD => ?_⟩⟩
        have hi5 := s5.hi
        have fs := fresh_s s5.st nD
        refine lcs_range (S := S) (c := 2 ^ n) (d := 1) (n := r5) (g := gName 6) (tt := tYes) (te := tDr (tVar 4)) (vs := [6]) s5.st nD (by omega) (fun i H6 t6 hi s6 => ?_) (fun H6 pv => ?_)
        · intro R1 R2 h1 h2
          have hi6 := s6.hi
          refine ⟨rfl, iteT (B := R1 H6) ⟨.ref S.s, rfl, .int ((2 ^ n : Nat) : Int), rfl, S, t6, 2 ^ n, rfl, s6.st, by omega, by omega, by omega, fun H7 r7 t7 s7 hr7 => h2 r7 H7 t7 s7 hr7⟩⟩
        · obtain ⟨ks6, t6, s6, hD6, hk6, hl6⟩ := pv
          refine ⟨.int ((2 ^ n : Nat) : Int), rfl, ((2 ^ n : Nat) : Int), rfl, l62, r62 (by omega), fun L nL => ?_⟩
          have fsL := fresh_s s6.st nL
          refine lcp_range (n := 2 ^ n) (p := fun m => !decide (m ∈ ks6)) (f := fun m => .int (m : Int)) nL (small64 (by omega)) (fun i H7 hi s7 => ?_) (fun H7 s7 hL => ?_)
          · intro R1 R2 h1 h2
            refine ⟨rfl, _, rfl, .ref D, rfl, D, _, rfl, .inl (SqL.of (s7 _ _ hD6)), rfl, vm_flat _, _, rfl, ?_⟩
            have e : inV (.int (0 + (i : Int))) (vm ks6) = decide (i ∈ ks6) := by
              rw [Int.zero_add]; exact in_vm i ks6
            show if (!inV (.int (0 + (i : Int))) (vm ks6)) = true then _ else _
            rw [e]
            refine ite2 (fun z => ?_) (fun z => ?_)
            · refine ⟨.int (0 + (i : Int)), rfl, ?_⟩
              rw [Int.zero_add]
              exact h2 z _ (Same.refl _)
            · exact h1 (by simpa using z) _ (Same.refl _)
          · refine ⟨L, (List.range (2 ^ n)).filter fun m => !decide (m ∈ ks6), t6, y6, y7, some (.ref D), rfl, (((stp.trans s5).trans s6).same s7).mono (by omega), hL, fsL.1, fsL.2, fun k hk => ?_, ?_⟩
            · exact List.mem_range.mp (List.mem_filter.mp hk).1
            · refine Nat.le_trans (List.length_filter_le _ _) ?_
              rw [List.length_range]; exact p6
      · exact ⟨M, ks, t', y6, y7, y8, rfl, stp.mono (by omega), hM, as, ap, hk, hl⟩
    -- return
    obtain ⟨M, ks, t', y6, y7, y8, rfl, stp, hM, as, ap, hk, hl⟩ := mid4
    refine ⟨.int n, rfl, .ref M, rfl, M, ks.map fun (k : Nat) => (k : Int), rfl, SqL.of (by rw [hM, vm_ints]), by rw [List.length_map]; omega, fun G c nG => ?_⟩
    have sG := same_new (o := SetO w G (fun j => decide (j ∈ ks.map fun (k : Nat) => (k : Int))) c) nG
    refine ⟨G, _, c, rfl, upd_same, fun ns L asc hm nL => ?_⟩
    have sL := same_new (o := .lst (ns.map V.int)) nL
    refine ⟨L, _, rfl, .inl ⟨SqL.of upd_same, fun T3 nT3 => ⟨sz (n := 2) (by decide), fun U nU => ?_⟩⟩⟩
    refine q _ _ n (fun m => decide (m ∈ ks)) t' ((((stp.same sG).same sL).same (same_new nT3)).same (same_new nU)) hn1 hn6 ⟨U, T3, rfl, upd_same, ?_⟩
    rw [upd_ne (ne_of_none upd_same nU), upd_same, rising_lot (w := n) (P := fun m => decide (m ∈ ks)) asc fun z => ?_]
    rw [hm z, decide_eq_true_iff, List.mem_map]
    constructor
    · rintro ⟨m, h1, h2⟩
      exact ⟨m, h2.symm, hk m h1, decide_eq_true h1⟩
    · rintro ⟨m, h1, h2, h3⟩
      exact ⟨m, of_decide_eq_true h3, h1.symm⟩
end
end XT
/-! from what k_is answers to what the classes must say -/
namespace XT
open PySem PySem.Spec PyProof.Rows L2
section
variable {K : PySem.W.Frag} {C D : Addr} {b : Bool}
theorem kit_ref (hd : PySem.W.hasDictIn K C = true) (ht : PySem.W.typeIn K (.ref C) = some (.type "type")) (hs : PySem.W.subIn K (.ref D) (.ref C) = some b) (hne : (Value.ref D == Value.ref C) = false) : PySem.W.kitOne K (.ref D) (.ref C) = some b := by
  obtain ⟨cd, hc, _⟩ := PySem.W.any_some hd
  have e2 : ((PySem.W.clsIn K C).isSome && PySem.W.typeIn K (.ref C) == some (.type "type")) = true := by rw [hc, ht] <;> rfl
  unfold PySem.W.kitOne PySem.W.kitCls
  rw [hne]
  show (if ((PySem.W.clsIn K C).isSome && PySem.W.typeIn K (.ref C) == some (.type "type")) = true then PySem.W.subIn K (.ref D) (.ref C) else none) = some b
  rw [if_pos e2]
  exact hs
theorem kit_bt {T : String} (hs : PySem.W.subIn K (.ref D) (.type T) = some b) (hm : PySem.W.kitMeta T = true) : PySem.W.kitOne K (.ref D) (.type T) = some b := by
  unfold PySem.W.kitOne PySem.W.kitCls
  rw [if_neg (by simp)]
  show (if PySem.W.kitMeta T = true then PySem.W.subIn K (.ref D) (.type T) else none) = some b
  rw [if_pos hm]
  exact hs
theorem kit_none {t c : Value} {cs : List Value} (h : PySem.W.kitOne K t c = some false) (r : PySem.W.kitAny K t cs = some false) : PySem.W.kitAny K t (c :: cs) = some false := L2.kitAny_cons h (fun _ => r) (fun z => nomatch z)
def strKey (e : DictEntry) : Bool := match e.key with | .str _ _ => true | _ => false
theorem nsOk_of {N : Addr} {oc : Value} {od : Option Addr} {es : Array DictEntry} {ep : Nat} {sl : Array (Option Value)} (l : K.lookup N = some ⟨oc, od, .dict es ep, sl⟩) (h : es.toList.all strKey = true) : PySem.W.nsOkIn K N = true := by
  unfold PySem.W.nsOkIn
  rw [l]
  rw [Array.all_toList] at h
  exact h
abbrev veTl : List Value := [.type "ValueError", .type "Exception", .type "BaseException", .type "object"]
theorem excIn_of {cN cT NSn NSt : Addr} {nm qn nt qt : Str} {bs sub bst subt mt : List Value} {hd hdt : Bool} {sn snt : List Str} {ab abt del : Bool} {col colt : Option Bool} {dd od : Option Addr} {q0 q1 q2 q3 q5 : Option Value} {oc : Value} {sl : Array (Option Value)}
    (lN : K.lookup cN = some (excClassObj nm qn cN NSn bs [.ref cT, .type "ValueError", .type "Exception", .type "BaseException", .type "object"] hd sn sub ab col dd q0 q1 q2 q3 q5 "ValueError.__new__")) (oN : PySem.W.nsOkIn K NSn = true) (iN : PySem.W.nsIn K NSn "__init__" = some none)
    (lT : K.lookup cT = some ⟨oc, od, .cls { name := nt, bases := bst, mro := mt, ns := NSt, qualname := qt, hasDict := hdt, slotNames := snt, subclasses := subt, abstract := abt, collection := colt, hasDel := del }, sl⟩) (oT : PySem.W.nsOkIn K NSt = true) (iT : PySem.W.nsIn K NSt "__init__" = some none) :
    PySem.W.excIn K cN [.type "ValueError", .type "Exception", .type "BaseException", .type "object"] "ValueError.__new__" = true := by
  have e1 : PySem.W.tailIn K veTl veTl = true := by
    unfold PySem.W.tailIn
    simp
  have e2 : PySem.W.tailIn K veTl (.ref cT :: veTl) = true := by
    unfold PySem.W.tailIn
    dsimp only
    rw [lT]
    simp [oT, iT, e1]
  unfold PySem.W.excIn
  rw [lN]
  simp [oN, iN, e2]
end
end XT
namespace XT
open PySem PySem.Spec PyProof.Rows L2
theorem fl_shw {n : Nat} {p : Nat → Bool} (hn : n ≤ 6) : Shw (dFl n p) 1000 2 := by
  have s1 : Shw (.list [.str "empty", .bool true]) 100 2 := ⟨by decide +kernel, by decide, rfl, by decide +kernel⟩
  unfold dFl
  split
  · exact s1.mono (by omega) (by omega)
  · exact shw_lot hn _
theorem fl_same {K : PySem.W.Frag} {H H' : Hp} {z : V} {d : PyData} (h : Dp K H z d) (e : Same H H') : Dp K H' z d := Dp_same e h
section
variable {P : Program} {w : World} {K : PySem.W.Frag} {mg : Str → Option Value} {base : Heap}
abbrev nLw : List Str := ["_law_script", "_law_stream_here", "_law_turn", "_law_some", "_law_few", "_law_one", "_law_shown", "_law_due"]
theorem scLw : FnScope nLw ["_law_script"] (defScope sLaw) := ⟨rfl, rfl, rfl, by decide +kernel, rfl, by decide +kernel, by decide +kernel⟩
structure Defs (P : Program) (w : World) (K : PySem.W.Frag) (mg : Str → Option Value) (base : Heap) : Prop where
  stream : DefR P w K mg base 5 "_law_stream" (spStream K)
  draw : DefR P w K mg base 5 "_law_draw" spDrawN
  drawn : DefR P w K mg base 5 "_law_drawn" spDrawn
  oo : DefR P w K mg base 5 "_law_odd_ones" spOo
  told : DefR P w K mg base 5 "_law_told" (spTe K)
def spLaw (K : PySem.W.Frag) : Sp := fun vs H Q _ => ∃ (a : Addr) (ns : List Int), vs = [.ref a] ∧ SqL K H a (ns.map V.int) ∧ ns.length ≤ 63 ∧ ∀ H', Q (.bl true) H'
theorem run_it {f : Addr} {fd : FuncData} (B : Bl mg) (mR : mg "repr" = none) (F : Fun K "law" "law" sLaw f fd) (d : Defs P w K mg base) : RunC P w K mg base 6 f (spLaw K) := by
  refine run_law (k := 5) F scLw (fun _ _ _ _ _ _ _ => rfl) (fun cdv s H v Q hr h => ?_)
  obtain ⟨a0, ns, ev, hA, hlen, q⟩ := h
  cases ev
  have hun : (callerA.deeper (envOfC "law" (defScope sLaw) s.heap.objs.size f cdv)).units + 128 < cLine := by have := hr.un; omega
  have hgd : (callerA.deeper (envOfC "law" (defScope sLaw) s.heap.objs.size f cdv)).guards = some [] := rfl
  refine ⟨_, pss_cons (ps_set (i := 1) scLw.nd rfl (by first | exact Or.inl rfl | exact Or.inr rfl) (pe_def d.stream hr (by rfl) (pa_cons (pv 0) pa_nil)))
    (pss_cons (ps_for PassesOwn.never rfl (pi_range1 (by rfl) B.range (pa_cons pe_int pa_nil)) (pg_name (i := 2) scLw.nd rfl (by first | exact Or.inl rfl | exact Or.inr rfl))
      (pss_cons (ps_set (i := 3) scLw.nd rfl (by first | exact Or.inl rfl | exact Or.inr rfl) (pe_def d.drawn hr (by rfl) (pa_cons (pv 1) (pa_cons (pe_ix ix_list (pe_lst (pa_cons pe_int (pa_cons pe_int (pa_cons pe_int (pa_cons pe_int pa_nil))))) (pe_op op_mod (pv 2) pe_int) (fun _ _ => rfl)) pa_nil))))
      (pss_cons (ps_set (i := 4) scLw.nd rfl (by first | exact Or.inl rfl | exact Or.inr rfl) (pe_tup (pa_cons (pe_ix ix_tup (pv 3) pe_int (fun _ _ => rfl)) (pa_cons (pe_slice sl_tupV (pe_ix ix_tup (pv 3) pe_int (fun _ _ => rfl)) po_none (po_some (pe_def d.draw hr (by rfl) (pa_cons (pv 1) (pa_cons pe_int pa_nil))))) pa_nil))))
      (pss_one (ps_for PassesOwn.never rfl (pi_list (pe_lst (pa_cons (pv 3) (pa_cons (pv 4) (pa_cons (pe_tup (pa_cons (pe_ix ix_tup (pv 3) pe_int (fun _ _ => rfl)) (pa_cons (pe_tup pa_nil) pa_nil))) pa_nil))))) (pg_name (i := 5) scLw.nd rfl (by first | exact Or.inl rfl | exact Or.inr rfl))
        (pss_cons (ps_par (i := 6) (j := 7) (by rfl) scLw.nd rfl rfl (by decide) rfl rfl (pa_cons (pe_callB (cr_repr hgd hun) (by rfl) mR boot_repr (pa_cons (pv 5) pa_nil)) (pa_cons (pe_lst (pa_cons pe_str (pa_cons pe_bl pa_nil))) pa_nil)) (by rfl))
        (C8.pss_cut (ps_if (pt_cmpR (op_neD hr.units) (pe_ix ix_tup (pv 5) pe_int (fun _ _ => rfl)) (pe_tup pa_nil) (nomark _))
          (pss_one (ps_set (i := 7) scLw.nd rfl (by first | exact Or.inl rfl | exact Or.inr rfl) (pe_tup (pa_cons (pe_ix ix_tup (pv 5) pe_int (fun _ _ => rfl)) (pa_cons (pe_def d.oo hr (by rfl) (pa_cons (pe_ix ix_tup (pv 5) pe_int (fun _ _ => rfl)) pa_nil)) pa_nil))))) pss_nil)
        (pss_one (ps_if (PW.pt (pw_or (pt_cmpR op_ne (pe_callB (cr_repr hgd hun) (by rfl) mR boot_repr (pa_cons (pe_lst (pa_cons (pe_def d.told hr (by rfl) (pa_cons (pv 5) pa_nil)) (pa_cons (pe_def d.told hr (by rfl) (pa_cons (pv 5) pa_nil)) pa_nil))) pa_nil)) (pe_callB (cr_repr hgd hun) (by rfl) mR boot_repr (pa_cons (pe_lst (pa_cons (pv 7) (pa_cons (pv 7) pa_nil))) pa_nil)) (nomark _))
          (pw_or1 (pt_cmpR op_ne (pe_callB (cr_repr hgd hun) (by rfl) mR boot_repr (pa_cons (pv 5) pa_nil)) (pv 6) (nomark _))))) pss_never pss_nil)))))))))
    (pss_one (ps_ret pe_bl))), ?_⟩
  refine ⟨.ref a0, rfl, a0, ns, rfl, hA, hlen, fun H1 S s1 st1 => ?_⟩
  refine ⟨8, rfl, by decide, by decide, for_range (lo := 0) (n := 8) (fun i σ H' => ∃ (t : Int) (z2 z3 z4 z5 z6 z7 : Option V), σ = [some (.ref a0), some (.ref S.s), z2, z3, z4, z5, z6, z7] ∧ Strm S H' t ∧ t ≤ 400 * i) ⟨0, none, none, none, none, none, none, rfl, st1, by omega⟩ (fun i σ H2 hi h => ?_) (fun σ H2 h => q _)⟩
  obtain ⟨t, z2, z3, z4, z5, z6, z7, rfl, st, ht⟩ := h
  obtain ⟨c, hc, hc1, hc6⟩ : ∃ c : Nat, atI [V.int 6, .int 4, .int 5, .int 3] ((0 + (i : Int)) % 4) = some (.int (c : Int)) ∧ 1 ≤ c ∧ c ≤ 6 := by
    match i, hi with
    | 0, _ => exact ⟨6, rfl, by decide, by decide⟩
    | 1, _ => exact ⟨4, rfl, by decide, by decide⟩
    | 2, _ => exact ⟨5, rfl, by decide, by decide⟩
    | 3, _ => exact ⟨3, rfl, by decide, by decide⟩
    | 4, _ => exact ⟨6, rfl, by decide, by decide⟩
    | 5, _ => exact ⟨4, rfl, by decide, by decide⟩
    | 6, _ => exact ⟨5, rfl, by decide, by decide⟩
    | 7, _ => exact ⟨3, rfl, by decide, by decide⟩
  refine ⟨.ref S.s, rfl, sz (n := 4) (by decide), fun L0 nL0 => ⟨.int (0 + (i : Int)), rfl, 0 + (i : Int), 4, rfl, rfl, (by decide : (0 : Int) < 4), L0, _, _, .int (c : Int), rfl, rfl, SqL.of upd_same, hc, S, t, c, rfl, st.same (same_new nL0), hc1, hc6, by omega, fun H3 some_ n p t3 s3 hn1 hnc l1 => ?_⟩⟩
  have hn : n ≤ 6 := by omega
  have hi3 := s3.hi
  obtain ⟨x1, y1, e1, hx1, hy1⟩ := id l1
  refine ⟨some_, rfl, x1, _, 0, .int n, e1, rfl, SqT.of hx1, rfl, some_, rfl, x1, _, 1, .ref y1, e1, rfl, SqT.of hx1, rfl, .ref S.s, rfl, S, t3, 4, rfl, s3.st, by decide, by decide, by omega, fun H4 r t4 s4 hr4 => ?_⟩
  have hi4 := s4.hi
  have l1 := l1.keep s4.keep s3.st
  have hx1 := s4.keep.tup s3.st hx1
  have hy1 := s4.keep.tup s3.st hy1
  refine ⟨_, rfl, y1, _, rfl, hy1, fun H5 Y s5 hY => ⟨sz (n := 2) (by decide), fun U nU => ?_⟩⟩
  obtain ⟨ks, eks, hsub⟩ := cut_vm (lotOf n p) none (some (r : Int))
  rw [eks, sub_lot hsub] at hY
  have sU := same_new (o := .tup [.int (n : Int), .ref Y]) nU
  have lf : LotAt _ (.ref U) n (fun m => decide (m ∈ ks)) := ⟨U, Y, rfl, upd_same, sU _ _ hY⟩
  have s5U := s5.trans sU
  have l1 := l1.same s5U
  have hx1 := s5U _ _ hx1
  have st5 := s4.st.same s5U
  generalize upd H5 U (.tup [.int (n : Int), .ref Y]) = H6 at *
  refine ⟨some_, rfl, .ref U, rfl, some_, rfl, x1, _, 0, .int n, e1, rfl, SqT.of hx1, rfl, sz (n := 0) (by decide), fun N0 nN0 => ⟨sz (n := 2) (by decide), fun N1 nN1 => ⟨sz (n := 3) (by decide), fun L nL => ?_⟩⟩⟩
  have k1 := same_new (o := .tup []) nN0
  have k2 := same_new (o := .tup [.int (n : Int), .ref N0]) nN1
  have k3 := same_new (o := .lst [some_, .ref U, .ref N1]) nL
  have hL : (upd (upd (upd H6 N0 (.tup [])) N1 (.tup [.int (n : Int), .ref N0])) L (.lst [some_, .ref U, .ref N1])) L = some (.lst [some_, .ref U, .ref N1]) := upd_same
  have le : LotAt (upd (upd (upd H6 N0 (.tup [])) N1 (.tup [.int (n : Int), .ref N0])) L (.lst [some_, .ref U, .ref N1])) (.ref N1) n (fun _ => false) := ⟨N1, N0, rfl, k3 _ _ upd_same, by rw [lot_none]; exact k3 _ _ (k2 _ _ upd_same)⟩
  have sm := (k1.trans k2).trans k3
  have l1 := l1.same sm
  have lf := lf.same sm
  have st6 := st5.same sm
  generalize upd (upd (upd H6 N0 (.tup [])) N1 (.tup [.int (n : Int), .ref N0])) L (.lst [some_, .ref U, .ref N1]) = H7 at *
  refine ⟨L, rfl, ⟨_, SqL.of hL⟩, for_list (xs := [some_, .ref U, .ref N1]) (fun j σ H' => Same H7 H' ∧ ∃ z5 z6 z7 : Option V, σ = [some (.ref a0), some (.ref S.s), some (.int (0 + (i : Int))), some some_, some (.ref U), z5, z6, z7]) ⟨Same.refl _, _, _, _, rfl⟩ (fun j σ H' _ h => SqL.of (h.1 _ _ hL)) (fun j xv σ H8 hx h => ?_) (fun σ H8 h => ?_)⟩
  rotate_left
  · obtain ⟨s8, w5, w6, w7, rfl⟩ := h
    exact ⟨t4, _, _, _, _, _, _, rfl, st6.same s8, by omega⟩
  obtain ⟨s8, w5, w6, w7, rfl⟩ := h
  obtain ⟨o, lo⟩ : ∃ o, LotAt H7 xv n o := by
    have hj : j < 3 := (List.getElem?_eq_some_iff.mp hx).1
    match j, hj, hx with
    | 0, _, hx => cases hx; exact ⟨_, l1⟩
    | 1, _, hx => cases hx; exact ⟨_, lf⟩
    | 2, _, hx => cases hx; exact ⟨_, le⟩
  have lo := lo.same s8
  have sh1 := shw_lot hn o
  have shd := fl_shw (p := o) hn
  have sh2d := shw_two shd shd
  obtain ⟨xo, yo, eo, hxo, hyo⟩ := id lo
  obtain ⟨shn, hsh⟩ : ∃ shn : Str, shn = (dLot n o).shown := ⟨_, rfl⟩
  refine ⟨xv, rfl, xo, dLot n o, congrArg (fun z => [z]) eo, by rw [← eo]; exact lo.dp, sh1.shaped (by omega), sh1.shw, sh1.sz (by omega), ?_⟩
  rw [← hsh]
  refine ⟨sz (n := 2) (by decide), fun W nW => ⟨_, _, rfl, ?_⟩⟩
  have sW := same_new (o := .lst [.str "empty", .bl true]) nW
  have hW : (upd H8 W (.lst [.str "empty", .bl true])) W = some (.lst [.str "empty", .bl true]) := upd_same
  refine ⟨fun σ' H' => ∃ dv, σ' = [some (.ref a0), some (.ref S.s), some (.int (0 + (i : Int))), some some_, some (.ref U), some xv, some (.str shn), some dv] ∧ Same H8 H' ∧ Dp K H' dv (dFl n o), ?_, ?_⟩
  · refine ⟨xv, rfl, xo, _, 1, .ref yo, eo, rfl, SqT.of (sW _ _ hxo), rfl, sz (n := 0) (by decide), fun Z nZ => ?_⟩
    have sZ := same_new (o := .tup []) nZ
    refine ne_tupN (ms := lotOf n o) (ks := []) ⟨yo, rfl, sZ _ _ (sW _ _ hyo)⟩ ⟨Z, rfl, upd_same⟩ ⟨_, rfl, ?_⟩
    by_cases he : lotOf n o = []
    · rw [decide_eq_true he]
      refine iteF ⟨_, rfl, sW.trans sZ, ?_⟩
      unfold dFl
      rw [if_pos he]
      exact .lst (SqL.of (sZ _ _ hW)) (.cons (.str _) (.cons (.bl _) .nil))
    · rw [decide_eq_false he]
      refine iteT ⟨xv, rfl, xo, _, 0, .int n, eo, rfl, SqT.of (sZ _ _ (sW _ _ hxo)), rfl, xv, rfl, xo, _, 1, .ref yo, eo, rfl, SqT.of (sZ _ _ (sW _ _ hxo)), rfl, .ref yo, n, o, rfl, ⟨yo, rfl, sZ _ _ (sW _ _ hyo)⟩, hn, he, fun H9 r9 s9 g9 => ⟨sz (n := 2) (by decide), fun T nT => ⟨_, rfl, ((sW.trans sZ).trans s9).trans (same_new nT), ?_⟩⟩⟩
      obtain ⟨y9, rfl, hy9⟩ := g9
      unfold dFl
      rw [if_neg he]
      exact LotAt.dp ⟨T, y9, rfl, upd_same, same_new nT _ _ hy9⟩
  rintro σ' H9 ⟨dv, rfl, s9, gd⟩
  have lo9 := lo.same s9
  refine ⟨xv, rfl, xv, n, o, rfl, lo9, hn, fun H10 u1 s10 g1 => ⟨xv, rfl, xv, n, o, rfl, lo9.same s10, hn, fun H11 u2 s11 g2 => ⟨sz (n := 2) (by decide), fun M1 nM1 => ?_⟩⟩⟩
  have sM1 := same_new (o := .lst [u1, u2]) nM1
  refine ⟨M1, .list [dFl n o, dFl n o], rfl, .lst (SqL.of upd_same) (.cons (Dp_same (s11.trans sM1) g1) (.cons (Dp_same sM1 g2) .nil)), sh2d.shaped (by omega), sh2d.shw, sh2d.sz (by omega), ?_⟩
  have s12 := (s10.trans s11).trans sM1
  refine ⟨dv, rfl, dv, rfl, sz (n := 2) (by decide), fun M2 nM2 => ?_⟩
  have sM2 := same_new (o := .lst [dv, dv]) nM2
  have gd2 := Dp_same (s12.trans sM2) gd
  refine ⟨M2, .list [dFl n o, dFl n o], rfl, .lst (SqL.of upd_same) (.cons gd2 (.cons gd2 .nil)), sh2d.shaped (by omega), sh2d.shw, sh2d.sz (by omega), rfl, _, rfl, iteNS rfl ?_⟩
  have s13 := s12.trans sM2
  refine ⟨xv, rfl, xo, dLot n o, congrArg (fun z => [z]) eo, by rw [← eo]; exact (lo9.same s13).dp, sh1.shaped (by omega), sh1.shw, sh1.sz (by omega), ?_⟩
  rw [← hsh]
  refine ⟨.str shn, rfl, rfl, _, rfl, iteNS rfl ?_⟩
  exact ⟨(s8.trans s9).trans s13, _, _, _, rfl⟩
end
end XT
namespace XT
open PySem PySem.Spec PyProof.Rows L2
/-! what the top has written -/
theorem all_mk {l : PySem.W.OpenLaw} {w : World} {K : PySem.W.Frag} {h : Heap} {mg : Str → Option Value} {fa : Addr} (X : K.In h) (G : h.Ns mainGlobals mg) (hfa : mg "law" = some (.ref fa))
    {f1 : Addr} {od1 an1 : Option Addr} {sl1 : Array (Option Value)} {oc1 kV1 dc1 pm1 cd1 ct1 : Value}
    (a1 : PySem.W.nsIn K mainGlobals "flat_around" = some (some (.ref f1))) (l1 : K.lookup f1 = some ⟨oc1, od1, .func (PySem.W.fnOf "flat_around" "flat_around" (defArgs sFlatAround) (defBody sFlatAround) (defScope sFlatAround) .none kV1 dc1 pm1 an1 cd1 ct1), sl1⟩) (c1 : PySem.W.codeIn K cd1 "flat_around" = true) (k1 : PySem.W.keepIn K (.ref f1) = true)
    {f2 : Addr} {od2 an2 : Option Addr} {sl2 : Array (Option Value)} {oc2 kV2 dc2 pm2 cd2 ct2 : Value}
    (a2 : PySem.W.nsIn K mainGlobals "_law_stream" = some (some (.ref f2))) (l2 : K.lookup f2 = some ⟨oc2, od2, .func (PySem.W.fnOf "_law_stream" "_law_stream" (defArgs sStream) (defBody sStream) (defScope sStream) .none kV2 dc2 pm2 an2 cd2 ct2), sl2⟩) (c2 : PySem.W.codeIn K cd2 "_law_stream" = true) (k2 : PySem.W.keepIn K (.ref f2) = true)
    {f3 : Addr} {od3 an3 : Option Addr} {sl3 : Array (Option Value)} {oc3 kV3 dc3 pm3 cd3 ct3 : Value}
    (a3 : PySem.W.nsIn K mainGlobals "_law_draw" = some (some (.ref f3))) (l3 : K.lookup f3 = some ⟨oc3, od3, .func (PySem.W.fnOf "_law_draw" "_law_draw" (defArgs sDraw) (defBody sDraw) (defScope sDraw) .none kV3 dc3 pm3 an3 cd3 ct3), sl3⟩) (c3 : PySem.W.codeIn K cd3 "_law_draw" = true) (k3 : PySem.W.keepIn K (.ref f3) = true)
    {f4 : Addr} {od4 an4 : Option Addr} {sl4 : Array (Option Value)} {oc4 kV4 dc4 pm4 cd4 ct4 : Value}
    (a4 : PySem.W.nsIn K mainGlobals "_law_drawn" = some (some (.ref f4))) (l4 : K.lookup f4 = some ⟨oc4, od4, .func (PySem.W.fnOf "_law_drawn" "_law_drawn" (defArgs sDrawn) (defBody sDrawn) (defScope sDrawn) .none kV4 dc4 pm4 an4 cd4 ct4), sl4⟩) (c4 : PySem.W.codeIn K cd4 "_law_drawn" = true) (k4 : PySem.W.keepIn K (.ref f4) = true)
    {f5 : Addr} {od5 an5 : Option Addr} {sl5 : Array (Option Value)} {oc5 kV5 dc5 pm5 cd5 ct5 : Value}
    (a5 : PySem.W.nsIn K mainGlobals "_law_odd_ones" = some (some (.ref f5))) (l5 : K.lookup f5 = some ⟨oc5, od5, .func (PySem.W.fnOf "_law_odd_ones" "_law_odd_ones" (defArgs sLOddOnes) (defBody sLOddOnes) (defScope sLOddOnes) .none kV5 dc5 pm5 an5 cd5 ct5), sl5⟩) (c5 : PySem.W.codeIn K cd5 "_law_odd_ones" = true) (k5 : PySem.W.keepIn K (.ref f5) = true)
    {f6 : Addr} {od6 an6 : Option Addr} {sl6 : Array (Option Value)} {oc6 kV6 dc6 pm6 cd6 ct6 : Value}
    (a6 : PySem.W.nsIn K mainGlobals "_law_told" = some (some (.ref f6))) (l6 : K.lookup f6 = some ⟨oc6, od6, .func (PySem.W.fnOf "_law_told" "_law_told" (defArgs sTold) (defBody sTold) (defScope sTold) .none kV6 dc6 pm6 an6 cd6 ct6), sl6⟩) (c6 : PySem.W.codeIn K cd6 "_law_told" = true) (k6 : PySem.W.keepIn K (.ref f6) = true)
    {f7 : Addr} {od7 an7 : Option Addr} {sl7 : Array (Option Value)} {oc7 kV7 dc7 pm7 cd7 ct7 : Value}
    (a7 : PySem.W.nsIn K mainGlobals "law" = some (some (.ref f7))) (l7 : K.lookup f7 = some ⟨oc7, od7, .func (PySem.W.fnOf "law" "law" (defArgs sLaw) (defBody sLaw) (defScope sLaw) .none kV7 dc7 pm7 an7 cd7 ct7), sl7⟩) (c7 : PySem.W.codeIn K cd7 "law" = true) (k7 : PySem.W.keepIn K (.ref f7) = true)
    {cTurnError : Addr} {NSt : Addr} {nmT qnT : Str} {bsT subT mt : List Value} {hdT abT delT : Bool} {snT : List Str} {colT : Option Bool} {odT : Option Addr} {ocT : Value} {slT : Array (Option Value)} {oc6 : Value} {od6 : Option Addr} {es6 : Array DictEntry} {ep6 : Nat} {sl6 : Array (Option Value)} {cEmptyLot : Addr} {NScEmptyLot : Addr} {nmcEmptyLot qncEmptyLot : Str} {bscEmptyLot sbcEmptyLot : List Value} {hdcEmptyLot abcEmptyLot : Bool} {sncEmptyLot : List Str} {colcEmptyLot : Option Bool} {ddcEmptyLot : Option Addr} {p0cEmptyLot p1cEmptyLot p2cEmptyLot p3cEmptyLot p5cEmptyLot : Option Value} {occEmptyLot : Value} {odcEmptyLot : Option Addr} {escEmptyLot : Array DictEntry} {epcEmptyLot : Nat} {slcEmptyLot : Array (Option Value)} {cBadLot : Addr} {cNoLots : Addr} {cTooWide : Addr}
    (x1 : PySem.W.nsIn K mainGlobals "TurnError" = some (some (.ref cTurnError)))
    (x2 : K.lookup cTurnError = some ⟨ocT, odT, .cls { name := nmT, bases := bsT, mro := mt, ns := NSt, qualname := qnT, hasDict := hdT, slotNames := snT, subclasses := subT, abstract := abT, collection := colT, hasDel := delT }, slT⟩)
    (x3 : K.lookup NSt = some ⟨oc6, od6, .dict es6 ep6, sl6⟩)
    (x4 : es6.toList.all strKey = true)
    (x5 : PySem.W.nsIn K NSt "__init__" = some none)
    (x6 : PySem.W.nsIn K mainGlobals "EmptyLot" = some (some (.ref cEmptyLot)))
    (x7 : K.lookup cEmptyLot = some (excClassObj nmcEmptyLot qncEmptyLot cEmptyLot NScEmptyLot bscEmptyLot [.ref cTurnError, .type "ValueError", .type "Exception", .type "BaseException", .type "object"] hdcEmptyLot sncEmptyLot sbcEmptyLot abcEmptyLot colcEmptyLot ddcEmptyLot p0cEmptyLot p1cEmptyLot p2cEmptyLot p3cEmptyLot p5cEmptyLot "ValueError.__new__"))
    (x8 : K.lookup NScEmptyLot = some ⟨occEmptyLot, odcEmptyLot, .dict escEmptyLot epcEmptyLot, slcEmptyLot⟩)
    (x9 : escEmptyLot.toList.all strKey = true)
    (x10 : PySem.W.nsIn K NScEmptyLot "__init__" = some none)
    (x11 : PySem.W.subIn K (.ref cEmptyLot) (.type "BaseException") = some true)
    (x12 : PySem.W.typeIn K (.ref cEmptyLot) = some (.type "type"))
    (x13 : PySem.W.keepIn K (.ref cEmptyLot) = true)
    (x14 : PySem.W.findIn K (.ref cEmptyLot) "__getattribute__" = some (some (.builtin "BaseException.__getattribute__")))
    (x15 : PySem.W.findIn K (.ref cEmptyLot) "__getattr__" = some none)
    (x16 : PySem.W.hasDictIn K cEmptyLot = true)
    (x17 : PySem.W.findIn K (.ref cEmptyLot) "__class__" = some (some (.builtin "object.__class__")))
    (x18 : PySem.W.specialIn K (.builtin "object.__class__") "__get__" = some (some (.builtin "getset_descriptor.__get__")))
    (x19 : PySem.W.takesIn K (.builtin "object.__class__") = some true)
    (x20 : PySem.W.mroIn K cEmptyLot (.type "object") = some true)
    (x21 : PySem.W.nsIn K mainGlobals "BadLot" = some (some (.ref cBadLot)))
    (x22 : PySem.W.nsIn K mainGlobals "NoLots" = some (some (.ref cNoLots)))
    (x23 : PySem.W.nsIn K mainGlobals "TooWide" = some (some (.ref cTooWide)))
    (x24 : PySem.W.subIn K (.ref cTurnError) (.type "BaseException") = some true)
    (x25 : PySem.W.hasDictIn K cTurnError = true)
    (x26 : PySem.W.typeIn K (.ref cTurnError) = some (.type "type"))
    (x27 : PySem.W.subIn K (.ref cEmptyLot) (.ref cTurnError) = some true)
    (x28 : PySem.W.hasDictIn K cTooWide = true)
    (x29 : PySem.W.typeIn K (.ref cTooWide) = some (.type "type"))
    (x30 : PySem.W.subIn K (.ref cEmptyLot) (.ref cTooWide) = some false)
    (x31 : (Value.ref cEmptyLot == Value.ref cTooWide) = false)
    (x32 : PySem.W.hasDictIn K cNoLots = true)
    (x33 : PySem.W.typeIn K (.ref cNoLots) = some (.type "type"))
    (x34 : PySem.W.subIn K (.ref cEmptyLot) (.ref cNoLots) = some false)
    (x35 : (Value.ref cEmptyLot == Value.ref cNoLots) = false)
    (x36 : PySem.W.subIn K (.ref cEmptyLot) (.type "LookupError") = some false)
    (x37 : PySem.W.hasDictIn K cBadLot = true)
    (x38 : PySem.W.typeIn K (.ref cBadLot) = some (.type "type"))
    (x39 : PySem.W.subIn K (.ref cEmptyLot) (.ref cBadLot) = some false)
    (x40 : (Value.ref cEmptyLot == Value.ref cBadLot) = false)
    (y1 : PySem.W.nsIn K mainGlobals "repr" = some none)
    (y2 : PySem.W.nsIn K mainGlobals "list" = some none)
    (y3 : PySem.W.nsIn K mainGlobals "LookupError" = some none)
    (z1 : PySem.W.nsIn K mainGlobals "len" = some none) (z2 : PySem.W.nsIn K mainGlobals "abs" = some none) (z3 : PySem.W.nsIn K mainGlobals "tuple" = some none) (z4 : PySem.W.nsIn K mainGlobals "sorted" = some none) (z5 : PySem.W.nsIn K mainGlobals "isinstance" = some none) (z6 : PySem.W.nsIn K mainGlobals "int" = some none) (z7 : PySem.W.nsIn K mainGlobals "bool" = some none) (z8 : PySem.W.nsIn K mainGlobals "set" = some none) (z9 : PySem.W.nsIn K mainGlobals "all" = some none) (z10 : PySem.W.nsIn K mainGlobals "range" = some none) (z11 : PySem.W.nsIn K mainGlobals "enumerate" = some none) :
    ∀ base : Heap, K.In base → base.Ns mainGlobals mg → RunC l.prog w K mg base 6 fa (spLaw K) := by
  cases hfa.symm.trans (PySem.W.mg_of X G a7)
  have F1 := fun_mk (st := sFlatAround) l1 c1 k1
  have F2 := fun_mk (st := sStream) l2 c2 k2
  have F3 := fun_mk (st := sDraw) l3 c3 k3
  have F4 := fun_mk (st := sDrawn) l4 c4 k4
  have F5 := fun_mk (st := sLOddOnes) l5 c5 k5
  have F6 := fun_mk (st := sTold) l6 c6 k6
  have F7 := fun_mk (st := sLaw) l7 c7 k7
  have b1 := F1.binds (ps := ["lot"]) fun _ _ _ _ _ _ us hl => match us, hl with | [_], _ => rfl
  have b2 := F2.binds (ps := ["_law_script"]) fun _ _ _ _ _ _ us hl => match us, hl with | [_], _ => rfl
  have b3 := F3.binds (ps := ["_law_stream_here", "_law_many"]) fun _ _ _ _ _ _ us hl => match us, hl with | [_, _], _ => rfl
  have b4 := F4.binds (ps := ["_law_stream_here", "_law_most"]) fun _ _ _ _ _ _ us hl => match us, hl with | [_, _], _ => rfl
  have b5 := F5.binds (ps := ["_law_masks"]) fun _ _ _ _ _ _ us hl => match us, hl with | [_], _ => rfl
  have b6 := F6.binds (ps := ["_law_some"]) fun _ _ _ _ _ _ us hl => match us, hl with | [_], _ => rfl
  have B : Bl mg := ⟨PySem.W.mg_none_of X G z1, PySem.W.mg_none_of X G z2, PySem.W.mg_none_of X G z3, PySem.W.mg_none_of X G z4, PySem.W.mg_none_of X G z5, PySem.W.mg_none_of X G z6, PySem.W.mg_none_of X G z7, PySem.W.mg_none_of X G z8, PySem.W.mg_none_of X G z9, PySem.W.mg_none_of X G z10, PySem.W.mg_none_of X G z11⟩
  intro base _ _
  have RE : ErrN K mg "EmptyLot" cEmptyLot := ⟨⟨_, _, _, _, PySem.F.excBase_ValueError, excIn_of x7 (nsOk_of x8 x9) x10 x2 (nsOk_of x3 x4) x5⟩, x11, x12, x13, (PySem.W.mg_of X G x6)⟩
  have C : CauE K mg cEmptyLot := ⟨⟨x14, x15, x11, x16, x17, x18, x19, x20⟩, (PySem.W.mg_of X G x6), (by unfold PySem.W.kitOne; rw [if_pos (by simp)]), (PySem.W.mg_none_of X G y3), ⟨cTurnError, cBadLot, cNoLots, cTooWide, (PySem.W.mg_of X G x1), (PySem.W.mg_of X G x21), (PySem.W.mg_of X G x22), (PySem.W.mg_of X G x23), (PySem.W.exm_ref x24 x25 x26 x27), (kit_none (kit_ref x37 x38 x39 x40) (kit_none (kit_bt x36 rfl) (kit_none (kit_ref x32 x33 x34 x35) (kit_none (kit_ref x28 x29 x30 x31) rfl))))⟩⟩
  have dF : DefX l.prog w K mg base 1 "flat_around" (spFe cEmptyLot) := .of (ok_fe B F1 RE) b1 (PySem.W.mg_of X G a1) k1
  have d_law_draw : DefR l.prog w K mg base 1 "_law_draw" spDrawN := drawN (.of (ok_draw F3 B.len) b3 (PySem.W.mg_of X G a3) k3)
  exact run_it B (PySem.W.mg_none_of X G y1) F7 ⟨.of (ok_stream F2 B.len B.abs) b2 (PySem.W.mg_of X G a2) k2, drawN (.of (ok_draw F3 B.len) b3 (PySem.W.mg_of X G a3) k3), .of (ok_drawn B F4 d_law_draw) b4 (PySem.W.mg_of X G a4) k4, .of (ok_oo B (PySem.W.mg_none_of X G y2) F5) b5 (PySem.W.mg_of X G a5) k5, .of (ok_te B C F6 dF) b6 (PySem.W.mg_of X G a6) k6⟩
end XT
open PySem PySem.W PyProof.Rows
set_option maxHeartbeats 0 in
theorem PySem.Challenge.cw_xorturns_k46_flat_lots_around_holds : PySem.Challenge.rw_xorturns_k46_flat_lots_around.Holds := by
  w_on; o_law; k_head; (case hw => w_witness2)
  k_fill
  refine XT.walk_ofC (l := PySem.Challenge.rw_xorturns_k46_flat_lots_around) (n := 63) (k := 6) (sp := fun w => XT.spLaw _) rfl (by decide) rfl ⟨rfl, by decide, by decide⟩ (fun w h Y => PySem.W.kIn_of Y) ?F (fun _ _ a ns hl hS => ⟨a, ns, rfl, hS, hl, fun _ => rfl⟩)
  case F =>
    intro w mg fa h KX G hmg
    refine' XT.all_mk KX G hmg ?a1 ?l1 ?c1 ?k1 ?a2 ?l2 ?c2 ?k2 ?a3 ?l3 ?c3 ?k3 ?a4 ?l4 ?c4 ?k4 ?a5 ?l5 ?c5 ?k5 ?a6 ?l6 ?c6 ?k6 ?a7 ?l7 ?c7 ?k7 ?x1 ?x2 ?x3 ?x4 ?x5 ?x6 ?x7 ?x8 ?x9 ?x10 ?x11 ?x12 ?x13 ?x14 ?x15 ?x16 ?x17 ?x18 ?x19 ?x20 ?x21 ?x22 ?x23 ?x24 ?x25 ?x26 ?x27 ?x28 ?x29 ?x30 ?x31 ?x32 ?x33 ?x34 ?x35 ?x36 ?x37 ?x38 ?x39 ?x40 ?y1 ?y2 ?y3 ?z1 ?z2 ?z3 ?z4 ?z5 ?z6 ?z7 ?z8 ?z9 ?z10 ?z11
    (case a1 => k_is); (case l1 => k_is); (case c1 => k_is); (case k1 => k_is); (case a2 => k_is); (case l2 => k_is); (case c2 => k_is); (case k2 => k_is); (case a3 => k_is); (case l3 => k_is); (case c3 => k_is); (case k3 => k_is); (case a4 => k_is); (case l4 => k_is); (case c4 => k_is); (case k4 => k_is); (case a5 => k_is); (case l5 => k_is); (case c5 => k_is); (case k5 => k_is); (case a6 => k_is); (case l6 => k_is); (case c6 => k_is); (case k6 => k_is); (case a7 => k_is); (case l7 => k_is); (case c7 => k_is); (case k7 => k_is); (case x1 => k_is); (case x2 => k_is); (case x3 => k_is); (case x4 => rfl); (case x5 => k_is); (case x6 => k_is); (case x7 => k_is); (case x8 => k_is); (case x9 => rfl); (case x10 => k_is); (case x11 => k_is); (case x12 => k_is); (case x13 => k_is); (case x14 => k_is); (case x15 => k_is); (case x16 => k_is); (case x17 => k_is); (case x18 => k_is); (case x19 => k_is); (case x20 => k_is); (case x21 => k_is); (case x22 => k_is); (case x23 => k_is); (case x24 => k_is); (case x25 => k_is); (case x26 => k_is); (case x27 => k_is); (case x28 => k_is); (case x29 => k_is); (case x30 => k_is); (case x31 => rfl); (case x32 => k_is); (case x33 => k_is); (case x34 => k_is); (case x35 => rfl); (case x36 => k_is); (case x37 => k_is); (case x38 => k_is); (case x39 => k_is); (case x40 => rfl); (case y1 => k_is); (case y2 => k_is); (case y3 => k_is); (case z1 => k_is); (case z2 => k_is); (case z3 => k_is); (case z4 => k_is); (case z5 => k_is); (case z6 => k_is); (case z7 => k_is); (case z8 => k_is); (case z9 => k_is); (case z10 => k_is); (case z11 => k_is)
