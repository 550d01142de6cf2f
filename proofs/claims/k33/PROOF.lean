import PyProof.Rows.All
import Wide.All
import OpenK.AllK
import Wide.FinOn
import PyProof.EqAt
import PyProof.EqKinds
import PyProof.TupleCall
import HandS.ForMost
import HandS.Strs
import HandS.SetFor
import HandS.SortInts
import HandS.Star
import HandS.IsInst
import KE.GoesMore
import HandS.Codes
import PyProof.ReprRoads
import PyProof.StrLawsRepr
import PyProof.ReprLen
import HandS.Conv
import PyProof.FString3
import PyProof.Rows.StrBin
import PyProof.Rows.StrIntSpec
import HandS.FStr
import HandS.Text
import PyProof.WalksMore
import PyProof.Rows.SumAny
import HandS.TupAny
import HandS.Dict
import PyProof.StrCaseBound
import PyProof.FitsInt
import KE.KRevSl
import PyProof.Rows.IntBool
import PyProof.Rows.EqBoolInt
import HandS.TupSets
import PyProof.Conv_int_bool
import PyProof.NeKinds
import HandS.TupMul
import PySem.Challenge.RW_xorturns_k33_signed_counts_judged
set_option Elab.async false
set_option linter.all false
set_option maxRecDepth 100000
set_option maxHeartbeats 4000000
namespace XT
open PySem PySem.Spec PyProof.Rows L2
/-! heaps -/
theorem same_new {H : Hp} {p : Addr} {o : HO} (h : H p = none) : Same H (upd H p o) := fun b x e => by
  rw [upd_ne (ne_of_none e h)]; exact e

/-- a stream: its own list, the list of its great cells, the list of its cells -/
structure Sm where
  s : Addr
  p : Addr
  q : Addr
  cs : List Int
structure StrmB (S : Sm) (H : Hp) (t : Int) (big : List Int) : Prop where
  hs : H S.s = some (.lst [.ref S.p, .ref S.q, .int t])
  hp : H S.p = some (.lst (big.map V.int))
  hq : H S.q = some (.lst (S.cs.map V.int))
  sp : S.s ≠ S.p
  sq : S.s ≠ S.q
  pq : S.p ≠ S.q
  ne : 0 < S.cs.length
  t0 : 0 ≤ t
def Strm (S : Sm) (H : Hp) (t : Int) : Prop := ∃ big, StrmB S H t big
def Keep (S : Sm) (H H' : Hp) : Prop := ∀ b o, b ≠ S.s → b ≠ S.p → H b = some o → H' b = some o
theorem Keep.refl (S : Sm) (H : Hp) : Keep S H H := fun _ _ _ _ h => h
theorem Keep.trans {S : Sm} {H H1 H2 : Hp} (a : Keep S H H1) (b : Keep S H1 H2) : Keep S H H2 := fun c o n1 n2 h => b c o n1 n2 (a c o n1 n2 h)
theorem Keep.of {S : Sm} {H H' : Hp} (a : Same H H') : Keep S H H' := fun c o _ _ h => a c o h
theorem StrmB.same {S : Sm} {H H' : Hp} {t : Int} {big : List Int} (h : StrmB S H t big) (e : Same H H') : StrmB S H' t big :=
  ⟨e _ _ h.hs, e _ _ h.hp, e _ _ h.hq, h.sp, h.sq, h.pq, h.ne, h.t0⟩
theorem Strm.same {S : Sm} {H H' : Hp} {t : Int} (h : Strm S H t) (e : Same H H') : Strm S H' t := let ⟨b, h⟩ := h; ⟨b, h.same e⟩
theorem Strm.ns {S : Sm} {H : Hp} {t : Int} {b : Addr} {xs : List V} (h : Strm S H t) (e : H b = some (.tup xs)) : b ≠ S.s := by
  obtain ⟨_, h⟩ := h
  exact ne_of e h.hs (by intro z; cases z)
theorem Strm.np {S : Sm} {H : Hp} {t : Int} {b : Addr} {xs : List V} (h : Strm S H t) (e : H b = some (.tup xs)) : b ≠ S.p := by
  obtain ⟨_, h⟩ := h
  exact ne_of e h.hp (by intro z; cases z)
theorem Keep.tup {S : Sm} {H H' : Hp} {t : Int} {b : Addr} {xs : List V} (k : Keep S H H') (h : Strm S H t) (e : H b = some (.tup xs)) : H' b = some (.tup xs) :=
  k b _ (h.ns e) (h.np e) e
theorem Keep.free {S : Sm} {H H' : Hp} {t : Int} {x : Addr} (k : Keep S H H') (h : Strm S H' t) (e : H' x = none) : H x = none := by
  obtain ⟨_, h⟩ := h
  cases q : H x with
  | none => rfl
  | some o =>
    by_cases h1 : x = S.s
    · rw [h1, h.hs] at e; cases e
    · by_cases h2 : x = S.p
      · rw [h2, h.hp] at e; cases e
      · rw [k x o h1 h2 q] at e; cases e
/-- a list of one's own, new behind H, is neither of the stream's -/
theorem Keep.mine {S : Sm} {H H' H2 : Hp} {t : Int} {x : Addr} {o : HO} (k : Keep S H' H2) (h : Strm S H t) (n : H x = none) (e : H' x = some o) : H2 x = some o := by
  obtain ⟨_, h⟩ := h
  refine k x o (fun z => ?_) (fun z => ?_) e
  · rw [z, h.hs] at n; cases n
  · rw [z, h.hp] at n; cases n

theorem dpInts {K : PySem.W.Frag} {H : Hp} : ∀ ns : List Int, DpAll K H (ns.map V.int) (ns.map PyData.int)
  | [] => .nil
  | n :: ns => .cons (.int n) (dpInts ns)
theorem ke_shaped (ns : List Int) : SeqAt.shaped (.list (ns.map PyData.int)) = true := by
  have h1 : ∀ ns : List Int, PyData.canLay0 (.list (ns.map PyData.int)) = true := by
    intro ns
    induction ns with
    | nil => rfl
    | cons n ns ih => simpa [PyData.canLay0, PyData.canLayAll0] using ih
  have h2 : ∀ ns : List Int, PyData.depth (.list (ns.map PyData.int)) ≤ 2 := by
    intro ns
    induction ns with
    | nil => decide
    | cons n ns ih => simp only [PyData.depth, PyData.depthAll, List.map] at ih ⊢; omega
  unfold SeqAt.shaped
  rw [h1 ns, decide_eq_true (Nat.le_trans (h2 ns) (by decide))]
  rfl
theorem ix0 {n : Nat} (h : 0 < n) : ixN n 0 = some 0 := by
  have h2 : (0 : Int) < n := by omega
  simp [ixN]; omega
theorem sq0 {n : Nat} (h : 0 < n) : seqIndex? 0 n = some 0 := (ixN_seq (ix0 h)).1
theorem pm31 {x : Int} : x % 2147483647 < 2147483647 ∧ 0 ≤ x % 2147483647 := ⟨Int.emod_lt_of_pos _ (by decide), Int.emod_nonneg _ (by decide)⟩
theorem pm87 {x : Int} : x % 2147483587 < 2147483587 ∧ 0 ≤ x % 2147483587 := ⟨Int.emod_lt_of_pos _ (by decide), Int.emod_nonneg _ (by decide)⟩

def spDraw : Sp := fun vs H Q _ => ∃ (S : Sm) (t m : Int), vs = [.ref S.s, .int m] ∧ Strm S H t ∧ 0 < m ∧ m < 1073741824 ∧ t < 1000000000000 ∧
  ∀ (H' : Hp) (r t' : Int), Keep S H H' → Strm S H' t' → t ≤ t' → t' ≤ t + 1 → 0 ≤ r → r < m → Q (.int r) H'
theorem sz {n : Nat} (h : n ≤ 1000) : n ≤ sizeLine := Nat.le_trans h (by decide)
theorem small64 {n : Nat} (h : n ≤ 1000) : n < sizeLine := Nat.lt_of_le_of_lt h (by decide)
def ab (i : Int) : Int := if i < 0 then -i else i
def spStream (K : PySem.W.Frag) : Sp := fun vs H Q _ => ∃ (a : Addr) (ns : List Int), vs = [.ref a] ∧ SqL K H a (ns.map V.int) ∧ ns.length ≤ 63 ∧
  ∀ (H' : Hp) (S : Sm), Same H H' → Strm S H' 0 → Q (.ref S.s) H'
end XT
namespace XT
open PySem PySem.Spec PyProof.Rows L2

/-! comprehensions whose turns only lay new things -/
theorem take_one {α β : Type} (f : α → β) (p : α → Bool) {xs : List α} {i : Nat} {x : α} (h : xs[i]? = some x) :
    ((xs.take (i + 1)).filter p).map f = ((xs.take i).filter p).map f ++ (if p x = true then [f x] else []) := by
  rw [List.take_add_one, h, List.filter_append, List.map_append]
  by_cases hp : p x = true
  · simp [hp]
  · simp [hp]
theorem flt_len {α β : Type} (f : α → β) (p : α → Bool) (xs : List α) (i : Nat) : (((xs.take i).filter p).map f).length ≤ i := by
  rw [List.length_map]
  exact Nat.le_trans (List.length_filter_le _ _) (by rw [List.length_take]; exact Nat.min_le_left _ _)

section
variable {K : PySem.W.Frag} {a : Addr} {g : TG} {tt : TT} {te : TE} {vs : List Nat} {σ : L2.St} {H1 : Hp} {D : Addr} {Qd : Hp → Prop}
/-- what one turn must do -/
def TurnP (g : TG) (tt : TT) (te : TE) (vs : List Nat) (σ : L2.St) (x y : V) (keep : Bool) (H : Hp) : Prop :=
  ∀ (R1 : Hp → Prop) (R2 : V → Hp → Prop), (keep = false → ∀ H3, Same H H3 → R1 H3) → (keep = true → ∀ H4, Same H H4 → R2 y H4) →
    g x (wipe σ vs) H fun σ2 H2 => wipe σ2 vs = wipe σ vs ∧ tt σ2 H2 fun b H3 => if b = true then te σ2 H3 R2 else R1 H3
/-- the invariant -/
def PvP (H1 : Hp) (D : Addr) (ys : List V) (H : Hp) : Prop := Same H1 H ∧ H D = some (.lst ys)
theorem pvp_turn {x y : V} {keep : Bool} {H : Hp} {ys : List V} (nD : H1 D = none) (h : PvP H1 D ys H) (hl : ys.length < sizeLine) (ht : TurnP g tt te vs σ x y keep H) (zs : List V) (ez : zs = ys ++ (if keep = true then [y] else [])) :
    g x (wipe σ vs) H fun σ2 H2 => wipe σ2 vs = wipe σ vs ∧ tt σ2 H2 fun b H3 =>
      if b = true then te σ2 H3 fun y H4 => ∃ acc, H4 D = some (.lst acc) ∧ acc.length < sizeLine ∧ PvP H1 D zs (upd H4 D (.lst (acc ++ [y]))) else PvP H1 D zs H3 := by
  obtain ⟨sm, hD⟩ := h
  refine ht _ _ (fun hk H3 s3 => ?_) (fun hk H4 s4 => ?_)
  · subst hk
    refine ⟨sm.trans s3, ?_⟩
    rw [ez, s3 _ _ hD]
    simp
  · subst hk
    refine ⟨ys, s4 _ _ hD, hl, fun b o e => ?_, ?_⟩
    · rw [upd_ne (ne_of_none e nD)]
      exact s4 _ _ (sm _ _ e)
    · rw [upd_same, ez]
      rfl
theorem lcp_list {xs : List V} (p : V → Bool) (f : V → V) (nD : H1 D = none) (hA : SqL K H1 a xs) (hz : xs.length < sizeLine) (ht : ∀ (i : Nat) x H, xs[i]? = some x → Same H1 H → TurnP g tt te vs σ x (f x) (p x) H)
    (hd : ∀ H, Same H1 H → H D = some (.lst ((xs.filter p).map f)) → Qd H) :
    ∃ W : Nat → Nat → Hp → Prop, (∃ m, W 0 m (upd H1 D (.lst []))) ∧ ∀ i m H, W i m H →
      ((Itl K a).stop i H ∧ Qd H) ∨ ((Itl K a).go i H ∧ ∃ Nx : Hp → Prop, (∀ H', Nx H' → ∃ m', m' < m ∧ W (i + 1) m' H') ∧ ∀ x H', (Itl K a).yld i H x H' → g x (wipe σ vs) H' fun σ2 H2 => wipe σ2 vs = wipe σ vs ∧ tt σ2 H2 fun b H3 =>
        if b = true then te σ2 H3 fun y H4 => ∃ acc, H4 D = some (.lst acc) ∧ acc.length < sizeLine ∧ Nx (upd H4 D (.lst (acc ++ [y]))) else Nx H3) := by
  refine lc_list (xs := xs) (fun i H => PvP H1 D (((xs.take i).filter p).map f) H) ⟨same_new nD, upd_same⟩ (fun i H _ h => h.1.seq hA) (fun i x H hx h => ?_) (fun H h => ?_)
  · have hi : i < xs.length := (List.getElem?_eq_some_iff.mp hx).1
    exact pvp_turn nD h (Nat.lt_of_le_of_lt (flt_len f p xs i) (Nat.lt_trans hi hz)) (ht i x H hx h.1) _ (take_one f p hx)
  · have h2 := h.2
    rw [List.take_length] at h2
    exact hd H h.1 h2
theorem Same.sqT {H H' : Hp} {a : Addr} {xs : List V} (e : Same H H') (h : SqT K H a xs) : SqT K H' a xs := by
  rcases h with (h | ⟨o, h⟩) | h
  · exact .inl (.inl (e _ _ h))
  · exact .inl (.inr ⟨o, e _ _ h⟩)
  · exact .inr h
theorem lcp_tup {xs : List V} (p : V → Bool) (f : V → V) (nD : H1 D = none) (hA : SqT K H1 a xs) (hz : xs.length < sizeLine) (ht : ∀ (i : Nat) x H, xs[i]? = some x → Same H1 H → TurnP g tt te vs σ x (f x) (p x) H)
    (hd : ∀ H, Same H1 H → H D = some (.lst ((xs.filter p).map f)) → Qd H) :
    ∃ W : Nat → Nat → Hp → Prop, (∃ m, W 0 m (upd H1 D (.lst []))) ∧ ∀ i m H, W i m H →
      ((Itt K a).stop i H ∧ Qd H) ∨ ((Itt K a).go i H ∧ ∃ Nx : Hp → Prop, (∀ H', Nx H' → ∃ m', m' < m ∧ W (i + 1) m' H') ∧ ∀ x H', (Itt K a).yld i H x H' → g x (wipe σ vs) H' fun σ2 H2 => wipe σ2 vs = wipe σ vs ∧ tt σ2 H2 fun b H3 =>
        if b = true then te σ2 H3 fun y H4 => ∃ acc, H4 D = some (.lst acc) ∧ acc.length < sizeLine ∧ Nx (upd H4 D (.lst (acc ++ [y]))) else Nx H3) := by
  refine lc_tup (xs := xs) (fun i H => PvP H1 D (((xs.take i).filter p).map f) H) ⟨same_new nD, upd_same⟩ (fun i H _ h => Same.sqT h.1 hA) (fun i x H hx h => ?_) (fun H h => ?_)
  · have hi : i < xs.length := (List.getElem?_eq_some_iff.mp hx).1
    exact pvp_turn nD h (Nat.lt_of_le_of_lt (flt_len f p xs i) (Nat.lt_trans hi hz)) (ht i x H hx h.1) _ (take_one f p hx)
  · have h2 := h.2
    rw [List.take_length] at h2
    exact hd H h.1 h2
theorem lcp_range {n : Nat} (p : Nat → Bool) (f : Nat → V) (nD : H1 D = none) (hz : n < sizeLine) (ht : ∀ (i : Nat) H, i < n → Same H1 H → TurnP g tt te vs σ (.int (0 + (i : Int))) (f i) (p i) H)
    (hd : ∀ H, Same H1 H → H D = some (.lst (((List.range n).filter p).map f)) → Qd H) :
    ∃ W : Nat → Nat → Hp → Prop, (∃ m, W 0 m (upd H1 D (.lst []))) ∧ ∀ i m H, W i m H →
      ((Itr 0 n).stop i H ∧ Qd H) ∨ ((Itr 0 n).go i H ∧ ∃ Nx : Hp → Prop, (∀ H', Nx H' → ∃ m', m' < m ∧ W (i + 1) m' H') ∧ ∀ x H', (Itr 0 n).yld i H x H' → g x (wipe σ vs) H' fun σ2 H2 => wipe σ2 vs = wipe σ vs ∧ tt σ2 H2 fun b H3 =>
        if b = true then te σ2 H3 fun y H4 => ∃ acc, H4 D = some (.lst acc) ∧ acc.length < sizeLine ∧ Nx (upd H4 D (.lst (acc ++ [y]))) else Nx H3) := by
  refine lc_range (lo := 0) (n := n) (fun i H => PvP H1 D ((((List.range n).take i).filter p).map f) H) ⟨same_new nD, upd_same⟩ (fun i H hi h => ?_) (fun H h => ?_)
  · have hx : (List.range n)[i]? = some i := List.getElem?_range hi
    exact pvp_turn nD h (Nat.lt_of_le_of_lt (flt_len f p _ i) (Nat.lt_trans hi hz)) (ht i H hi h.1) _ (take_one f p hx)
  · have h2 := h.2
    rw [List.take_of_length_le (by rw [List.length_range]; exact Nat.le_refl _)] at h2
    exact hd H h.1 h2
end
end XT
/-! set(list of ints); sorted(set of ints) of any number -/
namespace XT
open PySem PySem.Spec PyProof.Rows L2
abbrev newS (w : World) : Obj := { cls := .type "set", dict := none, data := .set #[] 0 (.fresh 0 0 (!w.params.followText "set-order")) }
section
variable {P : Program} {w : World} {A : Around} {E : Value → Shared → Prop} {s : Shared}
abbrev afterS (w : World) (s : Shared) (ns : List Int) (r : Value) (s2 : Shared) : Prop :=
  r = .none ∧ ∃ (hp : Heap) (tk c : Nat), s2 = { s with heap := hp, toks := tk } ∧ SetR w hp s.heap.objs.size (fun j => decide (j ∈ ns)) c ∧ c ≤ ns.length ∧ (∀ b o, s.heap.get? b = some o → hp.get? b = some o)
abbrev withS (w : World) (s : Shared) : Shared := { s with heap := s.heap.push (newS w) }
theorem items_at {items : Array Value} {ns : List Int} (hit : IntsAre items.toList ns) (hz : items.size = ns.length) (i : Nat) (v : Value) (hv : items[i]? = some v) : ∃ k t, ns[i]? = some k ∧ v = .int k t := by
  have hi : i < ns.length := by rw [← hz]; exact (Array.getElem?_eq_some_iff.mp hv).1
  obtain ⟨t, e⟩ := IntsAre.int_at hit i v (by rw [Array.getElem?_toList]; exact hv)
  exact ⟨ns[i], t, List.getElem?_eq_getElem hi, by rw [e, List.getD_eq_getElem?_getD, List.getElem?_eq_getElem hi] <;> rfl⟩
theorem set_listI {l : Addr} {items : Array Value} (ns : List Int) {Q : Value → Shared → Prop} (hh : A.handled = none) (hl : s.heap.IsList l items) (hit : IntsAre items.toList ns) (hb : ns.length + 1 < scanBound)
    (h : ∀ (hp : Heap) (tk c : Nat), SetR w hp s.heap.objs.size (fun j => decide (j ∈ ns)) c → c ≤ ns.length → (∀ b o, s.heap.get? b = some o → hp.get? b = some o) → Q (.ref s.heap.objs.size) { s with heap := hp, toks := tk }) :
    wpAny (model P w) A (call (.type "set") [.ref l]) Q E s := by
  have hz : items.size = ns.length := by
    have e := IntsAre.length hit
    rwa [Array.length_toList] at e
  obtain ⟨mc, mt, m0⟩ := F.called_set.mro
  have m1 := F.called_set.made
  have m2 := F.called_set.sub
  have m3 := F.called_set.notType
  have m4 := F.called_set.canCreate
  have m5 := F.typeCall_set_1 (.ref l)
  refine wpAny_call (codeAny_of_tree ?_)
  show wpAny _ _ (callAny (.type "set") _) _ _ _
  refine wpAny_pure ⟨Code.quiet_builtin _ (by decide +kernel), codeAny_builtin F.entry_type_call ?_⟩
  rw [Around.under_plain (weight_type_call_type "set" [.ref l] []) rfl]
  repeat (any_goals (first | assumption | wp_step))
  refine codeAny_mono (code_set_led1 (.ref l) (E := E) (Q₁ := fun v s1 => v = .ref s.heap.objs.size ∧ s1 = withS w s) ⟨rfl, rfl⟩) fun r s1 hr => ?_
  match r, hr with
  | .error e, hr => exact hr
  | .ok .next, hr => exact hr.elim
  | .ok .brk, hr => exact hr.elim
  | .ok .cont, hr => exact hr.elim
  | .ok (.ret v), hr =>
    obtain ⟨rfl, rfl⟩ := hr
    have g0 : (s.heap.push (newS w)).get? s.heap.objs.size = some (newS w) := Heap.get?_push_size _ rfl
    have g1 : Shared.TypeIs (withS w s) (.ref s.heap.objs.size) "set" := ⟨_, g0, rfl⟩
    have g2 := F.called_set.init.lookup
    have g3 := F.called_set.init.bind (.ref s.heap.objs.size)
    repeat (any_goals (first | assumption | wp_step))
    refine codeAny_mono (codeAny_call_builtin (R := wants (afterS w s ns) E) F.called_set.init.plain F.entry_set_init (check_set_init_1 g1 ?_)) fun r2 s2 hr2 => ?_
    · obtain ⟨ol, hol, hcl, nl, hdl⟩ := hl
      obtain ⟨oc, od, odt, osl⟩ := ol
      simp only at hcl hdl
      subst hcl hdl
      have hol1 : (s.heap.push (newS w)).get? l = some { cls := .type "list", dict := od, data := .seq items nl, slots := osl } := Heap.get?_push_of_some _ hol
      have n1 := F.sub_list_set
      have n2 := F.sub_list_frozenset
      have n3 : (Value.type "list" == Value.type "dict") = false := by decide
      have hl1 : (s.heap.push (newS w)).IsList l items := ⟨_, hol1, rfl, nl, rfl⟩
      have lS : l < s.heap.objs.size := Heap.lt_size hol
      have z1 : (s.heap.push (newS w)).objs.size = s.heap.objs.size + 1 := Heap.size_push ..
      unfold Builtin.«set.__init__» noKeywords Builtin.Frozenset.updateFrom
      generalize hPI : pyIter = PI
      wp_walk
      subst hPI
      refine wpAny_pyIter_list hl1 (wpAny_bind (wpAny_runValue ?_))
      refine set_update_ints ((Walks.list (by simp [hh]) _ l (by rw [z1]; exact Nat.ne_of_lt (Nat.lt_succ_of_lt lS)) items).toS) s.heap.objs.size (by rw [z1]; simp only [List.mem_cons, List.not_mem_nil, or_false, not_or]; exact ⟨Nat.ne_of_lt (Nat.lt_succ_self _), Nat.ne_of_gt lS⟩) ns hz hb (items_at hit hz) (items.size - 0) 0 _ (by omega) (Nat.zero_le _)
        ⟨⟨_, Heap.get?_push_size _ rfl, rfl, rfl⟩, hl1.push _⟩ ⟨0, Nat.le_refl 0, setR_new_at (Heap.get?_push_of_some _ g0)⟩ ?_
      intro s3 c hm hc hS
      obtain ⟨h3, ge, dr, tk, os⟩ := s3
      obtain rfl : ge = s.gens := hm.gens
      obtain rfl : dr = s.drawn := hm.drawn
      obtain rfl : os = s.os := hm.os
      show wpAny _ _ _ _ _ _
      refine wpAny_pure ?_
      show wpAny _ _ (ret Value.none) _ _ _
      rw [hz] at hc
      refine wpAny_pure ⟨rfl, h3, tk, c, rfl, hS, hc, fun b o e => ?_⟩
      have b0 : b < s.heap.objs.size := Heap.lt_size e
      exact hm.heap b o (by rw [z1]; simp only [List.mem_cons, List.not_mem_nil, or_false, not_or]; exact ⟨Nat.ne_of_lt b0, Nat.ne_of_lt (Nat.lt_succ_of_lt b0)⟩) (Heap.get?_push_of_some _ (Heap.get?_push_of_some _ e))
    · match r2, hr2 with
      | .error e, hr2 => exact hr2
      | .ok .next, hr2 => exact hr2.elim
      | .ok .brk, hr2 => exact hr2.elim
      | .ok .cont, hr2 => exact hr2.elim
      | .ok (.ret v), hr2 =>
        obtain ⟨rfl, hp, tk, c, rfl, hS, hc, hk⟩ := hr2
        repeat (any_goals (first | assumption | wp_step))
        exact h _ _ _ hS hc hk
end
end XT
namespace XT
open PySem PySem.Spec PyProof.Rows L2
section
variable {P : Program} {w : World} {A : Around} {E : Value → Shared → Prop} {s : Shared} {a : Addr}
theorem iv_raw (v : Value) (h : ∃ k t, v = Value.int k t) : SrtO.iv v = Builtin.Re.reRawOf v := by
  obtain ⟨k, t, rfl⟩ := h
  rfl
/-- sorted(set of ints), however many -/
theorem sorted_setN {S : Int → Bool} {n : Nat} {Q : Value → Shared → Prop} (R : SetR w s.heap a S n) (hh : A.handled = none)
    (hQ : ∀ s2 p (out : List Value) (c : Nat) (ns : List Int), (∀ b o, s.heap.get? b = some o → s2.heap.get? b = some o) → s2.gens = s.gens → s2.os = s.os → s.heap.objs.size ≤ p →
      s2.heap.get? p = some (seqObj "list" out.toArray c) → IntsAre out ns → ns.Pairwise (· < ·) → (∀ k, k ∈ ns ↔ S k = true) → ns.length = n → Q (.ref p) s2) :
    wpAny (model P w) A (call (.builtin "sorted") [.ref a]) Q E s := by
  obtain ⟨o, es, ep, t, ho, hex, hd, g, nd, hm, hb, hf, hn, hr, hl⟩ := R
  refine Calls.call_function_entry kind_sorted plain_sorted entry_sorted (args_sorted1 _) ?_
  unfold Builtin.«sorted»
  refine wpAny_bind (m := checkCount "sorted" 1 1 _) (wpAny_pure (wpAny_bind (collect_set (A := A.in1) hh ⟨o, ho, hex.1, hd⟩ hf hb hr hl fun s1 vs k1 hz g1 o1 pm => ?_)))
  have vl : vs.length = n := by rw [pm.length_eq, List.length_map, Array.length_toList]; exact hn
  have n0 : n ≤ sizeLine := by rw [sizeLine_eq]; unfold scanBound at hb; omega
  have allI : ∀ v ∈ vs, ∃ k t, v = Value.int k t := fun v hv => by
    obtain ⟨e, he, q⟩ := List.mem_map.mp (pm.mem_iff.mp hv)
    obtain ⟨k, tk, h1, _⟩ := g e he
    exact ⟨k, tk, by rw [← q]; exact h1⟩
  have hI : IntsAre vs (vs.map SrtO.iv) := SrtO.ints_iv allI
  have pk : (vs.map SrtO.iv).Perm (es.toList.map keyOf) := by
    have e1 : vs.map SrtO.iv = vs.map Builtin.Re.reRawOf := List.map_congr_left fun v hv => iv_raw v (allI v hv)
    have q := pm.map Builtin.Re.reRawOf
    rw [List.map_map] at q
    rw [e1]
    exact q
  refine wpAny_bind (wpAny_newList ?_ (by rw [vl]; exact n0))
  have hoL : (s1.heap.push (seqObj "list" vs.toArray 0)).get? s1.heap.objs.size = some (seqObj "list" vs.toArray 0) := Heap.get?_push_size _ rfl
  refine wpAny_bind (wpAny_holding (wpAny_call_entry slot_list_sort ⟨_, hoL, rfl⟩ entry_list_sort (SrtO.list_sort_ord SrtO.swo_int hoL (by rw [vl]; exact n0) (fun h2 => SrtO.ints_sortable hI h2) fun out a1 a2 => ⟨_, rfl, ?_⟩) (args_list_sort _)))
  obtain ⟨j1, j2, j3⟩ := SrtO.ints_out hI a1 a2
  obtain ⟨c, hc⟩ := sortedHeap_at (vs := vs) (out := out.toArray) hoL
  have pn := j2.trans pk
  refine wpAny_pure ⟨_, rfl, hQ _ s1.heap.objs.size out c _ (fun b u e => ?_) g1 o1 hz hc j1 (lt_of_le_nodup _ j3 (pn.nodup_iff.mpr nd)) (fun k => by rw [pn.mem_iff, ← hm k]) ?_⟩
  · have q := k1 b u e
    have lt := Heap.lt_size q
    show (sortedHeap (s1.heap.push (seqObj "list" vs.toArray 0)) s1.heap.objs.size vs out.toArray).get? b = some u
    rw [sortedHeap_old (Nat.ne_of_lt lt) (by rw [size_push']; exact Nat.lt_succ_of_lt lt)]
    exact Heap.get?_push_of_some _ q
  · rw [pn.length_eq, List.length_map, Array.length_toList]; exact hn
end
section
variable {X : Cx}
/-- set(xs), a list of ints -/
def rSetL (K : PySem.W.Frag) (w : World) : List V → Hp → VK → Prop := fun vs H Q => ∃ (a : Addr) (ns : List Int), vs = [V.ref a] ∧ SqL K H a (ns.map V.int) ∧ ns.length ≤ 1000 ∧
  ∀ (p : Addr) (c : Nat), H p = none → Q (.ref p) (upd H p (SetO w p (fun j => decide (j ∈ ns)) c))
theorem cr_setL (hc : X.calm = true) : CallR X (.type "set") (XT.rSetL X.K X.w) := by
  intro pins s σ H vs us Q I r h
  obtain ⟨a, ns, rfl, hs, hn, q⟩ := h
  obtain ⟨its, rv, hl, hz⟩ := I.list hs
  rw [Vals.ref1 r]
  refine set_listI ns (I.ok.hd hc) hl.isList (by simpa using rv.ints) (by unfold scanBound; omega) fun hp tk c hS hcn hk => ?_
  exact ⟨.ref _, _, I.laid (t' := tk) hk (Nat.le_refl _) (setO_new hS), rfl, q _ c (I.hok.fresh (Nat.le_refl _))⟩
/-- sorted(found) -/
def rSortS (w : World) : List V → Hp → VK → Prop := fun vs H Q => ∃ (a : Addr) (S : Int → Bool) (n : Nat), vs = [V.ref a] ∧ H a = some (SetO w a S n) ∧
  ∀ (ns : List Int) (p : Addr), ns.Pairwise (· < ·) → (∀ k : Int, k ∈ ns ↔ S k = true) → H p = none → Q (.ref p) (upd H p (.lst (ns.map V.int)))
theorem cr_sortS (hc : X.calm = true) : CallR X (.builtin "sorted") (rSortS X.w) := by
  intro pins s σ H vs us Q I r h
  obtain ⟨a, S, n, rfl, ha, q⟩ := h
  have R := setO_get I ha
  have n0 : n ≤ sizeLine := by
    obtain ⟨_, _, _, _, _, _, _, _, _, _, hb, _, hn, _⟩ := R
    rw [sizeLine_eq]; unfold scanBound at hb; omega
  rw [Vals.ref1 r]
  refine sorted_setN R (I.ok.hd hc) fun s2 p out c ns k g o hp hg hi hs hm hl => ?_
  have hn : H p = none := I.hok.fresh hp
  have J : Inv X pins σ (upd H p (.lst (ns.map V.int))) { s with heap := s2.heap, gens := s2.gens, drawn := s2.drawn, toks := s2.toks } :=
    I.call (ch := []) (Un.laid k hp hn) (I.hok.laid k hp ⟨by rw [List.length_map, hl]; exact n0, out, c, vals_of_ints hi, hg⟩) (by rw [g]; exact I.bare) (fun _ z => nomatch z)
  have e : s2 = { s with heap := s2.heap, gens := s2.gens, drawn := s2.drawn, toks := s2.toks } := by
    cases s2; cases s; cases o; rfl
  rw [e]
  exact ⟨.ref p, _, J, rfl, q ns p hs hm hn⟩
end
end XT
/-! for i, x in enumerate(t), t a tuple -/
namespace XT
open PySem PySem.Spec PyProof.Rows L2
abbrev enO (it : Addr) : Obj := { cls := .type "enumerate", data := .fields #[.none, .bool false, .ref it, rawInt 0, .none, .none] }
abbrev tiO (t : Addr) : Obj := { cls := .type "tuple_iterator", data := .fields #[.ref t, .int 0 0] }
theorem newEnumT (t : Addr) (items : Array Value) : Meets (Builtin.«enumerate.__new__» ⟨[.type "enumerate", .ref t], []⟩)
    (fun _ R s => s.heap.IsTuple t items ∧ R (.ok (.ret (.ref (s.heap.push (tiO t)).objs.size))) { s with heap := (s.heap.push (tiO t)).push (enO s.heap.objs.size) }) :=
  .of_wp fun prog w A R s h => by
    obtain ⟨hp, ge, dr, tk, os⟩ := s
    obtain ⟨h1, h2⟩ := h
    have sb := sub_enumerate
    have q : ∀ {A2 : Around} {E : Value → Shared → Prop} {Q : Value → Shared → Prop}, Q (.ref hp.objs.size) ⟨hp.push (tiO t), ge, dr, tk, os⟩ → wpAny (model prog w) A2 (pyIter (.ref t)) Q E ⟨hp, ge, dr, tk, os⟩ :=
      fun z => wpAny_pyIter_tuple (s := ⟨hp, ge, dr, tk, os⟩) h1 z
    wp_walk using q
    refine wpAny_stack_any fun st => wpAny_pure ?_
    split
    · rename_i c _ _ _ _ _
      cases (c == Value.type "enumerate") <;> (wp_walk using q; exact ⟨_, rfl, h2⟩)
    · wp_walk using q
      exact ⟨_, rfl, h2⟩
section
variable {prog : Program} {w : World} {A : Around} {E : Value → Shared → Prop} {s : Shared}
theorem call_enumT {t : Addr} {items : Array Value} {Q : Value → Shared → Prop} (hT : s.heap.IsTuple t items)
    (h : ∀ hp, IsEnum hp (s.heap.objs.size + 1) s.heap.objs.size 0 .none → hp.IsTupleIter s.heap.objs.size t 0 → (∀ b o, s.heap.get? b = some o → hp.get? b = some o) → Q (.ref (s.heap.objs.size + 1)) { s with heap := hp }) :
    wpAny (model prog w) A (call (.type "enumerate") [.ref t]) Q E s := by
  refine callType_new F.called_enumerate (by decide) (F.typeCall_enumerate_1 _) (F.newCall_enumerate_1 _) (fun obj => F.args_object_init_2 obj _) F.entry_enumerate_new (newEnumT t items) ⟨hT, ?_⟩
  have z : (s.heap.push (tiO t)).objs.size = s.heap.objs.size + 1 := Heap.size_push ..
  have e0 := Heap.get?_push_size (s.heap.push (tiO t)) (o := enO s.heap.objs.size) rfl
  rw [z] at e0
  show _ ∧ _
  rw [z]
  exact ⟨⟨_, e0, rfl⟩, h _ e0 ⟨_, Heap.get?_push_of_some _ (Heap.get?_push_size _ rfl), rfl, rfl⟩ fun b o x => Heap.get?_push_of_some _ (Heap.get?_push_of_some _ x)⟩
end
/-- the tuple at a, its items in new pairs with their places -/
def ItT (K : PySem.W.Frag) (a : Addr) : It :=
  ⟨fun i H => ∃ (xs : List V) (x : V), SqT K H a xs ∧ xs[i]? = some x,
   fun i H v H2 => ∃ T x, v = .ref T ∧ H T = none ∧ H2 = upd H T (.tup [.int (i : Nat), x]) ∧ ∀ xs, SqT K H a xs → xs[i]? = some x,
   fun i H => ∃ xs : List V, SqT K H a xs ∧ xs.length = i⟩
theorem turn_enumT {P : Program} {w : World} {K : PySem.W.Frag} {elts : List Expr} {kk : Nat} {tpos : Pos} (a e it : Addr) (hne : e ≠ it) (hai : a ≠ it) (hae : e ≠ a) :
    Turn P w K (.Tuple elts kk tpos) (ItT K a) [e, it] e (fun i h => (∃ old, IsEnum h e it ((i : Nat) : Int) old) ∧ h.IsTupleIter it a i) where
  mem := List.mem_cons_self
  obj := fun i h st b hb => by
    obtain ⟨⟨old, he⟩, ⟨o, ho, hc, hd⟩⟩ := st
    rcases List.mem_cons.mp hb with z | z
    · rw [z]; exact ⟨_, he, fun v q => nomatch q⟩
    · rw [List.mem_singleton.mp z]; exact ⟨o, ho, fun v q => by rw [hd] at q; cases q⟩
  keep := fun i h h2 st k => ⟨let ⟨old, he⟩ := st.1; ⟨old, k e (by simp) _ he⟩, st.2.at fun o q => k it (by simp) o q⟩
  item := by
    intro X hP hw hK hc i pins s σ H E I hf st hg
    subst hP hw hK
    obtain ⟨⟨old, he⟩, hit⟩ := st
    obtain ⟨xs, x, hq, hx⟩ := hg
    obtain ⟨its, rv, p, hz⟩ := I.tuple hq
    obtain ⟨u, hu, ru⟩ := rv.get hx
    have p' : s.heap.IsTuple a its.toArray := p
    have el : e < s.heap.objs.size := Heap.lt_size he
    have il : it < s.heap.objs.size := by obtain ⟨_, q, _⟩ := hit; exact Heap.lt_size q
    have hi : i < its.toArray.size := by
      rw [List.size_toArray]; exact (List.getElem?_eq_some_iff.mp hu).1
    refine wpAny_pyNext_enum_itemD (Draws.tuple (A := X.A.in1) (I.ok.hd hc) it a hai its.toArray) he ⟨hit, p'⟩ hi hne (by simp [hne, hae]) fun y h1 tk hy ho hit1 hT hsz hk => ?_
    have ey : y = u := by
      have q : its.toArray[i]? = some u := by simpa using hu
      exact Option.some.inj (hy.symm.trans q)
    subst ey
    refine ⟨_, rfl, wpAny_letOwnedTupleGo_enum (s := { s with heap := h1, toks := tk + 1 }) ho fun h2 he2 sb => ?_⟩
    have gT : h2.get? s.heap.objs.size = some { cls := .type "tuple", data := .seq #[.int i tk, y] } := (sb.2 _ (Nat.ne_of_gt el)).trans hT
    have new : ObjOk X.prog X.w (upd H s.heap.objs.size (.tup [.int (i : Nat), x])) h2 s.heap.objs.size (.tup [.int (i : Nat), x]) :=
      ⟨sz (n := 2) (by decide), [.int i tk, y], .cons ⟨_, rfl⟩ (.cons ru .nil), ⟨_, gT, rfl, _, rfl⟩⟩
    have J := I.turnedNew (t' := tk + 1) (ch := [e, it]) (fun b ob hb q => (sb.2 b (fun z => hb (by simp [z]))).trans (hk b ob (fun z => hb (by simp [z])) (fun z => hb (by simp [z])) q)) hf (Nat.le_refl _) new
    refine ⟨.ref s.heap.objs.size, _, J, rfl, ⟨_, x, rfl, I.hok.fresh (Nat.le_refl _), rfl, fun ys hy => by rw [I.tuple_inj hy hq]; exact hx⟩, ⟨⟨y, ?_⟩, hit1.1.at fun o q => (sb.2 it (Ne.symm hne)).trans q⟩, fun b hb => ?_⟩
    · rw [show ((i + 1 : Nat) : Int) = (i : Int) + 1 by omega]; exact he2
    · have hb2 : b < s.heap.objs.size := by
        rcases List.mem_cons.mp hb with z | z
        · rw [z]; exact el
        · rw [List.mem_singleton.mp z]; exact il
      rw [upd_ne (Nat.ne_of_lt hb2)]
      exact (hf b hb).1
  done := by
    intro X hP hw hK hc i pins s σ H E I hf st hg
    subst hP hw hK
    obtain ⟨⟨old, he⟩, hit⟩ := st
    obtain ⟨xs, hq, hx⟩ := hg
    obtain ⟨its, rv, p, hz⟩ := I.tuple hq
    obtain ⟨f0, f1, f2, f3, f4, f5⟩ := hf it (by simp)
    have hl : its.toArray.size = i := by rw [List.size_toArray, ← rv.length]; exact hx
    have D := Draws.tuple (prog := X.prog) (w := X.w) (A := X.A.in1) (I.ok.hd hc) it a hai its.toArray
    rw [hl] at D
    exact wpAny_pyNext_enum_endD D he ⟨hit, p⟩ fun h2 eb => ⟨rfl, I.turned (t' := s.toks) (fun b o hb q => eb b o hb q) f0 f1 f3 f4 f5⟩
  self := fun A i s Q E st h => let ⟨⟨_, he⟩, _⟩ := st; wpAny_pyIter_enum he h
def iEnT (K : PySem.W.Frag) (ta : TA) : TI := fun σ H R => ta σ H fun vs H1 => ∃ a xs, vs = [.ref a] ∧ SqT K H1 a xs ∧ R (ItT K a) H1
theorem pi_enumT {X : Cx} {e : Expr} {ta : TA} {p pos tpos : Pos} {elts : List Expr} {kk : Nat} (hg : Gl X "enumerate") (hm : X.mg "enumerate" = none) (ha : PA X [e] ta) (hs : starEach [e] X.env = [(false, eval e X.env)] := by rfl) :
    PI X (.Tuple elts kk tpos) (.Call (.Name "enumerate" p) [e] [] pos) (iEnT X.K ta) := by
  refine ⟨fun pins s σ H R I h => Call_ (ld_blt I hg hm boot_enumerate (callWith_type1 (thn (ha.run pos pins s σ H _ I h) fun us s1 ⟨vs, H1, I1, r1, q1⟩ => ?_) hs rfl))⟩
  obtain ⟨a, xs, ex, hq, q⟩ := q1
  subst ex
  obtain ⟨u, rfl, ru⟩ := vals1 r1
  cases (show u = Value.ref a from ru)
  obtain ⟨its, rv, p2, hz⟩ := I1.tuple hq
  have al : a < s1.heap.objs.size := by obtain ⟨o, ho, _⟩ := p2; exact Heap.lt_size ho
  refine call_enumT (items := its.toArray) p2 fun hp he hit hk => wpAny_pyIter_enum he ?_
  have I2 : Inv X pins σ H1 { s1 with heap := hp } := I1.kept (t' := s1.toks) hk
  refine ⟨s1.heap.objs.size + 1, [s1.heap.objs.size + 1, s1.heap.objs.size], _, _, H1, rfl, I2, turn_enumT a (s1.heap.objs.size + 1) s1.heap.objs.size (Nat.succ_ne_self _) (Nat.ne_of_lt al) (Nat.ne_of_gt (Nat.lt_succ_of_lt al)), ⟨⟨.none, he⟩, hit⟩, fun b hb => ?_, q⟩
  have hle : s1.heap.objs.size ≤ b := by
    rcases List.mem_cons.mp hb with z | z
    · rw [z]; exact Nat.le_succ _
    · rw [List.mem_singleton.mp z]; exact Nat.le_refl _
  exact I1.fpOk hle (I1.hok.fresh hle)
end XT
/-! lots as lists of numbers -/
namespace XT
open PySem PySem.Spec PyProof.Rows L2
def lotOf (w : Nat) (P : Nat → Bool) : List Nat := (List.range (2 ^ w)).filter P
def vm (ms : List Nat) : List V := ms.map fun (m : Nat) => V.int (m : Int)
theorem mem_lot {w : Nat} {P : Nat → Bool} {m : Nat} : m ∈ lotOf w P ↔ m < 2 ^ w ∧ P m = true := by
  unfold lotOf
  rw [List.mem_filter, List.mem_range]
theorem lot_congr {w : Nat} {P P' : Nat → Bool} (h : ∀ m, m < 2 ^ w → P m = P' m) : lotOf w P = lotOf w P' := by
  unfold lotOf
  exact List.filter_congr fun m hm => h m (List.mem_range.mp hm)
theorem pow6 {w : Nat} (h : w ≤ 6) : 2 ^ w ≤ 64 := by
  have : w = 0 ∨ w = 1 ∨ w = 2 ∨ w = 3 ∨ w = 4 ∨ w = 5 ∨ w = 6 := by omega
  rcases this with rfl | rfl | rfl | rfl | rfl | rfl | rfl <;> decide
theorem pow0 (w : Nat) : 0 < 2 ^ w := Nat.pow_pos (by decide)
theorem lot_len {w : Nat} (h : w ≤ 6) (P : Nat → Bool) : (lotOf w P).length ≤ 64 := by
  refine Nat.le_trans (List.length_filter_le _ _) ?_
  rw [List.length_range]
  exact pow6 h
theorem vm_len (ms : List Nat) : (vm ms).length = ms.length := List.length_map _
/-- two rising lists with the same members are one -/
theorem rising_eq : ∀ {l m : List Int}, l.Pairwise (· < ·) → m.Pairwise (· < ·) → (∀ k, k ∈ l ↔ k ∈ m) → l = m
  | [], [], _, _, _ => rfl
  | [], b :: m, _, _, h => absurd ((h b).mpr List.mem_cons_self) (by simp)
  | a :: l, [], _, _, h => absurd ((h a).mp List.mem_cons_self) (by simp)
  | a :: l, b :: m, hl, hm, h => by
    obtain ⟨l1, l2⟩ := List.pairwise_cons.mp hl
    obtain ⟨m1, m2⟩ := List.pairwise_cons.mp hm
    have e : a = b := by
      rcases List.mem_cons.mp ((h a).mp List.mem_cons_self) with e | e
      · exact e
      · rcases List.mem_cons.mp ((h b).mpr List.mem_cons_self) with e' | e'
        · exact e'.symm
        · have := m1 a e
          have := l1 b e'
          omega
    subst e
    congr 1
    refine rising_eq l2 m2 fun k => ⟨fun hk => ?_, fun hk => ?_⟩
    · rcases List.mem_cons.mp ((h k).mp (List.mem_cons_of_mem _ hk)) with e | e
      · have := l1 k hk
        omega
      · exact e
    · rcases List.mem_cons.mp ((h k).mpr (List.mem_cons_of_mem _ hk)) with e | e
      · have := m1 k hk
        omega
      · exact e
theorem range_rising (n : Nat) : ((List.range n).map fun (m : Nat) => (m : Int)).Pairwise (· < ·) := by
  rw [List.pairwise_map]
  exact List.pairwise_lt_range.imp fun h => by omega
theorem lot_rising (w : Nat) (P : Nat → Bool) : ((lotOf w P).map fun (m : Nat) => (m : Int)).Pairwise (· < ·) := by
  unfold lotOf
  have h := List.pairwise_map.mp (range_rising (2 ^ w))
  rw [List.pairwise_map]
  exact h.filter _
theorem rising_lot {w : Nat} {P : Nat → Bool} {ns : List Int} (h : ns.Pairwise (· < ·)) (hm : ∀ k, k ∈ ns ↔ ∃ m : Nat, k = m ∧ m < 2 ^ w ∧ P m = true) : ns.map V.int = vm (lotOf w P) := by
  have e : ns = (lotOf w P).map fun (m : Nat) => (m : Int) := rising_eq h (lot_rising w P) fun k => by
    rw [hm k, List.mem_map]
    constructor
    · rintro ⟨m, rfl, h1, h2⟩
      exact ⟨m, mem_lot.mpr ⟨h1, h2⟩, rfl⟩
    · rintro ⟨m, h1, rfl⟩
      exact ⟨m, rfl, mem_lot.mp h1⟩
  rw [e, List.map_map]
  rfl
theorem vm_ints (ms : List Nat) : vm ms = (ms.map fun (m : Nat) => (m : Int)).map V.int := by
  unfold vm
  rw [List.map_map]
  rfl
theorem vm_flat (ms : List Nat) : (vm ms).all flatV = true := by
  rw [List.all_eq_true]
  intro v hv
  obtain ⟨m, _, rfl⟩ := List.mem_map.mp hv
  rfl
theorem in_vm (k : Nat) (ms : List Nat) : inV (.int (k : Int)) (vm ms) = decide (k ∈ ms) := by
  rw [Bool.eq_iff_iff, decide_eq_true_iff]
  unfold inV
  rw [List.any_eq_true]
  constructor
  · rintro ⟨v, hv, e⟩
    obtain ⟨m, hm, rfl⟩ := List.mem_map.mp hv
    have e' : ((m : Int) == (k : Int)) = true := e
    have : (m : Int) = k := by simpa using e'
    have : m = k := by omega
    rw [← this]
    exact hm
  · intro h
    exact ⟨_, List.mem_map.mpr ⟨k, h, rfl⟩, by show ((k : Int) == (k : Int)) = true; simp⟩
theorem in_lot {w : Nat} {P : Nat → Bool} {k : Nat} (hk : k < 2 ^ w) : inV (.int (k : Int)) (vm (lotOf w P)) = P k := by
  rw [in_vm, Bool.eq_iff_iff, decide_eq_true_iff, mem_lot]
  exact ⟨fun h => h.2, fun h => ⟨hk, h⟩⟩
/-- a lot -/
def LotAt (H : Hp) (v : V) (w : Nat) (P : Nat → Bool) : Prop := ∃ p q, v = .ref p ∧ H p = some (.tup [.int (w : Int), .ref q]) ∧ H q = some (.tup (vm (lotOf w P)))
theorem LotAt.same {H H' : Hp} {v : V} {w : Nat} {P : Nat → Bool} (h : LotAt H v w P) (e : Same H H') : LotAt H' v w P := by
  obtain ⟨p, q, rfl, h1, h2⟩ := h
  exact ⟨p, q, rfl, e _ _ h1, e _ _ h2⟩
theorem LotAt.keep {S : Sm} {H H' : Hp} {t : Int} {v : V} {w : Nat} {P : Nat → Bool} (h : LotAt H v w P) (k : Keep S H H') (st : Strm S H t) : LotAt H' v w P := by
  obtain ⟨p, q, rfl, h1, h2⟩ := h
  exact ⟨p, q, rfl, k.tup st h1, k.tup st h2⟩
theorem LotAt.congr {H : Hp} {v : V} {w : Nat} {P P' : Nat → Bool} (h : LotAt H v w P) (e : ∀ m, m < 2 ^ w → P m = P' m) : LotAt H v w P' := by
  obtain ⟨p, q, rfl, h1, h2⟩ := h
  exact ⟨p, q, rfl, h1, by rw [← lot_congr e]; exact h2⟩
def dLot (w : Nat) (P : Nat → Bool) : PyData := .tuple [.int (w : Int), .tuple ((lotOf w P).map fun (m : Nat) => .int (m : Int))]
theorem dpVm {K : PySem.W.Frag} {H : Hp} : ∀ ms : List Nat, DpAll K H (vm ms) (ms.map fun (m : Nat) => .int (m : Int))
  | [] => .nil
  | m :: ms => .cons (.int m) (dpVm ms)
theorem LotAt.dp {K : PySem.W.Frag} {H : Hp} {v : V} {w : Nat} {P : Nat → Bool} (h : LotAt H v w P) : Dp K H v (dLot w P) := by
  obtain ⟨p, q, rfl, h1, h2⟩ := h
  exact .tup (SqT.of h1) (.cons (.int _) (.cons (.tup (SqT.of h2) (dpVm _)) .nil))
theorem ints_lay : ∀ ms : List Nat, PyData.canLayAll0 (ms.map fun (m : Nat) => PyData.int (m : Int)) = true
  | [] => rfl
  | m :: ms => by
    have h := ints_lay ms
    simpa [PyData.canLayAll0, PyData.canLay0] using h
theorem ints_depth : ∀ ms : List Nat, PyData.depthAll (ms.map fun (m : Nat) => PyData.int (m : Int)) ≤ 1
  | [] => by decide
  | m :: ms => by
    have h := ints_depth ms
    simp only [PyData.depthAll, PyData.depth, List.map] at h ⊢
    omega
theorem dLot_shaped (w : Nat) (P : Nat → Bool) : SeqAt.shaped (dLot w P) = true := by
  have h1 : PyData.canLay0 (dLot w P) = true := by
    have h := ints_lay (lotOf w P)
    simp [dLot, PyData.canLay0, PyData.canLayAll0, h]
  have h2 : PyData.depth (dLot w P) ≤ 64 := by
    have h := ints_depth (lotOf w P)
    simp only [dLot, PyData.depth, PyData.depthAll]
    omega
  unfold SeqAt.shaped
  rw [h1, decide_eq_true h2]
  rfl
theorem eqv_ints : ∀ ms : List Nat, PyData.eqvAll (ms.map fun (m : Nat) => PyData.int (m : Int)) (ms.map fun (m : Nat) => PyData.int (m : Int)) = true
  | [] => rfl
  | m :: ms => by
    have h := eqv_ints ms
    simp [PyData.eqvAll, PyData.eqv, h]
theorem eqv_lot {w : Nat} {P P' : Nat → Bool} (h : ∀ m, m < 2 ^ w → P m = P' m) : PyData.eqv (dLot w P) (dLot w P') = true := by
  unfold dLot
  rw [lot_congr h]
  simp [PyData.eqv, PyData.eqvAll, eqv_ints]
/-- a != b, two lots that are one -/
theorem ne_lot {K : PySem.W.Frag} {H : Hp} {x y : V} {w : Nat} {P P' : Nat → Bool} {Q : VK} (hx : LotAt H x w P) (hy : LotAt H y w P') (h : ∀ m, m < 2 ^ w → P m = P' m) (q : Q (.bl false) H) : rNeD K x y H Q := by
  refine ⟨_, _, hx.dp, hy.dp, dLot_shaped _ _, dLot_shaped _ _, ?_⟩
  rw [eqv_lot h]
  exact q
end XT
/-! the program's own defs -/
namespace XT
open PySem PySem.Spec PyProof.Rows L2
def DefR (P : Program) (w : World) (K : PySem.W.Frag) (mg : Str → Option Value) (base : Heap) (k : Nat) (x : Str) (sp : Sp) : Prop :=
  ∃ f, FnR P w K mg base CX0 k f sp ∧ mg x = some (.ref f) ∧ PySem.W.keepIn K (.ref f) = true
theorem DefR.of {P : Program} {w : World} {K : PySem.W.Frag} {mg : Str → Option Value} {base : Heap} {k : Nat} {x : Str} {sp : Sp} {f : Addr} {fd : FuncData} {ps : List Str}
    (F : FnOk P w K mg base CX0 k f fd ps sp) (b : Binds K fd ps []) (hm : mg x = some (.ref f)) (hk : PySem.W.keepIn K (.ref f) = true) : DefR P w K mg base k x sp :=
  ⟨f, (FnOk.raw F b .nil).imp fun vs H Q E h => by rw [List.append_nil]; exact h, hm, hk⟩
section
variable {X : Cx}
/-- f(e, ..) -/
theorem pe_def {j : Nat} {x : Str} {sp : Sp} {e : Expr} {es : List Expr} {t : TA} {p pos : Pos} (D : DefR X.prog X.w X.K X.mg X.base j x sp) (hr : Room j X.A) (hg : Gl X x) (ha : PA X (e :: es) t)
    (hdb : (x == ("__debug__" : Str)) = false := by decide) (he : starEach (e :: es) X.env = (false, eval e X.env) :: starEach es X.env := by rfl) (hpl : (backTo pos (starEach es X.env)).any (·.1) = false := by rfl) :
    PE X (.Call (.Name x p) (e :: es) [] pos) (fun σ H Q => t σ H fun vs H1 => sp vs H1 Q E0) := by
  obtain ⟨f, F, hm, hk⟩ := D
  refine ⟨fun pins s σ H Q I h => wpAny_Call_Name_kw (ld_glob I hg hm ?_ hdb)⟩
  refine PySem.W.callWith_K (h₀ := X.base) I.ok.mod.kin hk (thn (ha.run pos pins s σ H _ I h) fun us s1 ⟨vs, H1, I1, r, q⟩ => ⟨I1.kIn, ?_⟩) he hpl
  refine wpAny_call (codeAny_mono (run_fnR F hr pass0 I1 r q) fun r s2 z => ?_)
  match r, z with
  | .ok (.ret v), z => exact z
  | .ok .next, z => exact z.elim
  | .ok .brk, z => exact z.elim
  | .ok .cont, z => exact z.elim
  | .error e, z => exact z
end
theorem bT : bootBuiltins "tuple" = some (.type "tuple") := by decide +kernel
theorem bS : bootBuiltins "sorted" = some (.builtin "sorted") := by decide +kernel
theorem bI : bootBuiltins "isinstance" = some (.builtin "isinstance") := by decide +kernel
theorem bInt : bootBuiltins "int" = some (.type "int") := by decide +kernel
theorem bBool : bootBuiltins "bool" = some (.type "bool") := by decide +kernel
theorem bSet : bootBuiltins "set" = some (.type "set") := by decide +kernel
theorem bAll : bootBuiltins "all" = some (.builtin "all") := by decide +kernel

section
variable {P : Program} {w : World} {K : PySem.W.Frag} {mg : Str → Option Value} {base : Heap}
/-- the module's names that are still the built-in ones -/
structure Bl (mg : Str → Option Value) : Prop where
  len : mg "len" = none
  abs : mg "abs" = none
  tuple : mg "tuple" = none
  sorted : mg "sorted" = none
  isinstance : mg "isinstance" = none
  int : mg "int" = none
  bool : mg "bool" = none
  set : mg "set" = none
  all : mg "all" = none
  range : mg "range" = none
  enumerate : mg "enumerate" = none

theorem shl1 (n : Nat) : (1 : Int) * 2 ^ ((n : Int).toNat) = ((2 ^ n : Nat) : Int) := by
  rw [Int.toNat_natCast, Int.one_mul]
  norm_cast
theorem cpow {n : Nat} (h : n ≤ 6) : CPow 1 (n : Int) := ⟨by omega, by omega, by decide⟩
theorem xor_lt {a b n : Nat} (ha : a < 2 ^ n) (hb : b < 2 ^ n) : a ^^^ b < 2 ^ n := Nat.xor_lt_two_pow ha hb
theorem bx (a b : Nat) : Builtin.bitXor (a : Int) (b : Int) = ((a ^^^ b : Nat) : Int) := by
  rw [Bits.bitXor_pp (by omega) (by omega)]
  rfl
end
end XT
namespace XT
open PySem PySem.Spec PyProof.Rows L2
theorem lot_filter (n : Nat) (p q : Nat → Bool) : (lotOf n p).filter q = lotOf n (fun m => p m && q m) := by
  unfold lotOf
  rw [List.filter_filter]
  refine List.filter_congr fun m _ => ?_
  rw [Bool.and_comm]
theorem vm_filter (ms : List Nat) (q : Nat → Bool) (r : V → Bool) (h : ∀ m ∈ ms, r (.int (m : Int)) = q m) : ((vm ms).filter r).map id = vm (ms.filter q) := by
  unfold vm
  rw [List.map_id, List.filter_map]
  congr 1
  exact List.filter_congr fun m hm => h m hm
theorem mem_vm {ms : List Nat} {i : Nat} {v : V} (h : (vm ms)[i]? = some v) : ∃ m, ms[i]? = some m ∧ v = .int (m : Int) := by
  unfold vm at h
  rw [List.getElem?_map] at h
  obtain ⟨m, h1, h2⟩ := Option.map_eq_some_iff.mp h
  exact ⟨m, h1, h2.symm⟩
/-- for i, x in enumerate(t) -/
theorem for_enumT {K : PySem.W.Frag} {a : Addr} {xs : List V} {g : TG} {tb : TS} {D : Ends} {σ : L2.St} {H : Hp} (Pv : Nat → L2.St → Hp → Prop) (h0 : Pv 0 σ H) (hl : ∀ i σ H, i ≤ xs.length → Pv i σ H → SqT K H a xs)
    (hs : ∀ i x σ H T, xs[i]? = some x → Pv i σ H → H T = none → g (.ref T) σ (upd H T (.tup [.int (i : Nat), x])) fun σ2 H2 => tb { D with nx := Pv (i + 1), ct := Pv (i + 1), bk := D.nx } σ2 H2) (hd : ∀ σ H, Pv xs.length σ H → D.nx σ H) :
    ∃ W : Nat → Nat → L2.St → Hp → Prop, (∃ m, W 0 m σ H) ∧ ∀ i m σ H, W i m σ H →
      ((ItT K a).stop i H ∧ D.nx σ H) ∨ ((ItT K a).go i H ∧ ∃ N : L2.St → Hp → Prop, (∀ σ' H', N σ' H' → ∃ m', m' < m ∧ W (i + 1) m' σ' H') ∧ ∀ x H', (ItT K a).yld i H x H' → g x σ H' fun σ2 H2 => tb { D with nx := N, ct := N, bk := D.nx } σ2 H2) := by
  refine ⟨fun i m σ H => m = xs.length - i ∧ i ≤ xs.length ∧ Pv i σ H, ⟨xs.length, by simp, Nat.zero_le _, h0⟩, ?_⟩
  rintro i m σ H ⟨rfl, hi, p⟩
  have q := hl i σ H hi p
  rcases Nat.lt_or_ge i xs.length with lt | ge
  · refine .inr ⟨⟨xs, xs[i], q, List.getElem?_eq_getElem lt⟩, Pv (i + 1), fun σ' H' p' => ⟨xs.length - (i + 1), by omega, rfl, lt, p'⟩, fun v H' y => ?_⟩
    obtain ⟨T, x, rfl, nT, rfl, fx⟩ := y
    exact hs i x σ H T (fx xs q) p nT
  · have e : i = xs.length := by omega
    subst e
    exact .inl ⟨⟨xs, q, rfl⟩, hd σ H p⟩
theorem r62 {n : Nat} (h : n ≤ 6) : ((2 ^ n : Nat) : Int) < 2 ^ 62 := by
  have := pow6 h
  omega
theorem l62 {n : Nat} : -(2 ^ 62) ≤ ((2 ^ n : Nat) : Int) := Int.le_trans (by decide : -(2 ^ 62) ≤ (0 : Int)) (Int.natCast_nonneg _)
end XT
/-! draws within comprehensions; the lots that the law draws -/
namespace XT
open PySem PySem.Spec PyProof.Rows L2
/-- the stream's time goes on, all else stays -/
structure Step (S : Sm) (H : Hp) (t : Int) (H' : Hp) (t' : Int) (n : Nat) : Prop where
  keep : Keep S H H'
  st : Strm S H' t'
  lo : t ≤ t'
  hi : t' ≤ t + n
def spDrawN : Sp := fun vs H Q _ => ∃ (S : Sm) (t : Int) (m : Nat), vs = [.ref S.s, .int (m : Int)] ∧ Strm S H t ∧ 0 < m ∧ m ≤ 1000 ∧ t < 100000000 ∧
  ∀ (H' : Hp) (r : Nat) (t' : Int), Step S H t H' t' 1 → r < m → Q (.int (r : Int)) H'
theorem drawN {P : Program} {w : World} {K : PySem.W.Frag} {mg : Str → Option Value} {base : Heap} {k : Nat} {x : Str} (D : DefR P w K mg base k x spDraw) : DefR P w K mg base k x spDrawN := by
  obtain ⟨f, F, h1, h2⟩ := D
  refine ⟨f, F.imp fun vs H Q E ⟨S, t, m, ev, st, m0, m1, t1, q⟩ => ⟨S, t, m, ev, st, by omega, by omega, by omega, fun H' r t' k s a b r0 r1 => ?_⟩, h1, h2⟩
  obtain ⟨n, rfl⟩ := Int.eq_ofNat_of_zero_le r0
  exact q H' n t' ⟨k, s, a, b⟩ (by omega)
theorem Step.refl {S : Sm} {H : Hp} {t : Int} (h : Strm S H t) : Step S H t H t 0 := ⟨Keep.refl S H, h, Int.le_refl _, by omega⟩
theorem Step.trans {S : Sm} {H H1 H2 : Hp} {t t1 t2 : Int} {n m : Nat} (a : Step S H t H1 t1 n) (b : Step S H1 t1 H2 t2 m) : Step S H t H2 t2 (n + m) := ⟨a.keep.trans b.keep, b.st, Int.le_trans a.lo b.lo, by have := a.hi; have := b.hi; omega⟩
theorem Step.same {S : Sm} {H H1 H2 : Hp} {t t1 : Int} {n : Nat} (a : Step S H t H1 t1 n) (b : Same H1 H2) : Step S H t H2 t1 n := ⟨a.keep.trans (Keep.of b), a.st.same b, a.lo, a.hi⟩
theorem Step.mono {S : Sm} {H H1 : Hp} {t t1 : Int} {n m : Nat} (a : Step S H t H1 t1 n) (h : n ≤ m) : Step S H t H1 t1 m := ⟨a.keep, a.st, a.lo, by have := a.hi; omega⟩
section
variable {K : PySem.W.Frag} {a : Addr} {g : TG} {tt : TT} {te : TE} {vs : List Nat} {σ : L2.St} {H1 : Hp} {D : Addr} {Qd : Hp → Prop} {S : Sm} {t0 : Int} {c : Nat}
/-- what one turn must do: the stream is drawn from at most d times, and what is kept is a number below c -/
def TurnS (S : Sm) (c d : Nat) (g : TG) (tt : TT) (te : TE) (vs : List Nat) (σ : L2.St) (x : V) (H : Hp) (t : Int) : Prop :=
  ∀ (R1 : Hp → Prop) (R2 : V → Hp → Prop), (∀ H3 t3, Step S H t H3 t3 d → R1 H3) → (∀ (k : Nat) H4 t4, Step S H t H4 t4 d → k < c → R2 (.int (k : Int)) H4) →
    g x (wipe σ vs) H fun σ2 H2 => wipe σ2 vs = wipe σ vs ∧ tt σ2 H2 fun b H3 => if b = true then te σ2 H3 R2 else R1 H3
def PvS (S : Sm) (c d : Nat) (H1 : Hp) (t0 : Int) (D : Addr) (i : Nat) (H : Hp) : Prop := ∃ (ks : List Nat) (t : Int), Step S H1 t0 H t (d * i) ∧ H D = some (.lst (vm ks)) ∧ (∀ k ∈ ks, k < c) ∧ ks.length ≤ i
theorem pvs_start (st : Strm S H1 t0) (nD : H1 D = none) (d : Nat) : PvS S c d H1 t0 D 0 (upd H1 D (.lst [])) := ⟨[], t0, ((Step.refl st).same (same_new nD)).mono (Nat.zero_le _), upd_same, by simp, by simp⟩
theorem pvs_turn {d i : Nat} {x : V} {H : Hp} (st0 : Strm S H1 t0) (nD : H1 D = none) (hi : i ≤ 1000) (h : PvS S c d H1 t0 D i H) (ht : ∀ t, Step S H1 t0 H t (d * i) → TurnS S c d g tt te vs σ x H t) :
    g x (wipe σ vs) H fun σ2 H2 => wipe σ2 vs = wipe σ vs ∧ tt σ2 H2 fun b H3 =>
      if b = true then te σ2 H3 fun y H4 => ∃ acc, H4 D = some (.lst acc) ∧ acc.length < sizeLine ∧ PvS S c d H1 t0 D (i + 1) (upd H4 D (.lst (acc ++ [y]))) else PvS S c d H1 t0 D (i + 1) H3 := by
  obtain ⟨ks, t, stp, hD, hk, hl⟩ := h
  refine ht t stp _ _ (fun H3 t3 s3 => ?_) (fun k H4 t4 s4 hkc => ?_)
  · exact ⟨ks, t3, (stp.trans s3).mono (by rw [Nat.mul_succ]; exact Nat.le_refl _), s3.keep.mine st0 nD hD, hk, by omega⟩
  · have hD4 := s4.keep.mine st0 nD hD
    refine ⟨_, hD4, small64 (by rw [vm_len]; omega), ks ++ [k], t4, ?_, ?_, ?_, ?_⟩
    · have z := stp.trans s4
      have nDs : D ≠ S.s := fun e => by obtain ⟨_, h⟩ := st0; rw [e, h.hs] at nD; cases nD
      have nDp : D ≠ S.p := fun e => by obtain ⟨_, h⟩ := st0; rw [e, h.hp] at nD; cases nD
      have nDq : D ≠ S.q := fun e => by obtain ⟨_, h⟩ := st0; rw [e, h.hq] at nD; cases nD
      refine ⟨fun b o n1 n2 e => ?_, ?_, z.lo, by have := z.hi; rw [Nat.mul_succ]; exact this⟩
      · rw [upd_ne (ne_of_none e nD)]
        exact z.keep b o n1 n2 e
      · obtain ⟨big, hb⟩ := z.st
        refine ⟨big, ?_, ?_, ?_, hb.sp, hb.sq, hb.pq, hb.ne, hb.t0⟩
        · rw [upd_ne nDs.symm]; exact hb.hs
        · rw [upd_ne nDp.symm]; exact hb.hp
        · rw [upd_ne nDq.symm]; exact hb.hq
    · rw [upd_same]; unfold vm; rw [List.map_append]; rfl
    · intro j hj
      rcases List.mem_append.mp hj with hj | hj
      · exact hk j hj
      · rw [List.mem_singleton.mp hj]; exact hkc
    · rw [List.length_append]; simp; exact hl
theorem lcs_range {n d : Nat} (st0 : Strm S H1 t0) (nD : H1 D = none) (hn : n ≤ 1000) (ht : ∀ (i : Nat) H t, i < n → Step S H1 t0 H t (d * i) → TurnS S c d g tt te vs σ (.int (0 + (i : Int))) H t) (hd : ∀ H, PvS S c d H1 t0 D n H → Qd H) :
    ∃ W : Nat → Nat → Hp → Prop, (∃ m, W 0 m (upd H1 D (.lst []))) ∧ ∀ i m H, W i m H →
      ((Itr 0 n).stop i H ∧ Qd H) ∨ ((Itr 0 n).go i H ∧ ∃ Nx : Hp → Prop, (∀ H', Nx H' → ∃ m', m' < m ∧ W (i + 1) m' H') ∧ ∀ x H', (Itr 0 n).yld i H x H' → g x (wipe σ vs) H' fun σ2 H2 => wipe σ2 vs = wipe σ vs ∧ tt σ2 H2 fun b H3 =>
        if b = true then te σ2 H3 fun y H4 => ∃ acc, H4 D = some (.lst acc) ∧ acc.length < sizeLine ∧ Nx (upd H4 D (.lst (acc ++ [y]))) else Nx H3) :=
  lc_range (lo := 0) (n := n) (fun i H => PvS S c d H1 t0 D i H) (pvs_start st0 nD d) (fun i H hi h => pvs_turn st0 nD (by omega) h fun t s => ht i H t hi s) hd
theorem lcs_list {ms : List Nat} {d : Nat} (st0 : Strm S H1 t0) (nD : H1 D = none) (hA : H1 a = some (.lst (vm ms))) (as : a ≠ S.s) (ap : a ≠ S.p) (hn : ms.length ≤ 1000)
    (ht : ∀ (i : Nat) (m : Nat) H t, ms[i]? = some m → Step S H1 t0 H t (d * i) → TurnS S c d g tt te vs σ (.int (m : Int)) H t) (hd : ∀ H, PvS S c d H1 t0 D ms.length H → Qd H) :
    ∃ W : Nat → Nat → Hp → Prop, (∃ m, W 0 m (upd H1 D (.lst []))) ∧ ∀ i m H, W i m H →
      ((Itl K a).stop i H ∧ Qd H) ∨ ((Itl K a).go i H ∧ ∃ Nx : Hp → Prop, (∀ H', Nx H' → ∃ m', m' < m ∧ W (i + 1) m' H') ∧ ∀ x H', (Itl K a).yld i H x H' → g x (wipe σ vs) H' fun σ2 H2 => wipe σ2 vs = wipe σ vs ∧ tt σ2 H2 fun b H3 =>
        if b = true then te σ2 H3 fun y H4 => ∃ acc, H4 D = some (.lst acc) ∧ acc.length < sizeLine ∧ Nx (upd H4 D (.lst (acc ++ [y]))) else Nx H3) := by
  refine lc_list (xs := vm ms) (fun i H => PvS S c d H1 t0 D i H) (pvs_start st0 nD d) (fun i H _ h => ?_) (fun i x H hx h => ?_) (fun H h => ?_)
  · obtain ⟨_, _, s, _⟩ := h
    exact SqL.of (s.keep a _ as ap hA)
  · obtain ⟨m, hm, rfl⟩ := mem_vm hx
    have hi : i < ms.length := (List.getElem?_eq_some_iff.mp hm).1
    exact pvs_turn st0 nD (by omega) h fun t s => ht i m H t hm s
  · rw [vm_len] at h
    exact hd H h
end
end XT
/-! the law's own call, where no repr is under way; repr of data -/
namespace XT
open PySem PySem.Spec PyProof.Rows L2
def RunC (P : Program) (w : World) (K : PySem.W.Frag) (mg : Str → Option Value) (base : Heap) (k : Nat) (f : Addr) (sp : Sp) : Prop :=
  ∀ (s : Shared) (H : Hp) (u : Value) (v : V) (Q : VK), Room k callerA → Env0 P w K mg base callerA [] s H → RelV v u → sp [v] H Q E0 → codeAny (model P w) callerA (.call (.ref f) ⟨[u], []⟩) (CR CX0 [] P w H s Q E0) s
section
variable {P : Program} {w : World} {K : PySem.W.Frag} {mg : Str → Option Value} {base : Heap}
theorem run_law {x par : Str} {st : Stmt} {f : Addr} {fd : FuncData} {N : List Str} {k : Nat} {sp : Sp} (F : Fun K x x st f fd) (S : FnScope N [par] (defScope st))
    (hb : ∀ (kV doc pm : Value) (an : Option Addr) (cdv ct u : Value), bindArgs (PySem.W.fnOf x x (defArgs st) (defBody st) (defScope st) .none kV doc pm an cdv ct) ⟨[u], []⟩ = pure [(par, u)])
    (hbody : ∀ (cdv : Value) (s : Shared) (H : Hp) (v : V) (Q : VK), Room k (callerA.deeper (envOfC x (defScope st) s.heap.objs.size f cdv)) → sp [v] H Q E0 →
      ∃ t, PSs (cxOf CX0 P w K mg base N x (defScope st) f cdv callerA [] s H E0).nox (defBody st) t ∧ t { nx := fun _ H' => Q .non H', rt := Q } (start N [v]) H) : RunC P w K mg base (k + 1) f sp := by
  obtain ⟨oc, od, kV, doc, pm, an, cdv, ct, osl, rfl, lk, hcd⟩ := F.ex
  intro s H u v Q hr e0 rv hsp
  refine StX.run_bnd lk hcd S hr e0 (G := fun vs H2 => vs = [v] ∧ H2 = H) (fun A2 Ex Q2 h => ?_) fun s2 H2 vs ⟨ev, eH⟩ hr2 => ?_
  · rw [hb kV doc pm an cdv ct u]
    exact wpAny_pure (h s H [v] [u] e0 Un.refl rfl (fun _ _ z => z) (.cons rv .nil) rfl ⟨rfl, rfl⟩)
  · subst ev eH
    obtain ⟨t, h1, h2⟩ := hbody cdv s2 H2 v Q hr2 hsp
    exact ⟨t, h1.nox, h2⟩
/-- from the law's promise to what the row asks of its call -/
theorem law_end {mb : Str → Option Value} {k : Nat} {fa a : Addr} {sp : Sp} {s1 : Shared} {vs : List Value} {ns : List Int} (KX : K.In s1.heap) (hns : s1.heap.Ns mainGlobals mg) (hb : s1.heap.Ns builtinsNs mb)
    (hbb : ∀ x : Str, x ≠ "__name__" → mb x = bootBuiltins x) (hlim : s1.heap.NoLimit) (hg : s1.gens = #[]) (ha : s1.heap.get? a = some { cls := .type "list", data := .seq vs.toArray }) (hi : IntsAre vs ns) (hl : ns.length ≤ sizeLine)
    (hr : Room k callerA) (F : ∀ base : Heap, K.In base → base.Ns mainGlobals mg → RunC P w K mg base k fa sp) (hsp : ∀ H : Hp, SqL K H a (ns.map V.int) → sp [.ref a] H (fun v _ => v = .bl true) E0) :
    codeAny (model P w) callerA (.call (.ref fa) ⟨[.ref a], []⟩) (fun r s2 => r = .ok (.ret (.bool true)) ∧ OldK s1.heap s2.heap ∧ s2.os = s1.os ∧ AllBare s2.gens) s1 := by
  have rv : Vals (ns.map V.int) vs := vals_of_ints hi
  have nl := hi.length
  have go : ∀ H : Hp, SqL K H a (ns.map V.int) → HOk P w H s1.heap → (∀ b, H b = none ∨ (b = a ∧ K.lookup a = none ∧ ∃ o xs, H b = some (.frz o (.lst xs)))) →
      codeAny (model P w) callerA (.call (.ref fa) ⟨[.ref a], []⟩) (fun r s2 => r = .ok (.ret (.bool true)) ∧ OldK s1.heap s2.heap ∧ s2.os = s1.os ∧ AllBare s2.gens) s1 := by
    intro H hS hok hO
    have nsK : ∀ {b : Addr} {m : Str → Option Value}, s1.heap.Ns b m → (hidT s1.heap H).Ns b m := fun {b m} ⟨o, es, ep, e, d, r⟩ => by
      refine ⟨o, es, ep, hidT_get e ?_, d, r⟩
      rcases hO b with z | ⟨z, _, _⟩
      · exact z
      · rw [z, ha] at e
        cases e
        have d2 : Data.seq vs.toArray _ = Data.dict es ep := d
        cases d2
    have kb : K.In (hidT s1.heap H) := fun b o e => by
      refine hidT_get (KX b o e) ?_
      rcases hO b with z | ⟨z, y, _⟩
      · exact z
      · rw [z, y] at e; cases e
    have M : Mod K mg (hidT s1.heap H) := ⟨kb, nsK hns, ⟨mb, nsK hb, hbb⟩, let ⟨mc, h1, h2⟩ := hlim; ⟨mc, nsK h1, h2⟩⟩
    have e0 : Env0 P w K mg (hidT s1.heap H) callerA [] s1 H := ⟨rfl, M, fun b o e => of_hidT e, Nat.le_of_eq (hidT_size _ _), trivial, fun b z => absurd (show b ∈ ([] : List Addr) from z) (by simp), hok, .of_eq hg⟩
    refine codeAny_mono (F _ kb (nsK hns) s1 H (.ref a) (.ref a) _ hr e0 rfl (hsp H hS)) fun r s2 z => ?_
    match r, z with
    | .error e, z => exact z.elim
    | .ok .next, z => exact z.elim
    | .ok .brk, z => exact z.elim
    | .ok .cont, z => exact z.elim
    | .ok (.ret u), z =>
      obtain ⟨v, H2, os, bare, un, hok2, rr, q⟩ := z
      have q : v = .bl true := q
      subst q
      obtain rfl : u = Value.bool true := rr
      refine ⟨rfl, OldK.of_keep fun b o e => ?_, os, bare⟩
      rcases hO b with y | ⟨_, _, ob, xs, y⟩
      · exact un.keep b o e y (fun z => absurd (show b ∈ ([] : List Addr) from z) (by simp)) (by simp)
      · obtain ⟨g1, _⟩ := hok b _ y
        obtain ⟨g2, _⟩ := hok2 b _ (un.frzs b ob _ y)
        rw [e] at g1
        cases g1
        exact g2
  cases hk : K.lookup a with
  | some o =>
    have e := KX a o hk
    rw [ha] at e
    cases e
    exact go (fun _ => none) (.inr ⟨_, vs.toArray, _, hk, rfl, rfl, rfl, by rw [List.size_toArray, nl]; exact hl, by simpa using rv⟩) (fun b u z => nomatch z) fun _ => .inl rfl
  | none =>
    refine go (upd (fun _ => none) a (.frz { cls := .type "list", data := .seq vs.toArray } (.lst (ns.map V.int)))) (.inl (.inr ⟨_, upd_same⟩)) (fun b u z => ?_) fun b => ?_
    · by_cases e : b = a
      · subst e
        rw [upd_same] at z
        cases z
        exact ⟨ha, by rw [List.length_map]; exact hl, vs, _, rv, ha⟩
      · rw [upd_ne e] at z
        cases z
    · by_cases e : b = a
      · exact .inr ⟨e, hk, _, _, by rw [e]; exact upd_same⟩
      · exact .inl (upd_ne e)
end
theorem walk_ofC {l : PySem.W.OpenLaw} {n k : Nat} {q : Program} {loose : List Str} {XP : (Str → Option Value) → Heap → Prop} {YP : World → Heap → Prop} {d : DefRec} {K : Params → PySem.W.Frag} {sp : World → Sp}
    (hn : l.most = some n) (hn2 : n ≤ sizeLine) (hdf : d.params.defaults = []) (hr : Room k callerA) (hY : ∀ (w : World) (h : Heap), YP w h → (K w.params).In h)
    (F : ∀ (w : World) (mg : Str → Option Value) (fa : Addr) (h : Heap), (K w.params).In h → h.Ns mainGlobals mg → mg d.name = some (.ref fa) → ∀ base : Heap, (K w.params).In base → base.Ns mainGlobals mg → RunC l.prog w (K w.params) mg base k fa (sp w))
    (hsp : ∀ (w : World) (H : Hp) (a : Addr) (ns : List Int), ns.length ≤ n → SqL (K w.params) H a (ns.map V.int) → sp w [.ref a] H (fun v _ => v = .bl true) E0) :
    PySem.W.WalkO q loose XP YP l.row.toRowW d [] (fun f vs => PySem.call f vs) :=
  Att.attach_call hn hdf fun w s0 s1 mg mb fa o pm cd doc a vs ns G Y ho hd hcd hmg hobj hints hlen hg =>
    law_end (hY w _ Y) G.T.g G.T.b G.T.builtins G.T.nolimit hg hobj hints (Nat.le_trans hlen hn2) hr (F w mg fa _ (hY w _ Y) G.T.g hmg) fun H hS => hsp w H a ns hlen hS
/-! repr -/
section
variable {X : Cx}
def rRepr (K : PySem.W.Frag) : List V → Hp → VK → Prop := fun xs H Q => ∃ (a : Addr) (d : PyData), xs = [.ref a] ∧ Dp K H (.ref a) d ∧ SeqAt.shaped d = true ∧ d.showable = true ∧ d.shown.length ≤ sizeLine ∧ Q (.str d.shown) H
theorem cr_repr (hg : X.A.guards = some []) (hu : X.A.units + 128 < cLine) : CallR X (.builtin "repr") (rRepr X.K) := by
  intro pins s σ H xs us Q I r h
  obtain ⟨a, d, rfl, hd, hs, hw, hz, q⟩ := h
  rw [Vals.ref1 r]
  obtain ⟨as, rd⟩ := Dp.reads I d (.ref a) (.ref a) hd rfl
  have nd : d.hasDict = false := PyData.hasDict_of_canLay d (SeqAt.canLay_of_shaped hs)
  have dp := SeqAt.depth_of_shaped hs
  refine repr_of_reads' rd hw (PyData.noDict_hsm nd) hg (by omega) (fun _ _ e => e) (fun h2 u tk k => ?_) hz
  exact ⟨.str d.shown, H, I.kept (t' := tk) k, ⟨u, rfl⟩, q⟩
end
end XT
/-! how long data are when shown -/
namespace XT
open PySem PySem.Spec PyProof.Rows L2
structure Shw (d : PyData) (n k : Nat) : Prop where
  lay : PyData.canLay0 d = true
  dep : PyData.depth d ≤ k
  shw : PyData.showable d = true
  len : (PyData.shown d).length ≤ n
structure ShwAll (ds : List PyData) (n k : Nat) : Prop where
  lay : PyData.canLayAll0 ds = true
  dep : PyData.depthAll ds ≤ k
  shw : PyData.showableAll ds = true
  len : ((PyData.shownAll ds).map (·.length)).sum + 2 * (PyData.shownAll ds).length ≤ n
theorem ShwAll.nil {k : Nat} : ShwAll [] 0 k := ⟨rfl, Nat.zero_le _, rfl, Nat.le_refl _⟩
theorem ShwAll.cons {d : PyData} {ds : List PyData} {n m k : Nat} (h : Shw d n k) (t : ShwAll ds m k) : ShwAll (d :: ds) (n + 2 + m) k := by
  refine ⟨?_, ?_, ?_, ?_⟩
  · simp only [PyData.canLayAll0, h.lay, t.lay, Bool.and_self]
  · simp only [PyData.depthAll]
    exact Nat.max_le.mpr ⟨h.dep, t.dep⟩
  · simp only [PyData.showableAll, h.shw, t.shw, Bool.and_self]
  · have h1 := h.len
    have h2 := t.len
    simp only [PyData.shownAll, List.map_cons, List.sum_cons, List.length_cons]
    omega
theorem Shw.mono {d : PyData} {n m k j : Nat} (h : Shw d n k) (a : n ≤ m) (b : k ≤ j) : Shw d m j := ⟨h.lay, Nat.le_trans h.dep b, h.shw, Nat.le_trans h.len a⟩
theorem ShwAll.mono {d : List PyData} {n m k j : Nat} (h : ShwAll d n k) (a : n ≤ m) (b : k ≤ j) : ShwAll d m j := ⟨h.lay, Nat.le_trans h.dep b, h.shw, Nat.le_trans h.len a⟩
theorem ShwAll.list {ds : List PyData} {n k : Nat} (h : ShwAll ds n k) : Shw (.list ds) (n + 3) (k + 1) := by
  refine ⟨by simpa only [PyData.canLay0] using h.lay, ?_, by simpa only [PyData.showable] using h.shw, ?_⟩
  · simp only [PyData.depth]
    have := h.dep
    omega
  · simp only [PyData.shown]
    have := listText_len_le (PyData.shownAll ds)
    have := h.len
    omega
theorem ShwAll.tuple {ds : List PyData} {n k : Nat} (h : ShwAll ds n k) : Shw (.tuple ds) (n + 3) (k + 1) := by
  refine ⟨by simpa only [PyData.canLay0] using h.lay, ?_, by simpa only [PyData.showable] using h.shw, ?_⟩
  · simp only [PyData.depth]
    have := h.dep
    omega
  · simp only [PyData.shown]
    have := tupleText_len_le (PyData.shownAll ds)
    have := h.len
    omega
theorem shw_nat {m : Nat} (h : m < 1000000) : Shw (.int (m : Int)) 13 0 := by
  refine ⟨rfl, Nat.le_refl _, ?_, PyData.shown_int_le (by omega)⟩
  show decide ((m : Int).natAbs.log2 < 1920) = true
  rw [decide_eq_true_iff, Int.natAbs_natCast]
  by_cases h0 : m = 0
  · subst h0; decide
  · exact Nat.lt_of_lt_of_le ((Nat.log2_lt h0).mpr (show m < 2 ^ 20 by omega)) (by decide)
theorem shw_nats : ∀ {ms : List Nat}, (∀ m ∈ ms, m < 1000000) → ShwAll (ms.map fun (m : Nat) => PyData.int (m : Int)) (15 * ms.length) 0
  | [], _ => ShwAll.nil
  | m :: ms, h => by
    have := ShwAll.cons (shw_nat (h m List.mem_cons_self)) (shw_nats (ms := ms) fun x hx => h x (List.mem_cons_of_mem _ hx))
    exact this.mono (by rw [List.length_cons]; omega) (Nat.le_refl _)
theorem shw_lot {n : Nat} (hn : n ≤ 6) (p : Nat → Bool) : Shw (dLot n p) 1000 2 := by
  have h6 := pow6 (w := n) hn
  have hl := lot_len hn p
  have h := (shw_nats (ms := lotOf n p) fun m hm => by have := (mem_lot.mp hm).1; omega).tuple
  have := (ShwAll.cons ((shw_nat (m := n) (by omega)).mono (Nat.le_refl _) (Nat.zero_le 1)) (ShwAll.cons (h.mono (Nat.le_refl _) (by omega)) ShwAll.nil)).tuple
  exact this.mono (by omega) (by omega)
theorem shw_width (i : Nat) (h : i < 1000000) : Shw (.list [.str "width", .int (i : Int)]) 1000 2 := by
  have hs : Shw (.str "width") 10 0 := ⟨by decide +kernel, Nat.le_refl _, rfl, by decide +kernel⟩
  exact (ShwAll.cons hs (ShwAll.cons (shw_nat h) ShwAll.nil)).list.mono (by omega) (by omega)
theorem shw_two {a b : PyData} {n m k : Nat} (ha : Shw a n k) (hb : Shw b m k) : Shw (.list [a, b]) (n + m + 7) (k + 1) := (ShwAll.cons ha (ShwAll.cons hb ShwAll.nil)).list.mono (by omega) (by omega)
theorem Shw.shaped {d : PyData} {n k : Nat} (hs : Shw d n k) (hk : k ≤ 64) : SeqAt.shaped d = true := by
  unfold SeqAt.shaped
  rw [hs.lay, decide_eq_true (Nat.le_trans hs.dep hk)]
  rfl
theorem Shw.sz {d : PyData} {n k : Nat} (hs : Shw d n k) (hn : n ≤ 10000000) : d.shown.length ≤ sizeLine := by
  rw [sizeLine_eq]
  have := hs.len
  omega
end XT
/-! lots with their widths; a comprehension of drawn lots; when two lots are equal -/
namespace XT
open PySem PySem.Spec PyProof.Rows L2
abbrev rXor : R2 := rI0 fun i j => .int (Builtin.bitXor i j)
/-- f(..) by its promise, as pe_def reads it -/
abbrev tDf (sp : Sp) (t : TA) : TE := fun σ H Q => t σ H fun vs H1 => sp vs H1 Q E0
structure Lt where
  v : V
  n : Nat
  p : Nat → Bool
def LtAt (H : Hp) (l : Lt) : Prop := LotAt H l.v l.n l.p ∧ 1 ≤ l.n ∧ l.n ≤ 6
theorem LtAt.same {H H' : Hp} {l : Lt} (h : LtAt H l) (e : Same H H') : LtAt H' l := ⟨h.1.same e, h.2⟩
theorem lt_keep {S : Sm} {H H' : Hp} {t : Int} {l : Lt} (h : LtAt H l) (k : Keep S H H') (st : Strm S H t) : LtAt H' l := ⟨h.1.keep k st, h.2⟩
theorem at_ne' {H : Hp} {a b : Addr} {x y : HO} (h1 : H a = some x) (h2 : H b = some y) (n : x ≠ y) : b ≠ a := fun e => by
  rw [e, h1] at h2
  exact n (Option.some.inj h2)
theorem lot_upd {H : Hp} {R : Addr} {xs ys : List V} {v : V} {n : Nat} {p : Nat → Bool} (hR : H R = some (.lst xs)) (h : LotAt H v n p) : LotAt (upd H R (.lst ys)) v n p := by
  obtain ⟨x, y, rfl, hx, hy⟩ := h
  exact ⟨x, y, rfl, by rw [upd_ne (at_ne' hR hx (by simp))]; exact hx, by rw [upd_ne (at_ne' hR hy (by simp))]; exact hy⟩
theorem strm_upd {S : Sm} {H : Hp} {t : Int} {R : Addr} {o : HO} (h : Strm S H t) (n1 : R ≠ S.s) (n2 : R ≠ S.p) (n3 : R ≠ S.q) : Strm S (upd H R o) t := by
  obtain ⟨big, s⟩ := h
  exact ⟨big, by rw [upd_ne (Ne.symm n1)]; exact s.hs, by rw [upd_ne (Ne.symm n2)]; exact s.hp, by rw [upd_ne (Ne.symm n3)]; exact s.hq, s.sp, s.sq, s.pq, s.ne, s.t0⟩
theorem strm_ne {S : Sm} {H : Hp} {t : Int} {R : Addr} (h : Strm S H t) (n : H R = none) : R ≠ S.s ∧ R ≠ S.p ∧ R ≠ S.q := by
  obtain ⟨big, s⟩ := h
  exact ⟨(ne_of_none s.hs n).symm, (ne_of_none s.hp n).symm, (ne_of_none s.hq n).symm⟩
mutual
theorem Dp_same {K : PySem.W.Frag} {H H' : Hp} (e : Same H H') : ∀ {v : V} {d : PyData}, Dp K H v d → Dp K H' v d
  | _, _, .non => .non
  | _, _, .bl b => .bl b
  | _, _, .int i => .int i
  | _, _, .str x => .str x
  | _, _, .lst h a => .lst (e.seq h) (DpAll_same e a)
  | _, _, .tup h a => .tup (Same.sqT e h) (DpAll_same e a)
theorem DpAll_same {K : PySem.W.Frag} {H H' : Hp} (e : Same H H') : ∀ {vs : List V} {ds : List PyData}, DpAll K H vs ds → DpAll K H' vs ds
  | _, _, .nil => .nil
  | _, _, .cons h a => .cons (Dp_same e h) (DpAll_same e a)
end
/-! a list of one's own is changed: what was there before it is still there -/
theorem same_upd {H0 H : Hp} {R : Addr} {o : HO} (h : Same H0 H) (n : H0 R = none) : Same H0 (upd H R o) := fun b x e => by
  rw [upd_ne (ne_of_none e n)]
  exact h b x e
/-! tuples of masks -/
def TupAt (H : Hp) (v : V) (ms : List Nat) : Prop := ∃ q, v = .ref q ∧ H q = some (.tup (vm ms))
theorem TupAt.same {H H' : Hp} {v : V} {ms : List Nat} (h : TupAt H v ms) (e : Same H H') : TupAt H' v ms := by
  obtain ⟨q, rfl, h⟩ := h
  exact ⟨q, rfl, e _ _ h⟩
theorem TupAt.dp {K : PySem.W.Frag} {H : Hp} {v : V} {ms : List Nat} (h : TupAt H v ms) : Dp K H v (.tuple (ms.map fun (m : Nat) => .int (m : Int))) := by
  obtain ⟨q, rfl, h⟩ := h
  exact .tup (SqT.of h) (dpVm _)
theorem shw_tup {n : Nat} (hn : n ≤ 6) (p : Nat → Bool) : Shw (.tuple ((lotOf n p).map fun (m : Nat) => PyData.int (m : Int))) 1000 1 := by
  have h6 := pow6 (w := n) hn
  have hl := lot_len hn p
  have h := (shw_nats (ms := lotOf n p) fun m hm => by have := (mem_lot.mp hm).1; omega).tuple
  exact h.mono (by omega) (by omega)
/-! when two lists of numbers, two lots are equal -/
theorem eqv_nats : ∀ ms ks : List Nat, PyData.eqvAll (ms.map fun (m : Nat) => PyData.int (m : Int)) (ks.map fun (m : Nat) => PyData.int (m : Int)) = decide (ms = ks)
  | [], [] => rfl
  | [], k :: ks => by simp [PyData.eqvAll]
  | m :: ms, [] => by simp [PyData.eqvAll]
  | m :: ms, k :: ks => by
    have h := eqv_nats ms ks
    simp only [List.map_cons, PyData.eqvAll, PyData.eqv, h]
    rw [Bool.eq_iff_iff]
    simp only [Bool.and_eq_true, decide_eq_true_iff, beq_iff_eq, List.cons.injEq]
    constructor
    · rintro ⟨a, b⟩
      exact ⟨by omega, b⟩
    · rintro ⟨a, b⟩
      exact ⟨by omega, b⟩
theorem lot_eq_iff {n : Nat} {p r : Nat → Bool} : lotOf n p = lotOf n r ↔ ∀ m, m < 2 ^ n → p m = r m := by
  refine ⟨fun h m hm => ?_, lot_congr⟩
  have h2 : m ∈ lotOf n p ↔ m ∈ lotOf n r := by rw [h]
  rw [mem_lot, mem_lot] at h2
  rw [Bool.eq_iff_iff]
  exact ⟨fun z => (h2.mp ⟨hm, z⟩).2, fun z => (h2.mpr ⟨hm, z⟩).2⟩
theorem eqv_lots (n : Nat) (p r : Nat → Bool) : PyData.eqv (dLot n p) (dLot n r) = decide (∀ m, m < 2 ^ n → p m = r m) := by
  simp only [dLot, PyData.eqv, PyData.eqvAll, eqv_nats]
  rw [Bool.eq_iff_iff]
  simp [lot_eq_iff]
/-- what one turn must do: the stream is drawn from at most d times, and what is kept is a lot -/
def TurnL (S : Sm) (d : Nat) (g : TG) (tt : TT) (te : TE) (vs : List Nat) (σ : L2.St) (x : V) (H : Hp) (t : Int) : Prop :=
  ∀ (R1 : Hp → Prop) (R2 : V → Hp → Prop), (∀ (l : Lt) H4 t4, Step S H t H4 t4 d → LtAt H4 l → R2 l.v H4) →
    g x (wipe σ vs) H fun σ2 H2 => wipe σ2 vs = wipe σ vs ∧ tt σ2 H2 fun b H3 => if b = true then te σ2 H3 R2 else R1 H3
def PvL (S : Sm) (d : Nat) (H1 : Hp) (t0 : Int) (D : Addr) (i : Nat) (H : Hp) : Prop := ∃ (ls : List Lt) (t : Int), Step S H1 t0 H t (d * i) ∧ H D = some (.lst (ls.map (·.v))) ∧ (∀ l ∈ ls, LtAt H l) ∧ ls.length = i
theorem lcl_range {g : TG} {tt : TT} {te : TE} {vs : List Nat} {σ : L2.St} {H1 : Hp} {D : Addr} {Qd : Hp → Prop} {S : Sm} {t0 : Int} {n d : Nat} (st0 : Strm S H1 t0) (nD : H1 D = none) (hn : n ≤ 1000)
    (ht : ∀ (i : Nat) H t, i < n → Step S H1 t0 H t (d * i) → TurnL S d g tt te vs σ (.int (0 + (i : Int))) H t) (hd : ∀ H, PvL S d H1 t0 D n H → Qd H) :
    ∃ W : Nat → Nat → Hp → Prop, (∃ m, W 0 m (upd H1 D (.lst []))) ∧ ∀ i m H, W i m H →
      ((Itr 0 n).stop i H ∧ Qd H) ∨ ((Itr 0 n).go i H ∧ ∃ Nx : Hp → Prop, (∀ H', Nx H' → ∃ m', m' < m ∧ W (i + 1) m' H') ∧ ∀ x H', (Itr 0 n).yld i H x H' → g x (wipe σ vs) H' fun σ2 H2 => wipe σ2 vs = wipe σ vs ∧ tt σ2 H2 fun b H3 =>
        if b = true then te σ2 H3 fun y H4 => ∃ acc, H4 D = some (.lst acc) ∧ acc.length < sizeLine ∧ Nx (upd H4 D (.lst (acc ++ [y]))) else Nx H3) := by
  refine lc_range (lo := 0) (n := n) (fun i H => PvL S d H1 t0 D i H) ⟨[], t0, ((Step.refl st0).same (same_new nD)).mono (Nat.zero_le _), upd_same, by simp, rfl⟩ (fun i H hi h => ?_) hd
  obtain ⟨ls, t, stp, hD, hall, hl⟩ := h
  refine ht i H t hi stp _ _ (fun l H4 t4 s4 hl4 => ?_)
  have hD4 := s4.keep.mine st0 nD hD
  refine ⟨_, hD4, small64 (by rw [List.length_map]; omega), ls ++ [l], t4, ?_, ?_, ?_, ?_⟩
  · have z := stp.trans s4
    obtain ⟨nDs, nDp, nDq⟩ := strm_ne st0 nD
    refine ⟨fun b o n1 n2 e => ?_, strm_upd z.st nDs nDp nDq, z.lo, by have := z.hi; rw [Nat.mul_succ]; exact this⟩
    rw [upd_ne (ne_of_none e nD)]
    exact z.keep b o n1 n2 e
  · rw [upd_same, List.map_append]; rfl
  · intro j hj
    have h6 : LtAt H4 j := by
      rcases List.mem_append.mp hj with hj | hj
      · exact lt_keep (hall j hj) s4.keep stp.st
      · rw [List.mem_singleton.mp hj]; exact hl4
    exact ⟨lot_upd hD4 h6.1, h6.2⟩
  · rw [List.length_append, hl]; rfl
end XT
/-! more of lots, of lists and tuples of masks -/
namespace XT
open PySem PySem.Spec PyProof.Rows L2
theorem bList : bootBuiltins "list" = some (.type "list") := by decide +kernel
theorem bSum : bootBuiltins "sum" = some (.builtin "sum") := by decide +kernel
theorem bMin : bootBuiltins "min" = some (.builtin "min") := by decide +kernel
theorem bMax : bootBuiltins "max" = some (.builtin "max") := by decide +kernel
theorem lot_none (n : Nat) : lotOf n (fun _ => false) = [] := by
  unfold lotOf
  rw [List.filter_eq_nil_iff]
  intro m _
  decide
theorem lot_nil_iff {n : Nat} {p : Nat → Bool} : lotOf n p = [] ↔ ∀ m, m < 2 ^ n → p m = false := by
  unfold lotOf
  rw [List.filter_eq_nil_iff]
  simp
theorem range_lot (n : Nat) : rgV 0 ((2 ^ n : Nat) : Int) = vm (lotOf n fun _ => true) := by
  unfold rgV vm lotOf
  rw [List.filter_eq_self.mpr (fun _ _ => rfl), Int.sub_zero]
  show List.map (fun (i : Nat) => V.int (0 + (i : Int))) (List.range (2 ^ n)) = _
  exact List.map_congr_left fun m _ => by rw [Int.zero_add]
theorem lot_take {n : Nat} {p : Nat → Bool} {i : Nat} (hi : i < 2 ^ n) : ((List.range (2 ^ n)).take (i + 1)).filter p = ((List.range (2 ^ n)).take i).filter p ++ (if p i = true then [i] else []) := by
  have h := take_one (id : Nat → Nat) p (xs := List.range (2 ^ n)) (i := i) (x := i) (List.getElem?_range hi)
  simpa using h
theorem nats_shaped (ns : List Nat) : SeqAt.shaped (.list (ns.map fun (m : Nat) => PyData.int (m : Int))) = true := by
  have h := ke_shaped (ns.map fun (m : Nat) => (m : Int))
  rw [List.map_map] at h
  exact h
theorem tupN_shaped (ms : List Nat) : SeqAt.shaped (.tuple (ms.map fun (m : Nat) => PyData.int (m : Int))) = true := by
  have h1 : PyData.canLay0 (.tuple (ms.map fun (m : Nat) => PyData.int (m : Int))) = true := by
    have h := ints_lay ms
    simp [PyData.canLay0, h]
  have h2 : PyData.depth (.tuple (ms.map fun (m : Nat) => PyData.int (m : Int))) ≤ 64 := by
    have h := ints_depth ms
    simp only [PyData.depth]
    omega
  unfold SeqAt.shaped
  rw [h1, decide_eq_true h2]
  rfl
theorem eqv_lstN (ms ks : List Nat) : PyData.eqv (.list (ms.map fun (m : Nat) => PyData.int (m : Int))) (.list (ks.map fun (m : Nat) => PyData.int (m : Int))) = decide (ms = ks) := by
  have h := eqv_nats ms ks
  simpa [PyData.eqv] using h
theorem eqv_tupN (ms ks : List Nat) : PyData.eqv (.tuple (ms.map fun (m : Nat) => PyData.int (m : Int))) (.tuple (ks.map fun (m : Nat) => PyData.int (m : Int))) = decide (ms = ks) := by
  have h := eqv_nats ms ks
  simpa [PyData.eqv] using h
theorem eqv_nilN (ms : List Nat) : PyData.eqv (.list (ms.map fun (m : Nat) => PyData.int (m : Int))) (.list []) = decide (ms = []) := eqv_lstN ms []
/-- a list of masks -/
def LsN (H : Hp) (v : V) (ms : List Nat) : Prop := ∃ q, v = .ref q ∧ H q = some (.lst (vm ms))
theorem LsN.same {H H' : Hp} {v : V} {ms : List Nat} (h : LsN H v ms) (e : Same H H') : LsN H' v ms := by
  obtain ⟨q, rfl, h⟩ := h
  exact ⟨q, rfl, e _ _ h⟩
theorem LsN.dp {K : PySem.W.Frag} {H : Hp} {v : V} {ms : List Nat} (h : LsN H v ms) : Dp K H v (.list (ms.map fun (m : Nat) => .int (m : Int))) := by
  obtain ⟨q, rfl, h⟩ := h
  exact .lst (SqL.of h) (dpVm _)
/-- a != b of tuples, of lists of masks -/
theorem ne_tupN {K : PySem.W.Frag} {H : Hp} {x y : V} {ms ks : List Nat} {Q : VK} (hx : TupAt H x ms) (hy : TupAt H y ks) (q : Q (.bl (!decide (ms = ks))) H) : rNeD K x y H Q := by
  refine ⟨_, _, hx.dp, hy.dp, tupN_shaped _, tupN_shaped _, ?_⟩
  rw [eqv_tupN]
  exact q
theorem eq_tupN {K : PySem.W.Frag} {H : Hp} {x y : V} {ms ks : List Nat} {Q : VK} (hx : TupAt H x ms) (hy : TupAt H y ks) (q : Q (.bl (decide (ms = ks))) H) : rEqD K x y H Q := by
  refine ⟨_, _, hx.dp, hy.dp, tupN_shaped _, tupN_shaped _, ?_⟩
  rw [eqv_tupN]
  exact q
theorem ne_lstN {K : PySem.W.Frag} {H : Hp} {x y : V} {ms ks : List Nat} {Q : VK} (hx : LsN H x ms) (hy : LsN H y ks) (q : Q (.bl (!decide (ms = ks))) H) : rNeD K x y H Q := by
  refine ⟨_, _, hx.dp, hy.dp, nats_shaped _, nats_shaped _, ?_⟩
  rw [eqv_lstN]
  exact q
theorem eq_lstN {K : PySem.W.Frag} {H : Hp} {x y : V} {ms ks : List Nat} {Q : VK} (hx : LsN H x ms) (hy : LsN H y ks) (q : Q (.bl (decide (ms = ks))) H) : rEqD K x y H Q := by
  refine ⟨_, _, hx.dp, hy.dp, nats_shaped _, nats_shaped _, ?_⟩
  rw [eqv_lstN]
  exact q
theorem ne_lots {K : PySem.W.Frag} {H : Hp} {x y : V} {w : Nat} {P P' : Nat → Bool} {Q : VK} (hx : LotAt H x w P) (hy : LotAt H y w P') (q : Q (.bl (!decide (∀ m, m < 2 ^ w → P m = P' m))) H) : rNeD K x y H Q := by
  refine ⟨_, _, hx.dp, hy.dp, dLot_shaped _ _, dLot_shaped _ _, ?_⟩
  rw [eqv_lots]
  exact q
theorem eq_lots {K : PySem.W.Frag} {H : Hp} {x y : V} {w : Nat} {P P' : Nat → Bool} {Q : VK} (hx : LotAt H x w P) (hy : LotAt H y w P') (q : Q (.bl (decide (∀ m, m < 2 ^ w → P m = P' m))) H) : rEqD K x y H Q := by
  refine ⟨_, _, hx.dp, hy.dp, dLot_shaped _ _, dLot_shaped _ _, ?_⟩
  rw [eqv_lots]
  exact q
theorem nodup_lot (n : Nat) (p : Nat → Bool) : (lotOf n p).Nodup := by
  unfold lotOf
  exact List.Pairwise.filter _ (List.nodup_range)
theorem nodup_xor (a : Nat) {l : List Nat} (h : l.Nodup) : (l.map fun (m : Nat) => ((m ^^^ a : Nat) : Int)).Nodup := by
  unfold List.Nodup at h ⊢
  rw [List.pairwise_map]
  refine h.imp fun {x y} hxy e => hxy ?_
  have e2 : x ^^^ a = y ^^^ a := by omega
  have e3 := congrArg (· ^^^ a) e2
  simpa [Nat.xor_assoc] using e3
theorem xor_back (m a : Nat) : m ^^^ a ^^^ a = m := by rw [Nat.xor_assoc, Nat.xor_self, Nat.xor_zero]
/-- sorted([x ^ a for x in lot]) -/
theorem sort_xor {n a : Nat} {p : Nat → Bool} {ns : List Int} (ha : a < 2 ^ n) (perm : ns.Perm ((lotOf n p).map fun (m : Nat) => ((m ^^^ a : Nat) : Int))) (asc : ns.Pairwise (· ≤ ·)) : ns.map V.int = vm (lotOf n fun m => p (m ^^^ a)) := by
  have nd : ns.Nodup := by
    rw [perm.nodup_iff]
    exact nodup_xor a (nodup_lot n p)
  refine rising_lot (lt_of_le_nodup ns asc nd) fun k => ?_
  rw [perm.mem_iff, List.mem_map]
  constructor
  · rintro ⟨m, hm, rfl⟩
    obtain ⟨h1, h2⟩ := mem_lot.mp hm
    exact ⟨m ^^^ a, rfl, xor_lt h1 ha, by rw [xor_back]; exact h2⟩
  · rintro ⟨m, rfl, h1, h2⟩
    exact ⟨m ^^^ a, mem_lot.mpr ⟨xor_lt h1 ha, h2⟩, by rw [xor_back]⟩
theorem iteNT {A B : Prop} {b : Bool} (h : b = false) (x : B) : if b = true then A else B := by rw [h]; exact x
end XT
/-! comprehensions whose turns lay new things, of which something is known -/
namespace XT
open PySem PySem.Spec PyProof.Rows L2
section
variable {K : PySem.W.Frag} {a : Addr} {g : TG} {tt : TT} {te : TE} {vs : List Nat} {σ : L2.St} {H1 : Hp} {D : Addr} {Qd : Hp → Prop} {G : Nat → V → Hp → Prop}
/-- what is known stays when new things are laid, and when a list is changed -/
structure Stay (G : Nat → V → Hp → Prop) : Prop where
  same : ∀ {j y H H'}, G j y H → Same H H' → G j y H'
  put : ∀ {j y H D xs ys}, G j y H → H D = some (.lst xs) → G j y (upd H D (.lst ys))
def TurnG (G : Nat → V → Hp → Prop) (g : TG) (tt : TT) (te : TE) (vs : List Nat) (σ : L2.St) (i : Nat) (x : V) (H : Hp) : Prop :=
  ∀ (R1 : Hp → Prop) (R2 : V → Hp → Prop), (∀ y H4, Same H H4 → G i y H4 → R2 y H4) →
    g x (wipe σ vs) H fun σ2 H2 => wipe σ2 vs = wipe σ vs ∧ tt σ2 H2 fun b H3 => if b = true then te σ2 H3 R2 else R1 H3
def PvG (H1 : Hp) (D : Addr) (G : Nat → V → Hp → Prop) (i : Nat) (H : Hp) : Prop := Same H1 H ∧ ∃ ys, H D = some (.lst ys) ∧ ys.length = i ∧ ∀ j y, ys[j]? = some y → G j y H
theorem pvg_turn {i : Nat} {x : V} {H : Hp} (hG : Stay G) (nD : H1 D = none) (hi : i ≤ 1000) (h : PvG H1 D G i H) (ht : TurnG G g tt te vs σ i x H) :
    g x (wipe σ vs) H fun σ2 H2 => wipe σ2 vs = wipe σ vs ∧ tt σ2 H2 fun b H3 =>
      if b = true then te σ2 H3 fun y H4 => ∃ acc, H4 D = some (.lst acc) ∧ acc.length < sizeLine ∧ PvG H1 D G (i + 1) (upd H4 D (.lst (acc ++ [y]))) else PvG H1 D G (i + 1) H3 := by
  obtain ⟨sm, ys, hD, hl, hall⟩ := h
  refine ht _ _ fun y H4 s4 gy => ⟨ys, s4 _ _ hD, small64 (by omega), same_upd (sm.trans s4) nD, ys ++ [y], upd_same, by rw [List.length_append, hl]; rfl, fun j z hz => hG.put ?_ (s4 _ _ hD)⟩
  rcases Nat.lt_or_ge j ys.length with lt | ge
  · rw [List.getElem?_append_left lt] at hz
    exact hG.same (hall j z hz) s4
  · rw [List.getElem?_append_right ge] at hz
    obtain ⟨h1, h2⟩ := List.getElem?_eq_some_iff.mp hz
    have e : j = i := by simp at h1; omega
    subst e
    have e2 : y = z := by simpa using h2
    rw [← e2]
    exact gy
theorem lcg_tup {xs : List V} (hG : Stay G) (nD : H1 D = none) (hA : SqT K H1 a xs) (hz : xs.length ≤ 1000) (ht : ∀ (i : Nat) x H, xs[i]? = some x → Same H1 H → TurnG G g tt te vs σ i x H) (hd : ∀ H, PvG H1 D G xs.length H → Qd H) :
    ∃ W : Nat → Nat → Hp → Prop, (∃ m, W 0 m (upd H1 D (.lst []))) ∧ ∀ i m H, W i m H →
      ((Itt K a).stop i H ∧ Qd H) ∨ ((Itt K a).go i H ∧ ∃ Nx : Hp → Prop, (∀ H', Nx H' → ∃ m', m' < m ∧ W (i + 1) m' H') ∧ ∀ x H', (Itt K a).yld i H x H' → g x (wipe σ vs) H' fun σ2 H2 => wipe σ2 vs = wipe σ vs ∧ tt σ2 H2 fun b H3 =>
        if b = true then te σ2 H3 fun y H4 => ∃ acc, H4 D = some (.lst acc) ∧ acc.length < sizeLine ∧ Nx (upd H4 D (.lst (acc ++ [y]))) else Nx H3) :=
  lc_tup (xs := xs) (fun i H => PvG H1 D G i H) ⟨same_new nD, [], upd_same, rfl, fun j y h => by simp at h⟩ (fun i H _ h => Same.sqT h.1 hA) (fun i x H hx h => pvg_turn hG nD (by have := (List.getElem?_eq_some_iff.mp hx).1; omega) h (ht i x H hx h.1)) hd
theorem lcg_list {xs : List V} (hG : Stay G) (nD : H1 D = none) (hA : SqL K H1 a xs) (hz : xs.length ≤ 1000) (ht : ∀ (i : Nat) x H, xs[i]? = some x → Same H1 H → TurnG G g tt te vs σ i x H) (hd : ∀ H, PvG H1 D G xs.length H → Qd H) :
    ∃ W : Nat → Nat → Hp → Prop, (∃ m, W 0 m (upd H1 D (.lst []))) ∧ ∀ i m H, W i m H →
      ((Itl K a).stop i H ∧ Qd H) ∨ ((Itl K a).go i H ∧ ∃ Nx : Hp → Prop, (∀ H', Nx H' → ∃ m', m' < m ∧ W (i + 1) m' H') ∧ ∀ x H', (Itl K a).yld i H x H' → g x (wipe σ vs) H' fun σ2 H2 => wipe σ2 vs = wipe σ vs ∧ tt σ2 H2 fun b H3 =>
        if b = true then te σ2 H3 fun y H4 => ∃ acc, H4 D = some (.lst acc) ∧ acc.length < sizeLine ∧ Nx (upd H4 D (.lst (acc ++ [y]))) else Nx H3) :=
  lc_list (xs := xs) (fun i H => PvG H1 D G i H) ⟨same_new nD, [], upd_same, rfl, fun j y h => by simp at h⟩ (fun i H _ h => h.1.seq hA) (fun i x H hx h => pvg_turn hG nD (by have := (List.getElem?_eq_some_iff.mp hx).1; omega) h (ht i x H hx h.1)) hd
theorem lcg_range {n : Nat} (hG : Stay G) (nD : H1 D = none) (hz : n ≤ 1000) (ht : ∀ (i : Nat) H, i < n → Same H1 H → TurnG G g tt te vs σ i (.int (0 + (i : Int))) H) (hd : ∀ H, PvG H1 D G n H → Qd H) :
    ∃ W : Nat → Nat → Hp → Prop, (∃ m, W 0 m (upd H1 D (.lst []))) ∧ ∀ i m H, W i m H →
      ((Itr 0 n).stop i H ∧ Qd H) ∨ ((Itr 0 n).go i H ∧ ∃ Nx : Hp → Prop, (∀ H', Nx H' → ∃ m', m' < m ∧ W (i + 1) m' H') ∧ ∀ x H', (Itr 0 n).yld i H x H' → g x (wipe σ vs) H' fun σ2 H2 => wipe σ2 vs = wipe σ vs ∧ tt σ2 H2 fun b H3 =>
        if b = true then te σ2 H3 fun y H4 => ∃ acc, H4 D = some (.lst acc) ∧ acc.length < sizeLine ∧ Nx (upd H4 D (.lst (acc ++ [y]))) else Nx H3) :=
  lc_range (lo := 0) (n := n) (fun i H => PvG H1 D G i H) ⟨same_new nD, [], upd_same, rfl, fun j y h => by simp at h⟩ (fun i H hi h => pvg_turn hG nD (by omega) h (ht i H hi h.1)) hd
end
theorem stay_lot (n : Nat) (p : Nat → Nat → Bool) : Stay (fun j y H => LotAt H y n (p j)) := ⟨fun h e => h.same e, fun h e => lot_upd e h⟩
end XT
/-! pair counts -/
namespace XT
open PySem PySem.Spec PyProof.Rows L2
def pcN (n : Nat) (p : Nat → Bool) (m : Nat) : Nat := ((lotOf n p).filter fun x => p (x ^^^ m)).length
def pcL (n : Nat) (p : Nat → Bool) : List Nat := (List.range (2 ^ n)).map (pcN n p)
def spPc : Sp := fun vs H Q _ => ∃ (v : V) (n : Nat) (p : Nat → Bool), vs = [v] ∧ LotAt H v n p ∧ n ≤ 6 ∧ ∀ H' z, Same H H' → TupAt H' z (pcL n p) → Q z H'
abbrev ttPc (K : PySem.W.Frag) : TT := tTest (tOp (rIn K false) (tOp rXor (tVar 4) (tVar 3)) (tVar 2))
abbrev rLenK (K : PySem.W.Frag) : List V → Hp → VK → Prop := fun vs H R => ∃ a zs, vs = [.ref a] ∧ (SqL K H a zs ∨ SqT K H a zs) ∧ R (.int zs.length) H
abbrev tePc (K : PySem.W.Frag) : TE := tCB (rLenK K) (tCons (tLc (iTup K (tVar 2)) (gName 4) (ttPc K) (tVar 4) [4]) tNil)
theorem pc_walk {K : PySem.W.Frag} {n : Nat} {p : Nat → Bool} {y : Addr} {H : Hp} {v1 : V} {z1 z3 z4 : Option V} {D : Addr} {Qd : Hp → Prop} (hn : n ≤ 6) (hy : H y = some (.tup (vm (lotOf n p)))) (nD : H D = none)
    (hd : ∀ H3, Same H H3 → H3 D = some (.lst (vm (pcL n p))) → Qd H3) :
    ∃ W : Nat → Nat → Hp → Prop, (∃ m, W 0 m (upd H D (.lst []))) ∧ ∀ i m H, W i m H →
      ((Itr 0 (2 ^ n)).stop i H ∧ Qd H) ∨ ((Itr 0 (2 ^ n)).go i H ∧ ∃ Nx : Hp → Prop, (∀ H', Nx H' → ∃ m', m' < m ∧ W (i + 1) m' H') ∧ ∀ x H', (Itr 0 (2 ^ n)).yld i H x H' → gName 3 x (wipe [some v1, z1, some (.ref y), z3, z4] [3]) H' fun σ2 H2 => wipe σ2 [3] = wipe [some v1, z1, some (.ref y), z3, z4] [3] ∧ tYes σ2 H2 fun c H3 =>
        if c = true then tePc K σ2 H3 fun y H4 => ∃ acc, H4 D = some (.lst acc) ∧ acc.length < sizeLine ∧ Nx (upd H4 D (.lst (acc ++ [y]))) else Nx H3) := by
  have h6 := pow6 hn
  have hl := lot_len hn p
  refine lcp_range (n := 2 ^ n) (p := fun _ => true) (f := fun m => .int (pcN n p m : Int)) nD (small64 (by omega)) (fun i H3 hi s3 => ?_) (fun H3 s3 hD => hd H3 s3 ?_)
  · intro R1 R2 h1 h2
    have hy3 := s3 _ _ hy
    refine ⟨rfl, iteT (B := R1 H3) ⟨.ref y, rfl, y, rfl, ⟨_, SqT.of hy3⟩, fun B2 nB => ?_⟩⟩
    refine lcp_tup (p := fun v => match v with | .int k => p (k.toNat ^^^ i) | _ => false) (f := id) nB (SqT.of hy3) (small64 (by rw [vm_len]; omega)) (fun k z H4 hz s4 => ?_) (fun H4 s4 hD2 => ?_)
    · intro R3 R4 h3 h4
      obtain ⟨m, hm, rfl⟩ := mem_vm hz
      have hm2 := (mem_lot.mp (List.mem_of_getElem? hm)).1
      refine ⟨rfl, _, rfl, _, rfl, (m : Int), 0 + (i : Int), rfl, rfl, .ref y, rfl, y, _, rfl, .inr (SqT.of (s4 _ _ hy3)), rfl, vm_flat _, _, rfl, ?_⟩
      have e : inV (.int (Builtin.bitXor (m : Int) (0 + (i : Int)))) (vm (lotOf n p)) = p (m ^^^ i) := by
        rw [Int.zero_add, bx, in_lot (xor_lt hm2 hi)]
      show if inV (.int (Builtin.bitXor (m : Int) (0 + (i : Int)))) (vm (lotOf n p)) = true then _ else _
      rw [e]
      refine ite2 (fun z => ?_) (fun z => ?_)
      · exact ⟨_, rfl, h4 z _ (Same.refl _)⟩
      · exact h3 (by simpa using z) _ (Same.refl _)
    · rw [vm_filter (lotOf n p) (fun m => p (m ^^^ i)) _ fun m hm => rfl] at hD2
      refine ⟨B2, _, rfl, .inl (SqL.of hD2), ?_⟩
      rw [vm_len]
      exact h2 rfl _ s4
  · rw [hD, List.filter_eq_self.mpr (fun _ _ => rfl)]
    unfold pcL vm
    rw [List.map_map]
    rfl
end XT
/-! f"{m:b}" -/
namespace XT
open PySem PySem.Spec PyProof.Rows L2 Builtin
def binL (m : Nat) : List Nat := (Nat.toDigits 2 m).map Char.toNat
def binS (m : Nat) : Str := ⟨(binL m).toArray⟩
def sB : Str := ⟨#[98]⟩
def fB : Float.FormatSpec := { align := 62, type := some 98 }
theorem binL_ne (m : Nat) : (binL m).isEmpty = false := by
  have h := toDigits_len_ge 2 m
  unfold binL
  cases e : Nat.toDigits 2 m with
  | nil => rw [e] at h; simp at h
  | cons a b => rfl
theorem field_b (m : Nat) : intField' fB false [] (binL m) [] 4 = binS m := by
  unfold intField' binS
  have h := binL_ne m
  have h1 : 1 ≤ (binL m).length := by
    cases e : binL m with
    | nil => rw [e] at h; simp at h
    | cons a b => simp
  simp only [h, fB]
  simp
theorem gives_b (m : Nat) (t u : Tok) : Gives («int.__format__» ⟨[.int (m : Int) t, .str sB u], []⟩) (.str (binS m)) := by
  intro prog w A R s hq
  unfold Builtin.«int.__format__»
  simp only [selfAndOne, noKeywords, Int.intOfSelf, asInt?, asStr?, pure_bind, bind_pure, bind_assoc, List.isEmpty_nil, if_true, show (Value.str sB u == Value.none) = false from rfl, Bool.false_eq_true, if_false]
  refine wpAny_bind (wpAny_typeNameOf (T := "str") (typeIs_str s sB u) (by decide) fun _ => ?_)
  rw [if_neg (by decide), if_neg (by decide)]
  refine wpAny_bind (wpAny_typeNameOfCut_int ?_)
  have hp : Float.parseFormatSpec sB.cps.toList "int" 62 = .ok fB := rfl
  rw [hp]
  dsimp only
  have ht : fB.type.getD (if (sB.cps.back? == some 0) = true then 0 else 100) = 98 := rfl
  rw [ht, if_pos (by decide)]
  show wpAny _ _ (retStr _) _ _ _
  unfold retStr
  have hneg : decide ((m : Int) < 0) = false := decide_eq_false (by omega)
  rw [hneg]
  change wpAny _ _ (mkStr (intField' fB false [] (binL m) [] 4) >>= fun d => ret d) _ _ _
  rw [field_b]
  exact wpAny_bind (wpAny_mkStr (wpAny_pure hq.2) hq.1)
/-- {m:b} -/
def tFmtB (te : TE) : TE := fun σ H Q => te σ H fun x H1 => ∃ m : Nat, x = .int (m : Int) ∧ m < 2 ^ 900 ∧ Q (.str (binS m)) H1
theorem binL_len {m k : Nat} (hk : 1 ≤ k) (h : m < 2 ^ k) : (binL m).length ≤ k := by
  unfold binL
  rw [List.length_map]
  exact toDigits_len_pow (by decide) hk h
theorem binS_len (m : Nat) : (binS m).length = (binL m).length := by
  unfold binS Str.length
  simp
section
variable {X : Cx}
theorem pe_fmtB {e : Expr} {te : TE} {pos p1 p2 : Pos} {j : Nat} {b : Str} (hb : b = sB) (he : PE X e te) : PE X (.FormattedValue e (-1) (some (.JoinedStr [.Constant (.str b) j p1] p2)) pos) (tFmtB te) := by
  subst hb
  have hs : PE X (.JoinedStr [.Constant (.str sB) j p1] p2) (tC (.str sB)) := pe_joined1 pe_str
  refine ⟨fun pins s σ H Q I h => ?_⟩
  refine wpAny_FormattedValue_spec (thn (he.run pins s σ H _ I h) fun v s1 hv => ?_)
  obtain ⟨x, H1, I1, r1, m, rfl, hm, q⟩ := hv
  obtain ⟨t, rfl⟩ := r1
  refine thn (hs.run pins s1 σ H1 (fun x H2 => x = .str sB ∧ H2 = H1) I1 ⟨rfl, rfl⟩) fun r s2 hr => ?_
  obtain ⟨y, H2, I2, ry, ey, eH⟩ := hr
  subst ey eH
  obtain ⟨t2, rfl⟩ := ry
  refine ⟨sB, t2, rfl, wpAny_formatField_spec (by decide) (fun s' => typeIs_int s' _ _) PySem.F.slot_int_format PySem.F.entry_int_format PySem.F.args_int_format_2 (fun u => gives_b m t u) ⟨.str (binS m), H2, I2.tok _, ⟨_, rfl⟩, q⟩ (by decide) ?_⟩
  rw [binS_len]
  exact Nat.le_trans (binL_len (by decide) hm) (sz (by decide))
end
end XT
/-! how many ones a number has -/
namespace XT
open PySem PySem.Spec PyProof.Rows L2 Builtin Builtin.Str
def pop (m : Nat) : Nat := (binL m).count 49
theorem pop_lt {m : Nat} (h : m < 2) : pop m = m := by
  have : m = 0 ∨ m = 1 := by omega
  rcases this with rfl | rfl <;> decide
theorem pop_half (m : Nat) : pop m = pop (m / 2) + m % 2 := by
  by_cases h : m < 2
  · have : m = 0 ∨ m = 1 := by omega
    rcases this with rfl | rfl <;> decide
  · unfold pop binL
    rw [Nat.toDigits_of_base_le (by decide) (by omega), List.map_append, List.count_append]
    congr 1
    have : m % 2 = 0 ∨ m % 2 = 1 := by omega
    rcases this with e | e <;> rw [e] <;> decide
theorem occ_count (s : PySem.Str) (c limit : Nat) : ∀ (k a : Nat) (st : Array Nat × Nat), st.snd ≤ a → st.fst.size + k ≤ limit →
    (forIn (List.range' a k) st (StrLaws.occBody s ⟨#[c]⟩ s.length limit)).run.fst.size = st.fst.size + ((List.range' a k).filter fun i => decide (s.cps.toList[i]? = some c)).length
  | 0, a, st, _, _ => by simp
  | k + 1, a, st, h1, h2 => by
    rw [List.range'_succ, List.forIn_cons, List.filter_cons]
    unfold StrLaws.occBody
    have hs := StrLaws.subAt_one s c a
    by_cases hc : s.cps.toList[a]? = some c
    · obtain ⟨q1, q2⟩ := hs.mpr hc
      have hif : ((st.fst.size < limit ∧ st.snd ≤ a) ∧ a + (⟨#[c]⟩ : PySem.Str).length ≤ s.length) ∧ subAt s ⟨#[c]⟩ a = true := ⟨⟨⟨by omega, h1⟩, q1⟩, q2⟩
      rw [if_pos hif, if_pos (decide_eq_true hc)]
      have ih := occ_count s c limit k (a + 1) (st.fst.push a, a + 1) (Nat.le_refl _) (by simp; omega)
      rw [Array.size_push] at ih
      rw [List.length_cons]
      refine Eq.trans ih ?_
      omega
    · have hif : ¬(((st.fst.size < limit ∧ st.snd ≤ a) ∧ a + (⟨#[c]⟩ : PySem.Str).length ≤ s.length) ∧ subAt s ⟨#[c]⟩ a = true) := fun z => hc (hs.mp ⟨z.1.2, z.2⟩)
      rw [if_neg hif, if_neg (by simpa using hc)]
      exact occ_count s c limit k (a + 1) st (by omega) (by omega)
theorem count_list (c : Nat) : ∀ l : List Nat, ((List.range' 0 (l.length + 1)).filter fun i => decide (l[i]? = some c)).length = l.count c
  | [] => by simp [List.range'_succ]
  | x :: l => by
    have ih := count_list c l
    have e : List.range' 0 ((x :: l).length + 1) = 0 :: (List.range' 0 (l.length + 1)).map (· + 1) := by
      rw [List.length_cons, List.range'_succ]
      congr 1
      rw [List.range'_eq_map_range, List.range'_eq_map_range, List.map_map]
      refine List.map_congr_left fun i _ => ?_
      show 0 + 1 + i = 0 + i + 1
      omega
    rw [e, List.filter_cons, List.filter_map, List.count_cons]
    have e2 : ((fun i => decide ((x :: l)[i]? = some c)) ∘ fun x => x + 1) = fun i => decide (l[i]? = some c) := by
      funext i
      simp
    rw [e2]
    by_cases hx : x = c
    · subst hx
      simp [ih]
    · simp [hx, ih]
theorem count_one (m : Nat) : (occurrences (binS m) ⟨#[49]⟩ 0 (binS m).length ((binS m).length + 1)).length = pop m := by
  rw [StrLaws.occ_eq, Array.length_toList]
  have h := occ_count (binS m) 49 ((binS m).length + 1) ((binS m).length + 1) 0 (#[], 0) (Nat.le_refl _) (by simp)
  have h2 := count_list 49 (binL m)
  have e : (binS m).cps.toList = binL m := by unfold binS; simp
  rw [e, binS_len] at h
  simp only [Nat.sub_zero]
  rw [binS_len]
  refine h.trans ?_
  rw [h2]
  show 0 + pop m = pop m
  omega
/-- the sign of two numbers -/
def sgn (a b : Nat) : Int := if pop (a &&& b) % 2 = 0 then 1 else -1
theorem and_half (a b : Nat) : (a &&& b) / 2 = a / 2 &&& b / 2 := Nat.and_div_two
theorem and_mod (a b : Nat) : (a &&& b) % 2 = a % 2 * (b % 2) := by
  have e : (a &&& b) &&& 1 = (a &&& 1) &&& (b &&& 1) := by
    apply Nat.eq_of_testBit_eq
    intro i
    simp only [Nat.testBit_and]
    cases a.testBit i <;> cases b.testBit i <;> cases (1 : Nat).testBit i <;> rfl
  rw [Nat.and_one_is_mod, Nat.and_one_is_mod, Nat.and_one_is_mod] at e
  rw [e]
  have h1 : a % 2 = 0 ∨ a % 2 = 1 := by omega
  have h2 : b % 2 = 0 ∨ b % 2 = 1 := by omega
  rcases h1 with h1 | h1 <;> rcases h2 with h2 | h2 <;> rw [h1, h2] <;> rfl
theorem sgn_step (a b : Nat) : sgn a b = (if a % 2 = 1 ∧ b % 2 = 1 then -1 else 1) * sgn (a / 2) (b / 2) := by
  unfold sgn
  rw [pop_half (a &&& b), and_half, and_mod]
  have h1 : a % 2 = 0 ∨ a % 2 = 1 := by omega
  have h2 : b % 2 = 0 ∨ b % 2 = 1 := by omega
  rcases h1 with h1 | h1 <;> rcases h2 with h2 | h2 <;> simp only [h1, h2] <;> simp <;> split <;> split <;> omega
theorem sgn_zeroL (b : Nat) : sgn 0 b = 1 := by
  unfold sgn
  rw [Nat.zero_and]
  decide
theorem sgn_comm (a b : Nat) : sgn a b = sgn b a := by
  unfold sgn
  rw [Nat.and_comm]
theorem sgn_zeroR (a : Nat) : sgn a 0 = 1 := by rw [sgn_comm, sgn_zeroL]
end XT
/-! signed counts -/
namespace XT
open PySem PySem.Spec PyProof.Rows L2
def scI (n : Nat) (p : Nat → Bool) (u : Nat) : Int := ((lotOf n p).map fun x => sgn u x).sum
def scL (n : Nat) (p : Nat → Bool) : List Int := (List.range (2 ^ n)).map (scI n p)
def TupI (H : Hp) (v : V) (is : List Int) : Prop := ∃ q, v = .ref q ∧ H q = some (.tup (is.map V.int))
theorem TupI.same {H H' : Hp} {v : V} {is : List Int} (h : TupI H v is) (e : Same H H') : TupI H' v is := by
  obtain ⟨q, rfl, h⟩ := h
  exact ⟨q, rfl, e _ _ h⟩
def spSc : Sp := fun vs H Q _ => ∃ (v : V) (n : Nat) (p : Nat → Bool), vs = [v] ∧ LotAt H v n p ∧ n ≤ 6 ∧ ∀ H' z, Same H H' → TupI H' z (scL n p) → Q z H'
def spSgn : Sp := fun vs H Q _ => ∃ a b : Nat, vs = [.int (a : Int), .int (b : Int)] ∧ a < 2 ^ 900 ∧ b < 2 ^ 900 ∧ ∀ H', Same H H' → Q (.int (sgn a b)) H'
abbrev teSc (K : PySem.W.Frag) : TE := tCB (rSum K) (tCons (tLc (iTup K (tVar 2)) (gName 4) tYes (tDf spSgn (tCons (tVar 3) (tCons (tVar 4) tNil))) [4]) tNil)
theorem lt900 {a : Nat} (h : a < 64) : a < 2 ^ 900 := Nat.lt_of_lt_of_le h (by decide)
theorem sc_walk {K : PySem.W.Frag} {n : Nat} {p : Nat → Bool} {y : Addr} {H : Hp} {v1 : V} {z1 z3 z4 : Option V} {D : Addr} {Qd : Hp → Prop} (hn : n ≤ 6) (hy : H y = some (.tup (vm (lotOf n p)))) (nD : H D = none)
    (hd : ∀ H3, Same H H3 → H3 D = some (.lst ((scL n p).map V.int)) → Qd H3) :
    ∃ W : Nat → Nat → Hp → Prop, (∃ m, W 0 m (upd H D (.lst []))) ∧ ∀ i m H, W i m H →
      ((Itr 0 (2 ^ n)).stop i H ∧ Qd H) ∨ ((Itr 0 (2 ^ n)).go i H ∧ ∃ Nx : Hp → Prop, (∀ H', Nx H' → ∃ m', m' < m ∧ W (i + 1) m' H') ∧ ∀ x H', (Itr 0 (2 ^ n)).yld i H x H' → gName 3 x (wipe [some v1, z1, some (.ref y), z3, z4] [3]) H' fun σ2 H2 => wipe σ2 [3] = wipe [some v1, z1, some (.ref y), z3, z4] [3] ∧ tYes σ2 H2 fun c H3 =>
        if c = true then teSc K σ2 H3 fun y H4 => ∃ acc, H4 D = some (.lst acc) ∧ acc.length < sizeLine ∧ Nx (upd H4 D (.lst (acc ++ [y]))) else Nx H3) := by
  have h6 := pow6 hn
  have hl := lot_len hn p
  refine lcp_range (n := 2 ^ n) (p := fun _ => true) (f := fun m => .int (scI n p m)) nD (small64 (by omega)) (fun i H3 hi s3 => ?_) (fun H3 s3 hD => hd H3 s3 ?_)
  · intro R1 R2 h1 h2
    have hy3 := s3 _ _ hy
    refine ⟨rfl, iteT (B := R1 H3) ⟨.ref y, rfl, y, rfl, ⟨_, SqT.of hy3⟩, fun B2 nB => ?_⟩⟩
    refine lcp_tup (p := fun _ => true) (f := fun v => match v with | .int k => .int (sgn i k.toNat) | v => v) nB (SqT.of hy3) (small64 (by rw [vm_len]; omega)) (fun k z H4 hz s4 => ?_) (fun H4 s4 hD2 => ?_)
    · intro R3 R4 h3 h4
      obtain ⟨m, hm, rfl⟩ := mem_vm hz
      have hm2 := (mem_lot.mp (List.mem_of_getElem? hm)).1
      exact ⟨rfl, iteT (B := R3 H4) ⟨_, rfl, _, rfl, i, m, congrArg (fun z => [V.int z, V.int (m : Int)]) (Int.zero_add _), lt900 (by omega), lt900 (by omega), fun H5 s5 => h4 rfl _ s5⟩⟩
    · have e : (((vm (lotOf n p)).filter fun _ => true).map fun v => match v with | .int k => V.int (sgn i k.toNat) | v => v) = ((lotOf n p).map fun x => sgn i x).map V.int := by
        rw [List.filter_eq_self.mpr (fun _ _ => rfl)]
        unfold vm
        rw [List.map_map, List.map_map]
        rfl
      rw [e] at hD2
      exact ⟨B2, _, rfl, SqL.of hD2, h2 rfl _ s4⟩
  · rw [hD, List.filter_eq_self.mpr (fun _ _ => rfl)]
    unfold scL
    rw [List.map_map]
    rfl
end XT
/-! sums of lots as numbers -/
namespace XT
open PySem PySem.Spec PyProof.Rows L2
/-- how many numbers below N the set has -/
def cnt (N : Nat) (S : Int → Bool) : Nat := ((List.range N).filter fun (m : Nat) => S (m : Int)).length
theorem cnt_le (N : Nat) (S : Int → Bool) : cnt N S ≤ N := by
  unfold cnt
  refine Nat.le_trans (List.length_filter_le _ _) ?_
  rw [List.length_range]
  exact Nat.le_refl _
theorem cnt_succ (N : Nat) (S : Int → Bool) : cnt (N + 1) S = cnt N S + if S (N : Int) = true then 1 else 0 := by
  unfold cnt
  rw [List.range_succ, List.filter_append, List.length_append]
  by_cases h : S (N : Int) = true
  · simp [h]
  · simp [h]
theorem cnt_old {N m : Nat} (S : Int → Bool) (h : N ≤ m) : cnt N (fun j => S j || decide (j = (m : Int))) = cnt N S := by
  unfold cnt
  congr 1
  refine List.filter_congr fun x hx => ?_
  have h2 := List.mem_range.mp hx
  show (S (x : Int) || decide ((x : Int) = (m : Int))) = S (x : Int)
  rw [decide_eq_false (by omega), Bool.or_false]
theorem cnt_add {m : Nat} (S : Int → Bool) : ∀ {N : Nat}, m < N → cnt N (fun j => S j || decide (j = (m : Int))) = if S (m : Int) = true then cnt N S else cnt N S + 1
  | 0, h => absurd h (Nat.not_lt_zero _)
  | N + 1, h => by
    rw [cnt_succ, cnt_succ]
    by_cases e : m = N
    · subst e
      rw [cnt_old S (Nat.le_refl _)]
      by_cases hS : S (m : Int) = true
      · simp [hS]
      · simp [hS]
    · rw [cnt_add S (show m < N by omega), decide_eq_false (show ¬((N : Int) = (m : Int)) by omega), Bool.or_false]
      by_cases hS : S (m : Int) = true
      · simp [hS]
      · simp [hS]; omega
/-- the sum of two lots -/
def addB (n : Nat) (p r : Nat → Bool) (m : Nat) : Bool := (List.range (2 ^ n)).any fun x => p x && r (x ^^^ m)
theorem add_iff {n : Nat} {p r : Nat → Bool} {m : Nat} : addB n p r m = true ↔ ∃ x, x < 2 ^ n ∧ p x = true ∧ r (x ^^^ m) = true := by
  unfold addB
  rw [List.any_eq_true]
  constructor
  · rintro ⟨x, h1, h2⟩
    rw [Bool.and_eq_true] at h2
    exact ⟨x, List.mem_range.mp h1, h2.1, h2.2⟩
  · rintro ⟨x, h1, h2, h3⟩
    exact ⟨x, List.mem_range.mpr h1, by rw [h2, h3]; rfl⟩
def zeroB (m : Nat) : Bool := decide (m = 0)
def sumB (n : Nat) (ps : List (Nat → Bool)) : Nat → Bool := ps.foldl (addB n) zeroB
theorem lot_zero (n : Nat) : lotOf n zeroB = [0] := by
  have h : ∀ N, 0 < N → (List.range N).filter zeroB = [0] := by
    intro N hN
    obtain ⟨k, rfl⟩ : ∃ k, N = k + 1 := ⟨N - 1, by omega⟩
    rw [List.range_succ_eq_map, List.filter_cons]
    have e : (List.filter zeroB (List.map Nat.succ (List.range k))) = [] := by
      rw [List.filter_eq_nil_iff]
      intro a ha
      obtain ⟨b, _, rfl⟩ := List.mem_map.mp ha
      simp [zeroB]
    rw [e]
    rfl
  exact h _ (pow0 n)
theorem sum_take {n : Nat} {ps : List (Nat → Bool)} {i : Nat} {p : Nat → Bool} (h : ps[i]? = some p) : sumB n (ps.take (i + 1)) = addB n (sumB n (ps.take i)) p := by
  unfold sumB
  rw [List.take_add_one, h, List.foldl_append]
  rfl
theorem add_congr {n : Nat} {p p' r r' : Nat → Bool} {m : Nat} (hm : m < 2 ^ n) (h1 : ∀ x, x < 2 ^ n → p x = p' x) (h2 : ∀ x, x < 2 ^ n → r x = r' x) : addB n p r m = addB n p' r' m := by
  rw [Bool.eq_iff_iff, add_iff, add_iff]
  constructor
  · rintro ⟨x, a, b, c⟩
    exact ⟨x, a, by rw [← h1 x a]; exact b, by rw [← h2 _ (xor_lt a hm)]; exact c⟩
  · rintro ⟨x, a, b, c⟩
    exact ⟨x, a, by rw [h1 x a]; exact b, by rw [h2 _ (xor_lt a hm)]; exact c⟩
theorem add_zero' {n : Nat} {p : Nat → Bool} {m : Nat} (hm : m < 2 ^ n) : addB n zeroB p m = p m := by
  rw [Bool.eq_iff_iff, add_iff]
  constructor
  · rintro ⟨x, a, b, c⟩
    have : x = 0 := of_decide_eq_true b
    subst this
    rwa [Nat.zero_xor] at c
  · intro h
    exact ⟨0, pow0 n, rfl, by rw [Nat.zero_xor]; exact h⟩
theorem add_comm' {n : Nat} {p r : Nat → Bool} {m : Nat} (hm : m < 2 ^ n) : addB n p r m = addB n r p m := by
  have go : ∀ {p r : Nat → Bool}, addB n p r m = true → addB n r p m = true := fun {p r} h => by
    obtain ⟨x, a, b, c⟩ := add_iff.mp h
    exact add_iff.mpr ⟨x ^^^ m, xor_lt a hm, c, by rw [xor_back]; exact b⟩
  rw [Bool.eq_iff_iff]
  exact ⟨go, go⟩
theorem add_assoc' {n : Nat} {p r o : Nat → Bool} {m : Nat} (hm : m < 2 ^ n) : addB n (addB n p r) o m = addB n p (addB n r o) m := by
  rw [Bool.eq_iff_iff, add_iff, add_iff]
  constructor
  · rintro ⟨x, a, b, c⟩
    obtain ⟨y, a2, b2, c2⟩ := add_iff.mp b
    refine ⟨y, a2, b2, add_iff.mpr ⟨y ^^^ x, xor_lt a2 a, c2, ?_⟩⟩
    have e : y ^^^ x ^^^ (y ^^^ m) = x ^^^ m := by rw [Nat.xor_comm y x, Nat.xor_assoc, ← Nat.xor_assoc y y m, Nat.xor_self, Nat.zero_xor]
    rw [e]
    exact c
  · rintro ⟨y, a2, b2, c⟩
    obtain ⟨z, a, c2, c3⟩ := add_iff.mp c
    refine ⟨y ^^^ z, xor_lt a2 a, add_iff.mpr ⟨y, a2, b2, ?_⟩, ?_⟩
    · have e : y ^^^ (y ^^^ z) = z := by rw [← Nat.xor_assoc, Nat.xor_self, Nat.zero_xor]
      rw [e]
      exact c2
    · have e : y ^^^ z ^^^ m = z ^^^ (y ^^^ m) := by rw [Nat.xor_comm y z, Nat.xor_assoc]
      rw [e]
      exact c3
/-- the greatest addend of p for r -/
def gaB (n : Nat) (p r : Nat → Bool) (m : Nat) : Bool := (lotOf n p).all fun x => r (x ^^^ m)
theorem ga_iff {n : Nat} {p r : Nat → Bool} {m : Nat} : gaB n p r m = true ↔ ∀ x, x < 2 ^ n → p x = true → r (x ^^^ m) = true := by
  unfold gaB
  rw [List.all_eq_true]
  exact ⟨fun h x a b => h x (mem_lot.mpr ⟨a, b⟩), fun h x hx => h x (mem_lot.mp hx).1 (mem_lot.mp hx).2⟩
/-! sums as numbers -/
theorem sum1 {n : Nat} {p : Nat → Bool} {m : Nat} (hm : m < 2 ^ n) : sumB n [p] m = p m := add_zero' hm
theorem sum2 {n : Nat} {p r : Nat → Bool} {m : Nat} (hm : m < 2 ^ n) : sumB n [p, r] m = addB n p r m := add_congr hm (fun _ h => add_zero' h) fun _ _ => rfl
theorem sum3 {n : Nat} {p r o : Nat → Bool} {m : Nat} (hm : m < 2 ^ n) : sumB n [p, r, o] m = addB n (addB n p r) o m := add_congr hm (fun _ h => sum2 h) fun _ _ => rfl
theorem add_or {n : Nat} {p r o : Nat → Bool} {m : Nat} : addB n p (fun x => r x || o x) m = (addB n p r m || addB n p o m) := by
  rw [Bool.eq_iff_iff, Bool.or_eq_true, add_iff, add_iff, add_iff]
  constructor
  · rintro ⟨x, a, b, c⟩
    rcases Bool.or_eq_true_iff.mp c with c | c
    · exact .inl ⟨x, a, b, c⟩
    · exact .inr ⟨x, a, b, c⟩
  · rintro (⟨x, a, b, c⟩ | ⟨x, a, b, c⟩)
    · exact ⟨x, a, b, by rw [c]; rfl⟩
    · exact ⟨x, a, b, by rw [c, Bool.or_true]⟩
def oneB (a m : Nat) : Bool := decide (m = a)
theorem lot_one {n a : Nat} (ha : a < 2 ^ n) : vm (lotOf n (oneB a)) = [.int (a : Int)] := by
  refine (rising_lot (ns := [(a : Int)]) (by simp) fun k => ?_).symm
  constructor
  · intro h
    have : k = (a : Int) := by simpa using h
    exact ⟨a, this, ha, decide_eq_true rfl⟩
  · rintro ⟨m, h1, h2, h3⟩
    have : m = a := of_decide_eq_true h3
    rw [h1, this]
    exact List.mem_singleton.mpr rfl
theorem add_one {n a : Nat} {p : Nat → Bool} {m : Nat} (ha : a < 2 ^ n) (hm : m < 2 ^ n) : addB n (oneB a) p m = p (m ^^^ a) := by
  rw [Bool.eq_iff_iff, add_iff]
  constructor
  · rintro ⟨x, a', b, c⟩
    have : x = a := of_decide_eq_true b
    subst this
    rwa [Nat.xor_comm] at c
  · intro h
    exact ⟨a, ha, decide_eq_true rfl, by rw [Nat.xor_comm]; exact h⟩
theorem lot_mono {n : Nat} {p r : Nat → Bool} (h : ∀ m, m < 2 ^ n → p m = true → r m = true) : (lotOf n p).length ≤ (lotOf n r).length := by
  unfold lotOf
  rw [← List.countP_eq_length_filter, ← List.countP_eq_length_filter]
  exact List.countP_mono_left fun m hm => h m (List.mem_range.mp hm)
theorem nodup_le : ∀ {l m : List Nat}, l.Nodup → l ⊆ m → l.length ≤ m.length
  | [], _, _, _ => Nat.zero_le _
  | x :: l, m, h, s => by
    obtain ⟨h1, h2⟩ := List.nodup_cons.mp h
    have hx : x ∈ m := s List.mem_cons_self
    have h3 := nodup_le (l := l) (m := m.erase x) h2 fun y hy => (List.mem_erase_of_ne (fun e => h1 (by rw [← e]; exact hy))).mpr (s (List.mem_cons_of_mem _ hy))
    rw [List.length_erase_of_mem hx] at h3
    have h4 : 0 < m.length := List.length_pos_of_mem hx
    rw [List.length_cons]
    omega
theorem lot_len_xor {n a : Nat} {p : Nat → Bool} (ha : a < 2 ^ n) : (lotOf n fun m => p (m ^^^ a)).length = (lotOf n p).length := by
  have sub : ∀ {p : Nat → Bool}, (lotOf n p).length ≤ (lotOf n fun m => p (m ^^^ a)).length := fun {p} => by
    have h1 : ((lotOf n p).map fun (m : Nat) => m ^^^ a).Nodup := by
      have h := nodup_lot n p
      unfold List.Nodup at h ⊢
      rw [List.pairwise_map]
      refine h.imp fun {x y} hxy e => hxy ?_
      have e3 := congrArg (· ^^^ a) e
      simpa [Nat.xor_assoc] using e3
    have h2 : ((lotOf n p).map fun (m : Nat) => m ^^^ a) ⊆ (lotOf n fun m => p (m ^^^ a)) := by
      intro z hz
      obtain ⟨m, hm, rfl⟩ := List.mem_map.mp hz
      obtain ⟨h3, h4⟩ := mem_lot.mp hm
      exact mem_lot.mpr ⟨xor_lt h3 ha, by rw [xor_back]; exact h4⟩
    have h3 := nodup_le h1 h2
    rw [List.length_map] at h3
    exact h3
  refine Nat.le_antisymm ?_ sub
  have h := sub (p := fun m => p (m ^^^ a))
  have e : (lotOf n fun m => p (m ^^^ a ^^^ a)) = lotOf n p := lot_congr fun m _ => by rw [xor_back]
  rw [e] at h
  exact h
end XT
/-! signed counts determine the lot -/
namespace XT
open PySem PySem.Spec PyProof.Rows L2
theorem xor_half (x y : Nat) : (x ^^^ y) / 2 = x / 2 ^^^ y / 2 := Nat.xor_div_two
theorem xor_mod (x y : Nat) : (x ^^^ y) % 2 = (x % 2 + y % 2) % 2 := by
  have e : (x ^^^ y) &&& 1 = (x &&& 1) ^^^ (y &&& 1) := by
    apply Nat.eq_of_testBit_eq
    intro i
    simp only [Nat.testBit_and, Nat.testBit_xor]
    cases x.testBit i <;> cases y.testBit i <;> cases (1 : Nat).testBit i <;> rfl
  rw [Nat.and_one_is_mod, Nat.and_one_is_mod, Nat.and_one_is_mod] at e
  rw [e]
  have h1 : x % 2 = 0 ∨ x % 2 = 1 := by omega
  have h2 : y % 2 = 0 ∨ y % 2 = 1 := by omega
  rcases h1 with h1 | h1 <;> rcases h2 with h2 | h2 <;> rw [h1, h2] <;> rfl
theorem sgn_xor : ∀ (u x y : Nat), sgn u (x ^^^ y) = sgn u x * sgn u y
  | 0, x, y => by rw [sgn_zeroL, sgn_zeroL, sgn_zeroL]; rfl
  | u + 1, x, y => by
    have ih := sgn_xor ((u + 1) / 2) (x / 2) (y / 2)
    rw [sgn_step (u + 1) (x ^^^ y), sgn_step (u + 1) x, sgn_step (u + 1) y, xor_half, ih, xor_mod]
    have h1 : (u + 1) % 2 = 0 ∨ (u + 1) % 2 = 1 := by omega
    have h2 : x % 2 = 0 ∨ x % 2 = 1 := by omega
    have h3 : y % 2 = 0 ∨ y % 2 = 1 := by omega
    generalize sgn ((u + 1) / 2) (x / 2) = A
    generalize sgn ((u + 1) / 2) (y / 2) = C
    rcases h1 with h1 | h1 <;> rcases h2 with h2 | h2 <;> rcases h3 with h3 | h3 <;> simp [h1, h2, h3, Int.neg_mul, Int.mul_neg]
  termination_by u => u
  decreasing_by omega
def orthB (n : Nat) : Bool := (List.range (2 ^ n)).all fun z => decide (((List.range (2 ^ n)).map fun u => sgn u z).sum = if z = 0 then ((2 ^ n : Nat) : Int) else 0)
theorem orth_all : ∀ n, n ≤ 6 → orthB n = true := by
  intro n hn
  have : n = 0 ∨ n = 1 ∨ n = 2 ∨ n = 3 ∨ n = 4 ∨ n = 5 ∨ n = 6 := by omega
  rcases this with rfl | rfl | rfl | rfl | rfl | rfl | rfl <;> decide +kernel
theorem orth {n z : Nat} (hn : n ≤ 6) (hz : z < 2 ^ n) : ((List.range (2 ^ n)).map fun u => sgn u z).sum = if z = 0 then ((2 ^ n : Nat) : Int) else 0 :=
  of_decide_eq_true (List.all_eq_true.mp (orth_all n hn) z (List.mem_range.mpr hz))
/-! sums -/
theorem sum_add (f g : Nat → Int) : ∀ l : List Nat, (l.map fun x => f x + g x).sum = (l.map f).sum + (l.map g).sum
  | [] => rfl
  | x :: l => by
    have ih := sum_add f g l
    simp only [List.map_cons, List.sum_cons, ih]
    omega
theorem sum_mul (c : Int) (f : Nat → Int) : ∀ l : List Nat, (l.map fun x => c * f x).sum = c * (l.map f).sum
  | [] => by simp
  | x :: l => by
    have ih := sum_mul c f l
    simp only [List.map_cons, List.sum_cons, ih, Int.mul_add]
theorem sum_zero : ∀ l : List Nat, (l.map fun _ => (0 : Int)).sum = 0
  | [] => rfl
  | x :: l => by
    have ih := sum_zero l
    simp only [List.map_cons, List.sum_cons, ih]
    rfl
theorem sum_swap (f : Nat → Nat → Int) : ∀ l m : List Nat, (l.map fun x => (m.map fun y => f x y).sum).sum = (m.map fun y => (l.map fun x => f x y).sum).sum
  | [], m => by simp [sum_zero]
  | x :: l, m => by
    have ih := sum_swap f l m
    simp only [List.map_cons, List.sum_cons, ih]
    rw [← sum_add]
theorem sum_congr {f g : Nat → Int} {l : List Nat} (h : ∀ x ∈ l, f x = g x) : (l.map f).sum = (l.map g).sum := by rw [List.map_congr_left h]
theorem sum_perm {l m : List Int} (h : l.Perm m) : l.sum = m.sum := by
  induction h with
  | nil => rfl
  | cons x _ ih => simp only [List.sum_cons, ih]
  | swap x y l => simp only [List.sum_cons]; omega
  | trans _ _ i1 i2 => rw [i1, i2]
theorem sum_one {c : Int} {y : Nat} : ∀ {l : List Nat}, l.Nodup → (l.map fun x => if x = y then c else 0).sum = if y ∈ l then c else 0
  | [], _ => by simp
  | x :: l, h => by
    obtain ⟨h1, h2⟩ := List.nodup_cons.mp h
    have ih := sum_one (c := c) (y := y) h2
    simp only [List.map_cons, List.sum_cons, ih]
    by_cases e : x = y
    · subst e
      simp [h1]
    · have e2 : ¬ y = x := fun z => e z.symm
      simp [e, e2]
theorem perm_nodup {l m : List Nat} (hl : l.Nodup) (hm : m.Nodup) (h : ∀ x, x ∈ l ↔ x ∈ m) : l.Perm m := by
  rw [List.perm_iff_count]
  intro a
  by_cases ha : a ∈ l
  · rw [List.Nodup.count hl, List.Nodup.count hm, if_pos ha, if_pos ((h a).mp ha)]
  · rw [List.Nodup.count hl, List.Nodup.count hm, if_neg ha, if_neg (fun z => ha ((h a).mpr z))]
/-- the signed counts lead back to the lot -/
theorem inv {n y : Nat} {p : Nat → Bool} (hn : n ≤ 6) (hy : y < 2 ^ n) : ((List.range (2 ^ n)).map fun u => scI n p u * sgn u y).sum = if p y = true then ((2 ^ n : Nat) : Int) else 0 := by
  have e1 : ((List.range (2 ^ n)).map fun u => scI n p u * sgn u y).sum = ((List.range (2 ^ n)).map fun u => ((lotOf n p).map fun x => sgn u (x ^^^ y)).sum).sum := by
    refine sum_congr fun u _ => ?_
    unfold scI
    rw [Int.mul_comm, ← sum_mul]
    exact sum_congr fun x _ => by rw [sgn_xor, Int.mul_comm]
  rw [e1, sum_swap]
  have e2 : ((lotOf n p).map fun x => ((List.range (2 ^ n)).map fun u => sgn u (x ^^^ y)).sum).sum = ((lotOf n p).map fun x => if x = y then ((2 ^ n : Nat) : Int) else 0).sum := by
    refine sum_congr fun x hx => ?_
    rw [orth hn (xor_lt (mem_lot.mp hx).1 hy)]
    by_cases e : x = y
    · rw [if_pos e, if_pos (by rw [e, Nat.xor_self])]
    · rw [if_neg e, if_neg (fun z => e ?_)]
      have h := congrArg (· ^^^ y) z
      simpa [Nat.xor_assoc] using h
  rw [e2, sum_one (nodup_lot n p)]
  by_cases h : p y = true
  · rw [if_pos h, if_pos (mem_lot.mpr ⟨hy, h⟩)]
  · rw [if_neg h, if_neg (fun z => h (mem_lot.mp z).2)]
/-- a turned lot's signed counts -/
theorem sc_turn {n m u : Nat} {p : Nat → Bool} (hm : m < 2 ^ n) : scI n (fun x => p (x ^^^ m)) u = sgn u m * scI n p u := by
  unfold scI
  have pm : (lotOf n fun x => p (x ^^^ m)).Perm ((lotOf n p).map (· ^^^ m)) := by
    refine perm_nodup (nodup_lot _ _) ?_ fun x => ?_
    · have h := nodup_lot n p
      unfold List.Nodup at h ⊢
      rw [List.pairwise_map]
      refine h.imp fun {x y} hxy e => hxy ?_
      have e3 := congrArg (· ^^^ m) e
      simpa [Nat.xor_assoc] using e3
    · rw [List.mem_map, mem_lot]
      constructor
      · rintro ⟨h1, h2⟩
        exact ⟨x ^^^ m, mem_lot.mpr ⟨xor_lt h1 hm, h2⟩, xor_back x m⟩
      · rintro ⟨y, hy, rfl⟩
        obtain ⟨h1, h2⟩ := mem_lot.mp hy
        exact ⟨xor_lt h1 hm, by rw [xor_back]; exact h2⟩
  rw [sum_perm (pm.map fun x => sgn u x), List.map_map, ← sum_mul]
  exact sum_congr fun x _ => by
    show sgn u (x ^^^ m) = _
    rw [sgn_xor, Int.mul_comm]
end XT
/-! pair counts and the squares of the signed counts -/
namespace XT
open PySem PySem.Spec PyProof.Rows L2
theorem sum_flt (q : Nat → Bool) (f : Nat → Int) : ∀ l : List Nat, ((l.filter q).map f).sum = (l.map fun x => if q x = true then f x else 0).sum
  | [] => rfl
  | x :: l => by
    have ih := sum_flt q f l
    by_cases h : q x = true
    · simp only [List.filter_cons, h, if_true, List.map_cons, List.sum_cons, ih]
    · simp only [List.filter_cons, h, List.map_cons, List.sum_cons]
      simpa using ih
theorem len_sum {α : Type} (q : α → Bool) : ∀ l : List α, ((l.filter q).length : Int) = (l.map fun x => if q x = true then (1 : Int) else 0).sum
  | [] => rfl
  | x :: l => by
    have ih := len_sum q l
    by_cases h : q x = true
    · simp only [List.filter_cons, h, if_true, List.map_cons, List.sum_cons, List.length_cons, ← ih]
      omega
    · simp only [List.filter_cons, h, List.map_cons, List.sum_cons]
      simpa using ih
theorem pc_sq {n u : Nat} {p : Nat → Bool} : ((List.range (2 ^ n)).map fun d => sgn u d * (pcN n p d : Int)).sum = scI n p u * scI n p u := by
  have e1 : ((List.range (2 ^ n)).map fun d => sgn u d * (pcN n p d : Int)).sum = ((List.range (2 ^ n)).map fun d => ((lotOf n p).map fun x => if p (x ^^^ d) = true then sgn u d else 0).sum).sum := by
    refine sum_congr fun d _ => ?_
    unfold pcN
    rw [len_sum, ← sum_mul]
    refine sum_congr fun x _ => ?_
    by_cases h : p (x ^^^ d) = true
    · rw [if_pos h, if_pos h, Int.mul_one]
    · rw [if_neg h, if_neg h, Int.mul_zero]
  rw [e1, sum_swap]
  have e2 : ((lotOf n p).map fun x => ((List.range (2 ^ n)).map fun d => if p (x ^^^ d) = true then sgn u d else 0).sum).sum = ((lotOf n p).map fun x => scI n p u * sgn u x).sum := by
    refine sum_congr fun x hx => ?_
    rw [Int.mul_comm, ← sc_turn (mem_lot.mp hx).1]
    unfold scI
    rw [show lotOf n (fun d => p (d ^^^ x)) = (List.range (2 ^ n)).filter (fun d => p (d ^^^ x)) from rfl, sum_flt]
    refine sum_congr fun d _ => ?_
    rw [Nat.xor_comm]
  rw [e2, sum_mul]
  rfl
theorem sq_pc {n u : Nat} {p : Nat → Bool} (hn : n ≤ 6) (hu : u < 2 ^ n) : ((List.range (2 ^ n)).map fun d => sgn u d * (scI n p d * scI n p d)).sum = ((2 ^ n : Nat) : Int) * (pcN n p u : Int) := by
  have e1 : ((List.range (2 ^ n)).map fun d => sgn u d * (scI n p d * scI n p d)).sum = ((List.range (2 ^ n)).map fun d => ((List.range (2 ^ n)).map fun e => (pcN n p e : Int) * sgn d (e ^^^ u)).sum).sum := by
    refine sum_congr fun d _ => ?_
    rw [← pc_sq, ← sum_mul]
    refine sum_congr fun e _ => ?_
    rw [sgn_xor, sgn_comm u d, Int.mul_comm (sgn d u), Int.mul_comm (sgn d e), Int.mul_assoc]
  rw [e1, sum_swap]
  have e2 : ((List.range (2 ^ n)).map fun e => ((List.range (2 ^ n)).map fun d => (pcN n p e : Int) * sgn d (e ^^^ u)).sum).sum = ((List.range (2 ^ n)).map fun e => if e = u then ((2 ^ n : Nat) : Int) * (pcN n p u : Int) else 0).sum := by
    refine sum_congr fun e he => ?_
    rw [sum_mul, orth hn (xor_lt (List.mem_range.mp he) hu)]
    by_cases h : e = u
    · rw [if_pos h, if_pos (by rw [h, Nat.xor_self]), h, Int.mul_comm]
    · rw [if_neg h, if_neg (fun z => h ?_), Int.mul_zero]
      have h2 := congrArg (· ^^^ u) z
      simpa [Nat.xor_assoc] using h2
  rw [e2, sum_one List.nodup_range, if_pos (List.mem_range.mpr hu)]
theorem pc_zero {n : Nat} {p : Nat → Bool} : pcN n p 0 = (lotOf n p).length := by
  unfold pcN
  rw [List.filter_eq_self.mpr]
  intro x hx
  rw [Nat.xor_zero]
  exact (mem_lot.mp hx).2
theorem sc_zero {n : Nat} {p : Nat → Bool} : scI n p 0 = ((lotOf n p).length : Int) := by
  unfold scI
  have : ∀ l : List Nat, (l.map fun x => sgn 0 x).sum = (l.length : Int) := fun l => by
    induction l with
    | nil => rfl
    | cons x l ih => rw [List.map_cons, List.sum_cons, ih, sgn_zeroL, List.length_cons]; omega
  exact this _
theorem pc_all {n : Nat} {p : Nat → Bool} : ((List.range (2 ^ n)).map fun d => (pcN n p d : Int)).sum = ((lotOf n p).length : Int) * (lotOf n p).length := by
  have h := pc_sq (n := n) (u := 0) (p := p)
  rw [sc_zero] at h
  rw [← h]
  exact sum_congr fun d _ => by rw [sgn_zeroL, Int.one_mul]
theorem sq_all {n : Nat} {p : Nat → Bool} (hn : n ≤ 6) : ((List.range (2 ^ n)).map fun d => scI n p d * scI n p d).sum = ((2 ^ n : Nat) : Int) * ((lotOf n p).length : Int) := by
  have h := sq_pc (n := n) (u := 0) (p := p) hn (pow0 n)
  rw [pc_zero] at h
  rw [← h]
  exact sum_congr fun d _ => by rw [sgn_zeroL, Int.one_mul]
end XT
namespace XT
open PySem PySem.Spec PyProof.Rows L2
/-! lists of ints, sums with signs -/
theorem at_pc {n i : Nat} {p : Nat → Bool} (hi : i < 2 ^ n) : (vm (pcL n p))[i]? = some (.int (pcN n p i : Int)) := by
  unfold vm pcL
  rw [List.getElem?_map, List.getElem?_map, List.getElem?_range hi]
  rfl
def mulF (c : Nat → Int) : Nat → V → V := fun i v => match v with | .int z => V.int (c i * z) | v => v
theorem mapIdx_sum (f : Nat → Int) (c : Nat → Int) (n : Nat) : (((List.range n).map f).map V.int).mapIdx (mulF c) = ((List.range n).map fun i => c i * f i).map V.int := by
  apply List.ext_getElem?
  intro i
  rw [List.getElem?_mapIdx]
  by_cases hi : i < n
  · simp [mulF, List.getElem?_range hi]
  · simp [List.getElem?_eq_none (show (List.range n).length ≤ i by rw [List.length_range]; omega)]
theorem pcI {n : Nat} {p : Nat → Bool} : vm (pcL n p) = ((List.range (2 ^ n)).map fun d => (pcN n p d : Int)).map V.int := by
  unfold vm pcL
  rw [List.map_map, List.map_map]
  rfl
theorem sgn_pm (a b : Nat) : sgn a b = 1 ∨ sgn a b = -1 := by
  unfold sgn
  split
  · exact .inl rfl
  · exact .inr rfl
theorem sum_abs (u : Nat) : ∀ l : List Nat, -(l.length : Int) ≤ (l.map fun x => sgn u x).sum ∧ (l.map fun x => sgn u x).sum ≤ (l.length : Int)
  | [] => by simp
  | x :: l => by
    have ih := sum_abs u l
    rw [List.map_cons, List.sum_cons, List.length_cons]
    rcases sgn_pm u x with h | h <;> rw [h] <;> omega
theorem sc_abs {n u : Nat} {p : Nat → Bool} (hn : n ≤ 6) : -64 ≤ scI n p u ∧ scI n p u ≤ 64 := by
  have h := sum_abs u (lotOf n p)
  have l := lot_len hn p
  unfold scI
  omega
theorem nne {i j : Int} (h : i = j) : (!decide (V.int i = V.int j)) = false := by
  rw [h, decide_eq_true rfl]
  rfl
theorem nxt {X : L2.St → Hp → Prop} {r : VK} {b c : L2.St → Hp → Prop} {σ : L2.St} {H : Hp} (h : X σ H) : tNext { nx := X, rt := r, bk := b, ct := c } σ H := h
theorem seq_if {t : TT} {ta tb : TE} {g : TG} {b : TS} {D : Ends} {σ : L2.St} {H : Hp} (R : Addr → Hp → Prop) (hQ : ∀ p H', R p H' → tAsg (fun _ H Q => Q (.ref p) H) g { D with nx := b D } σ H') (h : (∀ p H', R p H' → tAsg (fun _ H Q => Q (.ref p) H) g { D with nx := b D } σ H') → tSeq (tAsg (tIf t ta tb) g) b D σ H) : tSeq (tAsg (tIf t ta tb) g) b D σ H := h hQ
theorem rg_vm (n : Nat) : rgV 0 ((n : Nat) : Int) = vm (List.range n) := by
  unfold rgV vm
  rw [Int.sub_zero, Int.toNat_natCast]
  exact List.map_congr_left fun i _ => by rw [Int.zero_add]
theorem eqv_intsI : ∀ ms ks : List Int, PyData.eqvAll (ms.map PyData.int) (ks.map PyData.int) = decide (ms = ks)
  | [], [] => rfl
  | [], k :: ks => by simp [PyData.eqvAll]
  | m :: ms, [] => by simp [PyData.eqvAll]
  | m :: ms, k :: ks => by
    have ih := eqv_intsI ms ks
    simp only [List.map_cons, PyData.eqvAll, ih]
    by_cases h : m = k
    · subst h
      by_cases h2 : ms = ks
      · subst h2; simp [PyData.eqv]
      · simp [PyData.eqv, h2]
    · simp [PyData.eqv, h]
/-- a == b, a != b of lists of ints -/
theorem eq_lstI {K : PySem.W.Frag} {H : Hp} {q r : Addr} {ms ks : List Int} {Q : VK} (hx : H q = some (.lst (ms.map V.int))) (hy : H r = some (.lst (ks.map V.int))) (k : Q (.bl (decide (ms = ks))) H) : rEqD K (.ref q) (.ref r) H Q := by
  refine ⟨_, _, .lst (SqL.of hx) (dpInts _), .lst (SqL.of hy) (dpInts _), ke_shaped _, ke_shaped _, ?_⟩
  rw [show PyData.eqv (.list (ms.map PyData.int)) (.list (ks.map PyData.int)) = decide (ms = ks) by have h := eqv_intsI ms ks; simpa [PyData.eqv] using h]
  exact k
end XT
/-! counts that are some lot's signed counts -/
namespace XT
open PySem PySem.Spec PyProof.Rows L2
def suW (n : Nat) (cs : List Int) (x : Nat) : Int := ((List.range (2 ^ n)).map fun u => cs.getD u 0 * sgn u x).sum
def okW (n : Nat) (cs : List Int) : Bool := (List.range (2 ^ n)).all fun x => decide (suW n cs x = 0) || decide (suW n cs x = ((2 ^ n : Nat) : Int))
def pW (n : Nat) (cs : List Int) (x : Nat) : Bool := decide (suW n cs x = ((2 ^ n : Nat) : Int))
theorem getD_sc {n u : Nat} {p : Nat → Bool} (hu : u < 2 ^ n) : (scL n p).getD u 0 = scI n p u := by
  unfold scL
  rw [List.getD_eq_getElem?_getD, List.getElem?_map, List.getElem?_range hu]
  rfl
theorem su_sc {n x : Nat} {p : Nat → Bool} (hn : n ≤ 6) (hx : x < 2 ^ n) : suW n (scL n p) x = if p x = true then ((2 ^ n : Nat) : Int) else 0 := by
  unfold suW
  rw [sum_congr (g := fun u => scI n p u * sgn u x) fun u hu => by rw [getD_sc (List.mem_range.mp hu)]]
  exact inv hn hx
theorem ok_sc {n : Nat} {p : Nat → Bool} (hn : n ≤ 6) : okW n (scL n p) = true := by
  unfold okW
  rw [List.all_eq_true]
  intro x hx
  rw [su_sc hn (List.mem_range.mp hx)]
  by_cases h : p x = true <;> simp [h]
theorem p_sc {n x : Nat} {p : Nat → Bool} (hn : n ≤ 6) (hx : x < 2 ^ n) : pW n (scL n p) x = p x := by
  unfold pW
  rw [su_sc hn hx]
  have h2 : (0 : Int) < ((2 ^ n : Nat) : Int) := by have := Nat.two_pow_pos n; omega
  by_cases h : p x = true
  · rw [if_pos h, h]; exact decide_eq_true rfl
  · rw [if_neg h]
    have hf : p x = false := by simpa using h
    rw [hf]
    exact decide_eq_false (fun z => by omega)
theorem sum_filter (p : Nat → Bool) (f : Nat → Int) : ∀ l : List Nat, ((l.filter p).map f).sum = (l.map fun x => if p x = true then f x else 0).sum
  | [] => rfl
  | x :: l => by
    rw [List.filter_cons, List.map_cons, List.sum_cons, ← sum_filter p f l]
    by_cases h : p x = true
    · rw [if_pos h, if_pos h, List.map_cons, List.sum_cons]
    · rw [if_neg h, if_neg h, Int.zero_add]
theorem sc_of {n : Nat} {cs : List Int} (hn : n ≤ 6) (hl : cs.length = 2 ^ n) (ho : okW n cs = true) : scL n (pW n cs) = cs := by
  have hN : (0 : Int) < ((2 ^ n : Nat) : Int) := by have := Nat.two_pow_pos n; omega
  have key : ∀ u, u < 2 ^ n → scI n (pW n cs) u = cs.getD u 0 := fun u hu => by
    refine Int.eq_of_mul_eq_mul_left (Int.ne_of_gt hN) ?_
    have e1 : ((2 ^ n : Nat) : Int) * scI n (pW n cs) u = ((List.range (2 ^ n)).map fun x => suW n cs x * sgn u x).sum := by
      unfold scI
      rw [← sum_mul]
      unfold lotOf
      rw [sum_filter]
      refine sum_congr fun x hx => ?_
      have h := List.all_eq_true.mp ho x hx
      rw [Bool.or_eq_true, decide_eq_true_iff, decide_eq_true_iff] at h
      by_cases hp : pW n cs x = true
      · rw [if_pos hp]
        have h2 : suW n cs x = ((2 ^ n : Nat) : Int) := of_decide_eq_true hp
        rw [h2]
      · rw [if_neg hp]
        rcases h with h | h
        · rw [h, Int.zero_mul]
        · exact absurd (decide_eq_true h) hp
    rw [e1]
    have e2 : ((List.range (2 ^ n)).map fun x => suW n cs x * sgn u x).sum = ((List.range (2 ^ n)).map fun x => ((List.range (2 ^ n)).map fun v => cs.getD v 0 * sgn x (v ^^^ u)).sum).sum := by
      refine sum_congr fun x _ => ?_
      unfold suW
      rw [Int.mul_comm, ← sum_mul]
      refine sum_congr fun v _ => ?_
      rw [sgn_xor, sgn_comm v x, sgn_comm u x, Int.mul_comm, Int.mul_assoc]
    rw [e2, sum_swap]
    have e3 : ((List.range (2 ^ n)).map fun v => ((List.range (2 ^ n)).map fun x => cs.getD v 0 * sgn x (v ^^^ u)).sum).sum = ((List.range (2 ^ n)).map fun v => if v = u then ((2 ^ n : Nat) : Int) * cs.getD u 0 else 0).sum := by
      refine sum_congr fun v hv => ?_
      rw [sum_mul, orth hn (xor_lt (List.mem_range.mp hv) hu)]
      by_cases e : v = u
      · rw [if_pos e, if_pos (by rw [e, Nat.xor_self]), e, Int.mul_comm]
      · rw [if_neg e, if_neg (fun z => e ?_), Int.mul_zero]
        have h := congrArg (· ^^^ u) z
        simpa [Nat.xor_assoc] using h
    rw [e3, sum_one List.nodup_range, if_pos (List.mem_range.mpr hu)]
  refine List.ext_getElem? fun i => ?_
  rcases Nat.lt_or_ge i (2 ^ n) with h | h
  · unfold scL
    rw [List.getElem?_map, List.getElem?_range h]
    show some (scI n (pW n cs) i) = _
    rw [key i h, List.getD_eq_getElem?_getD, List.getElem?_eq_getElem (by omega)]
    rfl
  · rw [List.getElem?_eq_none (by unfold scL; rw [List.length_map, List.length_range]; exact h), List.getElem?_eq_none (by omega)]
end XT
/-! sum(t) of a tuple; a comprehension over enumerate of a list and of a tuple -/
namespace XT
open PySem PySem.Spec PyProof.Rows L2
section
variable {prog : Program} {w : World} {A : Around} {E : Value → Shared → Prop} {s : Shared} {l : Addr}
theorem sum_tupRaw {its : List Value} {ns : List Int} {Q : Value → Shared → Prop} (hh : A.handled = none) (hl : s.heap.IsTuple l its.toArray) (hi : IntsAre its ns)
    (h : ∀ h' tk t', (∀ b o, s.heap.get? b = some o → h'.get? b = some o) → Q (.int ns.sum t') { s with heap := h', toks := tk }) : wpAny (model prog w) A (call (.builtin "sum") [.ref l]) Q E s := by
  obtain ⟨xs, e⟩ := hi.allInts.items
  have hn : numsOf (intItems xs).toList = ns := by rw [← e]; exact hi.numsOf
  rw [nums_intItems] at hn
  rw [e] at hl
  have hlt : l < s.heap.objs.size := by obtain ⟨_, e, _⟩ := hl; exact Heap.lt_size e
  have hl2 : (s.heap.push { cls := .type "tuple_iterator", data := .fields #[.ref l, .int 0 0] }).IsTuple l (intItems xs) := by
    obtain ⟨o, ho, hc⟩ := hl
    exact ⟨o, Heap.get?_push_of_some _ ho, hc⟩
  refine call_sum_walkG (wpAny_pyIter_tuple hl ?_)
  refine ⟨_, _, _, _, _, _, numAt xs, rfl, Walks.tuple (A := A.in1) hh _ l (Nat.ne_of_lt hlt) (intItems xs), ⟨⟨_, Heap.get?_push_size _ rfl, rfl, rfl⟩, hl2⟩, (fun b hb => ?_), (fun _ _ => intItems_at), fun h' tk t' hk => ?_⟩
  · show b < (s.heap.push _).objs.size
    rw [Heap.size_push]
    rcases List.mem_cons.mp hb with rfl | hb
    · exact Nat.lt_succ_self _
    · rcases List.mem_cons.mp hb with rfl | hb
      · exact Nat.lt_succ_of_lt hlt
      · cases hb
  · have := h h' tk t' (fun b o e => by
      refine hk b o (fun hm => ?_) (Heap.get?_push_of_some _ e)
      rcases List.mem_cons.mp hm with e1 | hm
      · exact absurd (e1 ▸ Heap.lt_size e) (Nat.lt_irrefl _)
      · cases hm)
    rw [← hn] at this
    have e2 : preSum (numAt xs) xs.size = (xs.toList.map (·.1)).sum := by rw [preSum_eq, List.take_of_length_le (by simp)]
    rw [show (intItems xs).size = xs.size by simp [intItems], e2]
    exact this
end
def rSumT (K : PySem.W.Frag) : List V → Hp → VK → Prop := fun vs H Q => ∃ (a : Addr) (ns : List Int), vs = [V.ref a] ∧ SqT K H a (ns.map V.int) ∧ Q (.int ns.sum) H
theorem cr_sumT {X : Cx} (hc : X.calm = true) : CallR X (.builtin "sum") (rSumT X.K) := by
  intro pins s σ H vs us Q I r h
  obtain ⟨a, ns, rfl, hs, q⟩ := h
  obtain ⟨its, rv, hl, _⟩ := I.tuple hs
  rw [Vals.ref1 r]
  exact sum_tupRaw (I.ok.hd hc) hl rv.ints fun h' tk t' hk => ⟨.int _, H, I.kept hk, ⟨_, rfl⟩, q⟩
section
variable {K : PySem.W.Frag} {a : Addr} {xs : List V} {g : TG} {tt : TT} {te : TE} {vs : List Nat} {σ : L2.St} {H1 : Hp} {D : Addr} {Qd : Hp → Prop}
theorem pvp_new {ys : List V} {T : Addr} {o : HO} {H : Hp} (h : PvP H1 D ys H) (hT : H T = none) : PvP H1 D ys (upd H T o) :=
  ⟨h.1.trans (same_new hT), (same_new hT) _ _ h.2⟩
theorem mapIdx_take (f : Nat → V → V) {i : Nat} {x : V} (h : xs[i]? = some x) : (xs.take (i + 1)).mapIdx f = (xs.take i).mapIdx f ++ [f i x] := by
  have hi : i < xs.length := (List.getElem?_eq_some_iff.mp h).1
  rw [List.take_add_one, h, Option.toList_some, List.mapIdx_append, List.length_take, Nat.min_eq_left (Nat.le_of_lt hi)]
  simp
/-- a comprehension over enumerate(list), enumerate(tuple) whose turns leave what was laid -/
theorem lce_list (f : Nat → V → V) (nD : H1 D = none) (hA : SqL K H1 a xs) (hz : xs.length < sizeLine)
    (ht : ∀ (i : Nat) x T H, xs[i]? = some x → Same H1 H → H T = some (.tup [.int (i : Nat), x]) → TurnP g tt te vs σ (.ref T) (f i x) true H)
    (hd : ∀ H, Same H1 H → H D = some (.lst (xs.mapIdx f)) → Qd H) :
    ∃ W : Nat → Nat → Hp → Prop, (∃ m, W 0 m (upd H1 D (.lst []))) ∧ ∀ i m H, W i m H →
      ((Ite K a).stop i H ∧ Qd H) ∨ ((Ite K a).go i H ∧ ∃ Nx : Hp → Prop, (∀ H', Nx H' → ∃ m', m' < m ∧ W (i + 1) m' H') ∧ ∀ x H', (Ite K a).yld i H x H' → g x (wipe σ vs) H' fun σ2 H2 => wipe σ2 vs = wipe σ vs ∧ tt σ2 H2 fun c H3 =>
        if c = true then te σ2 H3 fun y H4 => ∃ acc, H4 D = some (.lst acc) ∧ acc.length < sizeLine ∧ Nx (upd H4 D (.lst (acc ++ [y]))) else Nx H3) := by
  refine ⟨fun i m H => m = xs.length - i ∧ i ≤ xs.length ∧ PvP H1 D ((xs.take i).mapIdx f) H, ⟨xs.length, rfl, Nat.zero_le _, same_new nD, upd_same⟩, ?_⟩
  rintro i m H ⟨rfl, hi, p⟩
  have qx : SqL K H a xs := p.1.seq hA
  rcases Nat.lt_or_ge i xs.length with lt | ge
  · have hx : xs[i]? = some xs[i] := List.getElem?_eq_getElem lt
    refine .inr ⟨⟨xs, _, qx, hx⟩, fun H' => PvP H1 D ((xs.take (i + 1)).mapIdx f) H', fun H' p' => ⟨xs.length - (i + 1), by omega, rfl, lt, p'⟩, fun v H' z => ?_⟩
    obtain ⟨T, x', rfl, hT, rfl, f1⟩ := z
    have hx' := f1 xs qx
    exact pvp_turn nD (pvp_new p hT) (by rw [List.length_mapIdx, List.length_take]; omega) (ht i x' T _ hx' (p.1.trans (same_new hT)) upd_same) _ (mapIdx_take f hx')
  · have e : i = xs.length := by omega
    subst e
    refine .inl ⟨⟨xs, qx, Nat.le_refl _⟩, hd H p.1 ?_⟩
    have := p.2
    rwa [List.take_length] at this
theorem lce_tup (f : Nat → V → V) (nD : H1 D = none) (hA : SqT K H1 a xs) (hz : xs.length < sizeLine)
    (ht : ∀ (i : Nat) x T H, xs[i]? = some x → Same H1 H → H T = some (.tup [.int (i : Nat), x]) → TurnP g tt te vs σ (.ref T) (f i x) true H)
    (hd : ∀ H, Same H1 H → H D = some (.lst (xs.mapIdx f)) → Qd H) :
    ∃ W : Nat → Nat → Hp → Prop, (∃ m, W 0 m (upd H1 D (.lst []))) ∧ ∀ i m H, W i m H →
      ((ItT K a).stop i H ∧ Qd H) ∨ ((ItT K a).go i H ∧ ∃ Nx : Hp → Prop, (∀ H', Nx H' → ∃ m', m' < m ∧ W (i + 1) m' H') ∧ ∀ x H', (ItT K a).yld i H x H' → g x (wipe σ vs) H' fun σ2 H2 => wipe σ2 vs = wipe σ vs ∧ tt σ2 H2 fun c H3 =>
        if c = true then te σ2 H3 fun y H4 => ∃ acc, H4 D = some (.lst acc) ∧ acc.length < sizeLine ∧ Nx (upd H4 D (.lst (acc ++ [y]))) else Nx H3) := by
  refine ⟨fun i m H => m = xs.length - i ∧ i ≤ xs.length ∧ PvP H1 D ((xs.take i).mapIdx f) H, ⟨xs.length, rfl, Nat.zero_le _, same_new nD, upd_same⟩, ?_⟩
  rintro i m H ⟨rfl, hi, p⟩
  have qx : SqT K H a xs := Same.sqT p.1 hA
  rcases Nat.lt_or_ge i xs.length with lt | ge
  · have hx : xs[i]? = some xs[i] := List.getElem?_eq_getElem lt
    refine .inr ⟨⟨xs, _, qx, hx⟩, fun H' => PvP H1 D ((xs.take (i + 1)).mapIdx f) H', fun H' p' => ⟨xs.length - (i + 1), by omega, rfl, lt, p'⟩, fun v H' z => ?_⟩
    obtain ⟨T, x', rfl, hT, rfl, f1⟩ := z
    have hx' := f1 xs qx
    exact pvp_turn nD (pvp_new p hT) (by rw [List.length_mapIdx, List.length_take]; omega) (ht i x' T _ hx' (p.1.trans (same_new hT)) upd_same) _ (mapIdx_take f hx')
  · have e : i = xs.length := by omega
    subst e
    refine .inl ⟨⟨xs, qx, rfl⟩, hd H p.1 ?_⟩
    have := p.2
    rwa [List.take_length] at this
end
end XT
namespace XT
open PySem PySem.Spec PyProof.Rows L2

def topS (i : Nat) : Stmt := PySem.Challenge.pw_xorturns_k33_signed_counts_judged.main.body.getD i (.Pass ⟨0, 0, 0, 0⟩)
abbrev sNum : Stmt := topS 1
abbrev sCountOnes : Stmt := topS 3
abbrev sSign : Stmt := topS 4
abbrev sLotWith : Stmt := topS 5
abbrev sStream : Stmt := topS 7
abbrev sDraw : Stmt := topS 8
abbrev sLPick : Stmt := topS 9
abbrev sLOdd : Stmt := topS 10
abbrev sLIsInt : Stmt := topS 11
abbrev sDrawn : Stmt := topS 12
abbrev sLBent : Stmt := topS 13
abbrev sLSign : Stmt := topS 14
abbrev sLSigned : Stmt := topS 15
abbrev sLIsLot : Stmt := topS 16
abbrev sLaw : Stmt := topS 17

theorem scD : FnScope ["_law_stream_here", "_law_many", "_law_rest", "_law_turn", "_law_cell", "_law_mixed"] ["_law_stream_here", "_law_many"] (defScope sDraw) := ⟨rfl, rfl, rfl, by decide +kernel, rfl, by decide +kernel, by decide +kernel⟩
section
variable {P : Program} {w : World} {K : PySem.W.Frag} {mg : Str → Option Value} {base : Heap}
theorem ok_draw {f : Addr} {fd : FuncData} {k : Nat} (F : Fun K "_law_draw" "_law_draw" sDraw f fd) (ml : mg "len" = none) : FnOk P w K mg base CX0 (k + 1) f fd ["_law_stream_here", "_law_many"] spDraw := by
  refine F.ok scD (fun vs H Q E h => ?_) (fun cdv A outer s H vs Q E hr h => ?_)
  · obtain ⟨S, t, m, rfl, _⟩ := h
    rfl
  · obtain ⟨S, t, m, rfl, ⟨big0, hS0⟩, m0, m1, t1, q⟩ := h
    refine ⟨_, pss_cons (ps_while PassesOwn.never
        (pt_cmpR (op_neD hr.units) (pe_ix ix_list (pv 0) pe_int (fun _ _ => rfl)) (pe_lst pa_nil) (nomark _))
        (pss_cons (ps_set (i := 2) scD.nd rfl (.inl rfl) (pe_ix ix_list (pe_ix ix_list (pv 0) pe_int (fun _ _ => rfl)) pe_int (fun _ _ => rfl)))
        (pss_cons (ps_if (pt_cmpR op_gt (pv 2) pe_int (nomark _))
          (pss_cons (ps_asg (pe_op op_fdiv (pv 2) (pv 1)) (pg_sub (pe_ix ix_list (pv 0) pe_int (fun _ _ => rfl)) pe_int set_list))
          (pss_one (ps_ret (pe_op op_mod (pv 2) (pv 1))))) pss_nil)
        (pss_one (ps_expr (pe_bm PySem.F.plainAttrs_list PySem.F.slot_list_pop PySem.F.type_list_pop mt_popAt (pe_ix ix_list (pv 0) pe_int (fun _ _ => rfl)) (pa_cons pe_int pa_nil)))))))
      (pss_cons (ps_set (i := 3) scD.nd rfl (.inl rfl) (pe_op op_add (pe_ix ix_list (pv 0) pe_int (fun _ _ => rfl)) pe_int))
      (pss_cons (ps_asg (pv 3) (pg_sub (pv 0) pe_int set_list))
      (pss_cons (ps_set (i := 4) scD.nd rfl (.inl rfl) (pe_op op_mod (pe_ix ix_list (pe_ix ix_list (pv 0) pe_int (fun _ _ => rfl)) (pe_op op_mod (pv 3) (pe_callB call_len_seq (by rfl) ml PySem.boot_len (pa_cons (pe_ix ix_list (pv 0) pe_int (fun _ _ => rfl)) pa_nil))) (fun _ _ => rfl)) pe_int))
      (pss_cons (ps_set (i := 5) scD.nd rfl (.inl rfl) (pe_op op_mod (pe_op op_add (pe_op op_add (pe_op op_mul (pv 4) (pe_op op_add pe_int (pe_op op_mul pe_int (pv 3)))) (pe_op op_mul (pe_op op_mul pe_int (pv 3)) (pv 3))) pe_int) pe_int))
      (pss_one (ps_ret (pe_op op_mod (pe_op op_fdiv (pe_op op_mod (pe_op op_mul (pv 5) (pv 5)) pe_int) pe_int) (pv 1)))))))), ?_⟩
    refine ⟨fun n σ H1 => ∃ big y2, σ = [some (.ref S.s), some (.int m), y2, none, none, none] ∧ n = big.length ∧ StrmB S H1 t big ∧ Keep S H H1,
      ⟨big0.length, big0, none, rfl, rfl, hS0, Keep.refl S H⟩, ?_⟩
    rintro n σ H1 ⟨big, y2, rfl, rfl, hS, hk⟩
    -- while stream[0] != []
    refine ⟨.ref S.s, rfl, S.s, _, 0, .ref S.p, rfl, rfl, SqL.of hS.hs, rfl, Nat.zero_le _, fun z nz => ?_⟩
    have sm : Same H1 (upd H1 z (.lst [])) := same_new nz
    have hz : (upd H1 z (.lst [])) z = some (.lst []) := upd_same
    have hS' := hS.same sm
    have hk' : Keep S H (upd H1 z (.lst [])) := hk.trans (Keep.of sm)
    generalize upd H1 z (.lst []) = H2 at *
    clear hS hk sm nz
    refine ⟨_, _, .lst (SqL.of hS'.hp) (dpInts big), .lst (SqL.of hz) .nil, ke_shaped big, rfl, _, rfl, ?_⟩
    cases big with
    | cons x rest =>
      have e : (!PyData.eqv (.list ((x :: rest).map PyData.int)) (.list [])) = true := rfl
      rw [e]
      refine iteT ?_
      refine ⟨fun σ' H' => ∃ y2, σ' = [some (.ref S.s), some (.int m), y2, none, none, none] ∧ StrmB S H' t rest ∧ Keep S H H', ?_, ?_⟩
      · rintro σ' H' ⟨y, rfl, h1, h2⟩
        exact ⟨rest.length, Nat.lt_succ_self _, rest, y, rfl, rfl, h1, h2⟩
      · refine ⟨.ref S.s, rfl, S.s, _, 0, .ref S.p, rfl, rfl, SqL.of hS'.hs, rfl, S.p, _, 0, .int x, rfl, rfl, SqL.of hS'.hp, atI_nat (j := 0) rfl, ?_⟩
        refine ⟨.int x, rfl, x, 0, rfl, rfl, _, rfl, ite2 (fun hx => ?_) (fun hx => ?_)⟩
        · refine ⟨.int x, rfl, .int m, rfl, x, m, rfl, rfl, ⟨m0, m1⟩, ?_⟩
          refine ⟨.ref S.s, rfl, S.s, _, 0, .ref S.p, rfl, rfl, SqL.of hS'.hs, rfl, S.p, _, 0, 0, rfl, rfl, hS'.hp, ix0 (Nat.succ_pos _), ?_⟩
          refine ⟨.int x, rfl, .int m, rfl, x, m, rfl, rfl, m0, ?_⟩
          refine q _ _ t (fun b o n1 n2 eb => ?_) ⟨(x / m) :: rest, ?_⟩ (Int.le_refl _) (by omega) (Int.emod_nonneg _ (by omega)) (Int.emod_lt_of_pos _ m0)
          · rw [upd_ne n2]; exact hk' b o n1 n2 eb
          · refine ⟨?_, upd_same, ?_, hS'.sp, hS'.sq, hS'.pq, hS'.ne, hS'.t0⟩
            · rw [upd_ne hS'.sp]; exact hS'.hs
            · rw [upd_ne hS'.pq.symm]; exact hS'.hq
        · refine ⟨.ref S.s, rfl, S.s, _, 0, .ref S.p, rfl, rfl, SqL.of hS'.hs, rfl, .inl ⟨rfl, _, SqL.of hS'.hp⟩, S.p, _, 0, 0, .int x, rfl, rfl, hS'.hp, by decide, by decide, sq0 (Nat.succ_pos _), rfl, ?_⟩
          refine ⟨_, rfl, ⟨?_, upd_same, ?_, hS'.sp, hS'.sq, hS'.pq, hS'.ne, hS'.t0⟩, fun b o n1 n2 eb => ?_⟩
          · rw [upd_ne hS'.sp]; exact hS'.hs
          · rw [upd_ne hS'.pq.symm]; exact hS'.hq
          · rw [upd_ne n2]; exact hk' b o n1 n2 eb
    | nil =>
      have e : (!PyData.eqv (.list (([] : List Int).map PyData.int)) (.list [])) = false := rfl
      rw [e]
      refine iteF ?_
      have t0 := hS'.t0
      -- turn = stream[2] + 1; stream[2] = turn
      refine ⟨.ref S.s, rfl, S.s, _, 2, .int t, rfl, rfl, SqL.of hS'.hs, rfl, t, 1, rfl, rfl, ?_⟩
      refine ⟨.int (t + 1), rfl, .ref S.s, rfl, S.s, _, 2, 2, rfl, rfl, hS'.hs, rfl, ?_⟩
      generalize hH3 : upd H2 S.s (.lst ([V.ref S.p, .ref S.q, .int t].set 2 (.int (t + 1)))) = H3
      have hS3 : StrmB S H3 (t + 1) [] := by
        subst hH3
        refine ⟨upd_same, ?_, ?_, hS'.sp, hS'.sq, hS'.pq, hS'.ne, by omega⟩
        · rw [upd_ne hS'.sp.symm]; exact hS'.hp
        · rw [upd_ne hS'.sq.symm]; exact hS'.hq
      have hk3 : Keep S H H3 := fun b o n1 n2 eb => by
        subst hH3
        rw [upd_ne n1]; exact hk' b o n1 n2 eb
      clear hH3
      -- cell
      have hl : (0 : Int) < ((S.cs.map V.int).length : Nat) := by rw [List.length_map]; have := hS'.ne; omega
      have hm1 : (t + 1) % ((S.cs.map V.int).length : Nat) < ((S.cs.map V.int).length : Nat) := Int.emod_lt_of_pos _ hl
      have hm0 : 0 ≤ (t + 1) % ((S.cs.map V.int).length : Nat) := Int.emod_nonneg _ (by omega)
      obtain ⟨j, hj⟩ : ∃ j : Nat, (t + 1) % ((S.cs.map V.int).length : Nat) = j := ⟨_, (Int.toNat_of_nonneg hm0).symm⟩
      have hjl : j < S.cs.length := by rw [List.length_map] at hm1 hj; omega
      have hat : atI (S.cs.map V.int) ((t + 1) % ((S.cs.map V.int).length : Nat)) = some (.int S.cs[j]) := by
        rw [hj]
        refine atI_nat ?_
        rw [List.getElem?_map, List.getElem?_eq_getElem hjl]
        rfl
      refine ⟨.ref S.s, rfl, S.s, _, 1, .ref S.q, rfl, rfl, SqL.of hS3.hs, rfl, .int (t + 1), rfl, .ref S.s, rfl, S.s, _, 1, .ref S.q, rfl, rfl, SqL.of hS3.hs, rfl, S.q, _, rfl, .inl (SqL.of hS3.hq), _, _, rfl, rfl, hl, ?_⟩
      have k87 : (0 : Int) < 2147483587 := by decide
      have k47 : (0 : Int) < 2147483647 := by decide
      have k29 : (0 : Int) < 2147483629 := by decide
      refine ⟨S.q, _, _, .int S.cs[j], rfl, rfl, SqL.of hS3.hq, hat, S.cs[j], _, rfl, rfl, k87, ?_⟩
      obtain ⟨c1, c0⟩ := pm87 (x := S.cs[j])
      obtain ⟨c, hc⟩ : ∃ c, S.cs[j] % 2147483587 = c := ⟨_, rfl⟩
      rw [hc] at c1 c0
      -- mixed
      refine ⟨.int c, congrArg (fun x => some (some (V.int x))) hc, .int (t + 1), rfl, 40692, t + 1, rfl, rfl, .inl ⟨by decide, by decide⟩, 69621, 40692 * (t + 1), rfl, rfl, c, 69621 + 40692 * (t + 1), rfl, rfl, .inl ⟨by omega, by omega⟩, ?_⟩
      refine ⟨.int (t + 1), rfl, 48271, t + 1, rfl, rfl, .inl ⟨by decide, by decide⟩, .int (t + 1), rfl, 48271 * (t + 1), t + 1, rfl, rfl, .inr ⟨by omega, by omega⟩, c * (69621 + 40692 * (t + 1)), 48271 * (t + 1) * (t + 1), rfl, rfl, _, 47, rfl, rfl, c * (69621 + 40692 * (t + 1)) + 48271 * (t + 1) * (t + 1) + 47, 2147483647, rfl, rfl, k47, ?_⟩
      obtain ⟨d1, d0⟩ := pm31 (x := c * (69621 + 40692 * (t + 1)) + 48271 * (t + 1) * (t + 1) + 47)
      obtain ⟨d, hd⟩ : ∃ d, (c * (69621 + 40692 * (t + 1)) + 48271 * (t + 1) * (t + 1) + 47) % 2147483647 = d := ⟨_, rfl⟩
      rw [hd] at d1 d0
      have ed : some (some (V.int ((c * (69621 + 40692 * (t + 1)) + 48271 * (t + 1) * (t + 1) + 47) % 2147483647))) = some (some (V.int d)) := congrArg (fun x => some (some (V.int x))) hd
      refine ⟨.int d, ed, .int d, ed, d, d, rfl, rfl, .inl ⟨by omega, by omega⟩, d * d, 2147483629, rfl, rfl, k29, d * d % 2147483629, 16, rfl, rfl, ⟨by decide, by decide⟩, .int m, rfl, _, m, rfl, rfl, m0, ?_⟩
      exact q _ _ (t + 1) hk3 ⟨_, hS3⟩ (by omega) (Int.le_refl _) (Int.emod_nonneg _ (by omega)) (Int.emod_lt_of_pos _ m0)
end
end XT
namespace XT
open PySem PySem.Spec PyProof.Rows L2
section
variable {P : Program} {w : World} {K : PySem.W.Frag} {mg : Str → Option Value} {base : Heap}
theorem scNum : FnScope ["value"] ["value"] (defScope sNum) := ⟨rfl, rfl, rfl, by decide +kernel, rfl, by decide +kernel, by decide +kernel⟩
def spNum : Sp := fun vs H Q _ => ∃ i, vs = [.int i] ∧ Q (.bl true) H
theorem ok_num {f : Addr} {fd : FuncData} {k : Nat} (B : Bl mg) (F : Fun K "is_number" "is_number" sNum f fd) : FnOk P w K mg base CX0 (k + 1) f fd ["value"] spNum := by
  refine F.ok scNum (fun vs H Q E h => ?_) (fun cdv A outer s H vs Q E hr h => ?_)
  · obtain ⟨i, rfl, _⟩ := h
    rfl
  · obtain ⟨i, rfl, q⟩ := h
    refine ⟨_, pss_one (ps_ret (pe_and (pe_callB call_isi (by rfl) B.isinstance bI (pa_cons (pv 0) (pa_cons (pe_bltn (v := .ty "int") (by rfl) B.int bInt rfl) pa_nil)))
      (pe_one (pe_not (pe_callB call_isi (by rfl) B.isinstance bI (pa_cons (pv 0) (pa_cons (pe_bltn (v := .ty "bool") (by rfl) B.bool bBool rfl) pa_nil))))))), ?_⟩
    refine ⟨.int i, rfl, .int i, .ty "int", _, _, true, rfl, .ty _, .base (.int i), kit_ty (by decide +kernel), true, rfl, iteT ?_⟩
    refine ⟨.int i, rfl, .int i, .ty "bool", _, _, false, rfl, .ty _, .base (.int i), kit_ty (by decide +kernel), false, rfl, ?_⟩
    exact q
end
end XT
/-! count_ones, sign -/
namespace XT
open PySem PySem.Spec PyProof.Rows L2
section
variable {P : Program} {w : World} {K : PySem.W.Frag} {mg : Str → Option Value} {base : Heap}
theorem scOn : FnScope ["mask"] ["mask"] (defScope sCountOnes) := ⟨rfl, rfl, rfl, by decide +kernel, rfl, by decide +kernel, by decide +kernel⟩
def spOnes : Sp := fun vs H Q _ => ∃ m : Nat, vs = [.int (m : Int)] ∧ m < 2 ^ 900 ∧ Q (.int (pop m : Int)) H
theorem ok_ones {f : Addr} {fd : FuncData} {k : Nat} (F : Fun K "count_ones" "count_ones" sCountOnes f fd) : FnOk P w K mg base CX0 (k + 1) f fd ["mask"] spOnes := by
  refine F.ok scOn (fun vs H Q E h => ?_) (fun cdv A outer s H vs Q E hr h => ?_)
  · obtain ⟨m, rfl, _⟩ := h
    rfl
  · obtain ⟨m, rfl, hm, q⟩ := h
    refine ⟨_, pss_one (ps_ret (pe_bm PySem.F.plainAttrs_str PySem.F.slot_str_count PySem.F.type_str_count mt_count (pe_joined1 (pe_fmtB (by decide +kernel) (pv 0))) (pa_cons pe_str pa_nil))), ?_⟩
    refine ⟨.int m, rfl, m, rfl, hm, rfl, _, _, rfl, rfl, ?_⟩
    have e : Txt.count (binS m) (Str.ofString "1") = (pop m : Int) := by
      have e1 : Str.ofString "1" = ⟨#[49]⟩ := by decide +kernel
      rw [e1]
      exact congrArg Int.ofNat (count_one m)
    show Q (.int (Txt.count (binS m) (Str.ofString "1"))) H
    rw [e]
    exact q
theorem scSg : FnScope ["one", "other"] ["one", "other"] (defScope sSign) := ⟨rfl, rfl, rfl, by decide +kernel, rfl, by decide +kernel, by decide +kernel⟩
theorem ok_sign {f : Addr} {fd : FuncData} {k : Nat} (F : Fun K "sign" "sign" sSign f fd) (dO : DefR P w K mg base 1 "count_ones" spOnes) : FnOk P w K mg base CX0 (k + 2) f fd ["one", "other"] spSgn := by
  refine F.ok scSg (fun vs H Q E h => ?_) (fun cdv A outer s H vs Q E hr h => ?_)
  · obtain ⟨a, b, rfl, _⟩ := h
    rfl
  · obtain ⟨a, b, rfl, ha, hb, q⟩ := h
    refine ⟨_, pss_one (ps_ret (pe_ifExp (pt_cmpR op_eq (pe_op op_mod (pe_def dO (hr.mono (by omega)) (by rfl) (pa_cons (pe_op op_and (pv 0) (pv 1)) pa_nil)) pe_int) pe_int (nomark _)) pe_int (pe_un un_neg pe_int))), ?_⟩
    have e : Builtin.bitAnd (a : Int) (b : Int) = ((a &&& b : Nat) : Int) := by
      rw [bitAnd_pp (by omega) (by omega)]
      rfl
    have hq := q H (Same.refl _)
    refine ⟨.int a, rfl, .int b, rfl, (a : Int), (b : Int), rfl, rfl, a &&& b, congrArg (fun z => [V.int z]) e, Nat.lt_of_le_of_lt Nat.and_le_left ha, (pop (a &&& b) : Int), 2, rfl, rfl, (by decide : (0 : Int) < 2), rfl, _, rfl, ?_⟩
    unfold sgn at hq
    refine ite2 (fun z => ?_) (fun z => ?_)
    · have z2 := V.int.inj (of_decide_eq_true z)
      rw [if_pos (by omega)] at hq
      exact hq
    · have z2 : ¬((pop (a &&& b) : Int) % 2 = 0) := fun e => z (decide_eq_true (congrArg V.int e))
      rw [if_neg (by omega)] at hq
      exact ⟨1, rfl, hq⟩
end
end XT
/-! lot_with, at tuples of ints -/
namespace XT
open PySem PySem.Spec PyProof.Rows L2
def mulG (c : Nat → Int) : Nat → V → V := fun i v => match v with | .int z => V.int (z * c i) | v => v
theorem cs_mul {cs : List Int} {n : Nat} (c : Nat → Int) (hl : cs.length = n) : (cs.map V.int).mapIdx (mulG c) = ((List.range n).map fun i => cs.getD i 0 * c i).map V.int := by
  apply List.ext_getElem?
  intro i
  rw [List.getElem?_mapIdx]
  by_cases hi : i < n
  · rw [List.getElem?_map, List.getElem?_map, List.getElem?_map, List.getElem?_range hi, List.getElem?_eq_getElem (by omega)]
    show some (mulG c i (V.int cs[i])) = some (V.int (cs.getD i 0 * c i))
    rw [List.getD_eq_getElem?_getD, List.getElem?_eq_getElem (by omega)]
    rfl
  · rw [List.getElem?_eq_none (by rw [List.length_map]; omega), List.getElem?_eq_none (by rw [List.length_map, List.length_map, List.length_range]; omega)]
    rfl
def LwAt (H : Hp) (z : V) (n : Nat) (cs : List Int) : Prop := (okW n cs = true ∧ LotAt H z n (pW n cs)) ∨ (okW n cs = false ∧ z = .non)
def spLw : Sp := fun vs H Q _ => ∃ (n : Nat) (v : V) (cs : List Int), vs = [.int n, v] ∧ TupI H v cs ∧ n ≤ 6 ∧ cs.length = 2 ^ n ∧ ∀ H' z, Same H H' → LwAt H' z n cs → Q z H'
section
variable {P : Program} {w : World} {K : PySem.W.Frag} {mg : Str → Option Value} {base : Heap}
abbrev nWi : List Str := ["width", "value", "many", "sums", "x", "mask", "count", "total"]
theorem scWi : FnScope nWi ["width", "value"] (defScope sLotWith) := ⟨rfl, rfl, rfl, by decide +kernel, rfl, by decide +kernel, by decide +kernel⟩
def outWi : Scope := match (defBody sLotWith).getD 2 (.Pass ⟨0, 0, 0, 0⟩) with
  | .Assign _ (.ListComp _ _ sc _) _ => sc
  | _ => defScope sLotWith
abbrev teMu : TE := tOp (rI CMul fun i j => .int (i * j)) (tVar 6) (tDf spSgn (tCons (tVar 5) (tCons (tVar 4) tNil)))
abbrev teWi (K : PySem.W.Frag) : TE := tCB (rSum K) (tCons (tLc (iEnT K (tCons (tVar 1) tNil)) (gTup K 2 (gCons (gName 5) (gCons (gName 6) gNil))) tYes teMu [5, 6]) tNil)
theorem ok_lw {f : Addr} {fd : FuncData} {k : Nat} (B : Bl mg) (mS : mg "sum" = none) (F : Fun K "lot_with" "lot_with" sLotWith f fd) (dN : DefR P w K mg base 1 "is_number" spNum) (dS : DefR P w K mg base 2 "sign" spSgn) : FnOk P w K mg base CX0 (k + 3) f fd ["width", "value"] spLw := by
  refine F.ok scWi (fun vs H Q E h => ?_) (fun cdv A outer s H vs Q E hr h => ?_)
  · obtain ⟨n, v, cs, rfl, _⟩ := h
    rfl
  · obtain ⟨n, v, cs, rfl, ⟨a, rfl, ha⟩, hn, hl, q⟩ := h
    have h6 := pow6 hn
    have hln : (cs.map V.int).length = 2 ^ n := by rw [List.length_map]; exact hl
    refine ⟨_, pss_cons (ps_set (i := 2) scWi.nd rfl (by first | exact Or.inl rfl | exact Or.inr rfl) (pe_op op_shl pe_int (pv 0)))
      (pss_cons (ps_if (PW.pt (pw_or (pt_not (pt_val (pe_callB call_isi (by rfl) B.isinstance bI (pa_cons (pv 1) (pa_cons (pe_bltn (v := .ty "tuple") (by rfl) B.tuple bT rfl) pa_nil))))) (pw_or (pt_cmpR op_ne (pe_callB call_len_seq (by rfl) B.len PySem.boot_len (pa_cons (pv 1) pa_nil)) (pv 2) (nomark _))
          (pw_or1 (pt_not (pt_val (pe_callB (cr_all rfl) (by rfl) B.all bAll (pa_cons
            (pe_lc (own := [("count", 6)]) (g := gName 6) (tt := tYes) (te := tDf spNum (tCons (tVar 6) tNil)) rfl scWi.nd (pi_tup (pv 1)) (blkOk_by (own := [("count", 6)]) (N := nWi) (sc := defScope sLotWith) (by decide +kernel))
              (fun _ _ _ _ _ => pg_name (i := 6) scWi.nd rfl (Or.inl rfl)) (fun _ _ _ _ _ => pts_nil) (fun _ _ _ _ _ => pe_def dN (hr.mono (by omega)) (by rfl) (pa_cons (pv 6) pa_nil))) pa_nil)))))))) (pss_one (ps_ret pe_non)) pss_nil)
      (pss_cons (ps_set (i := 3) scWi.nd rfl (by first | exact Or.inl rfl | exact Or.inr rfl) (pe_lc (own := [("x", 4)]) (g := gName 4) (tt := tYes) (te := teWi K) rfl scWi.nd (pi_range1 (by rfl) B.range (pa_cons (pv 2) pa_nil)) (blkOk_by (own := [("x", 4)]) (N := nWi) (sc := defScope sLotWith) (by decide +kernel))
          (fun _ _ _ _ _ => pg_name (i := 4) scWi.nd rfl (by first | exact Or.inl rfl | exact Or.inr rfl)) (fun _ _ _ _ _ => pts_nil)
          (fun _ _ _ _ _ => pe_callB (cr_sum rfl) (by rfl) mS bSum (pa_cons
            (pe_lc (own := [("mask", 5), ("count", 6)]) (g := gTup K 2 (gCons (gName 5) (gCons (gName 6) gNil))) (tt := tYes) (te := teMu) rfl scWi.nd (pi_enumT (by rfl) B.enumerate (pa_cons (pv 1) pa_nil)) (blkOk_by (own := [("mask", 5), ("count", 6)]) (N := nWi) (sc := relS outWi (defScope sLotWith)) (by decide +kernel))
              (fun _ _ _ _ _ => pg_tup rfl (pgs_cons (pg_name (i := 5) scWi.nd rfl (Or.inl rfl)) (pgs_cons (pg_name (i := 6) scWi.nd rfl (Or.inl rfl)) pgs_nil))) (fun _ _ _ _ _ => pts_nil) (fun _ _ _ _ _ => pe_op op_mul (pv 6) (pe_def dS (hr.mono (by omega)) (by rfl) (pa_cons (pv 5) (pa_cons (pv 4) pa_nil))))) pa_nil))))
      (pss_cons (ps_if (pt_not (pt_val (pe_callB (cr_all rfl) (by rfl) B.all bAll (pa_cons
            (pe_lc (own := [("total", 7)]) (g := gName 7) (tt := tYes) (te := tOp (rIn K false) (tVar 7) (tTup (tCons (tC (.int 0)) (tCons (tVar 2) tNil)))) rfl scWi.nd (pi_list (pv 3)) (blkOk_by (own := [("total", 7)]) (N := nWi) (sc := defScope sLotWith) (by decide +kernel))
              (fun _ _ _ _ _ => pg_name (i := 7) scWi.nd rfl (Or.inl rfl)) (fun _ _ _ _ _ => pts_nil) (fun _ _ _ _ _ => pe_cmpR op_in_seq (pv 7) (pe_tup (pa_cons pe_int (pa_cons (pv 2) pa_nil))) (by rfl))) pa_nil)))) (pss_one (ps_ret pe_non)) pss_nil)
      (pss_one (ps_ret (pe_tup (pa_cons (pv 0) (pa_cons (pe_callTy call_tuple_of (by rfl) B.tuple bT (pa_cons
            (pe_lc (own := [("x", 4)]) (g := gName 4) (tt := tTest (tOp rEq (tOp (rIxL K) (tVar 3) (tVar 4)) (tVar 2))) (te := tVar 4) rfl scWi.nd (pi_range1 (by rfl) B.range (pa_cons (pv 2) pa_nil)) (blkOk_by (own := [("x", 4)]) (N := nWi) (sc := defScope sLotWith) (by decide +kernel))
              (fun _ _ _ _ _ => pg_name (i := 4) scWi.nd rfl (by first | exact Or.inl rfl | exact Or.inr rfl)) (fun _ _ _ _ _ => pts_one (pt_cmpR op_eq (pe_ix ix_list (pv 3) (pv 4) (fun _ _ => rfl)) (pv 2) (nomark _))) (fun _ _ _ _ _ => pv 4)) pa_nil)) pa_nil)))))))), ?_⟩
    refine ⟨.int n, rfl, 1, n, rfl, rfl, cpow hn, ?_⟩
    rw [show (fun (i j : Int) => V.int (i * 2 ^ j.toNat)) 1 (n : Int) = V.int ((2 ^ n : Nat) : Int) from congrArg V.int (shl1 n)]
    refine ⟨.ref a, rfl, .ref a, .ty "tuple", _, _, true, rfl, .ty _, .base (.tup ha), kit_ty (by decide +kernel), true, rfl, iteF ?_⟩
    refine ⟨.ref a, rfl, a, _, rfl, .inr (SqT.of ha), .int ((2 ^ n : Nat) : Int), rfl, rfl, _, rfl, iteNT (nne (by rw [hln])) ?_⟩
    refine ⟨.ref a, rfl, a, rfl, ⟨_, SqT.of ha⟩, fun D nD => ?_⟩
    refine lcp_tup (p := fun _ => true) (f := fun _ => .bl true) nD (SqT.of ha) (small64 (by omega)) (fun i z H2 hz s2 => ?_) (fun H2 s2 hD => ?_)
    · intro R1 R2 h1 h2
      rw [List.getElem?_map] at hz
      obtain ⟨c, hc, rfl⟩ := Option.map_eq_some_iff.mp hz
      exact ⟨rfl, iteT (B := R1 H2) ⟨_, rfl, c, rfl, h2 rfl _ (Same.refl _)⟩⟩
    refine ⟨D, List.replicate (2 ^ n) true, rfl, SqL.of ?_, ?_⟩
    · rw [hD, List.filter_eq_self.mpr (fun _ _ => rfl), List.map_replicate, List.map_const', hln]
    rw [show (List.replicate (2 ^ n) true).all id = true by simp]
    refine ⟨true, rfl, iteF ?_⟩
    have ha2 := s2 _ _ ha
    refine ⟨.int ((2 ^ n : Nat) : Int), rfl, ((2 ^ n : Nat) : Int), rfl, l62, r62 hn, fun D2 nD2 => ?_⟩
    refine lcp_range (n := 2 ^ n) (p := fun _ => true) (f := fun x => .int (suW n cs x)) nD2 (small64 (by omega)) (fun x H3 hx s3 => ?_) (fun H3 s3 hD2 => ?_)
    · intro R1 R2 h1 h2
      have ha3 := s3 _ _ ha2
      refine ⟨rfl, iteT (B := R1 H3) ⟨.ref a, rfl, a, _, rfl, SqT.of ha3, fun B2 nB => ?_⟩⟩
      refine lce_tup (f := mulG fun u => sgn u x) nB (SqT.of ha3) (small64 (by omega)) (fun u z T H4 hz s4 hT => ?_) (fun H4 s4 hB => ?_)
      · intro R3 R4 h3 h4
        have hu : u < 2 ^ n := by
          have := (List.getElem?_eq_some_iff.mp hz).1
          omega
        rw [List.getElem?_map] at hz
        obtain ⟨c, hc, rfl⟩ := Option.map_eq_some_iff.mp hz
        refine ⟨T, _, rfl, SqT.of hT, rfl, _, _, rfl, _, _, rfl, rfl, rfl, iteT (B := R3 H4) ⟨_, rfl, _, rfl, _, rfl, u, x, congrArg (fun z => [V.int (u : Int), V.int z]) (Int.zero_add _), lt900 (by omega), lt900 (by omega), fun H5 s5 => ⟨c, sgn u x, rfl, rfl, .inr ?_, h4 rfl _ s5⟩⟩⟩
        rcases sgn_pm u x with z | z <;> rw [z] <;> decide
      · rw [cs_mul (fun u => sgn u x) hl] at hB
        exact ⟨B2, _, rfl, SqL.of hB, h2 rfl _ s4⟩
    rw [List.filter_eq_self.mpr (fun _ _ => rfl)] at hD2
    refine ⟨.ref D2, rfl, D2, rfl, ⟨_, SqL.of hD2⟩, fun D3 nD3 => ?_⟩
    refine lcp_list (p := fun _ => true) (f := fun v => match v with | .int z => .bl (decide (z = 0) || decide (z = ((2 ^ n : Nat) : Int))) | v => v) nD3 (SqL.of hD2) (small64 (by rw [List.length_map, List.length_range]; omega)) (fun x z H4 hz s4 => ?_) (fun H4 s4 hD3 => ?_)
    · intro R1 R2 h1 h2
      rw [List.getElem?_map] at hz
      obtain ⟨y, hy, rfl⟩ := Option.map_eq_some_iff.mp hz
      refine ⟨rfl, iteT (B := R1 H4) ⟨_, rfl, .int ((2 ^ n : Nat) : Int), rfl, sz (n := 2) (by decide), fun T nT => ⟨T, _, rfl, .inr (SqT.of upd_same), rfl, rfl, ?_⟩⟩⟩
      have e : inV (.int (suW n cs y)) [V.int 0, .int ((2 ^ n : Nat) : Int)] = (decide (suW n cs y = 0) || decide (suW n cs y = ((2 ^ n : Nat) : Int))) := by
        have e0 : ∀ i j : Int, eqV (.int i) (.int j) = decide (j = i) := fun i j => by
          show decide (i = j) = decide (j = i)
          rw [Bool.eq_iff_iff, decide_eq_true_iff, decide_eq_true_iff]
          exact ⟨Eq.symm, Eq.symm⟩
        show (eqV (.int 0) (.int (suW n cs y)) || (eqV (.int ((2 ^ n : Nat) : Int)) (.int (suW n cs y)) || false)) = _
        rw [e0, e0, Bool.or_false]
      show R2 (.bl (inV (.int (suW n cs y)) [V.int 0, .int ((2 ^ n : Nat) : Int)])) _
      rw [e]
      exact h2 rfl _ (same_new nT)
    have eb : (((List.range (2 ^ n)).map fun x => V.int (suW n cs x)).filter fun _ => true).map (fun v => match v with | .int z => V.bl (decide (z = 0) || decide (z = ((2 ^ n : Nat) : Int))) | v => v) = ((List.range (2 ^ n)).map fun x => decide (suW n cs x = 0) || decide (suW n cs x = ((2 ^ n : Nat) : Int))).map V.bl := by
      rw [List.filter_eq_self.mpr (fun _ _ => rfl), List.map_map, List.map_map]
      rfl
    rw [eb] at hD3
    have eo : ((List.range (2 ^ n)).map fun x => decide (suW n cs x = 0) || decide (suW n cs x = ((2 ^ n : Nat) : Int))).all id = okW n cs := by
      unfold okW
      rw [List.all_map]
      rfl
    refine ⟨D3, _, rfl, SqL.of hD3, ?_⟩
    rw [eo]
    have sm := (s2.trans s3).trans s4
    refine ⟨_, rfl, ?_⟩
    cases ho : okW n cs with
    | false => exact iteT (q _ _ sm (.inr ⟨ho, rfl⟩))
    | true =>
      have hD4 := s4 _ _ hD2
      refine iteF ⟨.int n, rfl, .int ((2 ^ n : Nat) : Int), rfl, ((2 ^ n : Nat) : Int), rfl, l62, r62 hn, fun D5 nD5 => ?_⟩
      refine lcp_range (n := 2 ^ n) (p := pW n cs) (f := fun x => .int (x : Int)) nD5 (small64 (by omega)) (fun x H5 hx s5 => ?_) (fun H5 s5 hD5 => ?_)
      · intro R1 R2 h1 h2
        refine ⟨rfl, .ref D2, rfl, _, rfl, D2, _, x, .int (suW n cs x), rfl, congrArg V.int (Int.zero_add _), SqL.of (s5 _ _ hD4), atI_nat (by rw [List.getElem?_map, List.getElem?_range hx]; rfl), .int ((2 ^ n : Nat) : Int), rfl, rfl, _, rfl, ?_⟩
        have e : decide (V.int (suW n cs x) = V.int ((2 ^ n : Nat) : Int)) = pW n cs x := by
          unfold pW
          rw [Bool.eq_iff_iff, decide_eq_true_iff, decide_eq_true_iff]
          exact ⟨V.int.inj, congrArg V.int⟩
        rw [e]
        refine ite2 (fun z => ⟨_, rfl, ?_⟩) (fun z => h1 (by simpa using z) _ (Same.refl _))
        rw [Int.zero_add]
        exact h2 z _ (Same.refl _)
      · refine ⟨D5, _, rfl, .inl ⟨SqL.of hD5, fun T nT => ⟨sz (n := 2) (by decide), fun U nU => ?_⟩⟩⟩
        refine q _ _ (((sm.trans s5).trans (same_new nT)).trans (same_new nU)) (.inl ⟨ho, U, T, rfl, upd_same, ?_⟩)
        rw [upd_ne (ne_of_none upd_same nU), upd_same]
        rfl
end
end XT
/-! data with dicts, and repr of them -/
namespace XT
open PySem PySem.Spec PyProof.Rows L2
/-- a dict of texts and numbers -/
def dkV (kvs : List (Str × Int)) : List (Key × V) := kvs.map fun p => (.inr p.1, .int p.2)
def dkD (kvs : List (Str × Int)) : PyData := .dict (kvs.map fun p => (.str p.1, .int p.2))
mutual
inductive Dz (K : PySem.W.Frag) (H : Hp) : V → PyData → Prop
  | non : Dz K H .non .none
  | bl (b : Bool) : Dz K H (.bl b) (.bool b)
  | int (i : Int) : Dz K H (.int i) (.int i)
  | str (x : Str) : Dz K H (.str x) (.str x)
  | lst {a : Addr} {xs : List V} {ds : List PyData} : SqL K H a xs → a ≠ sysModules → DzAll K H xs ds → Dz K H (.ref a) (.list ds)
  | tup {a : Addr} {xs : List V} {ds : List PyData} : SqT K H a xs → DzAll K H xs ds → Dz K H (.ref a) (.tuple ds)
  | dct {a : Addr} (kvs : List (Str × Int)) : H a = some (.dK (dkV kvs)) → Dz K H (.ref a) (dkD kvs)
inductive DzAll (K : PySem.W.Frag) (H : Hp) : List V → List PyData → Prop
  | nil : DzAll K H [] []
  | cons {v : V} {vs : List V} {d : PyData} {ds : List PyData} : Dz K H v d → DzAll K H vs ds → DzAll K H (v :: vs) (d :: ds)
end
mutual
theorem Dz.same {K : PySem.W.Frag} {H H' : Hp} (e : Same H H') : ∀ {v : V} {d : PyData}, Dz K H v d → Dz K H' v d
  | _, _, .non => .non
  | _, _, .bl b => .bl b
  | _, _, .int i => .int i
  | _, _, .str x => .str x
  | _, _, .lst h n a => .lst (e.seq h) n (DzAll.same e a)
  | _, _, .tup h a => .tup (Same.sqT e h) (DzAll.same e a)
  | _, _, .dct kvs h => .dct kvs (e _ _ h)
theorem DzAll.same {K : PySem.W.Frag} {H H' : Hp} (e : Same H H') : ∀ {vs : List V} {ds : List PyData}, DzAll K H vs ds → DzAll K H' vs ds
  | _, _, .nil => .nil
  | _, _, .cons h a => .cons (Dz.same e h) (DzAll.same e a)
end
theorem dk_reads {P : Program} {w : World} {h : Heap} : ∀ {kvs : List (Str × Int)} {vs : List (Key × Value)} {es : List DictEntry}, KV (dkV kvs) vs → Pairs (mixKind P w) es vs →
    ReadsAll h (es.map (·.key)) ((kvs.map fun p => ((PyData.str p.1, PyData.int p.2) : PyData × PyData)).map (·.1)) [] ∧ ReadsAll h (es.map (·.val)) ((kvs.map fun p => ((PyData.str p.1, PyData.int p.2) : PyData × PyData)).map (·.2)) []
  | [], _, _, r, p => by
    cases r
    cases p
    exact ⟨.nil, .nil⟩
  | (x, i) :: kvs, _, _, r, p => by
    cases r with
    | @cons a kv as bs r1 r2 =>
      cases p with
      | @cons e _ es' _ hk hv p2 =>
        obtain ⟨h1, h2⟩ := dk_reads (P := P) (w := w) (h := h) (kvs := kvs) r2 p2
        obtain ⟨e1, e2⟩ := r1
        have e1 : (Sum.inr x : Key) = kv.1 := e1
        have e2 : RelV (.int i) kv.2 := e2
        have hk : keyIs kv.1 e.key = true := hk
        rw [← e1] at hk
        rcases keyIs_shape hk with ⟨j, t, z, _⟩ | ⟨y, t, z, ey⟩
        · cases z
        · cases z
          obtain ⟨t2, e3⟩ := e2
          refine ⟨?_, ?_⟩
          · show ReadsAll h (e.key :: es'.map (·.key)) (PyData.str x :: _) ([] ++ [])
            rw [ey]
            exact .cons (.str x t) h1
          · show ReadsAll h (e.val :: es'.map (·.val)) (PyData.int i :: _) ([] ++ [])
            rw [hv, e3]
            exact .cons (.int i t2) h2
section
variable {X : Cx} {pins : List (Addr × Obj)} {σ : L2.St} {H : Hp} {s : Shared}
mutual
theorem Dz.reads (I : Inv X pins σ H s) : ∀ {v : V} {d : PyData}, Dz X.K H v d → ∀ u : Value, RelV v u → ∃ as, Reads s.heap u d as ∧ sysModules ∉ as
  | _, _, .non, u, r => by
    cases r
    exact ⟨_, Reads.none, by simp⟩
  | _, _, .bl b, u, r => by
    cases r
    exact ⟨_, Reads.bool b, by simp⟩
  | _, _, .int i, u, r => by
    obtain ⟨t, rfl⟩ := r
    exact ⟨_, Reads.int i t, by simp⟩
  | _, _, .str x, u, r => by
    obtain ⟨t, rfl⟩ := r
    exact ⟨_, Reads.str x t, by simp⟩
  | _, _, .lst hs ne ha, u, r => by
    cases r
    obtain ⟨its, rv, ⟨o, n, ho, hc, _, hd⟩, _⟩ := I.list hs
    obtain ⟨as, hr, nm⟩ := DzAll.reads I ha its rv
    exact ⟨_, Reads.list ho hc hd hr, fun z => (List.mem_cons.mp z).elim (fun z => ne z.symm) nm⟩
  | _, _, .tup hs ha, u, r => by
    cases r
    obtain ⟨its, rv, ⟨o, ho, hc, n, hd⟩, _⟩ := I.tuple hs
    obtain ⟨as, hr, nm⟩ := DzAll.reads I ha its rv
    exact ⟨_, Reads.tuple ho hc hd hr, nm⟩
  | _, _, .dct (a := a) kvs h, u, r => by
    cases r
    have hx : ObjOk X.prog X.w H s.heap a (.dK (dkV kvs)) := I.hok a _ h
    obtain ⟨_, hm, vs, rk, o, es, ep, ho, hex, hd, _, hp, _⟩ := hx
    obtain ⟨h1, h2⟩ := dk_reads (h := s.heap) rk hp
    have hne : a ≠ sysModules := beq_eq_false_iff_ne.mp hm
    exact ⟨_, Reads.dict ho hex.1 hd h1 h2, fun z => by
      simp only [List.append_nil, List.mem_cons, List.not_mem_nil, or_false] at z
      exact hne z.symm⟩
theorem DzAll.reads (I : Inv X pins σ H s) : ∀ {vs : List V} {ds : List PyData}, DzAll X.K H vs ds → ∀ us : List Value, Vals vs us → ∃ as, ReadsAll s.heap us ds as ∧ sysModules ∉ as
  | _, _, .nil, us, r => by
    cases r
    exact ⟨_, ReadsAll.nil, by simp⟩
  | _, _, .cons h1 h2, us, r => by
    cases r with
    | cons r1 r2 =>
      obtain ⟨as, q1, n1⟩ := Dz.reads I h1 _ r1
      obtain ⟨bs, q2, n2⟩ := DzAll.reads I h2 _ r2
      exact ⟨_, ReadsAll.cons q1 q2, fun z => (List.mem_append.mp z).elim n1 n2⟩
end
end
section
variable {X : Cx}
def rReprZ (K : PySem.W.Frag) : List V → Hp → VK → Prop := fun xs H Q => ∃ (a : Addr) (d : PyData), xs = [.ref a] ∧ Dz K H (.ref a) d ∧ d.depth ≤ 64 ∧ d.showable = true ∧ d.shown.length ≤ sizeLine ∧ Q (.str d.shown) H
theorem cr_reprZ (hg : X.A.guards = some []) (hu : X.A.units + 128 < cLine) : CallR X (.builtin "repr") (rReprZ X.K) := by
  intro pins s σ H xs us Q I r h
  obtain ⟨a, d, rfl, hd, dp, hw, hz, q⟩ := h
  rw [Vals.ref1 r]
  obtain ⟨as, rd, nm⟩ := Dz.reads I hd (.ref a) rfl
  refine repr_of_reads' rd hw (fun _ => nm) hg (by omega) (fun _ _ e => e) (fun h2 u tk k => ?_) hz
  exact ⟨.str d.shown, H, I.kept (t' := tk) k, ⟨u, rfl⟩, q⟩
/-- a list display: not at the place of sys.modules -/
def tLstB (t : TA) : TE := fun σ H Q => t σ H fun xs H1 => xs.length ≤ sizeLine ∧ ∀ p, H1 p = none → p ≠ sysModules → Q (.ref p) (upd H1 p (.lst xs))
theorem pe_lstB {es : List Expr} {t : TA} {pos : Pos} (h : PA X es t) : PE X (.List es pos) (tLstB t) := by
  refine ⟨fun pins s σ H Q I hq => ?_⟩
  refine wpAny_List_spliced (thn (h.run pos pins s σ H _ I hq) fun us s1 ⟨xs, H1, I1, r, z, q⟩ => ⟨by rw [← r.length]; exact z, ?_⟩)
  have hf : H1 s1.heap.objs.size = none := I1.hok.fresh (Nat.le_refl _)
  refine ⟨.ref s1.heap.objs.size, upd H1 s1.heap.objs.size (.lst xs), I1.laid (t' := s1.toks) (fun b u e => Heap.get?_push_of_some _ e) (Nat.le_refl _) ?_, rfl, q _ hf (Ne.symm (Nat.ne_of_lt I1.big))⟩
  exact ⟨z, us, 0, r, Heap.get?_push_size _ rfl⟩
end
end XT
/-! kinds of data -/
namespace XT
open PySem PySem.Spec PyProof.Rows L2
def tyD : PyData → String
  | .none => "NoneType" | .bool _ => "bool" | .int _ => "int" | .str _ => "str" | .list _ => "list" | .tuple _ => "tuple" | .dict _ => "dict"
theorem Dz.ty {K : PySem.W.Frag} {H : Hp} {v : V} {d : PyData} (h : Dz K H v d) : TyX K H v (.type (tyD d)) := by
  cases h with
  | non => exact .base .non
  | bl b => exact .base (.bl b)
  | int i => exact .base (.int i)
  | str x => exact .base (.str x)
  | lst h n a =>
    rcases h with (h | ⟨o, h⟩) | ⟨o, its, n, h, c, _⟩
    · exact .base (.lst h)
    · exact .base (.frz h)
    · exact .kList h c
  | tup h a =>
    rcases h with (h | ⟨o, h⟩) | ⟨o, its, n, h, c, _⟩
    · exact .base (.tup h)
    · exact .fTuple h
    · exact .kTuple h c
  | dct kvs h => exact .base (.dK h)
def isIt : PyData → Bool
  | .int _ => true | .bool _ => true | _ => false
def isBl : PyData → Bool
  | .bool _ => true | _ => false
def isN : PyData → Bool
  | .int _ => true | _ => false
theorem kitI {K : PySem.W.Frag} : ∀ d : PyData, PySem.W.kitOne K (.type (tyD d)) (.type "int") = some (isIt d)
  | .none => kit_ty (a := "NoneType") (b := "int") (r := false) (by decide +kernel)
  | .bool _ => kit_ty (a := "bool") (b := "int") (r := true) (by decide +kernel)
  | .int _ => kit_ty (a := "int") (b := "int") (r := true) (by decide +kernel)
  | .str _ => kit_ty (a := "str") (b := "int") (r := false) (by decide +kernel)
  | .list _ => kit_ty (a := "list") (b := "int") (r := false) (by decide +kernel)
  | .tuple _ => kit_ty (a := "tuple") (b := "int") (r := false) (by decide +kernel)
  | .dict _ => kit_ty (a := "dict") (b := "int") (r := false) (by decide +kernel)
theorem kitB' {K : PySem.W.Frag} : ∀ d : PyData, PySem.W.kitOne K (.type (tyD d)) (.type "bool") = some (isBl d)
  | .none => kit_ty (a := "NoneType") (b := "bool") (r := false) (by decide +kernel)
  | .bool _ => kit_ty (a := "bool") (b := "bool") (r := true) (by decide +kernel)
  | .int _ => kit_ty (a := "int") (b := "bool") (r := false) (by decide +kernel)
  | .str _ => kit_ty (a := "str") (b := "bool") (r := false) (by decide +kernel)
  | .list _ => kit_ty (a := "list") (b := "bool") (r := false) (by decide +kernel)
  | .tuple _ => kit_ty (a := "tuple") (b := "bool") (r := false) (by decide +kernel)
  | .dict _ => kit_ty (a := "dict") (b := "bool") (r := false) (by decide +kernel)
def isM (n : Nat) : PyData → Bool
  | .int i => decide (0 ≤ i) && decide (i < ((2 ^ n : Nat) : Int))
  | _ => false
theorem DzAll.at {K : PySem.W.Frag} {H : Hp} : ∀ {vs : List V} {ds : List PyData}, DzAll K H vs ds → ∀ {i : Nat} {v : V}, vs[i]? = some v → ∃ d, ds[i]? = some d ∧ Dz K H v d
  | _, _, .nil, i, v, h => by simp at h
  | _, _, .cons (d := d) h a, 0, v, e => by
    cases e
    exact ⟨d, rfl, h⟩
  | _, _, .cons h a, i + 1, v, e => DzAll.at a (i := i) e
theorem DzAll.len {K : PySem.W.Frag} {H : Hp} : ∀ {vs : List V} {ds : List PyData}, DzAll K H vs ds → vs.length = ds.length
  | _, _, .nil => rfl
  | _, _, .cons h a => by rw [List.length_cons, List.length_cons, DzAll.len a]
def oddD : List PyData := [.none, .bool true, .bool false, .int (-1), .int 0, .int 1, .int 2, .int 3, .int 6, .int 7, .int 63, .int 64, .int (10 ^ 39), .str "", .str "0", .str "lot", .tuple [], .list [], .dict [], .tuple [.int 0], .list [.int 0], .tuple [.bool true],
  .tuple [.int 2, .tuple [.int 0]], .tuple [.int 0, .int 1], .dict [(.str "a", .int 1)], .str "01"]
end XT
/-! is_number at any data; _law_is_int -/
namespace XT
open PySem PySem.Spec PyProof.Rows L2
section
variable {P : Program} {w : World} {K : PySem.W.Frag} {mg : Str → Option Value} {base : Heap}
theorem scNumZ : FnScope ["value"] ["value"] (defScope sNum) := ⟨rfl, rfl, rfl, by decide +kernel, rfl, by decide +kernel, by decide +kernel⟩
def spNumZ (K : PySem.W.Frag) : Sp := fun vs H Q _ => ∃ v d, vs = [v] ∧ Dz K H v d ∧ Q (.bl (isN d)) H
theorem ok_numZ {f : Addr} {fd : FuncData} {k : Nat} (B : Bl mg) (F : Fun K "is_number" "is_number" sNum f fd) : FnOk P w K mg base CX0 (k + 1) f fd ["value"] (spNumZ K) := by
  refine F.ok scNumZ (fun vs H Q E h => ?_) (fun cdv A outer s H vs Q E hr h => ?_)
  · obtain ⟨v, d, rfl, _⟩ := h
    rfl
  · obtain ⟨v, d, rfl, hd, q⟩ := h
    refine ⟨_, pss_one (ps_ret (pe_and (pe_callB call_isi (by rfl) B.isinstance bI (pa_cons (pv 0) (pa_cons (pe_bltn (v := .ty "int") (by rfl) B.int bInt rfl) pa_nil)))
      (pe_one (pe_not (pe_callB call_isi (by rfl) B.isinstance bI (pa_cons (pv 0) (pa_cons (pe_bltn (v := .ty "bool") (by rfl) B.bool bBool rfl) pa_nil))))))), ?_⟩
    refine ⟨v, rfl, v, .ty "int", _, _, isIt d, rfl, .ty _, hd.ty, kitI d, isIt d, rfl, ?_⟩
    cases hi : isIt d with
    | false =>
      refine iteF ?_
      have e : isN d = false := by cases d <;> first | rfl | simp [isIt] at hi
      rw [e] at q
      exact q
    | true =>
      refine iteT ⟨v, rfl, v, .ty "bool", _, _, isBl d, rfl, .ty _, hd.ty, kitB' d, isBl d, rfl, ?_⟩
      have e : (!isBl d) = isN d := by cases d <;> first | rfl | simp [isIt] at hi
      rw [e]
      exact q
theorem scIsInt : FnScope ["_law_value", "_law_low", "_law_high"] ["_law_value", "_law_low", "_law_high"] (defScope sLIsInt) := ⟨rfl, rfl, rfl, by decide +kernel, rfl, by decide +kernel, by decide +kernel⟩
def isIn (a b : Int) : PyData → Bool
  | .int i => decide (a ≤ i) && decide (i ≤ b)
  | _ => false
def spIsInt (K : PySem.W.Frag) : Sp := fun vs H Q _ => ∃ (v : V) (d : PyData) (a b : Int), vs = [v, .int a, .int b] ∧ Dz K H v d ∧ Q (.bl (isIn a b d)) H
theorem ok_isInt {f : Addr} {fd : FuncData} {k : Nat} (B : Bl mg) (F : Fun K "_law_is_int" "_law_is_int" sLIsInt f fd) : FnOk P w K mg base CX0 (k + 1) f fd ["_law_value", "_law_low", "_law_high"] (spIsInt K) := by
  refine F.ok scIsInt (fun vs H Q E h => ?_) (fun cdv A outer s H vs Q E hr h => ?_)
  · obtain ⟨v, d, a, b, rfl, _⟩ := h
    rfl
  · obtain ⟨v, d, a, b, rfl, hd, q⟩ := h
    refine ⟨_, pss_one (ps_ret (pe_and (pe_callB call_isi (by rfl) B.isinstance bI (pa_cons (pv 0) (pa_cons (pe_bltn (v := .ty "int") (by rfl) B.int bInt rfl) pa_nil)))
      (pe_and (pe_not (pe_callB call_isi (by rfl) B.isinstance bI (pa_cons (pv 0) (pa_cons (pe_bltn (v := .ty "bool") (by rfl) B.bool bBool rfl) pa_nil)))) (pe_one (pe_chain op_le op_le (pv 1) (pv 0) (pv 2)))))), ?_⟩
    refine ⟨v, rfl, v, .ty "int", _, _, isIt d, rfl, .ty _, hd.ty, kitI d, isIt d, rfl, ?_⟩
    cases hi : isIt d with
    | false =>
      refine iteF ?_
      have e : isIn a b d = false := by cases d <;> first | rfl | simp [isIt] at hi
      rw [e] at q
      exact q
    | true =>
      refine iteT ⟨v, rfl, v, .ty "bool", _, _, isBl d, rfl, .ty _, hd.ty, kitB' d, isBl d, rfl, !isBl d, rfl, ?_⟩
      cases hd with
      | bl c => exact iteF q
      | int i =>
        refine iteT ⟨.int a, rfl, .int i, rfl, a, i, rfl, rfl, _, rfl, ?_⟩
        by_cases h0 : a ≤ i
        · rw [decide_eq_true h0]
          refine iteT ⟨.int b, rfl, i, b, rfl, rfl, ?_⟩
          have e : isIn a b (.int i) = decide (i ≤ b) := by
            show (decide (a ≤ i) && decide (i ≤ b)) = _
            rw [decide_eq_true h0, Bool.true_and]
          rw [e] at q
          exact q
        · rw [decide_eq_false h0]
          have e : isIn a b (.int i) = false := by
            show (decide (a ≤ i) && decide (i ≤ b)) = _
            rw [decide_eq_false h0, Bool.false_and]
          rw [e] at q
          exact iteF q
      | non => simp [isIt] at hi
      | str _ => simp [isIt] at hi
      | lst _ _ _ => simp [isIt] at hi
      | tup _ _ => simp [isIt] at hi
      | dct kvs _ => simp [isIt, dkD] at hi
end
end XT
/-! sizes of data -/
namespace XT
open PySem PySem.Spec PyProof.Rows L2
/-! texts -/
def TxOk (x : Str) : Prop := ∀ c ∈ x.cps.toList, c < 16 ^ 8
theorem shifted_lt {B : Nat} : ∀ {l : List (Nat × Nat × Nat)}, l.all (fun p => decide (p.2.2 + (p.2.1 - p.1) < B)) = true → ∀ {c x : Nat}, Unicode.shifted l c = some x → x < B
  | [], _, c, x, h => by simp [Unicode.shifted] at h
  | (a, b, t) :: l, ha, c, x, h => by
    rw [List.all_cons, Bool.and_eq_true] at ha
    have h1 : t + (b - a) < B := of_decide_eq_true ha.1
    unfold Unicode.shifted at h
    by_cases hc : c < a
    · rw [if_pos hc] at h; cases h
    · rw [if_neg hc] at h
      by_cases hb : c ≤ b
      · rw [if_pos hb] at h
        cases h
        omega
      · rw [if_neg hb] at h
        exact shifted_lt ha.2 h
theorem lookup_mem {β : Type} : ∀ {l : List (Nat × β)} {a : Nat} {b : β}, l.lookup a = some b → (a, b) ∈ l
  | [], a, b, h => by simp at h
  | (k, v) :: l, a, b, h => by
    rw [List.lookup_cons] at h
    cases e : a == k with
    | true =>
      rw [e] at h
      cases h
      rw [eq_of_beq e]
      exact List.mem_cons_self
    | false =>
      rw [e] at h
      exact List.mem_cons_of_mem _ (lookup_mem h)
theorem tabOne : UnicodeData.oneUpper.all (fun p => decide (p.2.2 + (p.2.1 - p.1) < 16 ^ 8)) = true := by decide +kernel
theorem tabSev : UnicodeData.severalUpper.all (fun p => p.2.all fun x => decide (x < 16 ^ 8)) = true := by decide +kernel
theorem upperOf_lt {c : Nat} (h : c < 16 ^ 8) : ∀ x ∈ Unicode.upperOf c, x < 16 ^ 8 := by
  intro x hx
  unfold Unicode.upperOf Unicode.image at hx
  cases e : UnicodeData.severalUpper.lookup c with
  | some cs =>
    rw [e] at hx
    have := List.all_eq_true.mp tabSev _ (lookup_mem e)
    exact of_decide_eq_true (List.all_eq_true.mp this x hx)
  | none =>
    rw [e] at hx
    rw [List.mem_singleton.mp hx]
    cases e2 : Unicode.shifted UnicodeData.oneUpper c with
    | none => exact h
    | some y => exact shifted_lt tabOne e2
theorem TxOk.upper {x : Str} (h : TxOk x) : TxOk (Txt.upper x) := by
  intro c hc
  unfold Txt.upper placed at hc
  have hc := Array.mem_toList_iff.mp hc
  obtain ⟨ys, h1, h2⟩ := Array.mem_flatten.mp hc
  obtain ⟨i, hi, e⟩ := Array.mem_mapIdx.mp h1
  subst e
  have h3 : c ∈ Unicode.upperOf x.cps[i] := by simpa using h2
  exact upperOf_lt (h _ (Array.mem_toList_iff.mpr (Array.getElem_mem hi))) c h3
theorem TxOk.app {x y : Str} (h : TxOk x) (k : TxOk y) : TxOk (x ++ y) := by
  intro c hc
  have e : (x ++ y).cps.toList = x.cps.toList ++ y.cps.toList := by
    show (x.cps ++ y.cps).toList = _
    simp
  rw [e] at hc
  exact (List.mem_append.mp hc).elim (h c) (k c)
theorem TxOk.cut {x : Str} (h : TxOk x) (lo hi : Option Int) : TxOk (cutS x lo hi) := by
  intro c hc
  have hc : c ∈ (((x.cps.toList.drop (HT.sIx x.length 0 lo)).take (HT.sIx x.length x.length hi - HT.sIx x.length 0 lo)).toArray).toList := hc
  rw [List.toList_toArray] at hc
  exact h c (List.mem_of_mem_drop (List.mem_of_mem_take hc))
theorem TxOk.of (s : String) : TxOk (Str.ofString s) := by
  intro c hc
  rw [Str.ofString_eq_toList] at hc
  have hc : c ∈ s.toList.map Char.toNat := by simpa using hc
  obtain ⟨d, _, rfl⟩ := List.mem_map.mp hc
  have := d.valid
  have h2 : d.toNat < 0x110000 := by
    rcases this with h | h
    · exact Nat.lt_trans h (by decide)
    · exact h.2
  exact Nat.lt_trans h2 (by decide)
theorem str_app_len (x y : Str) : (x ++ y).length = x.length + y.length := strLen_append x y

/-! size -/
mutual
def zs : PyData → Nat
  | .none => 10
  | .bool _ => 10
  | .int _ => 60
  | .str x => 10 * x.length + 2
  | .list ds => zsAll ds + 4
  | .tuple ds => zsAll ds + 4
  | .dict _ => 50
def zsAll : List PyData → Nat
  | [] => 0
  | d :: ds => zs d + 2 + zsAll ds
end
mutual
def fz (M : Nat) : PyData → Prop
  | .none => True
  | .bool _ => True
  | .int i => i.natAbs ≤ M
  | .str x => TxOk x
  | .list ds => fzAll M ds
  | .tuple ds => fzAll M ds
  | .dict kvs => (PyData.showable (.dict kvs) = true) ∧ (PyData.shown (.dict kvs)).length ≤ 50
def fzAll (M : Nat) : List PyData → Prop
  | [] => True
  | d :: ds => fz M d ∧ fzAll M ds
end
mutual
theorem fz_mono {M N : Nat} (h : M ≤ N) : ∀ d : PyData, fz M d → fz N d
  | .none, a => a
  | .bool _, a => a
  | .int _, a => Nat.le_trans a h
  | .str _, a => a
  | .list ds, a => fzAll_mono h ds a
  | .tuple ds, a => fzAll_mono h ds a
  | .dict _, a => a
theorem fzAll_mono {M N : Nat} (h : M ≤ N) : ∀ ds : List PyData, fzAll M ds → fzAll N ds
  | [], a => a
  | d :: ds, a => ⟨fz_mono h d a.1, fzAll_mono h ds a.2⟩
end
theorem fzAll_iff {M : Nat} : ∀ {ds : List PyData}, fzAll M ds ↔ ∀ d ∈ ds, fz M d
  | [] => ⟨fun _ d h => by simp at h, fun _ => trivial⟩
  | d :: ds => by
    constructor
    · intro h e he
      rcases List.mem_cons.mp he with rfl | he
      · exact h.1
      · exact fzAll_iff.mp h.2 e he
    · intro h
      exact ⟨h d List.mem_cons_self, fzAll_iff.mpr fun e he => h e (List.mem_cons_of_mem _ he)⟩
theorem depthAll_iff {k : Nat} : ∀ {ds : List PyData}, PyData.depthAll ds ≤ k ↔ ∀ d ∈ ds, PyData.depth d ≤ k
  | [] => ⟨fun _ d h => by simp at h, fun _ => Nat.zero_le _⟩
  | d :: ds => by
    simp only [PyData.depthAll]
    constructor
    · intro h e he
      have h := Nat.max_le.mp h
      rcases List.mem_cons.mp he with rfl | he
      · exact h.1
      · exact depthAll_iff.mp h.2 e he
    · intro h
      exact Nat.max_le.mpr ⟨h d List.mem_cons_self, depthAll_iff.mpr fun e he => h e (List.mem_cons_of_mem _ he)⟩
theorem zsAll_app : ∀ a b : List PyData, zsAll (a ++ b) = zsAll a + zsAll b
  | [], b => by simp [zsAll]
  | d :: a, b => by
    show zs d + 2 + zsAll (a ++ b) = zs d + 2 + zsAll a + zsAll b
    rw [zsAll_app a b]
    omega
theorem zsAll_take (n : Nat) (ds : List PyData) : zsAll (ds.take n) ≤ zsAll ds := by
  have := zsAll_app (ds.take n) (ds.drop n)
  rw [List.take_append_drop] at this
  omega
theorem zsAll_drop (n : Nat) (ds : List PyData) : zsAll (ds.drop n) ≤ zsAll ds := by
  have := zsAll_app (ds.take n) (ds.drop n)
  rw [List.take_append_drop] at this
  omega
theorem zsAll_rev : ∀ ds : List PyData, zsAll ds.reverse = zsAll ds
  | [] => rfl
  | d :: ds => by
    rw [List.reverse_cons, zsAll_app, zsAll_rev ds]
    show zsAll ds + (zs d + 2 + 0) = zs d + 2 + zsAll ds
    omega
theorem zs_mem : ∀ {ds : List PyData} {d : PyData}, d ∈ ds → zs d + 2 ≤ zsAll ds
  | e :: ds, d, h => by
    show zs d + 2 ≤ zs e + 2 + zsAll ds
    rcases List.mem_cons.mp h with rfl | h
    · omega
    · have := zs_mem h
      omega
theorem zsAll_len : ∀ ds : List PyData, ds.length ≤ zsAll ds
  | [] => Nat.zero_le _
  | d :: ds => by
    have := zsAll_len ds
    show ds.length + 1 ≤ zs d + 2 + zsAll ds
    omega
/-- what the data are: their numbers, their size, their depth -/
structure Gd (M n k : Nat) (d : PyData) : Prop where
  f : fz M d
  z : zs d ≤ n
  p : PyData.depth d ≤ k
structure GdAll (M n k : Nat) (ds : List PyData) : Prop where
  f : fzAll M ds
  z : zsAll ds ≤ n
  p : PyData.depthAll ds ≤ k
theorem Gd.mono {M N n m k j : Nat} {d : PyData} (h : Gd M n k d) (a : M ≤ N) (b : n ≤ m) (c : k ≤ j) : Gd N m j d := ⟨fz_mono a d h.f, Nat.le_trans h.z b, Nat.le_trans h.p c⟩
theorem GdAll.mono {M N n m k j : Nat} {d : List PyData} (h : GdAll M n k d) (a : M ≤ N) (b : n ≤ m) (c : k ≤ j) : GdAll N m j d := ⟨fzAll_mono a d h.f, Nat.le_trans h.z b, Nat.le_trans h.p c⟩
theorem Gd.all {M n k : Nat} {ds : List PyData} (h : Gd M n k (.tuple ds)) : GdAll M (n - 4) (k - 1) ds ∧ 4 ≤ n ∧ 1 ≤ k := by
  have h2 : zsAll ds + 4 ≤ n := h.z
  have h3 : PyData.depthAll ds + 1 ≤ k := by
    have := h.p
    simp only [PyData.depth] at this
    exact this
  exact ⟨⟨h.f, by omega, by omega⟩, by omega, by omega⟩
theorem GdAll.tuple {M n k : Nat} {ds : List PyData} (h : GdAll M n k ds) : Gd M (n + 4) (k + 1) (.tuple ds) := by
  refine ⟨h.f, Nat.add_le_add_right h.z 4, ?_⟩
  simp only [PyData.depth]
  exact Nat.add_le_add_right h.p 1
theorem GdAll.list {M n k : Nat} {ds : List PyData} (h : GdAll M n k ds) : Gd M (n + 4) (k + 1) (.list ds) := by
  refine ⟨h.f, Nat.add_le_add_right h.z 4, ?_⟩
  simp only [PyData.depth]
  exact Nat.add_le_add_right h.p 1
theorem GdAll.nil {M k : Nat} : GdAll M 0 k [] := ⟨trivial, Nat.le_refl _, Nat.zero_le _⟩
theorem GdAll.cons {M n m k : Nat} {d : PyData} {ds : List PyData} (h : Gd M n k d) (t : GdAll M m k ds) : GdAll M (n + 2 + m) k (d :: ds) := by
  refine ⟨⟨h.f, t.f⟩, ?_, ?_⟩
  · have := h.z
    have := t.z
    show zs d + 2 + zsAll ds ≤ _
    omega
  · simp only [PyData.depthAll]
    exact Nat.max_le.mpr ⟨h.p, t.p⟩
theorem GdAll.app {M n m k : Nat} {ds es : List PyData} (h : GdAll M n k ds) (t : GdAll M m k es) : GdAll M (n + m) k (ds ++ es) := by
  refine ⟨fzAll_iff.mpr fun d hd => (List.mem_append.mp hd).elim (fzAll_iff.mp h.f d) (fzAll_iff.mp t.f d), ?_, depthAll_iff.mpr fun d hd => (List.mem_append.mp hd).elim (depthAll_iff.mp h.p d) (depthAll_iff.mp t.p d)⟩
  rw [zsAll_app]
  exact Nat.add_le_add h.z t.z
theorem GdAll.sub {M n k : Nat} {ds es : List PyData} (h : GdAll M n k ds) (s : ∀ d ∈ es, d ∈ ds) (z : zsAll es ≤ zsAll ds) : GdAll M n k es :=
  ⟨fzAll_iff.mpr fun d hd => fzAll_iff.mp h.f d (s d hd), Nat.le_trans z h.z, depthAll_iff.mpr fun d hd => depthAll_iff.mp h.p d (s d hd)⟩
theorem GdAll.take {M n k : Nat} {ds : List PyData} (i : Nat) (h : GdAll M n k ds) : GdAll M n k (ds.take i) := h.sub (fun _ hd => List.mem_of_mem_take hd) (zsAll_take i ds)
theorem GdAll.drop {M n k : Nat} {ds : List PyData} (i : Nat) (h : GdAll M n k ds) : GdAll M n k (ds.drop i) := h.sub (fun _ hd => List.mem_of_mem_drop hd) (zsAll_drop i ds)
theorem GdAll.rev {M n k : Nat} {ds : List PyData} (h : GdAll M n k ds) : GdAll M n k ds.reverse := h.sub (fun _ hd => List.mem_reverse.mp hd) (Nat.le_of_eq (zsAll_rev ds))
theorem GdAll.at {M n k : Nat} {ds : List PyData} {d : PyData} (h : GdAll M n k ds) (m : d ∈ ds) : Gd M n k d :=
  ⟨fzAll_iff.mp h.f d m, by have := zs_mem m; have := h.z; omega, depthAll_iff.mp h.p d m⟩
/-- shown -/
theorem shown_int {M : Nat} {i : Int} (hM : M < 10 ^ 40) (h : i.natAbs ≤ M) : (PyData.shown (.int i)).length ≤ 60 := by
  have e := int_text_length_le10 (a := i) (k := 40) (by decide) (by omega)
  show (Str.ofString (toString i)).length ≤ 60
  rw [PySem.ofString_length]
  omega
theorem log_int {M : Nat} {i : Int} (hM : M < 10 ^ 40) (h : i.natAbs ≤ M) : i.natAbs.log2 < 1920 := by
  by_cases h0 : i.natAbs = 0
  · rw [h0]; decide
  · exact Nat.lt_of_lt_of_le ((Nat.log2_lt h0).mpr (show i.natAbs < 2 ^ 140 from Nat.lt_of_lt_of_le (show i.natAbs < 10 ^ 40 by omega) (by decide))) (by decide)
mutual
theorem shown_le {M : Nat} (hM : M < 10 ^ 40) : ∀ d : PyData, fz M d → PyData.showable d = true ∧ (PyData.shown d).length ≤ zs d
  | .none, _ => ⟨rfl, by decide⟩
  | .bool b, _ => ⟨rfl, by cases b <;> decide⟩
  | .int i, h => ⟨decide_eq_true (log_int hM h), shown_int hM h⟩
  | .str x, h => ⟨rfl, by
    show (reprText x).length ≤ 10 * x.length + 2
    exact StrLaws.reprText_len x h⟩
  | .list ds, h => by
    obtain ⟨h1, h2⟩ := shownAll_le hM ds h
    refine ⟨by simpa only [PyData.showable] using h1, ?_⟩
    simp only [PyData.shown, zs]
    have := listText_len_le (PyData.shownAll ds)
    omega
  | .tuple ds, h => by
    obtain ⟨h1, h2⟩ := shownAll_le hM ds h
    refine ⟨by simpa only [PyData.showable] using h1, ?_⟩
    simp only [PyData.shown, zs]
    have := tupleText_len_le (PyData.shownAll ds)
    omega
  | .dict kvs, h => h
theorem shownAll_le {M : Nat} (hM : M < 10 ^ 40) : ∀ ds : List PyData, fzAll M ds → PyData.showableAll ds = true ∧ ((PyData.shownAll ds).map (·.length)).sum + 2 * (PyData.shownAll ds).length ≤ zsAll ds
  | [], _ => ⟨rfl, Nat.le_refl _⟩
  | d :: ds, h => by
    obtain ⟨h1, h2⟩ := shown_le hM d h.1
    obtain ⟨h3, h4⟩ := shownAll_le hM ds h.2
    refine ⟨by simp only [PyData.showableAll, h1, h3, Bool.and_self], ?_⟩
    simp only [PyData.shownAll, List.map_cons, List.sum_cons, List.length_cons, zsAll]
    omega
end
end XT
/-! repr of any data -/
namespace XT
open PySem PySem.Spec PyProof.Rows L2
section
variable {X : Cx}
/-- repr of any data -/
def rReprA (K : PySem.W.Frag) : List V → Hp → VK → Prop := fun xs H Q => ∃ (x : V) (d : PyData), xs = [x] ∧ Dz K H x d ∧ d.depth ≤ 64 ∧ d.showable = true ∧ d.shown.length ≤ sizeLine ∧ Q (.str d.shown) H
theorem cr_reprA (hg : X.A.guards = some []) (hu : X.A.units + 128 < cLine) : CallR X (.builtin "repr") (rReprA X.K) := by
  intro pins s σ H xs us Q I r h
  obtain ⟨x, d, rfl, hd, dp, hw, hz, q⟩ := h
  obtain ⟨u, rfl, ru⟩ := vals1 r
  cases hd with
  | non => cases ru; exact PySem.P.repr_of_none ⟨.str _, H, I.tok _, ⟨_, rfl⟩, q⟩
  | bl b => cases ru; exact PySem.P.repr_of_bool ⟨.str (if b then "True" else "False"), H, I.tok _, ⟨_, by cases b <;> rfl⟩, by cases b <;> exact q⟩
  | int i =>
    obtain ⟨t, rfl⟩ := ru
    exact PySem.P.repr_of_int (of_decide_eq_true hw) ⟨.str _, H, I.tok _, ⟨_, rfl⟩, q⟩
  | str y =>
    obtain ⟨t, rfl⟩ := ru
    exact PySem.P.repr_of_str ⟨.str _, H, I.tok _, ⟨_, rfl⟩, q⟩ (hsz := hz)
  | lst a b c => cases ru; exact cr_reprZ hg hu pins s σ H _ _ Q I r ⟨_, _, rfl, .lst a b c, dp, hw, hz, q⟩
  | tup a b => cases ru; exact cr_reprZ hg hu pins s σ H _ _ Q I r ⟨_, _, rfl, .tup a b, dp, hw, hz, q⟩
  | dct kvs a => cases ru; exact cr_reprZ hg hu pins s σ H _ _ Q I r ⟨_, _, rfl, .dct kvs a, dp, hw, hz, q⟩
/-- list(t): not at the place of sys.modules -/
theorem call_listB : CallR X (.type "list") (fun xs H Q => ∃ p ys, xs = [.ref p] ∧ SqT X.K H p ys ∧ ∀ l, H l = none → l ≠ sysModules → Q (.ref l) (upd H l (.lst ys))) := by
  intro pins s σ H xs us Q I r h
  obtain ⟨p, ys, rfl, hq, q⟩ := h
  obtain ⟨u, rfl, rx⟩ := vals1 r
  cases rx
  have fin : ∀ (its : List Value), Vals ys its → ys.length ≤ sizeLine → ∀ (h' : Heap) (c' : Nat), (∀ b o', s.heap.get? b = some o' → h'.get? b = some o') →
      h'.get? s.heap.objs.size = some { cls := .type "list", dict := none, data := .seq its.toArray c', slots := #[] } → EP X pins σ Q (.ref s.heap.objs.size) { s with heap := h' } := fun its r' hz h' c' kp e =>
    ⟨.ref s.heap.objs.size, _, I.laid (t' := s.toks) kp (Nat.le_refl _) (show ObjOk X.prog X.w _ h' _ (.lst ys) from ⟨hz, its, c', r', e⟩), rfl, q _ (I.hok.fresh (Nat.le_refl _)) (Ne.symm (Nat.ne_of_lt I.big))⟩
  obtain ⟨its, r', pl, hz⟩ := I.tuple hq
  have hlen := r'.length
  obtain ⟨o, ho, hc, n, hd⟩ := pl
  exact call_list_seq p (.inr rfl) ho hc hd (fun h' c' kp e => fin its r' hz h' c' kp e) (by simp only [List.size_toArray] <;> omega)
/-- t != () -/
theorem op_neE (hu : X.A.units < cLine) : OpR X (compareOp .NotEq) (fun x y H Q => ∃ (a b : Addr) (xs : List V), x = .ref a ∧ y = .ref b ∧ SqT X.K H a xs ∧ SqT X.K H b [] ∧ Q (.bl (!xs.isEmpty)) H) := by
  intro pins s σ H x y v u Q I rx ry h
  obtain ⟨a, b, xs, rfl, rfl, ha, hb, q⟩ := h
  cases rx
  cases ry
  obtain ⟨its, r1, p1, _⟩ := I.tuple ha
  obtain ⟨its2, r2, p2, _⟩ := I.tuple hb
  cases r2
  refine SeqAt.RcNeAt.tuples (e := fun _ => true) p1 p2 hu (fun j h1 h2 => absurd h2 (Nat.not_lt_zero _)) X.prog X.w _ _ ⟨.bl (!xs.isEmpty), H, I, ?_, q⟩
  show Value.bool _ = Value.bool _
  congr 1
  cases r1 with
  | nil => rfl
  | cons _ _ => simp
/-- True + 1 -/
theorem op_add_bi : OpR X (binaryOp .Add) (fun x y H Q => ∃ k i, x = .bl k ∧ y = .int i ∧ Q (.int ((if k = true then (1 : Int) else 0) + i)) H) := by
  intro pins s σ H x y v u Q I rx ry h
  obtain ⟨k, i, rfl, rfl, q⟩ := h
  obtain ⟨t, rfl⟩ := ry
  cases rx
  exact PySem.IntBool.add_bool_int ⟨.int _, H, I.tok _, ⟨_, rfl⟩, q⟩
theorem op_sub_bi : OpR X (binaryOp .Sub) (fun x y H Q => ∃ k i, x = .bl k ∧ y = .int i ∧ Q (.int ((if k = true then (1 : Int) else 0) - i)) H) := by
  intro pins s σ H x y v u Q I rx ry h
  obtain ⟨k, i, rfl, rfl, q⟩ := h
  obtain ⟨t, rfl⟩ := ry
  cases rx
  exact PySem.IntBool.sub_bool_int ⟨.int _, H, I.tok _, ⟨_, rfl⟩, q⟩
theorem op_eq_bi : OpR X (compareOp .Eq) (fun x y H Q => ∃ k i, x = .bl k ∧ y = .int i ∧ Q (.bl ((if k then 1 else 0) == i)) H) := by
  intro pins s σ H x y v u Q I rx ry h
  obtain ⟨k, i, rfl, rfl, q⟩ := h
  obtain ⟨t, rfl⟩ := ry
  cases rx
  exact PySem.EqBoolInt.eq_bool_int ⟨.bl _, H, I, rfl, q⟩
theorem call_str_bool : CallR X (.type "str") (fun xs H Q => ∃ b, xs = [.bl b] ∧ Q (.str (Str.ofString (if b then "True" else "False"))) H) := by
  intro pins s σ H xs us Q I r h
  obtain ⟨b, rfl, q⟩ := h
  obtain ⟨u, rfl, ru⟩ := vals1 r
  cases ru
  exact PySem.P.str_of_bool ⟨.str _, H, I.tok _, ⟨_, by cases b <;> rfl⟩, q⟩
/-- two rules for one operator -/
theorem OpR.or {f : Value → Value → Sem Value} {r r' : R2} (h : OpR X f r) (h' : OpR X f r') : OpR X f (fun x y H Q => r x y H Q ∨ r' x y H Q) := by
  intro pins s σ H x y v u Q I rx ry q
  rcases q with q | q
  · exact h pins s σ H x y v u Q I rx ry q
  · exact h' pins s σ H x y v u Q I rx ry q
theorem CallR.or {f : Value} {r r' : List V → Hp → VK → Prop} (h : CallR X f r) (h' : CallR X f r') : CallR X f (fun xs H Q => r xs H Q ∨ r' xs H Q) := by
  intro pins s σ H xs us Q I rx q
  rcases q with q | q
  · exact h pins s σ H xs us Q I rx q
  · exact h' pins s σ H xs us Q I rx q
end
/-! t[::-1] -/
section
variable {prog : Program} {w : World} {A : Around} {E : Value → Shared → Prop} {s : Shared}
theorem adjust_rev (n : Nat) : Builtin.Slice.sliceAdjust none none (-1) (n : Int) = ((n : Int) - 1, -1) := rfl
theorem places_rev (n : Nat) : Builtin.Slice.slicePlaces ((n : Int) - 1) (-1) (-1) = n := by
  unfold Builtin.Slice.slicePlaces
  have h1 : ¬ ((-1 : Int) > 0) := by decide
  rw [if_neg h1]
  by_cases h : (n : Int) - 1 > -1
  · rw [if_pos h, show (- -1 : Int) = 1 by decide, Int.ediv_one]
    omega
  · rw [if_neg h]
    omega
theorem pick_rev (xs : Array Value) : ((List.range xs.size).filterMap fun (m : Nat) => xs[((xs.size : Int) - 1 + (m : Int) * (-1)).toNat]?).toArray = xs.toList.reverse.toArray := by
  have e : (List.range xs.size).filterMap (fun (m : Nat) => xs[((xs.size : Int) - 1 + (m : Int) * (-1)).toNat]?) = ((List.range xs.size).map fun k => xs.size - 1 - k).filterMap (xs[·]?) := by
    rw [List.filterMap_map]
    have g : ∀ l : List Nat, (∀ m ∈ l, m < xs.size) → l.filterMap (fun (m : Nat) => xs[((xs.size : Int) - 1 + (m : Int) * (-1)).toNat]?) = l.filterMap ((fun x => xs[x]?) ∘ fun k => xs.size - 1 - k) := by
      intro l
      induction l with
      | nil => intro _; rfl
      | cons m l ih =>
        intro hm
        have h1 := hm m List.mem_cons_self
        have e2 : ((xs.size : Int) - 1 + (m : Int) * (-1)).toNat = xs.size - 1 - m := by omega
        rw [List.filterMap_cons, List.filterMap_cons, ih fun x hx => hm x (List.mem_cons_of_mem _ hx)]
        rw [e2]
        rfl
    exact g _ fun m hm => List.mem_range.mp hm
  rw [e, PySem.W.krv_range, List.filterMap_reverse, PySem.W.krv_all]
theorem sliceApplied_rev {sl : Addr} {tk : Tok} {n : Nat} {Q : Int × Int × Nat → Shared → Prop} (hs : s.heap.IsSliceOf sl .none .none (.int (-1) tk))
    (h : Q ((n : Int) - 1, -1, n) s) : wpAny (model prog w) A (Builtin.Slice.sliceApplied (.ref sl) (pure (n : Int))) Q E s := by
  obtain ⟨os, hos, hcs, hds⟩ := id hs
  unfold Builtin.Slice.sliceApplied Builtin.Slice.sliceFields
  refine wpAny_bind (wpAny_bind (wpAny_field hos hds (x := .none) rfl (wpAny_bind (wpAny_field hos hds (x := .none) rfl (wpAny_bind (wpAny_field hos hds (x := .int (-1) tk) rfl (wpAny_pure ?_)))))))
  refine wpAny_bind (HT.slicePart_ (.int (-1) tk) ?_)
  show wpAny _ _ (if ((-1 : Int) == 0) = true then _ else _) _ _ s
  rw [if_neg (by decide)]
  refine wpAny_bind (HT.slicePart_ .none (wpAny_bind (HT.slicePart_ .none (wpAny_bind (wpAny_pure ?_)))))
  show wpAny _ _ (match Builtin.Slice.sliceAdjust none none (-1) (n : Int) with | (lo, hi) => pure (lo, (-1 : Int), Builtin.Slice.slicePlaces lo hi (-1))) _ _ s
  rw [adjust_rev n]
  show wpAny _ _ (pure ((n : Int) - 1, (-1 : Int), Builtin.Slice.slicePlaces ((n : Int) - 1) (-1) (-1))) _ _ s
  rw [places_rev]
  exact wpAny_pure h
theorem getItem_tuple_rev {t sl : Addr} {items : Array Value} {tk : Tok} {Q : Value → Shared → Prop} (ht : IsTup s.heap t items) (hs : s.heap.IsSliceOf sl .none .none (.int (-1) tk))
    (h : Q (.ref s.heap.objs.size) { s with heap := s.heap.push { cls := .type "tuple", data := .seq items.toList.reverse.toArray } })
    (hsz : items.size ≤ sizeLine) : wpAny (model prog w) A (getItem (.ref t) (.ref sl)) Q E s := by
  have htake : sizeOk (.seq items.toList.reverse.toArray) := by
    show items.toList.reverse.toArray.size ≤ sizeLine
    rw [List.size_toArray, List.length_reverse, Array.length_toList]
    exact hsz
  obtain ⟨os, hos, hcs, hds⟩ := id hs
  have hTs : s.TypeIs (.ref sl) "slice" := ⟨os, hos, hcs⟩
  unfold getItem
  try with_reducible refine wpAny_holding ?_
  first | refine wpAny_bind (wpAny_pure ?_) | skip
  refine wpAny_bind (wpAny_sequenceKey ht.typeIs (by decide) ?_)
  refine wpAny_bind (wpAny_callSpecial?_slot (name := Str.ofString "__getitem__") ht.typeIs PyProof.Rows.slot_tuple_getitem
    (wpAny_call_entry PyProof.Rows.slot_tuple_getitem ht.typeIs entry_tuple_getitem ?_ (args_tuple_getitem _ _)))
  show wpAny _ _ (Builtin.Tuple.tupleItemsOf (.ref t) >>= _) _ _ s
  refine wpAny_bind (tupleItemsOf_ ht ?_)
  refine wpAny_bind (wpAny_typeOf hTs ?_)
  rw [if_pos (by decide)]
  refine wpAny_bind (sliceApplied_rev hs ?_)
  have hno : ¬ ((((items.size : Int) - 1) == 0 && (-1 : Int) == 1 && items.size == items.size) = true) := by
    intro q
    rw [Bool.and_eq_true, Bool.and_eq_true] at q
    exact absurd q.1.2 (by decide)
  show wpAny _ _ (if ((((items.size : Int) - 1) == 0 && (-1 : Int) == 1 && items.size == items.size) = true) then _ else _) _ _ s
  rw [if_neg hno, pick_rev]
  first
    | exact wpAny_bind (m := Builtin.Tuple.tupleExact _) (wpAny_newObj_type (wpAny_pure ⟨_, rfl, wpAny_pure h⟩) htake)
    | exact wpAny_bind (m := Builtin.Tuple.tupleExact _) (wpAny_newObj_type (wpAny_bind (wpAny_pure (wpAny_pure ⟨_, rfl, wpAny_pure h⟩))) htake)
    | exact wpAny_bind (wpAny_bind (m := Builtin.Tuple.tupleExact _) (wpAny_newObj_type (wpAny_pure (wpAny_pure ⟨_, rfl, wpAny_pure h⟩)) htake))
    | exact wpAny_bind (wpAny_bind (m := Builtin.Tuple.tupleExact _) (wpAny_newObj_type (wpAny_pure ⟨_, rfl, wpAny_pure h⟩) htake))
end
section
variable {X : Cx} {e st : Expr} {te ts : TE} {pos p2 : Pos}
def tRevT (K : PySem.W.Frag) (te ts : TE) : TE := fun σ H Q => te σ H fun x H1 => ts σ H1 fun y H2 => ∃ a xs, x = .ref a ∧ y = .int (-1) ∧ SqT K H2 a xs ∧ ∀ p, H2 p = none → Q (.ref p) (upd H2 p (.tup xs.reverse))
/-- t[::-1] -/
theorem pe_revT (he : PE X e te) (hs : PE X st ts) : PE X (.Subscript e (.Slice none none (some st) p2) pos) (tRevT X.K te ts) := by
  refine ⟨fun pins s σ H Q I h => ?_⟩
  refine Subscript_ (thn (he.run pins s σ H _ I h) fun v s1 ⟨x, H1, I1, r1, q1⟩ => ?_)
  refine wpAny_Slice ?_
  rw [evalPart_none]
  refine wpAny_pure ?_
  refine wpAny_pure ?_
  rw [evalPart_some]
  refine thn (hs.run pins s1 σ H1 _ I1 q1) fun u s3 ⟨y, H3, I3, r3, q3⟩ => ?_
  obtain ⟨a, xs, rfl, rfl, hx, q⟩ := q3
  obtain ⟨tk, rfl⟩ := r3
  cases r1
  have I4 : Inv X pins σ H3 { s3 with heap := s3.heap.push { cls := .type "slice", data := .fields #[.none, .none, .int (-1) tk] } } := I3.kept (t' := s3.toks) fun b ob q => Heap.get?_push_of_some _ q
  obtain ⟨its, r, ht, hz⟩ := I4.tuple hx
  have hlen : its.toArray.size = xs.length := by rw [List.size_toArray]; exact r.length.symm
  show wpAny (model X.prog X.w) X.A (subscriptTail e (.Slice none none (some st) p2) (.ref a) (.ref s3.heap.objs.size)) (EP X pins σ Q) X.xe { s3 with heap := s3.heap.push { cls := .type "slice", data := .fields #[.none, .none, .int (-1) tk] } }
  refine tail_any (ops := [.ref a, .ref s3.heap.objs.size]) ht.typeIs PyProof.Rows.slot_tuple_getitem.lookup ?_ (by with_unfolding_all rfl)
  refine getItem_tuple_rev ht (Heap.IsSliceOf.new ..) ?_ (by rw [hlen]; exact hz)
  refine ⟨.ref (s3.heap.push { cls := .type "slice", data := .fields #[.none, .none, .int (-1) tk] }).objs.size, _, I4.laid (t' := s3.toks) (o := .tup xs.reverse) (fun b ob q => Heap.get?_push_of_some _ q) (Nat.le_refl _) ?_, rfl, q _ (I4.hok.fresh (Nat.le_refl _))⟩
  exact ⟨by rw [List.length_reverse]; exact hz, _, r.reverse, IsTup.new _ _⟩
end
end XT
/-! data that avoid the stream -/
namespace XT
open PySem PySem.Spec PyProof.Rows L2
mutual
inductive Dv (K : PySem.W.Frag) (N : Addr → Prop) (H : Hp) : V → PyData → Prop
  | non : Dv K N H .non .none
  | bl (b : Bool) : Dv K N H (.bl b) (.bool b)
  | int (i : Int) : Dv K N H (.int i) (.int i)
  | str (x : Str) : Dv K N H (.str x) (.str x)
  | lst {a : Addr} {xs : List V} {ds : List PyData} : SqL K H a xs → a ≠ sysModules → N a → DvAll K N H xs ds → Dv K N H (.ref a) (.list ds)
  | tup {a : Addr} {xs : List V} {ds : List PyData} : SqT K H a xs → DvAll K N H xs ds → Dv K N H (.ref a) (.tuple ds)
  | dct {a : Addr} (kvs : List (Str × Int)) : H a = some (.dK (dkV kvs)) → Dv K N H (.ref a) (dkD kvs)
inductive DvAll (K : PySem.W.Frag) (N : Addr → Prop) (H : Hp) : List V → List PyData → Prop
  | nil : DvAll K N H [] []
  | cons {v : V} {vs : List V} {d : PyData} {ds : List PyData} : Dv K N H v d → DvAll K N H vs ds → DvAll K N H (v :: vs) (d :: ds)
end
/-- not of the stream -/
abbrev Nof (S : Sm) : Addr → Prop := fun a => a ≠ S.s ∧ a ≠ S.p
abbrev Ds (K : PySem.W.Frag) (S : Sm) (H : Hp) : V → PyData → Prop := Dv K (Nof S) H
abbrev DsAll (K : PySem.W.Frag) (S : Sm) (H : Hp) : List V → List PyData → Prop := DvAll K (Nof S) H
mutual
theorem Dv.dz {K : PySem.W.Frag} {N : Addr → Prop} {H : Hp} : ∀ {v : V} {d : PyData}, Dv K N H v d → Dz K H v d
  | _, _, .non => .non
  | _, _, .bl b => .bl b
  | _, _, .int i => .int i
  | _, _, .str x => .str x
  | _, _, .lst h n _ a => .lst h n (DvAll.dz a)
  | _, _, .tup h a => .tup h (DvAll.dz a)
  | _, _, .dct kvs h => .dct kvs h
theorem DvAll.dz {K : PySem.W.Frag} {N : Addr → Prop} {H : Hp} : ∀ {vs : List V} {ds : List PyData}, DvAll K N H vs ds → DzAll K H vs ds
  | _, _, .nil => .nil
  | _, _, .cons h a => .cons (Dv.dz h) (DvAll.dz a)
end
mutual
/-- all that the data stand on is kept -/
theorem Dv.map {K : PySem.W.Frag} {N N' : Addr → Prop} {H H' : Hp} (kt : ∀ b xs, SqT K H b xs → SqT K H' b xs) (kl : ∀ b xs, N b → SqL K H b xs → SqL K H' b xs) (kd : ∀ b kvs, H b = some (.dK kvs) → H' b = some (.dK kvs)) (kn : ∀ b, N b → N' b) :
    ∀ {v : V} {d : PyData}, Dv K N H v d → Dv K N' H' v d
  | _, _, .non => .non
  | _, _, .bl b => .bl b
  | _, _, .int i => .int i
  | _, _, .str x => .str x
  | _, _, .lst h n m a => .lst (kl _ _ m h) n (kn _ m) (DvAll.map kt kl kd kn a)
  | _, _, .tup h a => .tup (kt _ _ h) (DvAll.map kt kl kd kn a)
  | _, _, .dct kvs h => .dct kvs (kd _ _ h)
theorem DvAll.map {K : PySem.W.Frag} {N N' : Addr → Prop} {H H' : Hp} (kt : ∀ b xs, SqT K H b xs → SqT K H' b xs) (kl : ∀ b xs, N b → SqL K H b xs → SqL K H' b xs) (kd : ∀ b kvs, H b = some (.dK kvs) → H' b = some (.dK kvs)) (kn : ∀ b, N b → N' b) :
    ∀ {vs : List V} {ds : List PyData}, DvAll K N H vs ds → DvAll K N' H' vs ds
  | _, _, .nil => .nil
  | _, _, .cons h a => .cons (Dv.map kt kl kd kn h) (DvAll.map kt kl kd kn a)
end
theorem Dv.same {K : PySem.W.Frag} {N : Addr → Prop} {H H' : Hp} (e : Same H H') {v : V} {d : PyData} (h : Dv K N H v d) : Dv K N H' v d := h.map (fun _ _ q => Same.sqT e q) (fun _ _ _ q => e.seq q) (fun _ _ q => e _ _ q) (fun _ q => q)
theorem DvAll.same {K : PySem.W.Frag} {N : Addr → Prop} {H H' : Hp} (e : Same H H') {v : List V} {d : List PyData} (h : DvAll K N H v d) : DvAll K N H' v d := h.map (fun _ _ q => Same.sqT e q) (fun _ _ _ q => e.seq q) (fun _ _ q => e _ _ q) (fun _ q => q)
theorem Dv.imp {K : PySem.W.Frag} {N N' : Addr → Prop} {H : Hp} {v : V} {d : PyData} (h : Dv K N H v d) (k : ∀ b, N b → N' b) : Dv K N' H v d := h.map (fun _ _ q => q) (fun _ _ _ q => q) (fun _ _ q => q) k
theorem DvAll.imp {K : PySem.W.Frag} {N N' : Addr → Prop} {H : Hp} {v : List V} {d : List PyData} (h : DvAll K N H v d) (k : ∀ b, N b → N' b) : DvAll K N' H v d := h.map (fun _ _ q => q) (fun _ _ _ q => q) (fun _ _ q => q) k
theorem Strm.ks {S : Sm} {H : Hp} {t : Int} {b : Addr} {o : HO} (h : Strm S H t) (e : H b = some o) (ne : ∀ xs, o ≠ .lst xs) : b ≠ S.s ∧ b ≠ S.p := by
  obtain ⟨_, h⟩ := h
  refine ⟨fun z => ?_, fun z => ?_⟩
  · rw [z, h.hs] at e
    exact ne _ (Option.some.inj e).symm
  · rw [z, h.hp] at e
    exact ne _ (Option.some.inj e).symm
theorem Keep.ko {S : Sm} {H H' : Hp} {t : Int} {b : Addr} {o : HO} (k : Keep S H H') (h : Strm S H t) (e : H b = some o) (ne : ∀ xs, o ≠ .lst xs) : H' b = some o := k b o (h.ks e ne).1 (h.ks e ne).2 e
theorem Keep.sqT {K : PySem.W.Frag} {S : Sm} {H H' : Hp} {t : Int} {b : Addr} {xs : List V} (k : Keep S H H') (h : Strm S H t) (e : SqT K H b xs) : SqT K H' b xs := by
  rcases e with (e | ⟨o, e⟩) | e
  · exact .inl (.inl (k.ko h e (fun _ z => nomatch z)))
  · exact .inl (.inr ⟨o, k.ko h e (fun _ z => nomatch z)⟩)
  · exact .inr e
theorem Keep.sqL {K : PySem.W.Frag} {S : Sm} {H H' : Hp} {b : Addr} {xs : List V} (k : Keep S H H') (n1 : b ≠ S.s) (n2 : b ≠ S.p) (e : SqL K H b xs) : SqL K H' b xs := by
  rcases e with (e | ⟨o, e⟩) | e
  · exact .inl (.inl (k b _ n1 n2 e))
  · exact .inl (.inr ⟨o, k b _ n1 n2 e⟩)
  · exact .inr e
theorem Dv.keep {K : PySem.W.Frag} {S : Sm} {H H' : Hp} {t : Int} {v : V} {d : PyData} (h : Ds K S H v d) (k : Keep S H H') (st : Strm S H t) : Ds K S H' v d := h.map (fun _ _ q => k.sqT st q) (fun _ _ n q => k.sqL n.1 n.2 q) (fun _ _ q => k.ko st q (fun _ z => nomatch z)) (fun _ q => q)
theorem DvAll.keep {K : PySem.W.Frag} {S : Sm} {H H' : Hp} {t : Int} {v : List V} {d : List PyData} (h : DsAll K S H v d) (k : Keep S H H') (st : Strm S H t) : DsAll K S H' v d := h.map (fun _ _ q => k.sqT st q) (fun _ _ n q => k.sqL n.1 n.2 q) (fun _ _ q => k.ko st q (fun _ z => nomatch z)) (fun _ q => q)
/-- a list of one's own is changed -/
theorem Dv.put {K : PySem.W.Frag} {N : Addr → Prop} {H : Hp} {L : Addr} {xs ys : List V} {v : V} {d : PyData} (h : Dv K N H v d) (hL : H L = some (.lst xs)) (hN : ∀ b, N b → b ≠ L) : Dv K N (upd H L (.lst ys)) v d := by
  refine h.map (fun b zs q => ?_) (fun b zs n q => ?_) (fun b kvs q => ?_) (fun _ q => q)
  · rcases q with (q | ⟨o, q⟩) | q
    · exact .inl (.inl (by rw [upd_ne (ne_of q hL (by intro z; cases z))]; exact q))
    · exact .inl (.inr ⟨o, by rw [upd_ne (ne_of q hL (by intro z; cases z))]; exact q⟩)
    · exact .inr q
  · rcases q with (q | ⟨o, q⟩) | q
    · exact .inl (.inl (by rw [upd_ne (hN b n)]; exact q))
    · exact .inl (.inr ⟨o, by rw [upd_ne (hN b n)]; exact q⟩)
    · exact .inr q
  · rw [upd_ne (ne_of q hL (by intro z; cases z))]
    exact q
theorem DvAll.put {K : PySem.W.Frag} {N : Addr → Prop} {H : Hp} {L : Addr} {xs ys : List V} (hL : H L = some (.lst xs)) (hN : ∀ b, N b → b ≠ L) : ∀ {vs : List V} {ds : List PyData}, DvAll K N H vs ds → DvAll K N (upd H L (.lst ys)) vs ds
  | _, _, .nil => .nil
  | _, _, .cons h a => .cons (h.put hL hN) (DvAll.put hL hN a)
theorem DvAll.at {K : PySem.W.Frag} {N : Addr → Prop} {H : Hp} : ∀ {vs : List V} {ds : List PyData}, DvAll K N H vs ds → ∀ {i : Nat} {v : V}, vs[i]? = some v → ∃ d, ds[i]? = some d ∧ Dv K N H v d
  | _, _, .nil, i, v, h => by simp at h
  | _, _, .cons (d := d) h a, 0, v, e => by
    cases e
    exact ⟨d, rfl, h⟩
  | _, _, .cons h a, i + 1, v, e => DvAll.at a (i := i) e
theorem DvAll.len {K : PySem.W.Frag} {N : Addr → Prop} {H : Hp} : ∀ {vs : List V} {ds : List PyData}, DvAll K N H vs ds → vs.length = ds.length
  | _, _, .nil => rfl
  | _, _, .cons h a => by rw [List.length_cons, List.length_cons, DvAll.len a]
theorem DvAll.app {K : PySem.W.Frag} {N : Addr → Prop} {H : Hp} : ∀ {vs us : List V} {ds es : List PyData}, DvAll K N H vs ds → DvAll K N H us es → DvAll K N H (vs ++ us) (ds ++ es)
  | _, _, _, _, .nil, b => b
  | _, _, _, _, .cons h a, b => .cons h (DvAll.app a b)
theorem DvAll.take {K : PySem.W.Frag} {N : Addr → Prop} {H : Hp} : ∀ {vs : List V} {ds : List PyData} (n : Nat), DvAll K N H vs ds → DvAll K N H (vs.take n) (ds.take n)
  | _, _, 0, _ => by rw [List.take_zero, List.take_zero]; exact .nil
  | _, _, n + 1, .nil => .nil
  | _, _, n + 1, .cons h a => .cons h (DvAll.take n a)
theorem DvAll.drop {K : PySem.W.Frag} {N : Addr → Prop} {H : Hp} : ∀ {vs : List V} {ds : List PyData} (n : Nat), DvAll K N H vs ds → DvAll K N H (vs.drop n) (ds.drop n)
  | _, _, 0, a => a
  | _, _, n + 1, .nil => .nil
  | _, _, n + 1, .cons h a => DvAll.drop n a
theorem DvAll.rev {K : PySem.W.Frag} {N : Addr → Prop} {H : Hp} : ∀ {vs : List V} {ds : List PyData}, DvAll K N H vs ds → DvAll K N H vs.reverse ds.reverse
  | _, _, .nil => .nil
  | _, _, .cons h a => by
    rw [List.reverse_cons, List.reverse_cons]
    exact (DvAll.rev a).app (.cons h .nil)
/-- the data of a cut -/
def cutD (ds : List PyData) (lo hi : Option Int) : List PyData := (ds.drop (HT.sIx ds.length 0 lo)).take (HT.sIx ds.length ds.length hi - HT.sIx ds.length 0 lo)
theorem DvAll.cut {K : PySem.W.Frag} {N : Addr → Prop} {H : Hp} {vs : List V} {ds : List PyData} (h : DvAll K N H vs ds) (lo hi : Option Int) : DvAll K N H (cutV vs lo hi) (cutD ds lo hi) := by
  unfold cutV cutD
  rw [h.len]
  exact (h.drop _).take _
end XT
/-! kinds of data for lots -/
namespace XT
open PySem PySem.Spec PyProof.Rows L2
def isTp : PyData → Bool
  | .tuple _ => true | _ => false
def isSt : PyData → Bool
  | .str _ => true | _ => false
theorem kitT {K : PySem.W.Frag} : ∀ d : PyData, PySem.W.kitOne K (.type (tyD d)) (.type "tuple") = some (isTp d)
  | .none => kit_ty (a := "NoneType") (b := "tuple") (r := false) (by decide +kernel)
  | .bool _ => kit_ty (a := "bool") (b := "tuple") (r := false) (by decide +kernel)
  | .int _ => kit_ty (a := "int") (b := "tuple") (r := false) (by decide +kernel)
  | .str _ => kit_ty (a := "str") (b := "tuple") (r := false) (by decide +kernel)
  | .list _ => kit_ty (a := "list") (b := "tuple") (r := false) (by decide +kernel)
  | .tuple _ => kit_ty (a := "tuple") (b := "tuple") (r := true) (by decide +kernel)
  | .dict _ => kit_ty (a := "dict") (b := "tuple") (r := false) (by decide +kernel)
theorem kitS {K : PySem.W.Frag} : ∀ d : PyData, PySem.W.kitOne K (.type (tyD d)) (.type "str") = some (isSt d)
  | .none => kit_ty (a := "NoneType") (b := "str") (r := false) (by decide +kernel)
  | .bool _ => kit_ty (a := "bool") (b := "str") (r := false) (by decide +kernel)
  | .int _ => kit_ty (a := "int") (b := "str") (r := false) (by decide +kernel)
  | .str _ => kit_ty (a := "str") (b := "str") (r := true) (by decide +kernel)
  | .list _ => kit_ty (a := "list") (b := "str") (r := false) (by decide +kernel)
  | .tuple _ => kit_ty (a := "tuple") (b := "str") (r := false) (by decide +kernel)
  | .dict _ => kit_ty (a := "dict") (b := "str") (r := false) (by decide +kernel)
def isW : PyData → Bool
  | .int i => decide (1 ≤ i) && decide (i ≤ 6)
  | _ => false
def iv : PyData → Int
  | .int i => i
  | _ => 0
def okM (n : Nat) (least : Int) (d : PyData) : Bool := isM n d && decide (least ≤ iv d)
def errM (n : Nat) : Nat → Int → List PyData → PyData
  | _, _, [] => .none
  | i, least, d :: ds => if okM n least d = true then errM n (i + 1) (iv d + 1) ds else .tuple [.int (i : Nat), .str "mask"]
def eT (x : Str) : PyData := .tuple [.none, .str x]
def mskErr (n : Nat) : PyData → PyData
  | .tuple ms => errM n 0 0 ms
  | _ => eT "masks"
def lotErr : PyData → PyData
  | .tuple [a, b] => if isW a = true then mskErr (iv a).toNat b else eT "width"
  | _ => eT "lot"
theorem isW_nat {d : PyData} (h : isW d = true) : ∃ n : Nat, d = .int (n : Int) ∧ 1 ≤ n ∧ n ≤ 6 := by
  cases d with
  | int i =>
    have h : (decide (1 ≤ i) && decide (i ≤ 6)) = true := h
    rw [Bool.and_eq_true, decide_eq_true_iff, decide_eq_true_iff] at h
    obtain ⟨n, rfl⟩ := Int.eq_ofNat_of_zero_le (show 0 ≤ i by omega)
    exact ⟨n, rfl, by omega, by omega⟩
  | _ => exact absurd h (by simp [isW])
theorem isM_int {n : Nat} {d : PyData} (h : isM n d = true) : ∃ a : Nat, d = .int (a : Int) ∧ a < 2 ^ n := by
  cases d with
  | int i =>
    have h : (decide (0 ≤ i) && decide (i < ((2 ^ n : Nat) : Int))) = true := h
    rw [Bool.and_eq_true, decide_eq_true_iff, decide_eq_true_iff] at h
    obtain ⟨a, rfl⟩ := Int.eq_ofNat_of_zero_le h.1
    exact ⟨a, rfl, by omega⟩
  | _ => exact absurd h (by simp [isM])
theorem Dz.cast {K : PySem.W.Frag} {H : Hp} {v : V} {d e : PyData} (h : Dz K H v d) (q : d = e) : Dz K H v e := q ▸ h
theorem dz2 {K : PySem.W.Frag} {H : Hp} {p : Addr} {a b : V} {d e : PyData} (h : H p = some (.tup [a, b])) (x : Dz K H a d) (y : Dz K H b e) : Dz K H (.ref p) (.tuple [d, e]) := .tup (SqT.of h) (.cons x (.cons y .nil))
end XT
/-! lot_with, at any data -/
namespace XT
open PySem PySem.Spec PyProof.Rows L2
def isRow (n : Nat) : PyData → Bool
  | .tuple ds => decide (ds.length = 2 ^ n) && ds.all isN
  | _ => false
theorem isRow_ints {n : Nat} {ds : List PyData} (h : ds.all isN = true) : ∃ cs : List Int, ds = cs.map PyData.int := by
  induction ds with
  | nil => exact ⟨[], rfl⟩
  | cons d ds ih =>
    rw [List.all_cons, Bool.and_eq_true] at h
    obtain ⟨cs, e⟩ := ih h.2
    cases d with
    | int i => exact ⟨i :: cs, by rw [e]; rfl⟩
    | _ => exact nomatch h.1
def nV : V → Bool
  | .int _ => true
  | _ => false
theorem Dz.nV {K : PySem.W.Frag} {H : Hp} {v : V} {d : PyData} (h : Dz K H v d) : nV v = isN d := by
  cases h <;> rfl
theorem dz_all {K : PySem.W.Frag} {H : Hp} : ∀ {xs : List V} {ds : List PyData}, DzAll K H xs ds → (xs.map nV).all id = ds.all isN
  | _, _, .nil => rfl
  | _, _, .cons h a => by
    rw [List.map_cons, List.all_cons, List.all_cons, dz_all a]
    show (nV _ && _) = _
    rw [h.nV]
theorem dz_ints {K : PySem.W.Frag} {H : Hp} : ∀ {xs : List V} {cs : List Int}, DzAll K H xs (cs.map PyData.int) → xs = cs.map V.int
  | xs, [], h => by cases h; rfl
  | xs, c :: cs, h => by
    cases h with
    | cons h a =>
      cases h
      rw [dz_ints a, List.map_cons]
def LwzAt (H : Hp) (z : V) (n : Nat) (d : PyData) : Prop := (∃ cs : List Int, d = .tuple (cs.map PyData.int) ∧ cs.length = 2 ^ n ∧ LwAt H z n cs) ∨ (isRow n d = false ∧ z = .non)
def spLwz (K : PySem.W.Frag) : Sp := fun vs H Q _ => ∃ (n : Nat) (v : V) (d : PyData), vs = [.int n, v] ∧ Dz K H v d ∧ n ≤ 6 ∧ ∀ H' z, Same H H' → LwzAt H' z n d → Q z H'
section
variable {P : Program} {w : World} {K : PySem.W.Frag} {mg : Str → Option Value} {base : Heap}
theorem ok_lwz {f : Addr} {fd : FuncData} {k : Nat} (B : Bl mg) (mS : mg "sum" = none) (F : Fun K "lot_with" "lot_with" sLotWith f fd) (dN : DefR P w K mg base 1 "is_number" (spNumZ K)) (dS : DefR P w K mg base 2 "sign" spSgn) : FnOk P w K mg base CX0 (k + 3) f fd ["width", "value"] (spLwz K) := by
  refine F.ok scWi (fun vs H Q E h => ?_) (fun cdv A outer s H vs Q E hr h => ?_)
  · obtain ⟨n, v, d, rfl, _⟩ := h
    rfl
  · obtain ⟨n, v, d, rfl, hd, hn, q⟩ := h
    have h6 := pow6 hn
    refine ⟨_, pss_cons (ps_set (i := 2) scWi.nd rfl (by first | exact Or.inl rfl | exact Or.inr rfl) (pe_op op_shl pe_int (pv 0)))
      (pss_cons (ps_if (PW.pt (pw_or (pt_not (pt_val (pe_callB call_isi (by rfl) B.isinstance bI (pa_cons (pv 1) (pa_cons (pe_bltn (v := .ty "tuple") (by rfl) B.tuple bT rfl) pa_nil))))) (pw_or (pt_cmpR op_ne (pe_callB call_len_seq (by rfl) B.len PySem.boot_len (pa_cons (pv 1) pa_nil)) (pv 2) (nomark _))
          (pw_or1 (pt_not (pt_val (pe_callB (cr_all rfl) (by rfl) B.all bAll (pa_cons
            (pe_lc (own := [("count", 6)]) (g := gName 6) (tt := tYes) (te := tDf (spNumZ K) (tCons (tVar 6) tNil)) rfl scWi.nd (pi_tup (pv 1)) (blkOk_by (own := [("count", 6)]) (N := nWi) (sc := defScope sLotWith) (by decide +kernel))
              (fun _ _ _ _ _ => pg_name (i := 6) scWi.nd rfl (Or.inl rfl)) (fun _ _ _ _ _ => pts_nil) (fun _ _ _ _ _ => pe_def dN (hr.mono (by omega)) (by rfl) (pa_cons (pv 6) pa_nil))) pa_nil)))))))) (pss_one (ps_ret pe_non)) pss_nil)
      (pss_cons (ps_set (i := 3) scWi.nd rfl (by first | exact Or.inl rfl | exact Or.inr rfl) (pe_lc (own := [("x", 4)]) (g := gName 4) (tt := tYes) (te := teWi K) rfl scWi.nd (pi_range1 (by rfl) B.range (pa_cons (pv 2) pa_nil)) (blkOk_by (own := [("x", 4)]) (N := nWi) (sc := defScope sLotWith) (by decide +kernel))
          (fun _ _ _ _ _ => pg_name (i := 4) scWi.nd rfl (by first | exact Or.inl rfl | exact Or.inr rfl)) (fun _ _ _ _ _ => pts_nil)
          (fun _ _ _ _ _ => pe_callB (cr_sum rfl) (by rfl) mS bSum (pa_cons
            (pe_lc (own := [("mask", 5), ("count", 6)]) (g := gTup K 2 (gCons (gName 5) (gCons (gName 6) gNil))) (tt := tYes) (te := teMu) rfl scWi.nd (pi_enumT (by rfl) B.enumerate (pa_cons (pv 1) pa_nil)) (blkOk_by (own := [("mask", 5), ("count", 6)]) (N := nWi) (sc := relS outWi (defScope sLotWith)) (by decide +kernel))
              (fun _ _ _ _ _ => pg_tup rfl (pgs_cons (pg_name (i := 5) scWi.nd rfl (Or.inl rfl)) (pgs_cons (pg_name (i := 6) scWi.nd rfl (Or.inl rfl)) pgs_nil))) (fun _ _ _ _ _ => pts_nil) (fun _ _ _ _ _ => pe_op op_mul (pv 6) (pe_def dS (hr.mono (by omega)) (by rfl) (pa_cons (pv 5) (pa_cons (pv 4) pa_nil))))) pa_nil))))
      (pss_cons (ps_if (pt_not (pt_val (pe_callB (cr_all rfl) (by rfl) B.all bAll (pa_cons
            (pe_lc (own := [("total", 7)]) (g := gName 7) (tt := tYes) (te := tOp (rIn K false) (tVar 7) (tTup (tCons (tC (.int 0)) (tCons (tVar 2) tNil)))) rfl scWi.nd (pi_list (pv 3)) (blkOk_by (own := [("total", 7)]) (N := nWi) (sc := defScope sLotWith) (by decide +kernel))
              (fun _ _ _ _ _ => pg_name (i := 7) scWi.nd rfl (Or.inl rfl)) (fun _ _ _ _ _ => pts_nil) (fun _ _ _ _ _ => pe_cmpR op_in_seq (pv 7) (pe_tup (pa_cons pe_int (pa_cons (pv 2) pa_nil))) (by rfl))) pa_nil)))) (pss_one (ps_ret pe_non)) pss_nil)
      (pss_one (ps_ret (pe_tup (pa_cons (pv 0) (pa_cons (pe_callTy call_tuple_of (by rfl) B.tuple bT (pa_cons
            (pe_lc (own := [("x", 4)]) (g := gName 4) (tt := tTest (tOp rEq (tOp (rIxL K) (tVar 3) (tVar 4)) (tVar 2))) (te := tVar 4) rfl scWi.nd (pi_range1 (by rfl) B.range (pa_cons (pv 2) pa_nil)) (blkOk_by (own := [("x", 4)]) (N := nWi) (sc := defScope sLotWith) (by decide +kernel))
              (fun _ _ _ _ _ => pg_name (i := 4) scWi.nd rfl (by first | exact Or.inl rfl | exact Or.inr rfl)) (fun _ _ _ _ _ => pts_one (pt_cmpR op_eq (pe_ix ix_list (pv 3) (pv 4) (fun _ _ => rfl)) (pv 2) (nomark _))) (fun _ _ _ _ _ => pv 4)) pa_nil)) pa_nil)))))))), ?_⟩
    refine ⟨.int n, rfl, 1, n, rfl, rfl, cpow hn, ?_⟩
    rw [show (fun (i j : Int) => V.int (i * 2 ^ j.toNat)) 1 (n : Int) = V.int ((2 ^ n : Nat) : Int) from congrArg V.int (shl1 n)]
    refine ⟨v, rfl, v, .ty "tuple", _, _, isTp d, rfl, .ty _, hd.ty, kitT d, isTp d, rfl, ?_⟩
    have bad : isRow n d = false → ∀ H', Same H H' → Q .non H' := fun e H' s' => q H' .non s' (.inr ⟨e, rfl⟩)
    cases hd with
    | non => exact iteT (bad rfl _ (Same.refl _))
    | bl b => exact iteT (bad rfl _ (Same.refl _))
    | int i => exact iteT (bad rfl _ (Same.refl _))
    | str x => exact iteT (bad rfl _ (Same.refl _))
    | lst _ _ _ => exact iteT (bad rfl _ (Same.refl _))
    | dct kvs _ => exact iteT (bad rfl _ (Same.refl _))
    | @tup a xs ds hx all =>
    have hl := all.len
    refine iteF ⟨.ref a, rfl, a, _, rfl, .inr hx, .int ((2 ^ n : Nat) : Int), rfl, rfl, _, rfl, ?_⟩
    by_cases h2 : ds.length = 2 ^ n
    rotate_left
    · have e : decide (V.int ((xs.length : Nat) : Int) = V.int ((2 ^ n : Nat) : Int)) = false := decide_eq_false fun z => h2 (by have := V.int.inj z; omega)
      rw [e]
      refine iteT (bad ?_ _ (Same.refl _))
      show (decide (ds.length = 2 ^ n) && ds.all isN) = false
      rw [decide_eq_false h2]
      rfl
    have e : decide (V.int ((xs.length : Nat) : Int) = V.int ((2 ^ n : Nat) : Int)) = true := decide_eq_true (by rw [hl, h2])
    rw [e]
    refine iteF ⟨.ref a, rfl, a, rfl, ⟨_, hx⟩, fun D nD => ?_⟩
    refine lcp_tup (p := fun _ => true) (f := fun v => .bl (nV v)) nD hx (small64 (by omega)) (fun i z H2 hz s2 => ?_) (fun H2 s2 hD => ?_)
    · intro R1 R2 h1 h2
      obtain ⟨d', hd', hz'⟩ := all.at hz
      refine ⟨rfl, iteT (B := R1 H2) ⟨_, rfl, z, d', rfl, hz'.same s2, ?_⟩⟩
      rw [← hz'.nV]
      exact h2 rfl _ (Same.refl _)
    refine ⟨D, xs.map nV, rfl, SqL.of ?_, ?_⟩
    · rw [hD, List.filter_eq_self.mpr (fun _ _ => rfl), List.map_map]
      rfl
    rw [dz_all all]
    refine ⟨_, rfl, ?_⟩
    cases ha : ds.all isN with
    | false =>
      refine iteT (bad ?_ _ s2)
      show (decide (ds.length = 2 ^ n) && ds.all isN) = false
      rw [ha, Bool.and_false]
    | true =>
    refine iteF ?_
    obtain ⟨cs, rfl⟩ := isRow_ints (n := n) ha
    have exs := dz_ints all
    subst exs
    have hl : cs.length = 2 ^ n := by rw [← h2, List.length_map]
    replace q : ∀ H' z, Same H H' → LwAt H' z n cs → Q z H' := fun H' z s' g => q H' z s' (.inl ⟨cs, rfl, hl, g⟩)
    have hln : (cs.map V.int).length = 2 ^ n := by rw [List.length_map]; exact hl
    have ha2 : SqT K H2 a (cs.map V.int) := Same.sqT s2 hx
    refine ⟨.int ((2 ^ n : Nat) : Int), rfl, ((2 ^ n : Nat) : Int), rfl, l62, r62 hn, fun D2 nD2 => ?_⟩
    refine lcp_range (n := 2 ^ n) (p := fun _ => true) (f := fun x => .int (suW n cs x)) nD2 (small64 (by omega)) (fun x H3 hx s3 => ?_) (fun H3 s3 hD2 => ?_)
    · intro R1 R2 h1 h2
      have ha3 := Same.sqT s3 ha2
      refine ⟨rfl, iteT (B := R1 H3) ⟨.ref a, rfl, a, _, rfl, ha3, fun B2 nB => ?_⟩⟩
      refine lce_tup (f := mulG fun u => sgn u x) nB ha3 (small64 (by omega)) (fun u z T H4 hz s4 hT => ?_) (fun H4 s4 hB => ?_)
      · intro R3 R4 h3 h4
        have hu : u < 2 ^ n := by
          have := (List.getElem?_eq_some_iff.mp hz).1
          omega
        rw [List.getElem?_map] at hz
        obtain ⟨c, hc, rfl⟩ := Option.map_eq_some_iff.mp hz
        refine ⟨T, _, rfl, SqT.of hT, rfl, _, _, rfl, _, _, rfl, rfl, rfl, iteT (B := R3 H4) ⟨_, rfl, _, rfl, _, rfl, u, x, congrArg (fun z => [V.int (u : Int), V.int z]) (Int.zero_add _), lt900 (by omega), lt900 (by omega), fun H5 s5 => ⟨c, sgn u x, rfl, rfl, .inr ?_, h4 rfl _ s5⟩⟩⟩
        rcases sgn_pm u x with z | z <;> rw [z] <;> decide
      · rw [cs_mul (fun u => sgn u x) hl] at hB
        exact ⟨B2, _, rfl, SqL.of hB, h2 rfl _ s4⟩
    rw [List.filter_eq_self.mpr (fun _ _ => rfl)] at hD2
    refine ⟨.ref D2, rfl, D2, rfl, ⟨_, SqL.of hD2⟩, fun D3 nD3 => ?_⟩
    refine lcp_list (p := fun _ => true) (f := fun v => match v with | .int z => .bl (decide (z = 0) || decide (z = ((2 ^ n : Nat) : Int))) | v => v) nD3 (SqL.of hD2) (small64 (by rw [List.length_map, List.length_range]; omega)) (fun x z H4 hz s4 => ?_) (fun H4 s4 hD3 => ?_)
    · intro R1 R2 h1 h2
      rw [List.getElem?_map] at hz
      obtain ⟨y, hy, rfl⟩ := Option.map_eq_some_iff.mp hz
      refine ⟨rfl, iteT (B := R1 H4) ⟨_, rfl, .int ((2 ^ n : Nat) : Int), rfl, sz (n := 2) (by decide), fun T nT => ⟨T, _, rfl, .inr (SqT.of upd_same), rfl, rfl, ?_⟩⟩⟩
      have e : inV (.int (suW n cs y)) [V.int 0, .int ((2 ^ n : Nat) : Int)] = (decide (suW n cs y = 0) || decide (suW n cs y = ((2 ^ n : Nat) : Int))) := by
        have e0 : ∀ i j : Int, eqV (.int i) (.int j) = decide (j = i) := fun i j => by
          show decide (i = j) = decide (j = i)
          rw [Bool.eq_iff_iff, decide_eq_true_iff, decide_eq_true_iff]
          exact ⟨Eq.symm, Eq.symm⟩
        show (eqV (.int 0) (.int (suW n cs y)) || (eqV (.int ((2 ^ n : Nat) : Int)) (.int (suW n cs y)) || false)) = _
        rw [e0, e0, Bool.or_false]
      show R2 (.bl (inV (.int (suW n cs y)) [V.int 0, .int ((2 ^ n : Nat) : Int)])) _
      rw [e]
      exact h2 rfl _ (same_new nT)
    have eb : (((List.range (2 ^ n)).map fun x => V.int (suW n cs x)).filter fun _ => true).map (fun v => match v with | .int z => V.bl (decide (z = 0) || decide (z = ((2 ^ n : Nat) : Int))) | v => v) = ((List.range (2 ^ n)).map fun x => decide (suW n cs x = 0) || decide (suW n cs x = ((2 ^ n : Nat) : Int))).map V.bl := by
      rw [List.filter_eq_self.mpr (fun _ _ => rfl), List.map_map, List.map_map]
      rfl
    rw [eb] at hD3
    have eo : ((List.range (2 ^ n)).map fun x => decide (suW n cs x = 0) || decide (suW n cs x = ((2 ^ n : Nat) : Int))).all id = okW n cs := by
      unfold okW
      rw [List.all_map]
      rfl
    refine ⟨D3, _, rfl, SqL.of hD3, ?_⟩
    rw [eo]
    have sm := (s2.trans s3).trans s4
    refine ⟨_, rfl, ?_⟩
    cases ho : okW n cs with
    | false => exact iteT (q _ _ sm (.inr ⟨ho, rfl⟩))
    | true =>
      have hD4 := s4 _ _ hD2
      refine iteF ⟨.int n, rfl, .int ((2 ^ n : Nat) : Int), rfl, ((2 ^ n : Nat) : Int), rfl, l62, r62 hn, fun D5 nD5 => ?_⟩
      refine lcp_range (n := 2 ^ n) (p := pW n cs) (f := fun x => .int (x : Int)) nD5 (small64 (by omega)) (fun x H5 hx s5 => ?_) (fun H5 s5 hD5 => ?_)
      · intro R1 R2 h1 h2
        refine ⟨rfl, .ref D2, rfl, _, rfl, D2, _, x, .int (suW n cs x), rfl, congrArg V.int (Int.zero_add _), SqL.of (s5 _ _ hD4), atI_nat (by rw [List.getElem?_map, List.getElem?_range hx]; rfl), .int ((2 ^ n : Nat) : Int), rfl, rfl, _, rfl, ?_⟩
        have e : decide (V.int (suW n cs x) = V.int ((2 ^ n : Nat) : Int)) = pW n cs x := by
          unfold pW
          rw [Bool.eq_iff_iff, decide_eq_true_iff, decide_eq_true_iff]
          exact ⟨V.int.inj, congrArg V.int⟩
        rw [e]
        refine ite2 (fun z => ⟨_, rfl, ?_⟩) (fun z => h1 (by simpa using z) _ (Same.refl _))
        rw [Int.zero_add]
        exact h2 z _ (Same.refl _)
      · refine ⟨D5, _, rfl, .inl ⟨SqL.of hD5, fun T nT => ⟨sz (n := 2) (by decide), fun U nU => ?_⟩⟩⟩
        refine q _ _ (((sm.trans s5).trans (same_new nT)).trans (same_new nU)) (.inl ⟨ho, U, T, rfl, upd_same, ?_⟩)
        rw [upd_ne (ne_of_none upd_same nU), upd_same]
        rfl
end
end XT
/-! len(set(list of tuples of ints)) -/
namespace XT
open PySem PySem.Spec PyProof.Rows L2
def rLenT (K : PySem.W.Frag) (P : Program) (w : World) : List V → Hp → VK → Prop := fun vs H Q => ∃ (a : Addr) (L : List (Addr × List Int)), vs = [.ref a] ∧ H a = some (SetTO P w a L) ∧ (∀ p ∈ L, SqT K H p.1 (p.2.map V.int)) ∧ ((L.map (·.2)).Nodup → Q (.int (L.length : Nat)) H)
theorem cr_lenT {X : Cx} : CallR X (.builtin "len") (rLenT X.K X.prog X.w) := by
  intro pins s σ H vs us Q I r h
  obtain ⟨a, L, rfl, ha, hL, q⟩ := h
  rw [Vals.ref1 r]
  have R0 : SetT0 X.prog X.w s.heap a L := (I.hok a _ ha).1
  obtain ⟨es, ep, t, R⟩ := R0.full fun p hp => I.isT (hL p hp)
  obtain ⟨o, ho, hex, hd⟩ := R.ob
  have hs := R.size
  have hf := R.few
  refine call_len_set ho hex hd R.fits (by omega) ⟨.int (L.length : Nat), H, I.tok _, ⟨_, by rw [hs]⟩, q R.nd⟩
theorem perm_nd {α : Type} [DecidableEq α] {l m : List α} (hl : l.Nodup) (hm : m.Nodup) (h : ∀ x, x ∈ l ↔ x ∈ m) : l.Perm m := by
  rw [List.perm_iff_count]
  intro x
  rw [hl.count, hm.count]
  by_cases hx : x ∈ l
  · rw [if_pos hx, if_pos ((h x).mp hx)]
  · rw [if_neg hx, if_neg fun z => hx ((h x).mpr z)]
/-- a set of tuples, all different -/
theorem set_len {ks L : List (Addr × List Int)} (hk : (ks.map (·.2)).Nodup) (hL : (L.map (·.2)).Nodup) (h1 : ∀ p ∈ L, p ∈ ks) (h2 : ∀ p ∈ ks, p.2 ∈ L.map (·.2)) : L.length = ks.length := by
  have h : (L.map (·.2)).Perm (ks.map (·.2)) := perm_nd hL hk fun x => by
    constructor
    · intro hx
      obtain ⟨p, hp, rfl⟩ := List.mem_map.mp hx
      exact List.mem_map.mpr ⟨p, h1 p hp, rfl⟩
    · intro hx
      obtain ⟨p, hp, rfl⟩ := List.mem_map.mp hx
      exact h2 p hp
  have := h.length_eq
  rwa [List.length_map, List.length_map] at this
/-! signed counts of a lot and of the rest, of two lots -/
theorem sc_filter {n u : Nat} {p : Nat → Bool} : scI n p u = ((List.range (2 ^ n)).map fun x => if p x = true then sgn u x else 0).sum := by
  unfold scI lotOf
  exact sum_filter p (fun x => sgn u x) _
theorem sc_rest {n u : Nat} {p : Nat → Bool} (hn : n ≤ 6) (hu : u < 2 ^ n) : scI n p u + scI n (fun x => !p x) u = if u = 0 then ((2 ^ n : Nat) : Int) else 0 := by
  rw [sc_filter, sc_filter, ← sum_add, ← orth hn hu]
  refine sum_congr fun x _ => ?_
  rw [sgn_comm x u]
  cases p x <;> simp
theorem sc_both {n u : Nat} {p r : Nat → Bool} : scI n p u + scI n r u = scI n (fun x => p x || r x) u + scI n (fun x => p x && r x) u := by
  rw [sc_filter, sc_filter, sc_filter, sc_filter, ← sum_add, ← sum_add]
  refine sum_congr fun x _ => ?_
  cases p x <;> cases r x <;> simp
theorem sc_inj {n : Nat} {p r : Nat → Bool} (hn : n ≤ 6) : scL n p = scL n r ↔ ∀ m, m < 2 ^ n → p m = r m := by
  constructor
  · intro h m hm
    rw [← p_sc (p := p) hn hm, h, p_sc hn hm]
  · intro h
    unfold scL scI
    rw [lot_congr h]
end XT
namespace XT
open PySem PySem.Spec PyProof.Rows L2
theorem LwAt.same {H H' : Hp} {z : V} {n : Nat} {cs : List Int} (h : LwAt H z n cs) (e : Same H H') : LwAt H' z n cs := by
  rcases h with ⟨h1, h2⟩ | h
  · exact .inl ⟨h1, h2.same e⟩
  · exact .inr h
theorem lw_sc {H : Hp} {z : V} {n : Nat} {p : Nat → Bool} (hn : n ≤ 6) (h : LwAt H z n (scL n p)) : LotAt H z n p := by
  rcases h with ⟨_, h⟩ | ⟨h, _⟩
  · exact LotAt.congr h fun m hm => p_sc hn hm
  · rw [ok_sc hn] at h
    cases h
theorem sc_len {n : Nat} {p : Nat → Bool} : (scL n p).length = 2 ^ n := by
  unfold scL
  rw [List.length_map, List.length_range]
theorem at_sc {n u : Nat} {p : Nat → Bool} (hu : u < 2 ^ n) : ((scL n p).map V.int)[u]? = some (.int (scI n p u)) := by
  unfold scL
  rw [List.getElem?_map, List.getElem?_map, List.getElem?_range hu]
  rfl
theorem tupI_dp {K : PySem.W.Frag} {H : Hp} {v : V} {is : List Int} (h : TupI H v is) : Dp K H v (.tuple (is.map PyData.int)) := by
  obtain ⟨q, rfl, h⟩ := h
  exact .tup (SqT.of h) (dpInts _)
theorem ints_shaped (is : List Int) : SeqAt.shaped (.tuple (is.map PyData.int)) = true := by
  have h := ke_shaped is
  simp only [SeqAt.shaped, PyData.canLay0, PyData.depth] at h ⊢
  exact h
theorem eqv_tupI (ms ks : List Int) : PyData.eqv (.tuple (ms.map PyData.int)) (.tuple (ks.map PyData.int)) = decide (ms = ks) := by
  have h := eqv_intsI ms ks
  simpa [PyData.eqv] using h
theorem eq_tupI {K : PySem.W.Frag} {H : Hp} {x y : V} {ms ks : List Int} {Q : VK} (hx : TupI H x ms) (hy : TupI H y ks) (q : Q (.bl (decide (ms = ks))) H) : rEqD K x y H Q := by
  refine ⟨_, _, tupI_dp hx, tupI_dp hy, ints_shaped _, ints_shaped _, ?_⟩
  rw [eqv_tupI]
  exact q
theorem TupI.keep {S : Sm} {H H' : Hp} {t : Int} {v : V} {is : List Int} (h : TupI H v is) (k : Keep S H H') (st : Strm S H t) : TupI H' v is := by
  obtain ⟨q, rfl, h⟩ := h
  exact ⟨q, rfl, k.tup st h⟩
end XT
/-! cuts, sums, sizes -/
namespace XT
open PySem PySem.Spec PyProof.Rows L2
section
variable {X : Cx}
theorem cutV_whole {xs : List V} {lo hi : Option Int} (h : HT.sIx xs.length 0 lo = 0 ∧ HT.sIx xs.length xs.length hi = xs.length) : cutV xs lo hi = xs := by
  unfold cutV
  rw [h.1, h.2, List.drop_zero, Nat.sub_zero, List.take_length]
/-- a cut of a tuple, the same one or a new one -/
def rSlU (K : PySem.W.Frag) : V → Option Int → Option Int → Hp → VK → Prop := fun x lo hi H Q => ∃ a xs, x = .ref a ∧ SqT K H a xs ∧ ∀ H' p, Same H H' → SqT K H' p (cutV xs lo hi) → Q (.ref p) H'
theorem sl_tupU : SlR X (rSlU X.K) := by
  intro pins s σ H x v vl vu lo hi sl Q I rx hs pl pu h
  obtain ⟨a, xs, rfl, hx, q⟩ := h
  refine sl_tupA pins s σ H _ v vl vu lo hi sl Q I rx hs pl pu ⟨a, xs, rfl, hx, fun hw => q H a (Same.refl H) (by rw [cutV_whole hw]; exact hx), fun _ p np => q _ p (same_new np) (SqT.of upd_same)⟩
/-- t + u -/
def rCatU (K : PySem.W.Frag) : R2 := fun x y H Q => ∃ a b xs ys, x = .ref a ∧ y = .ref b ∧ SqT K H a xs ∧ SqT K H b ys ∧ xs.length + ys.length ≤ sizeLine ∧ ∀ H' p, Same H H' → SqT K H' p (xs ++ ys) → Q (.ref p) H'
theorem op_catU : OpR X (binaryOp .Add) (rCatU X.K) := by
  intro pins s σ H x y v u Q I rx ry h
  obtain ⟨a, b, xs, ys, rfl, rfl, ha, hb, hz, q⟩ := h
  refine op_catA pins s σ H _ _ v u Q I rx ry ⟨a, b, xs, ys, rfl, rfl, ha, hb, hz, fun e => q H b (Same.refl H) (by rw [e]; exact hb), fun _ e => q H a (Same.refl H) (by rw [e, List.append_nil]; exact ha), fun _ _ p np => q _ p (same_new np) (SqT.of upd_same)⟩
end
theorem gd_non {M : Nat} : Gd M 10 0 .none := ⟨trivial, Nat.le_refl _, Nat.le_refl _⟩
theorem gd_bl {M : Nat} (b : Bool) : Gd M 10 0 (.bool b) := ⟨trivial, Nat.le_refl _, Nat.le_refl _⟩
theorem gd_int {M : Nat} {i : Int} (h : i.natAbs ≤ M) : Gd M 60 0 (.int i) := ⟨h, Nat.le_refl _, Nat.le_refl _⟩
theorem gd_str {M n : Nat} {x : Str} (h : TxOk x) (l : x.length ≤ n) : Gd M (10 * n + 2) 0 (.str x) := ⟨h, by show 10 * x.length + 2 ≤ _; omega, Nat.le_refl _⟩
theorem gd_odd : ∀ d ∈ oddD, Gd (10 ^ 39) 200 3 d := by
  unfold oddD
  have hs : ∀ (s : String), (Str.ofString s).length ≤ 3 → Gd (10 ^ 39) 200 3 (.str (Str.ofString s)) := fun s h => (gd_str (TxOk.of s) h).mono (Nat.le_refl _) (by omega) (by omega)
  have hi : ∀ i : Int, i.natAbs ≤ 10 ^ 39 → Gd (10 ^ 39) 60 0 (.int i) := fun i h => gd_int h
  have hi3 : ∀ i : Int, i.natAbs ≤ 10 ^ 39 → Gd (10 ^ 39) 200 3 (.int i) := fun i h => (gd_int h).mono (Nat.le_refl _) (by omega) (by omega)
  repeat' (first | exact List.forall_mem_nil _ | refine List.forall_mem_cons.mpr ⟨?_, ?_⟩)
  · exact gd_non.mono (Nat.le_refl _) (by omega) (by omega)
  · exact (gd_bl _).mono (Nat.le_refl _) (by omega) (by omega)
  · exact (gd_bl _).mono (Nat.le_refl _) (by omega) (by omega)
  all_goals first
    | exact hi3 _ (by decide)
    | exact hs "" (by decide)
    | exact hs "0" (by decide)
    | exact hs "lot" (by decide)
    | exact hs "01" (by decide)
    | exact (GdAll.nil (k := 0)).tuple.mono (Nat.le_refl _) (by omega) (by omega)
    | exact (GdAll.nil (k := 0)).list.mono (Nat.le_refl _) (by omega) (by omega)
    | exact (GdAll.cons (hi 0 (by decide)) GdAll.nil).tuple.mono (Nat.le_refl _) (by omega) (by omega)
    | exact (GdAll.cons (hi 0 (by decide)) GdAll.nil).list.mono (Nat.le_refl _) (by omega) (by omega)
    | exact (GdAll.cons (gd_bl true) GdAll.nil).tuple.mono (Nat.le_refl _) (by omega) (by omega)
    | exact (GdAll.cons (hi 0 (by decide)) (GdAll.cons (hi 1 (by decide)) GdAll.nil)).tuple.mono (Nat.le_refl _) (by omega) (by omega)
    | exact (GdAll.cons ((hi 2 (by decide)).mono (Nat.le_refl _) (Nat.le_refl _) (Nat.zero_le 1)) (GdAll.cons (GdAll.cons (hi 0 (by decide)) GdAll.nil).tuple GdAll.nil)).tuple.mono (Nat.le_refl _) (by omega) (by omega)
    | exact ⟨⟨by decide +kernel, by decide +kernel⟩, by decide, by decide⟩
theorem cutD_gd {M n k : Nat} {ds : List PyData} (h : GdAll M n k ds) (lo hi : Option Int) : GdAll M n k (cutD ds lo hi) := (h.drop _).take _
theorem cutD_take {ds : List PyData} {i : Nat} (h : i ≤ ds.length) : cutD ds none (some (i : Int)) = ds.take i := by
  unfold cutD
  rw [HT.sIx_none, HT.sIx_nat, List.drop_zero, Nat.sub_zero, Nat.min_eq_left h]
theorem cutD_drop {ds : List PyData} {i : Nat} (h : i ≤ ds.length) : cutD ds (some (i : Int)) none = ds.drop i := by
  unfold cutD
  rw [HT.sIx_none, HT.sIx_nat, Nat.min_eq_left h]
  exact List.take_of_length_le (by rw [List.length_drop]; exact Nat.le_refl _)
theorem cutV_len {xs : List V} {lo hi : Option Int} : (cutV xs lo hi).length ≤ xs.length := cutV_length xs lo hi
theorem szl {n m : Nat} (h : n ≤ m) (hm : m ≤ 10000000) : n ≤ sizeLine := by rw [sizeLine_eq]; omega
end XT
/-! _law_odd, _law_pick -/
namespace XT
open PySem PySem.Spec PyProof.Rows L2
abbrev nOd : List Str := ["_law_stream_here", "_law_some"]
theorem scOd : FnScope nOd ["_law_stream_here"] (defScope sLOdd) := ⟨rfl, rfl, rfl, by decide +kernel, rfl, by decide +kernel, by decide +kernel⟩
theorem Same.free {H H' : Hp} {b : Addr} (s : Same H H') (e : H' b = none) : H b = none := by
  cases h : H b with
  | none => rfl
  | some o => rw [s b o h] at e; cases e
theorem Dv.keepN {K : PySem.W.Frag} {S : Sm} {Nw : Addr → Prop} {H H' : Hp} {t : Int} {v : V} {d : PyData} (h : Dv K Nw H v d) (hN : ∀ b, Nw b → Nof S b) (k : Keep S H H') (st : Strm S H t) : Dv K Nw H' v d := h.map (fun _ _ q => k.sqT st q) (fun b _ n q => k.sqL (hN b n).1 (hN b n).2 q) (fun _ _ q => k.ko st q (fun _ z => nomatch z)) (fun _ q => q)
theorem DvAll.keepN {K : PySem.W.Frag} {S : Sm} {Nw : Addr → Prop} {H H' : Hp} {t : Int} {v : List V} {d : List PyData} (h : DvAll K Nw H v d) (hN : ∀ b, Nw b → Nof S b) (k : Keep S H H') (st : Strm S H t) : DvAll K Nw H' v d := h.map (fun _ _ q => k.sqT st q) (fun b _ n q => k.sqL (hN b n).1 (hN b n).2 q) (fun _ _ q => k.ko st q (fun _ z => nomatch z)) (fun _ q => q)
/-- the predicate holds of what is new, and not of the stream's lists -/
structure NwOk (S : Sm) (H : Hp) (Nw : Addr → Prop) : Prop where
  n : ∀ b, Nw b → Nof S b
  f : ∀ b, H b = none → Nw b
theorem NwOk.same {S : Sm} {H H' : Hp} {Nw : Addr → Prop} (h : NwOk S H Nw) (s : Same H H') : NwOk S H' Nw := ⟨h.n, fun b e => h.f b (Same.free s e)⟩
theorem NwOk.keep {S : Sm} {H H' : Hp} {t : Int} {Nw : Addr → Prop} (h : NwOk S H Nw) (k : Keep S H H') (st : Strm S H' t) : NwOk S H' Nw := ⟨h.n, fun b e => h.f b (k.free st e)⟩
theorem nw_all {S : Sm} {H : Hp} {t : Int} (st : Strm S H t) : NwOk S H (Nof S) := ⟨fun _ h => h, fun b e => ⟨(strm_ne st e).1, (strm_ne st e).2.1⟩⟩
section
variable {P : Program} {w : World} {K : PySem.W.Frag} {mg : Str → Option Value} {base : Heap}
def spOddS (K : PySem.W.Frag) : Sp := fun vs H Q _ => ∃ (S : Sm) (t : Int) (Nw : Addr → Prop), vs = [.ref S.s] ∧ Strm S H t ∧ t < 1000000 ∧ NwOk S H Nw ∧ ∀ (H' : Hp) (v : V) (d : PyData) (t' : Int), Step S H t H' t' 1 → Dv K (fun b => Nw b ∧ H' b ≠ none) H' v d → d ∈ oddD → Q v H'
theorem ok_oddS {f : Addr} {fd : FuncData} {k : Nat} (F : Fun K "_law_odd" "_law_odd" sLOdd f fd) (dD : DefR P w K mg base 1 "_law_draw" spDrawN) : FnOk P w K mg base CX0 (k + 2) f fd ["_law_stream_here"] (spOddS K) := by
  refine F.ok scOd (fun vs H Q E h => ?_) (fun cdv A outer s H vs Q E hr h => ?_)
  · obtain ⟨S, t, Nw, rfl, _⟩ := h
    rfl
  · obtain ⟨S, t, Nw, rfl, st, ht, hw, q⟩ := h
    refine ⟨_, pss_cons (ps_set (i := 1) scOd.nd rfl (.inl rfl) (pe_lst (pa_cons pe_non (pa_cons pe_bl (pa_cons pe_bl (pa_cons (pe_un un_neg pe_int) (pa_cons pe_int (pa_cons pe_int (pa_cons pe_int (pa_cons pe_int (pa_cons pe_int (pa_cons pe_int (pa_cons pe_int (pa_cons pe_int
        (pa_cons (pe_op op_pow pe_int pe_int) (pa_cons pe_str (pa_cons pe_str (pa_cons pe_str (pa_cons (pe_tup pa_nil) (pa_cons (pe_lstB pa_nil) (pa_cons pe_dnewK (pa_cons (pe_tup (pa_cons pe_int pa_nil)) (pa_cons (pe_lstB (pa_cons pe_int pa_nil)) (pa_cons (pe_tup (pa_cons pe_bl pa_nil)) pa_nil))))))))))))))))))))))))
      (pss_one (ps_ret (pe_ix ix_list (pe_op op_cat (pv 1) (pe_lst (pa_cons (pe_tup (pa_cons pe_int (pa_cons (pe_tup (pa_cons pe_int pa_nil)) pa_nil))) (pa_cons (pe_tup (pa_cons pe_int (pa_cons pe_int pa_nil))) (pa_cons (pe_disp (pps_cons pe_str pe_int pps_nil) rfl rfl (by decide) (by decide)) (pa_cons pe_str pa_nil))))))
        (pe_def dD (hr.mono (by omega)) (by rfl) (pa_cons (pv 0) (pa_cons pe_int pa_nil))) (fun _ _ => rfl)))), ?_⟩
    refine ⟨1, rfl, 10, 39, rfl, rfl, ⟨by decide, by decide, by decide⟩, sz (n := 0) (by decide), fun T1 nT1 => ⟨sz (n := 0) (by decide), fun L1 nL1 bL1 D1 nD1 => ⟨sz (n := 1) (by decide), fun T2 nT2 => ⟨sz (n := 1) (by decide), fun L2 nL2 bL2 => ⟨sz (n := 1) (by decide), fun T3 nT3 => ⟨sz (n := 22) (by decide), fun S0 nS0 => ?_⟩⟩⟩⟩⟩⟩
    have m1 := same_new (o := .tup []) nT1
    have m2 := same_new (o := .lst []) nL1
    have m3 := same_new (o := .dK []) nD1
    have m4 := same_new (o := .tup [.int 0]) nT2
    have m5 := same_new (o := .lst [.int 0]) nL2
    have m6 := same_new (o := .tup [.bl true]) nT3
    let xs : List V := [.non, .bl true, .bl false, .int (-1), .int 0, .int 1, .int 2, .int 3, .int 6, .int 7, .int 63, .int 64, .int (10 ^ (39 : Int).toNat), .str "", .str "0", .str "lot", .ref T1, .ref L1, .ref D1, .ref T2, .ref L2, .ref T3]
    have m7 := same_new (o := .lst xs) nS0
    refine ⟨.ref S0, rfl, sz (n := 1) (by decide), fun T4 nT4 => ⟨sz (n := 2) (by decide), fun T5 nT5 => ⟨sz (n := 2) (by decide), fun T6 nT6 D2 nD2 => ⟨upd_same, [(.inr "a", .int 1)], rfl, by decide, sz (n := 4) (by decide), fun M nM => ?_⟩⟩⟩⟩
    have m8 := same_new (o := .tup [.int 0]) nT4
    have m9 := same_new (o := .tup [.int 2, .ref T4]) nT5
    have m10 := same_new (o := .tup [.int 0, .int 1]) nT6
    have m11 : Same _ (upd (upd (upd (upd (upd (upd (upd (upd (upd (upd (upd (upd H T1 (.tup [])) L1 (.lst [])) D1 (.dK [])) T2 (.tup [.int 0])) L2 (.lst [.int 0])) T3 (.tup [.bl true])) S0 (.lst xs)) T4 (.tup [.int 0])) T5 (.tup [.int 2, .ref T4])) T6 (.tup [.int 0, .int 1])) D2 (.dK [])) D2 (.dK (mergeK [] [(.inr "a", .int 1)]))) := fun b o e => by
      rw [upd_ne (ne_of_none e nD2), upd_ne (ne_of_none e nD2)]
      exact e
    have m12 := same_new (o := .lst [.ref T5, .ref T6, .ref D2, .str "01"]) nM
    refine ⟨S0, M, _, _, rfl, rfl, m12 _ _ (m11 _ _ (m10 _ _ (m9 _ _ (m8 _ _ upd_same)))), upd_same, (by rw [sizeLine_eq]; show 22 + 4 ≤ 16777216; decide), fun C nC => ?_⟩
    have m13 := same_new (o := .lst (xs ++ [.ref T5, .ref T6, .ref D2, .str "01"])) nC
    have st1 := st.same m1
    have st2 := st1.same m2
    have st3 := st2.same m3
    have st4 := st3.same m4
    have st5 := st4.same m5
    have st6 := st5.same m6
    have st7 := st6.same m7
    have st8 := st7.same m8
    have st9 := st8.same m9
    have st10 := st9.same m10
    have st11 := st10.same m11
    have st12 := st11.same m12
    have st13 := st12.same m13
    refine ⟨.ref S.s, rfl, S, t, 26, rfl, st13, by omega, by omega, by omega, fun H9 r t9 s9 hr26 => ?_⟩
    have c12 := m12.trans m13
    have c11 := m11.trans c12
    have c10 := m10.trans c11
    have c9 := m9.trans c10
    have c8 := m8.trans c9
    have c7 := m7.trans c8
    have c6 := m6.trans c7
    have c5 := m5.trans c6
    have c4 := m4.trans c5
    have c3 := m3.trans c4
    have c2 := m2.trans c3
    have kT : ∀ {b : Addr} {zs : List V}, _ = some (HO.tup zs) → H9 b = some (.tup zs) := fun {b zs} e => s9.keep.tup st13 e
    have gT1 := kT (c2 T1 _ upd_same)
    have gT2 := kT (c5 T2 _ upd_same)
    have gT3 := kT (c7 T3 _ upd_same)
    have gT4 := kT (c9 T4 _ upd_same)
    have gT5 := kT (c10 T5 _ upd_same)
    have gT6 := kT (c11 T6 _ upd_same)
    have nL1s := strm_ne st1 nL1
    have nL2s := strm_ne st4 nL2
    have nD1s := strm_ne st2 nD1
    have nD2s := strm_ne st10 nD2
    have nCs := strm_ne st12 nC
    have gL1 := s9.keep L1 _ nL1s.1 nL1s.2.1 (c3 L1 _ upd_same)
    have gL2 := s9.keep L2 _ nL2s.1 nL2s.2.1 (c6 L2 _ upd_same)
    have gD1 := s9.keep D1 _ nD1s.1 nD1s.2.1 (c4 D1 _ upd_same)
    have gD2 := s9.keep D2 _ nD2s.1 nD2s.2.1 (c12 D2 _ upd_same)
    have gC := s9.keep C _ nCs.1 nCs.2.1 upd_same
    have all : DvAll K (fun b => Nw b ∧ H9 b ≠ none) H9 (xs ++ [.ref T5, .ref T6, .ref D2, .str "01"]) oddD :=
      .cons .non (.cons (.bl _) (.cons (.bl _) (.cons (.int _) (.cons (.int _) (.cons (.int _) (.cons (.int _) (.cons (.int _) (.cons (.int _) (.cons (.int _) (.cons (.int _) (.cons (.int _) (.cons (.int _) (.cons (.str _) (.cons (.str _) (.cons (.str _)
        (.cons (.tup (SqT.of gT1) .nil) (.cons (.lst (SqL.of gL1) bL1 ⟨hw.f _ (Same.free m1 nL1), by rw [gL1]; exact fun z => nomatch z⟩ .nil) (.cons (.dct [] gD1) (.cons (.tup (SqT.of gT2) (.cons (.int _) .nil)) (.cons (.lst (SqL.of gL2) bL2 ⟨hw.f _ (Same.free (((m1.trans m2).trans m3).trans m4) nL2), by rw [gL2]; exact fun z => nomatch z⟩ (.cons (.int _) .nil)) (.cons (.tup (SqT.of gT3) (.cons (.bl _) .nil))
        (.cons (.tup (SqT.of gT5) (.cons (.int _) (.cons (.tup (SqT.of gT4) (.cons (.int _) .nil)) .nil))) (.cons (.tup (SqT.of gT6) (.cons (.int _) (.cons (.int _) .nil))) (.cons (.dct [("a", 1)] gD2) (.cons (.str _) .nil)))))))))))))))))))))))))
    have hlt : r < (xs ++ [V.ref T5, V.ref T6, V.ref D2, V.str "01"]).length := by
      show r < 26
      exact hr26
    obtain ⟨d, hd, hz⟩ := all.at (List.getElem?_eq_getElem hlt)
    refine ⟨C, _, r, _, rfl, rfl, SqL.of gC, atI_nat (List.getElem?_eq_getElem hlt), ?_⟩
    exact q H9 _ d t9 ⟨(Keep.of (((m1.trans c2)))).trans s9.keep, s9.st, s9.lo, s9.hi⟩ hz (List.mem_of_getElem? hd)

/-! _law_pick -/
theorem scPk : FnScope ["_law_stream_here", "_law_items"] ["_law_stream_here", "_law_items"] (defScope sLPick) := ⟨rfl, rfl, rfl, by decide +kernel, rfl, by decide +kernel, by decide +kernel⟩
def spPick (K : PySem.W.Frag) : Sp := fun vs H Q _ => ∃ (S : Sm) (t : Int) (L : Addr) (xs : List V) (ds : List PyData) (Nw : Addr → Prop), vs = [.ref S.s, .ref L] ∧ (∀ b, Nw b → Nof S b) ∧ Strm S H t ∧ t < 1000000 ∧ H L = some (.lst xs) ∧ L ≠ S.s ∧ L ≠ S.p ∧ DvAll K Nw H xs ds ∧ 0 < ds.length ∧ ds.length ≤ 1000 ∧
  ∀ (H' : Hp) (v : V) (d : PyData) (t' : Int), Step S H t H' t' 1 → Dv K Nw H' v d → d ∈ ds → Q v H'
theorem ok_pick {f : Addr} {fd : FuncData} {k : Nat} (B : Bl mg) (F : Fun K "_law_pick" "_law_pick" sLPick f fd) (dD : DefR P w K mg base 1 "_law_draw" spDrawN) : FnOk P w K mg base CX0 (k + 2) f fd ["_law_stream_here", "_law_items"] (spPick K) := by
  refine F.ok scPk (fun vs H Q E h => ?_) (fun cdv A outer s H vs Q E hr h => ?_)
  · obtain ⟨S, t, L, xs, ds, Nw, rfl, _⟩ := h
    rfl
  · obtain ⟨S, t, L, xs, ds, Nw, rfl, hw, st, ht, hL, n1, n2, all, l0, l1, q⟩ := h
    have hl := all.len
    refine ⟨_, pss_one (ps_ret (pe_ix ix_list (pv 1) (pe_def dD (hr.mono (by omega)) (by rfl) (pa_cons (pv 0) (pa_cons (pe_callB call_len_seq (by rfl) B.len PySem.boot_len (pa_cons (pv 1) pa_nil)) pa_nil))) (fun _ _ => rfl))), ?_⟩
    refine ⟨.ref L, rfl, .ref S.s, rfl, .ref L, rfl, L, xs, rfl, .inl (SqL.of hL), S, t, xs.length, rfl, st, by omega, by omega, by omega, fun H9 r t9 s9 hr => ?_⟩
    obtain ⟨d, hd, hz⟩ := all.at (List.getElem?_eq_getElem hr)
    exact ⟨L, xs, r, _, rfl, rfl, SqL.of (s9.keep L _ n1 n2 hL), atI_nat (List.getElem?_eq_getElem hr), q H9 _ d t9 s9 (hz.keepN hw s9.keep st) (List.mem_of_getElem? hd)⟩
end
end XT
/-! _law_bent -/
namespace XT
open PySem PySem.Spec PyProof.Rows L2
abbrev nBt : List Str := ["_law_stream_here", "_law_value", "_law_deep", "_law_spot", "_law_some"]
theorem scBt : FnScope nBt ["_law_stream_here", "_law_value", "_law_deep"] (defScope sLBent) := ⟨rfl, rfl, rfl, by decide +kernel, rfl, by decide +kernel, by decide +kernel⟩
section
variable {P : Program} {w : World} {K : PySem.W.Frag} {mg : Str → Option Value} {base : Heap}
def spDrawM : Sp := fun vs H Q _ => ∃ (S : Sm) (t : Int) (m : Nat), vs = [.ref S.s, .int (m : Int)] ∧ Strm S H t ∧ 0 < m ∧ m ≤ 10000000 ∧ t < 100000000 ∧
  ∀ (H' : Hp) (r : Nat) (t' : Int), Step S H t H' t' 1 → r < m → Q (.int (r : Int)) H'
theorem drawM {k : Nat} {x : Str} (D : DefR P w K mg base k x spDraw) : DefR P w K mg base k x spDrawM := by
  obtain ⟨f, F, h1, h2⟩ := D
  refine ⟨f, F.imp fun vs H Q E ⟨S, t, m, ev, st, m0, m1, t1, q⟩ => ⟨S, t, m, ev, st, by omega, by omega, by omega, fun H' r t' k s a b r0 r1 => ?_⟩, h1, h2⟩
  obtain ⟨n, rfl⟩ := Int.eq_ofNat_of_zero_le r0
  exact q H' n t' ⟨k, s, a, b⟩ (by omega)
def spBent (K : PySem.W.Frag) (dp : Nat) : Sp := fun vs H Q _ => ∃ (S : Sm) (t : Int) (v : V) (d : PyData) (M n k : Nat) (Nw : Addr → Prop), vs = [.ref S.s, v, .int (dp : Int)] ∧ NwOk S H Nw ∧ Strm S H t ∧ t + 10 * (dp + 1) < 100000 ∧ Dv K Nw H v d ∧ Gd M n k d ∧ 10 ^ 39 ≤ M ∧ M < 10 ^ 39 + 10 ∧ n ≤ 1000000 ∧
  ∀ (H' : Hp) (v' : V) (d' : PyData) (t' : Int), Step S H t H' t' (10 * (dp + 1)) → Dv K Nw H' v' d' → Gd (M + 1) (3 * n + 900) (k + 4) d' → Q v' H'
def MidB (K : PySem.W.Frag) (Nw : Addr → Prop) (S : Sm) (H : Hp) (t : Int) (v : V) (dp : Nat) (M n k c : Nat) (σ : L2.St) (H' : Hp) : Prop := ∃ (L : Addr) (xs : List V) (ds : List PyData) (t' : Int),
  σ = [some (.ref S.s), some v, some (.int (dp : Int)), none, some (.ref L)] ∧ Step S H t H' t' 3 ∧ H' L = some (.lst xs) ∧ L ≠ S.s ∧ L ≠ S.p ∧ DvAll K Nw H' xs ds ∧ 4 ≤ ds.length ∧ ds.length ≤ c ∧ ∀ e ∈ ds, Gd (M + 1) (3 * n + 900) (k + 4) e
theorem ok_bent {f : Addr} {fd : FuncData} {j dp : Nat} {sB : Sp} (B : Bl mg) (mLi : mg "list" = none) (mS : mg "str" = none) (F : Fun K "_law_bent" "_law_bent" sLBent f fd) (dD : DefR P w K mg base 1 "_law_draw" spDrawM) (dO : DefR P w K mg base 2 "_law_odd" (spOddS K)) (dP : DefR P w K mg base 2 "_law_pick" (spPick K))
    (dB : DefR P w K mg base j "_law_bent" sB) (hj : 2 ≤ j) (hB : ∀ dq, dp = dq + 1 → ∀ vs H Q E, spBent K dq vs H Q E → sB vs H Q E) : FnOk P w K mg base CX0 (j + 1) f fd ["_law_stream_here", "_law_value", "_law_deep"] (spBent K dp) := by
  refine F.ok scBt (fun vs H Q E h => ?_) (fun cdv A outer s H vs Q E hr h => ?_)
  · obtain ⟨S, t, v, d, M, n, k, Nw, rfl, _⟩ := h
    rfl
  · obtain ⟨S, t, v, d, M, n, k, Nw, rfl, hw, st, ht, hd, gd, hM1, hM2, hn, q⟩ := h
    have hr1 : Room 1 (A.deeper (envOfC "_law_bent" (defScope sLBent) s.heap.objs.size f cdv)) := hr.mono (by omega)
    have hr2 : Room 2 (A.deeper (envOfC "_law_bent" (defScope sLBent) s.heap.objs.size f cdv)) := hr.mono (by omega)
    have hu : (A.deeper (envOfC "_law_bent" (defScope sLBent) s.heap.objs.size f cdv)).units < cLine := hr.units0
    refine ⟨_, C8.pss_cut (ps_if (PW.pt (pw_and (pt_cmpR op_gt (pv 2) pe_int (nomark _)) (pw_and (pt_val (pe_callB call_isi (by rfl) B.isinstance bI (pa_cons (pv 1) (pa_cons (pe_bltn (v := .ty "tuple") (by rfl) B.tuple bT rfl) pa_nil))))
          (pw_and (pt_cmpR (op_neE hu) (pv 1) (pe_tup pa_nil) (nomark _)) (pw_and1 (pt_cmpR op_gt (pe_def dD hr1 (by rfl) (pa_cons (pv 0) (pa_cons pe_int pa_nil))) pe_int (nomark _)))))))
        (pss_cons (ps_set (i := 3) scBt.nd rfl (.inl rfl) (pe_def dD hr1 (by rfl) (pa_cons (pv 0) (pa_cons (pe_callB call_len_seq (by rfl) B.len PySem.boot_len (pa_cons (pv 1) pa_nil)) pa_nil))))
        (pss_one (ps_ret (pe_op op_catU (pe_op op_catU (pe_slice sl_tupU (pv 1) po_none (po_some (pv 3))) (pe_tup (pa_cons (pe_def dB hr (by rfl) (pa_cons (pv 0) (pa_cons (pe_ix ix_tup (pv 1) (pv 3) (fun _ _ => rfl)) (pa_cons (pe_op op_sub (pv 2) pe_int) pa_nil)))) pa_nil)))
          (pe_slice sl_tupU (pv 1) (po_some (pe_op op_add (pv 3) pe_int)) po_none))))) pss_nil)
      (C8.pss_cut (ps_set (i := 4) scBt.nd rfl (.inl rfl) (pe_lst (pa_cons (pe_def dO hr2 (by rfl) (pa_cons (pv 0) pa_nil)) (pa_cons (pe_def dO hr2 (by rfl) (pa_cons (pv 0) pa_nil)) (pa_cons (pe_tup (pa_cons pe_int (pa_cons (pe_tup pa_nil) pa_nil))) (pa_cons pe_int pa_nil))))))
      (C8.pss_cut (ps_if (pt_val (pe_callB call_isi (by rfl) B.isinstance bI (pa_cons (pv 1) (pa_cons (pe_bltn (v := .ty "tuple") (by rfl) B.tuple bT rfl) pa_nil))))
        (pss_one (ps_set (i := 4) scBt.nd rfl (.inl rfl) (pe_op op_cat (pv 4) (pe_lst (pa_cons (pe_callTy call_listB (by rfl) mLi boot_list (pa_cons (pv 1) pa_nil)) (pa_cons (pe_slice sl_tupU (pv 1) (po_some pe_int) po_none)
          (pa_cons (pe_op op_catU (pv 1) (pe_slice sl_tupU (pv 1) (po_some (pe_un un_neg pe_int)) po_none)) (pa_cons (pe_revT (pv 1) (pe_un un_neg pe_int)) (pa_cons (pe_tup (pa_cons (pv 1) pa_nil)) (pa_cons (pe_op op_catU (pv 1) (pe_tup (pa_cons pe_non pa_nil))) (pa_cons (pe_slice sl_tupU (pv 1) po_none (po_some (pe_un un_neg pe_int))) pa_nil)))))))))))
        (pss_one (ps_if (pt_val (pe_callB call_isi (by rfl) B.isinstance bI (pa_cons (pv 1) (pa_cons (pe_bltn (v := .ty "str") (by rfl) mS boot_str rfl) pa_nil))))
          (pss_one (ps_set (i := 4) scBt.nd rfl (.inl rfl) (pe_op op_cat (pv 4) (pe_lst (pa_cons (pe_op op_add_str (pv 1) pe_str) (pa_cons (pe_slice sl_str (pv 1) (po_some pe_int) po_none) (pa_cons (pe_upper (pv 1)) (pa_cons (pe_op op_add_str (pv 1) pe_str) (pa_cons (pe_lstB (pa_cons (pv 1) pa_nil)) pa_nil)))))))))
          (pss_one (ps_if (pt_val (pe_callB call_isi (by rfl) B.isinstance bI (pa_cons (pv 1) (pa_cons (pe_bltn (v := .ty "int") (by rfl) B.int bInt rfl) pa_nil))))
            (pss_one (ps_set (i := 4) scBt.nd rfl (.inl rfl) (pe_op op_cat (pv 4) (pe_lst (pa_cons (pe_op (OpR.or op_add op_add_bi) (pv 1) pe_int) (pa_cons (pe_op (OpR.or op_sub op_sub_bi) (pv 1) pe_int) (pa_cons pe_int (pa_cons (pe_un un_neg pe_int) (pa_cons (pe_callTy (CallR.or call_str_int call_str_bool) (by rfl) mS boot_str (pa_cons (pv 1) pa_nil)) (pa_cons (pe_cmpR (OpR.or op_eq op_eq_bi) (pv 1) pe_int (nomark _)) pa_nil))))))))))
            pss_nil)))))
      (pss_one (ps_ret (pe_def dP hr2 (by rfl) (pa_cons (pv 0) (pa_cons (pv 4) pa_nil))))))), ?_⟩
    -- the part within
    refine ⟨fun σ H' => ∃ t', σ = [some (.ref S.s), some v, some (.int (dp : Int)), none, none] ∧ Step S H t H' t' 1, ?_, fun σ1 H1 mid1 => ?_⟩
    · refine ⟨.int dp, rfl, dp, 0, rfl, rfl, _, rfl, ite2 (fun e0 => ?_) (fun _ => iteF ⟨t, rfl, (Step.refl st).mono (by omega)⟩)⟩
      have hdp : 0 < dp := by have := of_decide_eq_true e0; omega
      refine ⟨v, rfl, v, .ty "tuple", _, _, isTp d, rfl, .ty _, hd.dz.ty, kitT d, isTp d, rfl, ?_⟩
      cases hd with
      | non => exact iteF (iteF ⟨t, rfl, (Step.refl st).mono (by omega)⟩)
      | bl b => exact iteF (iteF ⟨t, rfl, (Step.refl st).mono (by omega)⟩)
      | int i => exact iteF (iteF ⟨t, rfl, (Step.refl st).mono (by omega)⟩)
      | str x => exact iteF (iteF ⟨t, rfl, (Step.refl st).mono (by omega)⟩)
      | lst _ _ _ _ => exact iteF (iteF ⟨t, rfl, (Step.refl st).mono (by omega)⟩)
      | dct kvs _ => exact iteF (iteF ⟨t, rfl, (Step.refl st).mono (by omega)⟩)
      | @tup a xs ds hx all =>
        obtain ⟨ga, hn4, hk1⟩ := gd.all
        have hl := all.len
        have hls := zsAll_len ds
        have hgz := ga.z
        refine iteT ⟨.ref a, rfl, sz (n := 0) (by decide), fun E0 nE0 => ?_⟩
        have sE := same_new (o := .tup []) nE0
        refine ⟨a, E0, xs, rfl, rfl, Same.sqT sE hx, SqT.of upd_same, _, rfl, ?_⟩
        have stE := (Step.refl st).same sE
        cases xs with
        | nil => exact iteF (iteF ⟨t, rfl, stE.mono (by omega)⟩)
        | cons x0 xs0 =>
          refine iteT ⟨.ref S.s, rfl, S, t, 6, rfl, stE.st, by omega, by omega, by omega, fun H2 r t2 s2 hr6 => ⟨r, 0, rfl, rfl, _, rfl, ?_⟩⟩
          have st2 := stE.trans s2
          refine ite2 (fun e => ?_) (fun e => ?_)
          · -- value[:spot] + (bent,) + value[spot + 1:]
            have hx2 : SqT K H2 a (x0 :: xs0) := s2.keep.sqT stE.st (Same.sqT sE hx)
            have all2 : DvAll K Nw H2 (x0 :: xs0) ds := (all.same sE).keepN hw.n s2.keep stE.st
            have hi2 := s2.hi
            refine ⟨.ref S.s, rfl, .ref a, rfl, a, _, rfl, .inr hx2, S, t2, (x0 :: xs0).length, rfl, st2.st, Nat.succ_pos _, by omega, by omega, fun H3 spot t3 s3 hsp => ?_⟩
            have hi3 := s3.hi
            have hx3 : SqT K H3 a (x0 :: xs0) := s3.keep.sqT st2.st hx2
            have all3 : DvAll K Nw H3 (x0 :: xs0) ds := all2.keepN hw.n s3.keep st2.st
            refine ⟨.ref a, rfl, .int spot, rfl, spot, rfl, a, _, rfl, hx3, fun H4 p4 s4 h4 => ?_⟩
            have st4 := (st2.trans s3).same s4
            have hx4 : SqT K H4 a (x0 :: xs0) := Same.sqT s4 hx3
            have all4 : DvAll K Nw H4 (x0 :: xs0) ds := all3.same s4
            have hat : (x0 :: xs0)[spot]? = some (x0 :: xs0)[spot] := List.getElem?_eq_getElem hsp
            obtain ⟨ds1, hds1, hz1⟩ := all4.at hat
            have hspd : spot < ds.length := by omega
            have hmem := List.mem_of_getElem? hds1
            have eds : ds = ds.take spot ++ ds1 :: ds.drop (spot + 1) := by
              obtain ⟨h1, h2⟩ := List.getElem?_eq_some_iff.mp hds1
              rw [← h2, ← List.drop_eq_getElem_cons h1, List.take_append_drop]
            have ez : zsAll ds = zsAll (ds.take spot) + (zs ds1 + 2 + zsAll (ds.drop (spot + 1))) := by
              conv => lhs; rw [eds]
              rw [zsAll_app]
              rfl
            have g1 : Gd M (zs ds1) (k - 1) ds1 := ⟨(ga.at hmem).f, Nat.le_refl _, (ga.at hmem).p⟩
            obtain ⟨dq, rfl⟩ : ∃ dq, dp = dq + 1 := ⟨dp - 1, by omega⟩
            refine ⟨.ref S.s, rfl, .ref a, rfl, .int spot, rfl, a, _, spot, _, rfl, rfl, hx4, atI_nat hat, .int ((dq + 1 : Nat) : Int), rfl, ((dq + 1 : Nat) : Int), 1, rfl, rfl, ?_⟩
            refine hB dq rfl _ _ _ _ ⟨S, t3, _, ds1, M, zs ds1, k - 1, Nw, ?_, hw.keep st4.keep st4.st, st4.st, by omega, hz1, g1, hM1, hM2, by omega, fun H5 v5 d5 t5 s5 hz5 g5 => ?_⟩
            · show [V.ref S.s, _, V.int (((dq + 1 : Nat) : Int) - 1)] = _
              rw [show ((dq + 1 : Nat) : Int) - 1 = (dq : Int) by omega]
            have st5 := st4.trans s5
            refine ⟨sz (n := 1) (by decide), fun p6 np6 => ?_⟩
            have s6 := same_new (o := .tup [v5]) np6
            have h46 : SqT K (upd H5 p6 (.tup [v5])) p4 (cutV (x0 :: xs0) none (some (spot : Int))) := Same.sqT s6 (s5.keep.sqT st4.st h4)
            have a46 : DvAll K Nw (upd H5 p6 (.tup [v5])) (cutV (x0 :: xs0) none (some (spot : Int))) (cutD ds none (some (spot : Int))) := ((all4.cut _ _).keepN hw.n s5.keep st4.st).same s6
            have lcut := cutV_len (xs := x0 :: xs0) (lo := none) (hi := some (spot : Int))
            refine ⟨p4, p6, _, _, rfl, rfl, h46, SqT.of upd_same, szl (m := 1000001) (by show _ + 1 ≤ _; omega) (by omega), fun H7 p7 s7 h7 => ?_⟩
            have st7 := (st5.same s6).same s7
            have hx7 : SqT K H7 a (x0 :: xs0) := Same.sqT s7 (Same.sqT s6 (s5.keep.sqT st4.st hx4))
            have all7 : DvAll K Nw H7 (x0 :: xs0) ds := ((all4.keepN hw.n s5.keep st4.st).same s6).same s7
            refine ⟨.ref a, rfl, .int spot, rfl, spot, 1, rfl, rfl, (spot : Int) + 1, rfl, a, _, rfl, hx7, fun H8 p8 s8 h8 => ?_⟩
            have lcut2 := cutV_len (xs := x0 :: xs0) (lo := some ((spot : Int) + 1)) (hi := none)
            refine ⟨p7, p8, _, _, rfl, rfl, Same.sqT s8 h7, h8, szl (m := 2000002) (by rw [List.length_append]; show _ + 1 + _ ≤ _; omega) (by omega), fun H9 p9 s9 h9 => ?_⟩
            have st9 := (st7.same s8).same s9
            refine q H9 _ (.tuple ((ds.take spot ++ [d5]) ++ ds.drop (spot + 1))) t5 (st9.mono (by omega)) (.tup h9 ?_) ?_
            · have b1 := ((a46.same s7).same s8).same s9
              have b2 := (((hz5.same s6).same s7).same s8).same s9
              have b3 := ((all7.cut (some ((spot : Int) + 1)) none).same s8).same s9
              rw [cutD_take (Nat.le_of_lt hspd)] at b1
              rw [show (spot : Int) + 1 = ((spot + 1 : Nat) : Int) by omega, cutD_drop hspd] at b3
              exact (b1.app (.cons b2 .nil)).app b3
            · have k1 := ((ga.take spot).mono (show M ≤ M + 1 by omega) (Nat.le_refl _) (show k - 1 ≤ k + 3 by omega))
              have k3 := ((ga.drop (spot + 1)).mono (show M ≤ M + 1 by omega) (Nat.le_refl _) (show k - 1 ≤ k + 3 by omega))
              have k2 := g5.mono (Nat.le_refl _) (Nat.le_refl _) (show k - 1 + 4 ≤ k + 3 by omega)
              have k4 : GdAll (M + 1) (zsAll (ds.take spot) + (3 * zs ds1 + 900 + 2 + 0) + zsAll (ds.drop (spot + 1))) (k + 3) ((ds.take spot ++ [d5]) ++ ds.drop (spot + 1)) :=
                (GdAll.app (GdAll.app ⟨k1.f, Nat.le_refl _, k1.p⟩ (GdAll.cons k2 GdAll.nil)) ⟨k3.f, Nat.le_refl _, k3.p⟩)
              exact k4.tuple.mono (Nat.le_refl _) (by omega) (by omega)
          · exact ⟨t2, rfl, st2.mono (by omega)⟩
    obtain ⟨t1, rfl, s1⟩ := mid1
    have gM : ∀ {e : PyData} {n' k' : Nat}, Gd M n' k' e → n' ≤ 3 * n + 900 → k' ≤ k + 4 → Gd (M + 1) (3 * n + 900) (k + 4) e := fun g a b => g.mono (by omega) a b
    have gO : ∀ e ∈ oddD, Gd (M + 1) (3 * n + 900) (k + 4) e := fun e he => (gd_odd e he).mono (by omega) (by omega) (by omega)
    have hi1 := s1.hi
    have h391 : 1 ≤ 10 ^ 39 := by decide
    have h3964 : 64 ≤ 10 ^ 39 := by decide
    -- some = [..]
    refine ⟨MidB K Nw S H t v dp M n k 4, ?_, fun σ2 H2 mid2 => ?_⟩
    · refine ⟨.ref S.s, rfl, S, t1, Nw, rfl, s1.st, by omega, hw.keep s1.keep s1.st, fun H2 u1 d1 t2 s2 z1 m1 => ⟨.ref S.s, rfl, S, t2, Nw, rfl, s2.st, by have := s2.hi; omega, (hw.keep s1.keep s1.st).keep s2.keep s2.st, fun H3 u2 d2 t3 s3 z2 m2 => ⟨sz (n := 0) (by decide), fun T1 nT1 => ⟨sz (n := 2) (by decide), fun T2 nT2 => ⟨sz (n := 4) (by decide), fun L nL => ?_⟩⟩⟩⟩⟩
      have c1 := same_new (o := .tup []) nT1
      have c2 := same_new (o := .tup [.int 1, .ref T1]) nT2
      have c3 := same_new (o := .lst [u1, u2, .ref T2, .int 5]) nL
      have stp := (((s1.trans s2).trans s3).same c1).same c2
      have ne := strm_ne stp.st nL
      refine ⟨L, _, [d1, d2, .tuple [.int 1, .tuple []], .int 5], t3, rfl, (stp.same c3).mono (by omega), upd_same, ne.1, ne.2.1, ?_, (by show 4 ≤ 4; decide), (by show 4 ≤ 4; decide), ?_⟩
      · have x1 := ((((z1.imp fun _ h => h.1).keepN hw.n s3.keep s2.st).same c1).same c2).same c3
        have x2 := (((z2.imp fun _ h => h.1).same c1).same c2).same c3
        have hT1 : SqT K _ T1 [] := SqT.of (c3 _ _ (c2 _ _ upd_same))
        exact .cons x1 (.cons x2 (.cons (.tup (SqT.of (c3 _ _ upd_same)) (.cons (.int _) (.cons (.tup hT1 .nil) .nil))) (.cons (.int _) .nil)))
      · intro e he
        simp only [List.mem_cons, List.not_mem_nil, or_false] at he
        rcases he with rfl | rfl | rfl | rfl
        · exact gO _ m1
        · exact gO _ m2
        · exact gM (GdAll.cons ((gd_int (M := M) (i := 1) (by show 1 ≤ M; omega)).mono (Nat.le_refl _) (Nat.le_refl _) (Nat.zero_le 1)) (GdAll.cons (GdAll.nil (k := 0)).tuple GdAll.nil)).tuple (by omega) (by omega)
        · exact gM (gd_int (i := 5) (by show 5 ≤ M; omega)) (by omega) (by omega)
    obtain ⟨L, xs, es, t2, rfl, s2, hL, nL1, nL2, allL, l4, l20, gL⟩ := mid2
    have hd2 : Dv K Nw H2 v d := hd.keepN hw.n s2.keep st
    have hxl := allL.len
    -- the if
    refine ⟨MidB K Nw S H t v dp M n k 20, ?_, fun σ3 H3 mid3 => ?_⟩
    · have no : MidB K Nw S H t v dp M n k 20 [some (.ref S.s), some v, some (.int (dp : Int)), none, some (.ref L)] H2 := ⟨L, xs, es, t2, rfl, s2, hL, nL1, nL2, allL, l4, by omega, gL⟩
      have more : ∀ (H3 : Hp) (ys : List V) (fs : List PyData) (N : Addr), Same H2 H3 → DvAll K Nw H3 ys fs → fs.length ≤ 8 → H3 N = none → (∀ e ∈ fs, Gd (M + 1) (3 * n + 900) (k + 4) e) → rCat (.ref L) (.ref N) (upd H3 N (.lst ys)) fun x H4 => MidB K Nw S H t v dp M n k 20 [some (.ref S.s), some v, some (.int (dp : Int)), none, some x] H4 := fun H3 ys fs N s3 aY l8 nN gY => by
        have c1 := same_new (o := .lst ys) nN
        have hyl := aY.len
        refine ⟨L, N, xs, ys, rfl, rfl, c1 _ _ (s3 _ _ hL), upd_same, szl (m := 100) (by omega) (by omega), fun C nC => ?_⟩
        have c2 := same_new (o := .lst (xs ++ ys)) nC
        have stp := (s2.same s3).same c1
        have ne := strm_ne stp.st nC
        exact ⟨C, _, es ++ fs, t2, rfl, stp.same c2, upd_same, ne.1, ne.2.1, (((allL.same s3).same c1).same c2).app ((aY.same c1).same c2), by rw [List.length_append]; omega, by rw [List.length_append]; omega, fun e he => (List.mem_append.mp he).elim (gL e) (gY e)⟩
      refine ⟨v, rfl, v, .ty "tuple", _, _, isTp d, rfl, .ty _, hd2.dz.ty, kitT d, isTp d, rfl, ?_⟩
      have hty := hd2.dz.ty
      cases hd2 with
      | @tup a zs0 ds hx all =>
        obtain ⟨ga, hn4, hk1⟩ := gd.all
        have hl := all.len
        have hls := zsAll_len ds
        have hgz := ga.z
        have lc := fun (lo hi : Option Int) => cutV_len (xs := zs0) (lo := lo) (hi := hi)
        have lc1 := lc (some (-1)) none
        refine iteT ⟨.ref L, rfl, .ref a, rfl, a, zs0, rfl, hx, fun l1 nl1 bl1 => ?_⟩
        have c1 := same_new (o := .lst zs0) nl1
        refine ⟨.ref a, rfl, 1, rfl, a, zs0, rfl, Same.sqT c1 hx, fun H4 p4 s4 h4 => ?_⟩
        have k4 := c1.trans s4
        refine ⟨.ref a, rfl, .ref a, rfl, 1, rfl, -1, rfl, a, zs0, rfl, Same.sqT k4 hx, fun H5 p5 s5 h5 => ⟨a, p5, _, _, rfl, rfl, Same.sqT (k4.trans s5) hx, h5, szl (m := 2000000) (by omega) (by omega), fun H6 p6 s6 h6 => ?_⟩⟩
        have k6 := (k4.trans s5).trans s6
        refine ⟨.ref a, rfl, 1, rfl, a, zs0, rfl, rfl, Same.sqT k6 hx, fun p7 np7 => ?_⟩
        have s7 := same_new (o := .tup zs0.reverse) np7
        have k7 := k6.trans s7
        refine ⟨.ref a, rfl, sz (n := 1) (by decide), fun p8 np8 => ?_⟩
        have s8 := same_new (o := .tup [.ref a]) np8
        have k8 := k7.trans s8
        refine ⟨.ref a, rfl, sz (n := 1) (by decide), fun p9 np9 => ?_⟩
        have s9 := same_new (o := .tup [.non]) np9
        have k9 := k8.trans s9
        refine ⟨a, p9, zs0, [.non], rfl, rfl, Same.sqT k9 hx, SqT.of upd_same, szl (m := 2000000) (by show _ + 1 ≤ _; omega) (by omega), fun H10 p10 s10 h10 => ?_⟩
        have k10 := k9.trans s10
        refine ⟨.ref a, rfl, 1, rfl, -1, rfl, a, zs0, rfl, Same.sqT k10 hx, fun H11 p11 s11 h11 => ?_⟩
        have k11 := k10.trans s11
        refine ⟨sz (n := 7) (by decide), fun N nN => ?_⟩
        have ne1 := strm_ne s2.st nl1
        have aE : DvAll K Nw H11 zs0 ds := all.same k11
        have q10 := s10.trans s11
        have q9 := s9.trans q10
        have q8 := s8.trans q9
        have q7 := s7.trans q8
        have q6 := s6.trans q7
        have q5 := s5.trans q6
        have q4 := s4.trans q5
        refine more H11 _ [.list ds, .tuple (cutD ds (some 1) none), .tuple (ds ++ cutD ds (some (-1)) none), .tuple ds.reverse, .tuple [.tuple ds], .tuple (ds ++ [.none]), .tuple (cutD ds none (some (-1)))] N k11 ?_ (by show 7 ≤ 8; decide) nN ?_
        · refine .cons (.lst (SqL.of (q4 _ _ upd_same)) bl1 ((hw.keep s2.keep s2.st).f _ nl1) aE) (.cons (.tup (Same.sqT q5 h4) (aE.cut _ _)) (.cons (.tup (Same.sqT q7 h6) (aE.app (aE.cut _ _))) (.cons (.tup (SqT.of (q8 _ _ upd_same)) aE.rev)
            (.cons (.tup (SqT.of (q9 _ _ upd_same)) (.cons (.tup (Same.sqT k11 hx) aE) .nil)) (.cons (.tup (Same.sqT s11 h10) (aE.app (.cons .non .nil))) (.cons (.tup h11 (aE.cut _ _)) .nil))))))
        · intro e he
          simp only [List.mem_cons, List.not_mem_nil, or_false] at he
          rcases he with rfl | rfl | rfl | rfl | rfl | rfl | rfl
          · exact gM ga.list (by omega) (by omega)
          · exact gM (cutD_gd ga _ _).tuple (by omega) (by omega)
          · exact gM (ga.app (cutD_gd ga _ _)).tuple (by omega) (by omega)
          · exact gM ga.rev.tuple (by omega) (by omega)
          · exact gM (GdAll.cons gd GdAll.nil).tuple (by omega) (by omega)
          · exact gM (ga.app (GdAll.cons (gd_non.mono (Nat.le_refl _) (Nat.le_refl _) (Nat.zero_le _)) GdAll.nil)).tuple (by omega) (by omega)
          · exact gM (cutD_gd ga _ _).tuple (by omega) (by omega)
      | non => exact iteF ⟨_, rfl, _, .ty "str", _, _, _, rfl, .ty _, hty, kitS _, _, rfl, iteF ⟨_, rfl, _, .ty "int", _, _, _, rfl, .ty _, hty, kitI _, _, rfl, iteF no⟩⟩
      | lst _ _ _ _ => exact iteF ⟨_, rfl, _, .ty "str", _, _, _, rfl, .ty _, hty, kitS _, _, rfl, iteF ⟨_, rfl, _, .ty "int", _, _, _, rfl, .ty _, hty, kitI _, _, rfl, iteF no⟩⟩
      | dct kvs _ => exact iteF ⟨_, rfl, _, .ty "str", _, _, _, rfl, .ty _, hty, kitS _, _, rfl, iteF ⟨_, rfl, _, .ty "int", _, _, _, rfl, .ty _, hty, kitI _, _, rfl, iteF no⟩⟩
      | str x =>
        have hxl2 : 10 * x.length + 2 ≤ n := gd.z
        have ht : TxOk x := gd.f
        refine iteF ⟨_, rfl, _, .ty "str", _, _, _, rfl, .ty _, hty, kitS _, _, rfl, iteT ?_⟩
        refine ⟨.ref L, rfl, .str x, rfl, x, _, rfl, rfl, szl (m := 2000000) (by show _ + 1 ≤ _; omega) (by omega), .str x, rfl, 1, rfl, x, rfl, szl (m := 2000000) (by omega) (by omega), .str x, rfl, ⟨_, rfl⟩, x, rfl, rfl, by omega, .str x, rfl, x, _, rfl, rfl, szl (m := 2000000) (by show _ + 1 ≤ _; omega) (by omega), .str x, rfl, sz (n := 1) (by decide), fun p np bp => ⟨sz (n := 5) (by decide), fun N nN => ?_⟩⟩
        have c1 := same_new (o := .lst [.str x]) np
        have ne1 := strm_ne s2.st np
        refine more _ _ [.str (x ++ Str.ofString "x"), .str (cutS x (some 1) none), .str (Txt.upper x), .str (x ++ Str.ofString " "), .list [.str x]] N c1 ?_ (by show 5 ≤ 8; decide) nN ?_
        · exact .cons (.str _) (.cons (.str _) (.cons (.str _) (.cons (.str _) (.cons (.lst (SqL.of upd_same) bp ((hw.keep s2.keep s2.st).f _ np) (.cons (.str _) .nil)) .nil))))
        · intro e he
          simp only [List.mem_cons, List.not_mem_nil, or_false] at he
          rcases he with rfl | rfl | rfl | rfl | rfl
          · exact gM (gd_str (n := x.length + 1) (ht.app (TxOk.of _)) (by rw [str_app_len]; exact Nat.le_refl _)) (by omega) (by omega)
          · exact gM (gd_str (n := x.length) (ht.cut _ _) (cutS_length x _ _)) (by omega) (by omega)
          · exact gM (gd_str (n := 3 * x.length) ht.upper (PyProof.Rows.len_upper x)) (by omega) (by omega)
          · exact gM (gd_str (n := x.length + 1) (ht.app (TxOk.of _)) (by rw [str_app_len]; exact Nat.le_refl _)) (by omega) (by omega)
          · exact gM (GdAll.cons gd GdAll.nil).list (by omega) (by omega)
      | int i =>
        have hiM : i.natAbs ≤ M := gd.f
        have hM40 : M < 10 ^ 40 := Nat.lt_of_lt_of_le hM2 (by decide)
        have hlen := int_text_length_le10 (a := i) (k := 40) (by decide) (by omega)
        refine iteF ⟨_, rfl, _, .ty "str", _, _, _, rfl, .ty _, hty, kitS _, _, rfl, iteF ⟨_, rfl, _, .ty "int", _, _, _, rfl, .ty _, hty, kitI _, _, rfl, iteT ?_⟩⟩
        refine ⟨.ref L, rfl, .int i, rfl, .inl ⟨i, 1, rfl, rfl, .int i, rfl, .inl ⟨i, 1, rfl, rfl, 1, rfl, .int i, rfl, .inl ⟨i, rfl, log_int hM40 hiM, .int i, rfl, .inl ⟨rfl, sz (n := 6) (by decide), fun N nN => ?_⟩⟩⟩⟩⟩
        refine more H2 _ [.int (i + 1), .int (i - 1), .int 64, .int (-1), .str (Str.ofString (toString i)), .bool (decide (V.int i = V.int 1))] N (Same.refl _) ?_ (by show 6 ≤ 8; decide) nN ?_
        · exact .cons (.int _) (.cons (.int _) (.cons (.int _) (.cons (.int _) (.cons (.str _) (.cons (.bl _) .nil)))))
        · intro e he
          simp only [List.mem_cons, List.not_mem_nil, or_false] at he
          rcases he with rfl | rfl | rfl | rfl | rfl | rfl
          · exact (gd_int (M := M + 1) (by omega)).mono (Nat.le_refl _) (by omega) (by omega)
          · exact (gd_int (M := M + 1) (by omega)).mono (Nat.le_refl _) (by omega) (by omega)
          · exact gM (gd_int (i := 64) (by show 64 ≤ M; omega)) (by omega) (by omega)
          · exact gM (gd_int (i := -1) (by show 1 ≤ M; omega)) (by omega) (by omega)
          · exact gM (gd_str (n := 41) (TxOk.of _) (by rw [PySem.ofString_length]; exact hlen)) (by omega) (by omega)
          · exact gM (gd_bl _) (by omega) (by omega)
      | bl b =>
        refine iteF ⟨_, rfl, _, .ty "str", _, _, _, rfl, .ty _, hty, kitS _, _, rfl, iteF ⟨_, rfl, _, .ty "int", _, _, _, rfl, .ty _, hty, kitI _, _, rfl, iteT ?_⟩⟩
        refine ⟨.ref L, rfl, .bl b, rfl, .inr ⟨b, 1, rfl, rfl, .bl b, rfl, .inr ⟨b, 1, rfl, rfl, 1, rfl, .bl b, rfl, .inr ⟨b, rfl, .bl b, rfl, .inr ⟨b, 1, rfl, rfl, sz (n := 6) (by decide), fun N nN => ?_⟩⟩⟩⟩⟩
        refine more H2 _ [.int ((if b = true then (1 : Int) else 0) + 1), .int ((if b = true then (1 : Int) else 0) - 1), .int 64, .int (-1), .str (Str.ofString (if b = true then "True" else "False")), .bool ((if b = true then (1 : Int) else 0) == 1)] N (Same.refl _) ?_ (by show 6 ≤ 8; decide) nN ?_
        · exact .cons (.int _) (.cons (.int _) (.cons (.int _) (.cons (.int _) (.cons (.str _) (.cons (.bl _) .nil)))))
        · intro e he
          simp only [List.mem_cons, List.not_mem_nil, or_false] at he
          rcases he with rfl | rfl | rfl | rfl | rfl | rfl
          · exact (gd_int (M := M + 1) (by split <;> omega)).mono (Nat.le_refl _) (by omega) (by omega)
          · exact (gd_int (M := M + 1) (by split <;> omega)).mono (Nat.le_refl _) (by omega) (by omega)
          · exact gM (gd_int (i := 64) (by show 64 ≤ M; omega)) (by omega) (by omega)
          · exact gM (gd_int (i := -1) (by show 1 ≤ M; omega)) (by omega) (by omega)
          · exact gM (gd_str (n := 5) (TxOk.of _) (by cases b <;> decide)) (by omega) (by omega)
          · exact gM (gd_bl _) (by omega) (by omega)
    obtain ⟨L3, xs3, es3, t3, rfl, s3, hL3, nL31, nL32, allL3, l43, l203, gL3⟩ := mid3
    have hi3 := s3.hi
    exact ⟨.ref S.s, rfl, .ref L3, rfl, S, t3, L3, xs3, es3, Nw, rfl, hw.n, s3.st, by omega, hL3, nL31, nL32, allL3, by omega, by omega, fun H9 v9 d9 t9 s9 z9 m9 => q H9 v9 d9 t9 ((s3.trans s9).mono (by omega)) z9 (gL3 d9 m9)⟩
end
end XT
/-! a comprehension that draws data -/
namespace XT
open PySem PySem.Spec PyProof.Rows L2
section
variable {K : PySem.W.Frag} {g : TG} {tt : TT} {te : TE} {vs : List Nat} {σ : L2.St} {H1 : Hp} {D : Addr} {Qd : Hp → Prop} {S : Sm} {t0 : Int} {G : PyData → Prop} {d : Nat}
abbrev Nod (S : Sm) (D : Addr) : Addr → Prop := fun b => Nof S b ∧ b ≠ D
def TurnZ (K : PySem.W.Frag) (S : Sm) (D : Addr) (G : PyData → Prop) (d : Nat) (g : TG) (tt : TT) (te : TE) (vs : List Nat) (σ : L2.St) (x : V) (H : Hp) (t : Int) : Prop :=
  ∀ (R1 : Hp → Prop) (R2 : V → Hp → Prop), (∀ v e H4 t4, Step S H t H4 t4 d → Dv K (Nod S D) H4 v e → G e → R2 v H4) →
    g x (wipe σ vs) H fun σ2 H2 => wipe σ2 vs = wipe σ vs ∧ tt σ2 H2 fun b H3 => if b = true then te σ2 H3 R2 else R1 H3
def PvZ (K : PySem.W.Frag) (S : Sm) (G : PyData → Prop) (d : Nat) (H1 : Hp) (t0 : Int) (D : Addr) (i : Nat) (H : Hp) : Prop := ∃ (vs : List V) (ds : List PyData) (t : Int), Step S H1 t0 H t (d * i) ∧ H D = some (.lst vs) ∧ DvAll K (Nod S D) H vs ds ∧ (∀ e ∈ ds, G e) ∧ ds.length = i
theorem nod_ok {S : Sm} {H : Hp} {t : Int} {D : Addr} {o : HO} (st : Strm S H t) (hD : H D = some o) : NwOk S H (Nod S D) := ⟨fun _ h => h.1, fun b e => ⟨(nw_all st).f b e, fun z => by rw [z, hD] at e; cases e⟩⟩
theorem pvz_turn {i : Nat} {x : V} {H : Hp} (st0 : Strm S H1 t0) (nD : H1 D = none) (hi : i ≤ 1000) (h : PvZ K S G d H1 t0 D i H) (ht : ∀ t, Step S H1 t0 H t (d * i) → NwOk S H (Nod S D) → TurnZ K S D G d g tt te vs σ x H t) :
    g x (wipe σ vs) H fun σ2 H2 => wipe σ2 vs = wipe σ vs ∧ tt σ2 H2 fun b H3 =>
      if b = true then te σ2 H3 fun y H4 => ∃ acc, H4 D = some (.lst acc) ∧ acc.length < sizeLine ∧ PvZ K S G d H1 t0 D (i + 1) (upd H4 D (.lst (acc ++ [y]))) else PvZ K S G d H1 t0 D (i + 1) H3 := by
  obtain ⟨us, ds, t, stp, hD, hk, hg, hl⟩ := h
  have ok := nod_ok stp.st hD
  refine ht t stp ok _ _ (fun v e H4 t4 s4 hv he => ?_)
  have hD4 := s4.keep.mine st0 nD hD
  have hul := hk.len
  refine ⟨_, hD4, small64 (by omega), us ++ [v], ds ++ [e], t4, ?_, upd_same, ?_, ?_, by rw [List.length_append, hl]; rfl⟩
  · have z := stp.trans s4
    have nDs : D ≠ S.s := fun e => by obtain ⟨_, h⟩ := st0; rw [e, h.hs] at nD; cases nD
    have nDp : D ≠ S.p := fun e => by obtain ⟨_, h⟩ := st0; rw [e, h.hp] at nD; cases nD
    have nDq : D ≠ S.q := fun e => by obtain ⟨_, h⟩ := st0; rw [e, h.hq] at nD; cases nD
    refine ⟨fun b o n1 n2 e => ?_, strm_upd z.st nDs nDp nDq, z.lo, by have := z.hi; rw [Nat.mul_succ]; exact this⟩
    rw [upd_ne (ne_of_none e nD)]
    exact z.keep b o n1 n2 e
  · have a1 := (hk.keepN ok.n s4.keep stp.st).app (.cons hv .nil)
    exact DvAll.put hD4 (fun b hb => hb.2) a1
  · intro f hf
    rcases List.mem_append.mp hf with hf | hf
    · exact hg f hf
    · rw [List.mem_singleton.mp hf]; exact he
theorem lcz_range {n : Nat} (st0 : Strm S H1 t0) (nD : H1 D = none) (hn : n ≤ 1000) (ht : ∀ (i : Nat) H t, i < n → Step S H1 t0 H t (d * i) → NwOk S H (Nod S D) → TurnZ K S D G d g tt te vs σ (.int (0 + (i : Int))) H t) (hd : ∀ H, PvZ K S G d H1 t0 D n H → Qd H) :
    ∃ W : Nat → Nat → Hp → Prop, (∃ m, W 0 m (upd H1 D (.lst []))) ∧ ∀ i m H, W i m H →
      ((Itr 0 n).stop i H ∧ Qd H) ∨ ((Itr 0 n).go i H ∧ ∃ Nx : Hp → Prop, (∀ H', Nx H' → ∃ m', m' < m ∧ W (i + 1) m' H') ∧ ∀ x H', (Itr 0 n).yld i H x H' → g x (wipe σ vs) H' fun σ2 H2 => wipe σ2 vs = wipe σ vs ∧ tt σ2 H2 fun b H3 =>
        if b = true then te σ2 H3 fun y H4 => ∃ acc, H4 D = some (.lst acc) ∧ acc.length < sizeLine ∧ Nx (upd H4 D (.lst (acc ++ [y]))) else Nx H3) :=
  lc_range (lo := 0) (n := n) (fun i H => PvZ K S G d H1 t0 D i H) ⟨[], [], t0, ((Step.refl st0).same (same_new nD)).mono (Nat.zero_le _), upd_same, .nil, by simp, rfl⟩ (fun i H hi h => pvz_turn st0 nD (by omega) h fun t s o => ht i H t hi s o) hd
end
end XT
/-! int(a bool); a tuple once -/
namespace XT
open PySem PySem.Spec PyProof.Rows L2
section
variable {X : Cx}
theorem call_intB : CallR X (.type "int") (fun xs H Q => ∃ b, xs = [.bl b] ∧ Q (.int (if b = true then 1 else 0)) H) := by
  intro pins s σ H xs us Q I rs h
  obtain ⟨b, rfl, h⟩ := h
  cases rs with
  | cons r1 rs =>
    cases rs
    cases r1
    exact PySem.call_int_bool ⟨.int (if b = true then 1 else 0), H, I.tok _, ⟨_, rfl⟩, h⟩
theorem tuple_mul1 (l : Addr) (items : Array Value) (n : Nat) (dd : Option Addr) (sl : Array (Option Value)) (u : Tok) :
    Meets (Builtin.«tuple.__mul__» ⟨[.ref l, .int 1 u], []⟩) (fun _ R s => s.heap.get? l = some { cls := .type "tuple", dict := dd, data := .seq items n, slots := sl } ∧ R (.ok (.ret (Value.ref l))) s) :=
  .of_wp fun prog w A R s h => by
    obtain ⟨hp, g, d, tk, os⟩ := s
    obtain ⟨hl, h⟩ := h
    have f1 := AutoSeq1.idx_int
    wp_walk using wpAny_loadPart' hl
    exact ⟨_, rfl, h⟩
theorem op_rep1 : OpR X (binaryOp .Mult) (fun x y H Q => ∃ l xs, x = .ref l ∧ y = .int 1 ∧ SqT X.K H l xs ∧ Q (.ref l) H) := by
  intro pins s σ H x y v u Q I rx ry h
  obtain ⟨l, xs, rfl, rfl, hT, q⟩ := h
  cases rx
  obtain ⟨t, rfl⟩ := ry
  obtain ⟨its, r, ⟨⟨cls, dd, data, sl⟩, ho, hc, n, hd⟩, hs⟩ := I.tuple hT
  simp only at hc hd
  subst hc hd
  exact wpAny_binaryOp_repeat_ref (T := "tuple") (U := "int") (by decide) ⟨_, ho, rfl⟩ (fun s' => typeIs_int s' 1 t) noFill_tuple_mul F.fills_int_mul F.slot_int_rmul repeat_tuple F.slot_int_index.lookup
    (call_meets F.slot_int_rmul (typeIs_int s 1 t) F.entry_int_rmul (F.args_int_rmul_2 _ _) (int_rmul_tuple 1 t l its.toArray n dd sl)
      ⟨ho, rfl, ⟨_, ho, rfl⟩, call_meets F.slot_tuple_mul ⟨_, ho, rfl⟩ F.entry_tuple_mul (F.args_tuple_mul_2 _ _) (tuple_mul1 l its.toArray n dd sl t) ⟨ho, ⟨.ref l, H, I, rfl, q⟩⟩⟩)
/-- xs == [], xs != [], a list of any things -/
def rEqEL (K : PySem.W.Frag) : R2 := fun x y H Q => ∃ (a b : Addr) (xs : List V), x = .ref a ∧ y = .ref b ∧ SqL K H a xs ∧ SqL K H b [] ∧ Q (.bl xs.isEmpty) H
def rNeEL (K : PySem.W.Frag) : R2 := fun x y H Q => ∃ (a b : Addr) (xs : List V), x = .ref a ∧ y = .ref b ∧ SqL K H a xs ∧ SqL K H b [] ∧ Q (.bl (!xs.isEmpty)) H
theorem op_eqEL (hu : X.A.units < cLine) : OpR X (compareOp .Eq) (rEqEL X.K) := by
  intro pins s σ H x y v u Q I rx ry h
  obtain ⟨a, b, xs, rfl, rfl, ha, hb, q⟩ := h
  cases rx
  cases ry
  obtain ⟨its, r1, p1, _⟩ := I.list ha
  obtain ⟨its2, r2, p2, _⟩ := I.list hb
  cases r2
  cases r1 with
  | nil => exact SeqAt.RcAt.lists (e := fun _ => true) p1.isList p2.isList rfl hu (fun j h1 h2 => absurd h2 (Nat.not_lt_zero _)) X.prog X.w _ _ ⟨.bl true, H, I, rfl, q⟩
  | cons _ _ => exact SeqAt.RcAt.lists_lengths p1.isList p2.isList (by simp) hu X.prog X.w _ _ ⟨.bl false, H, I, rfl, q⟩
theorem op_neEL (hu : X.A.units < cLine) : OpR X (compareOp .NotEq) (rNeEL X.K) := by
  intro pins s σ H x y v u Q I rx ry h
  obtain ⟨a, b, xs, rfl, rfl, ha, hb, q⟩ := h
  cases rx
  cases ry
  obtain ⟨its, r1, p1, _⟩ := I.list ha
  obtain ⟨its2, r2, p2, _⟩ := I.list hb
  cases r2
  cases r1 with
  | nil => exact SeqAt.RcNeAt.lists (e := fun _ => true) p1.isList p2.isList rfl hu (fun j h1 h2 => absurd h2 (Nat.not_lt_zero _)) X.prog X.w _ _ ⟨.bl false, H, I, rfl, q⟩
  | cons _ _ => exact SeqAt.RcNeAt.lists_lengths p1.isList p2.isList (by simp) hu X.prog X.w _ _ ⟨.bl true, H, I, rfl, q⟩
end
end XT
/-! _law_is_int, _law_is_lot, where they hold -/
namespace XT
open PySem PySem.Spec PyProof.Rows L2
section
variable {P : Program} {w : World} {K : PySem.W.Frag} {mg : Str → Option Value} {base : Heap}
abbrev nIi : List Str := ["_law_value", "_law_low", "_law_high"]
theorem scIi : FnScope nIi ["_law_value", "_law_low", "_law_high"] (defScope sLIsInt) := ⟨rfl, rfl, rfl, by decide +kernel, rfl, by decide +kernel, by decide +kernel⟩
def spIi : Sp := fun vs H Q _ => ∃ i lo hi : Int, vs = [.int i, .int lo, .int hi] ∧ lo ≤ i ∧ i ≤ hi ∧ Q (.bl true) H
theorem ok_ii {f : Addr} {fd : FuncData} {k : Nat} (B : Bl mg) (F : Fun K "_law_is_int" "_law_is_int" sLIsInt f fd) : FnOk P w K mg base CX0 (k + 1) f fd ["_law_value", "_law_low", "_law_high"] spIi := by
  refine F.ok scIi (fun vs H Q E h => ?_) (fun cdv A outer s H vs Q E hr h => ?_)
  · obtain ⟨i, lo, hi, rfl, _⟩ := h
    rfl
  · obtain ⟨i, lo, hi, rfl, h1, h2, q⟩ := h
    refine ⟨_, pss_one (ps_ret (pe_and (pe_callB call_isi (by rfl) B.isinstance bI (pa_cons (pv 0) (pa_cons (pe_bltn (v := .ty "int") (by rfl) B.int bInt rfl) pa_nil))) (pe_and (pe_not (pe_callB call_isi (by rfl) B.isinstance bI (pa_cons (pv 0) (pa_cons (pe_bltn (v := .ty "bool") (by rfl) B.bool bBool rfl) pa_nil)))) (pe_one (pe_chain op_le op_le (pv 1) (pv 0) (pv 2)))))), ?_⟩
    refine ⟨.int i, rfl, .int i, .ty "int", _, _, true, rfl, .ty _, .base (.int i), kit_ty (by decide +kernel), true, rfl, iteT ?_⟩
    refine ⟨.int i, rfl, .int i, .ty "bool", _, _, false, rfl, .ty _, .base (.int i), kit_ty (by decide +kernel), false, rfl, true, rfl, iteT ?_⟩
    refine ⟨.int lo, rfl, .int i, rfl, lo, i, rfl, rfl, true, congrArg V.bl (decide_eq_true h1), iteT ⟨.int hi, rfl, i, hi, rfl, rfl, ?_⟩⟩
    show Q (.bl (decide (i ≤ hi))) H
    rw [decide_eq_true h2]
    exact q
theorem lot_asc {n : Nat} {p : Nat → Bool} {i : Nat} (h : i + 1 < (lotOf n p).length) : (lotOf n p)[i]'(by omega) < (lotOf n p)[i + 1] := by
  have h2 : (lotOf n p).Pairwise (· < ·) := by
    unfold lotOf
    exact List.Pairwise.filter _ List.pairwise_lt_range
  exact List.pairwise_iff_getElem.mp h2 i (i + 1) (by omega) h (by omega)
abbrev nIl : List Str := ["_law_value", "_law_mask", "_law_k"]
theorem scIl : FnScope nIl ["_law_value"] (defScope sLIsLot) := ⟨rfl, rfl, rfl, by decide +kernel, rfl, by decide +kernel, by decide +kernel⟩
def spIl : Sp := fun vs H Q _ => ∃ (v : V) (n : Nat) (p : Nat → Bool), vs = [v] ∧ LotAt H v n p ∧ 1 ≤ n ∧ n ≤ 6 ∧ ∀ H', Same H H' → Q (.bl true) H'
theorem ok_il {f : Addr} {fd : FuncData} {k : Nat} (B : Bl mg) (F : Fun K "_law_is_lot" "_law_is_lot" sLIsLot f fd) (dI : DefR P w K mg base 1 "_law_is_int" spIi) : FnOk P w K mg base CX0 (k + 2) f fd ["_law_value"] spIl := by
  refine F.ok scIl (fun vs H Q E h => ?_) (fun cdv A outer s H vs Q E hr h => ?_)
  · obtain ⟨v, n, p, rfl, _⟩ := h
    rfl
  · obtain ⟨v, n, p, rfl, ⟨x, y, rfl, hx, hy⟩, hn1, hn, q⟩ := h
    have h6 := pow6 hn
    have hl := lot_len hn p
    have hr1 := hr.mono (show 1 ≤ k + 1 by omega)
    refine ⟨_, pss_cons (ps_if (PW.pt (pw_or (pt_not (pt_val (pe_callB call_isi (by rfl) B.isinstance bI (pa_cons (pv 0) (pa_cons (pe_bltn (v := .ty "tuple") (by rfl) B.tuple bT rfl) pa_nil))))) (pw_or (pt_cmpR op_ne (pe_callB call_len_seq (by rfl) B.len PySem.boot_len (pa_cons (pv 0) pa_nil)) pe_int (nomark _)) (pw_or1 (pt_not (pt_val (pe_def dI hr1 (by rfl) (pa_cons (pe_ix ix_tup (pv 0) pe_int (fun _ _ => rfl)) (pa_cons pe_int (pa_cons pe_int pa_nil)))))))))) pss_never pss_nil)
      (pss_cons (ps_if (pt_not (pt_val (pe_callB call_isi (by rfl) B.isinstance bI (pa_cons (pe_ix ix_tup (pv 0) pe_int (fun _ _ => rfl)) (pa_cons (pe_bltn (v := .ty "tuple") (by rfl) B.tuple bT rfl) pa_nil))))) pss_never pss_nil)
      (pss_cons (ps_if (pt_cmpR (op_neD hr.units) (pe_lc (own := [("_law_mask", 1)]) (g := gName 1) (tt := (tNot (tB (tDf spIi (tCons (tVar 1) (tCons (tC (.int 0)) (tCons (tOp (rI0 fun i j => .int (i - j)) (tOp (rI CPow fun i j => .int (i * 2 ^ j.toNat)) (tC (.int 1)) (tOp (rIxT K) (tVar 0) (tC (.int 0)))) (tC (.int 1))) tNil))))))) (te := (tVar 1)) rfl scIl.nd (pi_tup (pe_ix ix_tup (pv 0) pe_int (fun _ _ => rfl))) (blkOk_by (own := [("_law_mask", 1)]) (N := nIl) (sc := defScope sLIsLot) (by decide +kernel))
          (fun _ _ _ _ _ => pg_name (i := 1) scIl.nd rfl (Or.inl rfl)) (fun _ _ _ _ _ => pts_one (pt_not (pt_val (pe_def dI hr1 (by rfl) (pa_cons (pv 1) (pa_cons pe_int (pa_cons (pe_op op_sub (pe_op op_shl pe_int (pe_ix ix_tup (pv 0) pe_int (fun _ _ => rfl))) pe_int) pa_nil))))))) (fun _ _ _ _ _ => pv 1)) (pe_lst pa_nil) (nomark _)) pss_never pss_nil)
      (pss_one (ps_ret (pe_cmpR (op_eqD hr.units) (pe_lc (own := [("_law_k", 2)]) (g := gName 2) (tt := (tTest (tOp (rI0 fun i j => .bl (decide (j ≤ i))) (tOp (rIxT K) (tOp (rIxT K) (tVar 0) (tC (.int 1))) (tOp (rI0 fun i j => .int (i - j)) (tVar 2) (tC (.int 1)))) (tOp (rIxT K) (tOp (rIxT K) (tVar 0) (tC (.int 1))) (tVar 2))))) (te := (tVar 2)) rfl scIl.nd (pi_range2 (by rfl) B.range (pa_cons pe_int (pa_cons (pe_callB call_len_seq (by rfl) B.len PySem.boot_len (pa_cons (pe_ix ix_tup (pv 0) pe_int (fun _ _ => rfl)) pa_nil)) pa_nil))) (blkOk_by (own := [("_law_k", 2)]) (N := nIl) (sc := defScope sLIsLot) (by decide +kernel))
          (fun _ _ _ _ _ => pg_name (i := 2) scIl.nd rfl (Or.inl rfl)) (fun _ _ _ _ _ => pts_one (pt_cmpR op_ge (pe_ix ix_tup (pe_ix ix_tup (pv 0) pe_int (fun _ _ => rfl)) (pe_op op_sub (pv 2) pe_int) (fun _ _ => rfl)) (pe_ix ix_tup (pe_ix ix_tup (pv 0) pe_int (fun _ _ => rfl)) (pv 2) (fun _ _ => rfl)) (nomark _))) (fun _ _ _ _ _ => pv 2)) (pe_lst pa_nil) (nomark _)))))), ?_⟩
    refine ⟨.ref x, rfl, .ref x, .ty "tuple", _, _, true, rfl, .ty _, .base (.tup hx), kit_ty (by decide +kernel), true, rfl, iteF ?_⟩
    refine ⟨.ref x, rfl, x, _, rfl, .inr (SqT.of hx), rfl, _, rfl, iteNS rfl ?_⟩
    refine ⟨.ref x, rfl, x, _, 0, .int n, rfl, rfl, SqT.of hx, rfl, n, 1, 6, rfl, by omega, by omega, true, rfl, iteF ?_⟩
    refine ⟨.ref x, rfl, x, _, 1, .ref y, rfl, rfl, SqT.of hx, rfl, .ref y, .ty "tuple", _, _, true, rfl, .ty _, .base (.tup hy), kit_ty (by decide +kernel), true, rfl, iteF ?_⟩
    refine ⟨.ref x, rfl, x, _, 1, .ref y, rfl, rfl, SqT.of hx, rfl, y, rfl, ⟨_, SqT.of hy⟩, fun D nD => ?_⟩
    refine lcp_tup (p := fun _ => false) (f := id) nD (SqT.of hy) (small64 (by rw [vm_len]; omega)) (fun i z H2 hz s2 => ?_) (fun H2 s2 hD => ?_)
    · intro R1 R2 h1 h2
      obtain ⟨m, hm, rfl⟩ := mem_vm hz
      have hm2 := (mem_lot.mp (List.mem_of_getElem? hm)).1
      refine ⟨rfl, _, rfl, .ref x, rfl, x, _, 0, .int n, rfl, rfl, SqT.of (s2 _ _ hx), rfl, 1, n, rfl, rfl, cpow hn, _, 1, rfl, rfl, m, 0, _, rfl, by omega, ?_, true, rfl, iteF (h1 rfl _ (Same.refl _))⟩
      show (m : Int) ≤ (1 : Int) * 2 ^ ((n : Int).toNat) - 1
      rw [shl1]
      omega
    have eD : H2 D = some (.lst []) := by
      rw [hD]
      simp
    refine ⟨sz (n := 0) (by decide), fun Z nZ => ne_lstN (ms := []) (ks := []) ⟨D, rfl, same_new nZ _ _ eD⟩ ⟨Z, rfl, upd_same⟩ ⟨_, rfl, iteNS rfl ?_⟩⟩
    have sZ := s2.trans (same_new (o := .lst []) nZ)
    have hx3 := sZ _ _ hx
    have hy3 := sZ _ _ hy
    refine ⟨.ref x, rfl, x, _, 1, .ref y, rfl, rfl, SqT.of hx3, rfl, y, _, rfl, .inr (SqT.of hy3), 1, _, rfl, ⟨by decide, by decide, by rw [vm_len]; omega, by rw [vm_len]; omega⟩, fun C nC => ?_⟩
    refine lc_range (lo := 1) (fun i H' => PvP (upd H2 Z (.lst [])) C [] H') ⟨same_new nC, upd_same⟩ (fun i H3 hi h => ?_) (fun H3 h => ?_)
    · rw [vm_len] at hi
      have hi2 : i + 1 < (lotOf n p).length := by omega
      have hx4 := h.1 _ _ hx3
      have hy4 := h.1 _ _ hy3
      have g0 : (vm (lotOf n p))[i]? = some (.int (((lotOf n p)[i]'(by omega) : Nat) : Int)) := by
        unfold vm; rw [List.getElem?_map, List.getElem?_eq_getElem (by omega)]; rfl
      have g1 : (vm (lotOf n p))[i + 1]? = some (.int (((lotOf n p)[i + 1] : Nat) : Int)) := by
        unfold vm; rw [List.getElem?_map, List.getElem?_eq_getElem hi2]; rfl
      have asc := lot_asc hi2
      refine ⟨rfl, .ref x, rfl, x, _, 1, .ref y, rfl, rfl, SqT.of hx4, rfl, .int (1 + (i : Int)), rfl, 1 + (i : Int), 1, rfl, rfl, y, _, i, _, rfl, congrArg V.int (by omega), SqT.of hy4, atI_nat g0, .ref x, rfl, x, _, 1, .ref y, rfl, rfl, SqT.of hx4, rfl, .int (1 + (i : Int)), rfl, y, _, (i + 1 : Nat), _, rfl, congrArg V.int (by omega), SqT.of hy4, atI_nat g1, _, _, rfl, rfl, _, rfl, ?_⟩
      rw [decide_eq_false (by omega)]
      exact iteF h
    · refine ⟨sz (n := 0) (by decide), fun Y nY => eq_lstN (ms := []) (ks := []) ⟨C, rfl, same_new nY _ _ h.2⟩ ⟨Y, rfl, upd_same⟩ (q _ ((sZ.trans h.1).trans (same_new nY)))⟩
end
end XT
namespace XT
open PySem PySem.Spec PyProof.Rows L2
section
variable {P : Program} {w : World} {K : PySem.W.Frag} {mg : Str → Option Value} {base : Heap}
abbrev nLs : List Str := ["_law_lot", "_law_width", "_law_masks", "_law_u", "_law_x"]
theorem scLs : FnScope nLs ["_law_lot"] (defScope sLSigned) := ⟨rfl, rfl, rfl, by decide +kernel, rfl, by decide +kernel, by decide +kernel⟩
def outLs : Scope := match (defBody sLSigned).getD 1 (.Pass ⟨0, 0, 0, 0⟩) with
  | .Return (some (.Call _ [.ListComp _ _ sc _] _ _)) _ => sc
  | _ => defScope sLSigned
theorem ok_Ls {f : Addr} {fd : FuncData} {k : Nat} (B : Bl mg) (mS : mg "sum" = none) (F : Fun K "_law_signed" "_law_signed" sLSigned f fd) (dS : DefR P w K mg base 2 "_law_sign" spSgn) : FnOk P w K mg base CX0 (k + 3) f fd ["_law_lot"] spSc := by
  refine F.ok scLs (fun vs H Q E h => ?_) (fun cdv A outer s H vs Q E hr h => ?_)
  · obtain ⟨v, n, p, rfl, _⟩ := h
    rfl
  · obtain ⟨v, n, p, rfl, ⟨x, y, rfl, hx, hy⟩, hn, q⟩ := h
    refine ⟨_, pss_cons (ps_asg (pv 0) (pg_tup rfl (pgs_cons (pg_name (i := 1) scLs.nd rfl (by first | exact Or.inl rfl | exact Or.inr rfl)) (pgs_cons (pg_name (i := 2) scLs.nd rfl (by first | exact Or.inl rfl | exact Or.inr rfl)) pgs_nil))))
      (pss_one (ps_ret (pe_callTy call_tuple_of (by rfl) B.tuple bT (pa_cons
        (pe_lc (own := [("_law_u", 3)]) (g := gName 3) (tt := tYes) (te := teSc K)
          rfl scLs.nd (pi_range1 (by rfl) B.range (pa_cons (pe_op op_shl pe_int (pv 1)) pa_nil))
          (blkOk_by (own := [("_law_u", 3)]) (N := nLs) (sc := defScope sLSigned) (by decide +kernel))
          (fun _ _ _ _ _ => pg_name (i := 3) scLs.nd rfl (Or.inr rfl)) (fun _ _ _ _ _ => pts_nil)
          (fun _ _ _ _ _ => pe_callB (cr_sum rfl) (by rfl) mS bSum (pa_cons
            (pe_lc (own := [("_law_x", 4)]) (g := gName 4) (tt := tYes) (te := tDf spSgn (tCons (tVar 3) (tCons (tVar 4) tNil))) rfl scLs.nd (pi_tup (pv 2))
              (blkOk_by (own := [("_law_x", 4)]) (N := nLs) (sc := relS outLs (defScope sLSigned)) (by decide +kernel))
              (fun _ _ _ _ _ => pg_name (i := 4) scLs.nd rfl (Or.inl rfl)) (fun _ _ _ _ _ => pts_nil) (fun _ _ _ _ _ => pe_def dS (hr.mono (by omega)) (by rfl) (pa_cons (pv 3) (pa_cons (pv 4) pa_nil)))) pa_nil))) pa_nil)))), ?_⟩
    refine ⟨.ref x, rfl, x, _, rfl, SqT.of hx, rfl, _, _, rfl, _, _, rfl, rfl, ?_⟩
    refine ⟨.int n, rfl, 1, n, rfl, rfl, cpow hn, ((2 ^ n : Nat) : Int), congrArg (fun z => [V.int z]) (shl1 n), l62, r62 hn, fun D nD => ?_⟩
    exact sc_walk hn hy nD (fun H3 s3 hD => ⟨D, _, rfl, .inl ⟨SqL.of hD, fun L nL => q _ _ (s3.trans (same_new nL)) ⟨L, rfl, upd_same⟩⟩⟩)
end
end XT
/-! the law's own sign -/
namespace XT
open PySem PySem.Spec PyProof.Rows L2
section
variable {P : Program} {w : World} {K : PySem.W.Frag} {mg : Str → Option Value} {base : Heap}
theorem scLg : FnScope ["_law_one", "_law_other", "_law_found"] ["_law_one", "_law_other"] (defScope sLSign) := ⟨rfl, rfl, rfl, by decide +kernel, rfl, by decide +kernel, by decide +kernel⟩
theorem ok_lsign {f : Addr} {fd : FuncData} {k : Nat} (F : Fun K "_law_sign" "_law_sign" sLSign f fd) : FnOk P w K mg base CX0 (k + 1) f fd ["_law_one", "_law_other"] spSgn := by
  refine F.ok scLg (fun vs H Q E h => ?_) (fun cdv A outer s H vs Q E hr h => ?_)
  · obtain ⟨a, b, rfl, _⟩ := h
    rfl
  · obtain ⟨a, b, rfl, ha, hb, q⟩ := h
    refine ⟨_, pss_cons (ps_set (i := 2) scLg.nd rfl (by first | exact Or.inl rfl | exact Or.inr rfl) pe_int)
      (pss_cons (ps_while PassesOwn.never (PW.pt (pw_and (pt_cmpR op_gt (pv 0) pe_int (nomark _)) (pw_and1 (pt_cmpR op_gt (pv 1) pe_int (nomark _)))))
        (C8.pss_cut (ps_if (PW.pt (pw_and (pt_cmpR op_eq (pe_op op_mod (pv 0) pe_int) pe_int (nomark _)) (pw_and1 (pt_cmpR op_eq (pe_op op_mod (pv 1) pe_int) pe_int (nomark _)))))
            (pss_one (ps_set (i := 2) scLg.nd rfl (by first | exact Or.inl rfl | exact Or.inr rfl) (pe_op op_sub pe_int (pv 2)))) pss_nil)
        (pss_one (ps_par (i := 0) (j := 1) (by rfl) scLg.nd rfl rfl (by decide) rfl rfl (pa_cons (pe_op op_fdiv (pv 0) pe_int) (pa_cons (pe_op op_fdiv (pv 1) pe_int) pa_nil)) (by rfl)))))
      (pss_one (ps_ret (pv 2)))), ?_⟩
    refine ⟨fun m σ H1 => ∃ (x y : Nat) (c : Int), σ = [some (.int (x : Int)), some (.int (y : Int)), some (.int c)] ∧ m = x ∧ H1 = H ∧ c * sgn x y = sgn a b, ⟨a, a, b, 1, rfl, rfl, rfl, Int.one_mul _⟩, ?_⟩
    rintro m σ H1 ⟨x, y, c, rfl, hm, eH, hc⟩
    subst eH
    have c2 : (0 : Int) < 2 := by decide
    refine ⟨.int x, rfl, (x : Int), 0, rfl, rfl, _, rfl, ite2 (fun hx => ?_) (fun hx => iteF ?_)⟩
    · have hx : 0 < x := by have := of_decide_eq_true hx; omega
      refine ⟨.int y, rfl, (y : Int), 0, rfl, rfl, _, rfl, ite2 (fun hy => ?_) (fun hy => ?_)⟩
      · have hy : 0 < y := by have := of_decide_eq_true hy; omega
        refine ⟨fun σ' H' => ∃ (x' y' : Nat) (c : Int), σ' = [some (.int (x' : Int)), some (.int (y' : Int)), some (.int c)] ∧ x' = x / 2 ∧ H' = H1 ∧ c * sgn x' y' = sgn a b, ?_, ?_⟩
        · rintro σ' H' ⟨x', y', c', rfl, rfl, rfl, h⟩
          exact ⟨x / 2, by omega, x / 2, y', c', rfl, rfl, rfl, h⟩
        · have st := sgn_step x y
          refine ⟨fun σ' H' => ∃ c' : Int, σ' = [some (.int (x : Int)), some (.int (y : Int)), some (.int c')] ∧ H' = H1 ∧ c' * sgn (x / 2) (y / 2) = sgn a b, ?_, ?_⟩
          · refine ⟨.int x, rfl, (x : Int), 2, rfl, rfl, c2, rfl, _, rfl, ite2 (fun e1 => ?_) (fun e1 => iteF ?_)⟩
            · have e1 := V.int.inj (of_decide_eq_true e1)
              refine ⟨.int y, rfl, (y : Int), 2, rfl, rfl, c2, rfl, _, rfl, ite2 (fun e2 => ?_) (fun e2 => ?_)⟩
              · have e2 := V.int.inj (of_decide_eq_true e2)
                refine ⟨.int c, rfl, 0, c, rfl, rfl, 0 - c, rfl, rfl, ?_⟩
                rw [if_pos ⟨by omega, by omega⟩] at st
                rw [← hc, st, Int.zero_sub, Int.neg_mul, Int.neg_one_mul, Int.mul_neg]
              · have e2 : ¬((y : Int) % 2 = 1) := fun z => e2 (decide_eq_true (congrArg V.int z))
                refine ⟨c, rfl, rfl, ?_⟩
                rw [if_neg (by omega), Int.one_mul] at st
                rw [← hc, st]
            · have e1 : ¬((x : Int) % 2 = 1) := fun z => e1 (decide_eq_true (congrArg V.int z))
              refine ⟨c, rfl, rfl, ?_⟩
              rw [if_neg (by omega), Int.one_mul] at st
              rw [← hc, st]
          · rintro σ' H' ⟨c', rfl, rfl, h⟩
            refine ⟨.int x, rfl, (x : Int), 2, rfl, rfl, ⟨c2, by decide⟩, .int y, rfl, (y : Int), 2, rfl, rfl, ⟨c2, by decide⟩, _, _, rfl, ?_⟩
            exact ⟨x / 2, y / 2, c', rfl, rfl, rfl, h⟩
      · have hy : y = 0 := by
          have : ¬((0 : Int) < (y : Int)) := fun z => hy (decide_eq_true z)
          omega
        subst hy
        rw [sgn_zeroR, Int.mul_one] at hc
        refine ⟨.int c, rfl, ?_⟩
        rw [hc]
        exact q _ (Same.refl _)
    · have hx : x = 0 := by
        have : ¬((0 : Int) < (x : Int)) := fun z => hx (decide_eq_true z)
        omega
      subst hx
      rw [sgn_zeroL, Int.mul_one] at hc
      refine ⟨.int c, rfl, ?_⟩
      rw [hc]
      exact q _ (Same.refl _)
end
end XT
namespace XT
open PySem PySem.Spec PyProof.Rows L2

theorem scSt : FnScope ["_law_script", "_law_cells", "_law_cell"] ["_law_script"] (defScope sStream) := ⟨rfl, rfl, rfl, by decide +kernel, rfl, by decide +kernel, by decide +kernel⟩
section
variable {P : Program} {w : World} {K : PySem.W.Frag} {mg : Str → Option Value} {base : Heap}
theorem ok_stream {f : Addr} {fd : FuncData} {k : Nat} (F : Fun K "_law_stream" "_law_stream" sStream f fd) (ml : mg "len" = none) (ma : mg "abs" = none) : FnOk P w K mg base CX0 (k + 1) f fd ["_law_script"] (spStream K) := by
  refine F.ok scSt (fun vs H Q E h => ?_) (fun cdv A outer s H vs Q E hr h => ?_)
  · obtain ⟨a, ns, rfl, _⟩ := h
    rfl
  · obtain ⟨a, ns, rfl, hA, hlen, q⟩ := h
    refine ⟨_, pss_cons (ps_setLc (i := 1) (own := [("_law_cell", 2)]) (g := gName 2) (tt := tYes) rfl scSt.nd rfl rfl (sw_true rfl rfl rfl (by decide +kernel)) (pi_list (pv 0)) (blkOk_by (own := [("_law_cell", 2)]) (N := ["_law_script", "_law_cells", "_law_cell"]) (sc := defScope sStream) (by decide +kernel))
          (fun _ _ _ _ _ => pg_name (i := 2) scSt.nd rfl (Or.inl rfl)) (fun _ _ _ _ _ => pts_nil) (fun _ _ _ _ _ => pe_callB call_abs (by rfl) ma (by decide +kernel) (pa_cons (pv 2) pa_nil)))
        (pss_one (ps_ret (pe_lst (pa_cons
          (pe_lc (own := [("_law_cell", 2)]) (g := gName 2) rfl scSt.nd (pi_list (pv 1)) (blkOk_by (own := [("_law_cell", 2)]) (N := ["_law_script", "_law_cells", "_law_cell"]) (sc := defScope sStream) (by decide +kernel))
            (fun _ _ _ _ _ => pg_name (i := 2) scSt.nd rfl (Or.inl rfl)) (fun _ _ _ _ _ => pts_one (pt_cmpR op_ge (pv 2) (pe_op op_pow pe_int pe_int) (nomark _))) (fun _ _ _ _ _ => pv 2))
          (pa_cons (pe_op op_cat (pv 1) (pe_lst (pa_cons (pe_op op_add (pe_callB call_len_seq (by rfl) ml PySem.boot_len (pa_cons (pv 1) pa_nil)) pe_int) pa_nil)))
          (pa_cons pe_int pa_nil)))))), ?_⟩
    have hml : (ns.map V.int).length ≤ 63 := by rw [List.length_map]; exact hlen
    refine ⟨.ref a, rfl, a, rfl, ⟨_, hA⟩, fun D nD => lcp_list (p := fun _ => true) (f := fun v => match v with | .int i => .int (ab i) | v => v) nD hA (small64 (by omega)) (fun i x H3 hx sm => ?_) (fun H3 sm hD => ?_)⟩
    · intro R1 R2 h1 h2
      rw [List.getElem?_map] at hx
      obtain ⟨n, -, rfl⟩ := Option.map_eq_some_iff.mp hx
      exact ⟨rfl, iteT (B := R1 H3) ⟨_, rfl, n, rfl, h2 rfl _ (Same.refl _)⟩⟩
    · -- cells
      obtain ⟨cs, hcs, hcl⟩ : ∃ cs : List Int, (((ns.map V.int).filter fun _ => true).map fun v => match v with | .int i => V.int (ab i) | v => v) = cs.map V.int ∧ cs.length = ns.length := by
        refine ⟨ns.map ab, ?_, List.length_map _⟩
        rw [List.filter_eq_self.mpr (fun _ _ => rfl), List.map_map, List.map_map]
        rfl
      rw [hcs] at hD
      have hDl : (cs.map V.int).length ≤ 63 := by rw [List.length_map]; omega
      refine ⟨.ref D, rfl, D, rfl, ⟨_, SqL.of hD⟩, fun B nB => lcp_list (p := fun v => match v with | .int i => decide (10 ^ 18 ≤ i) | _ => false) (f := id) nB (SqL.of hD) (small64 (by omega)) (fun i x H4 hx sm4 => ?_) (fun H4 sm4 hB => ?_)⟩
      · intro R1 R2 h1 h2
        rw [List.getElem?_map] at hx
        obtain ⟨n, -, rfl⟩ := Option.map_eq_some_iff.mp hx
        refine ⟨rfl, _, rfl, 10, 18, rfl, rfl, ⟨by decide, by decide, by decide⟩, n, _, rfl, rfl, _, rfl, ite2 (fun e => ?_) (fun e => ?_)⟩
        · exact ⟨_, rfl, h2 e _ (Same.refl _)⟩
        · exact h1 (by simpa using e) _ (Same.refl _)
      · have hD4 := sm4 _ _ hD
        obtain ⟨big, hbig⟩ : ∃ big : List Int, (((cs.map V.int).filter fun v => match v with | .int i => decide (10 ^ 18 ≤ i) | _ => false).map id) = big.map V.int := by
          refine ⟨cs.filter fun i => decide (10 ^ 18 ≤ i), ?_⟩
          rw [List.map_id, List.filter_map]
          rfl
        rw [hbig] at hB
        refine ⟨.ref D, rfl, .ref D, rfl, D, _, rfl, .inl (SqL.of hD4), _, _, rfl, rfl, sz (n := 1) (by decide), fun L nL => ?_⟩
        have s5 : Same H4 (upd H4 L (.lst [.int (((cs.map V.int).length : Nat) + 37)])) := same_new nL
        refine ⟨D, L, _, _, rfl, rfl, s5 _ _ hD4, upd_same, ?_, fun C nC => ?_⟩
        · rw [sizeLine_eq]; simp only [List.length_map, List.length_cons, List.length_nil]; omega
        · have s6 := same_new (o := .lst (cs.map V.int ++ [.int (((cs.map V.int).length : Nat) + 37)])) nC
          refine ⟨sz (n := 3) (by decide), fun G nG => ?_⟩
          have s7 := same_new (o := .lst [V.ref B, .ref C, .int 0]) nG
          have hBC : B ≠ C := ne_of_none (s5 _ _ hB) nC
          refine q _ ⟨G, B, C, cs ++ [(((cs.map V.int).length : Nat) : Int) + 37]⟩ (((sm.trans sm4).trans (s5.trans s6)).trans s7) ⟨big, upd_same, s7 _ _ (s6 _ _ (s5 _ _ hB)), s7 _ _ ?_, ?_, ?_, hBC, ?_, Int.le_refl _⟩
          · rw [upd_same, List.map_append]; rfl
          · exact (ne_of_none (s6 _ _ (s5 _ _ hB)) nG).symm
          · exact (ne_of_none (show (upd _ C _) C = some _ from upd_same) nG).symm
          · show 0 < (cs ++ _).length
            rw [List.length_append]; exact Nat.succ_pos _
end
end XT
namespace XT
open PySem PySem.Spec PyProof.Rows L2
abbrev nDn : List Str := ["_law_stream_here", "_law_most", "_law_width", "_law_way", "_law_count", "_law_masks", "_law_k", "_law_turn", "_law_out", "_law_mask"]
theorem scDn : FnScope nDn ["_law_stream_here", "_law_most"] (defScope sDrawn) := ⟨rfl, rfl, rfl, by decide +kernel, rfl, by decide +kernel, by decide +kernel⟩
section
variable {P : Program} {w : World} {K : PySem.W.Frag} {mg : Str → Option Value} {base : Heap}
def spDrawn : Sp := fun vs H Q _ => ∃ (S : Sm) (t : Int) (most : Nat), vs = [.ref S.s, .int (most : Int)] ∧ Strm S H t ∧ 1 ≤ most ∧ most ≤ 6 ∧ t < 10000000 ∧
  ∀ (H' : Hp) (r : V) (n : Nat) (p : Nat → Bool) (t' : Int), Step S H t H' t' 300 → 1 ≤ n → n ≤ most → LotAt H' r n p → Q r H'
/-- the masks so far -/
def MidD (S : Sm) (H : Hp) (t : Int) (most n way B : Nat) (σ : L2.St) (H' : Hp) : Prop := ∃ (M : Addr) (ks : List Nat) (t' : Int) (y6 y7 y8 : Option V),
  σ = [some (.ref S.s), some (.int (most : Int)), some (.int (n : Int)), some (.int (way : Int)), some (.int ((2 ^ n : Nat) : Int)), some (.ref M), y6, y7, y8, none] ∧
  Step S H t H' t' B ∧ H' M = some (.lst (vm ks)) ∧ M ≠ S.s ∧ M ≠ S.p ∧ (∀ k ∈ ks, k < 2 ^ n) ∧ ks.length ≤ 64
theorem fresh_s {S : Sm} {H : Hp} {t : Int} {x : Addr} (h : Strm S H t) (n : H x = none) : x ≠ S.s ∧ x ≠ S.p := by
  obtain ⟨_, h⟩ := h
  exact ⟨fun e => (by rw [e, h.hs] at n; cases n), fun e => (by rw [e, h.hp] at n; cases n)⟩
abbrev tDr (m : TE) : TE := fun σ H Q => tCons (tVar 0) (tCons m tNil) σ H fun vs H1 => spDrawN vs H1 Q E0
theorem or_eq {σ : L2.St} {H : Hp} {i : Nat} {x a b : Int} {Q : Bool → Hp → Prop} (hx : σ[i]? = some (some (.int x))) (h : Q (decide (x = a ∨ x = b)) H) : tOr (tTest (tOp rEq (tVar i) (tC (.int a)))) (tTest (tOp rEq (tVar i) (tC (.int b)))) σ H Q := by
  refine ⟨.int x, hx, rfl, _, rfl, ite2 (fun e => ?_) (fun e => ⟨.int x, hx, rfl, _, rfl, ?_⟩)⟩
  · have e1 : x = a := V.int.inj (of_decide_eq_true e)
    rw [decide_eq_true (Or.inl e1)] at h
    exact h
  · have e1 : x ≠ a := fun z => e (decide_eq_true (by rw [z]))
    by_cases e2 : x = b
    · rw [decide_eq_true (Or.inr e2)] at h
      rw [decide_eq_true (by rw [e2])]
      exact h
    · rw [decide_eq_false (fun z => z.elim e1 e2)] at h
      rw [decide_eq_false (fun z => e2 (V.int.inj z))]
      exact h
theorem ok_drawn {f : Addr} {fd : FuncData} {k : Nat} (B : Bl mg) (F : Fun K "_law_drawn" "_law_drawn" sDrawn f fd) (dD : DefR P w K mg base 1 "_law_draw" spDrawN) : FnOk P w K mg base CX0 (k + 2) f fd ["_law_stream_here", "_law_most"] spDrawn := by
  refine F.ok scDn (fun vs H Q E h => ?_) (fun cdv A outer s H vs Q E hr h => ?_)
  · obtain ⟨S, t, most, rfl, _⟩ := h
    rfl
  · obtain ⟨S, t, most, rfl, st, ml, mh, ht, q⟩ := h
    have hr1 : Room 1 (A.deeper (envOfC "_law_drawn" (defScope sDrawn) s.heap.objs.size f cdv)) := hr.mono (by omega)
    refine ⟨_, pss_cons (ps_asg (pe_tup (pa_cons (pe_op op_add pe_int (pe_def dD hr1 (by rfl) (pa_cons (pv 0) (pa_cons (pv 1) pa_nil)))) (pa_cons (pe_def dD hr1 (by rfl) (pa_cons (pv 0) (pa_cons pe_int pa_nil))) pa_nil)))
          (pg_tup rfl (pgs_cons (pg_name (i := 2) scDn.nd rfl (.inl rfl)) (pgs_cons (pg_name (i := 3) scDn.nd rfl (.inr rfl)) pgs_nil))))
      (C8.pss_cut (ps_asg (pe_tup (pa_cons (pe_op op_shl pe_int (pv 2)) (pa_cons (pe_lst pa_nil) pa_nil)))
          (pg_tup rfl (pgs_cons (pg_name (i := 4) scDn.nd rfl (.inr rfl)) (pgs_cons (pg_name (i := 5) scDn.nd rfl (.inl rfl)) pgs_nil))))
      (C8.pss_cut (ps_if (pt_cmpR op_eq (pv 3) pe_int (nomark _))
          (pss_one (ps_setLc (i := 5) (own := [("_law_mask", 9)]) (g := gName 9) (te := tVar 9) rfl scDn.nd rfl rfl (sw_true rfl rfl rfl (by decide +kernel)) (pi_range1 (by rfl) B.range (pa_cons (pv 4) pa_nil)) (blkOk_by (own := [("_law_mask", 9)]) (N := nDn) (sc := defScope sDrawn) (by decide +kernel))
            (fun _ _ _ _ _ => pg_name (i := 9) scDn.nd rfl (Or.inl rfl)) (fun _ _ _ _ _ => pts_one (pt_cmpR op_eq (pe_def dD hr1 (by rfl) (pa_cons (pv 0) (pa_cons pe_int pa_nil))) pe_int (nomark _))) (fun _ _ _ _ _ => pv 9))) pss_nil)
      (C8.pss_cut (ps_if (PW.pt (pw_or (pt_cmpR op_eq (pv 3) pe_int (nomark _)) (pw_or1 (pt_cmpR op_eq (pv 3) pe_int (nomark _)))))
          (pss_one (ps_setLc (i := 5) (own := [("_law_k", 6)]) (g := gName 6) (tt := tYes) rfl scDn.nd rfl rfl (sw_true rfl rfl rfl (by decide +kernel))
            (pi_range1 (by rfl) B.range (pa_cons (pe_def dD hr1 (by rfl) (pa_cons (pv 0) (pa_cons (pe_ix ix_list (pe_lst (pa_cons pe_int (pa_cons pe_int pa_nil))) (pe_op op_sub (pv 3) pe_int) (fun _ _ => rfl)) pa_nil))) pa_nil)) (blkOk_by (own := [("_law_k", 6)]) (N := nDn) (sc := defScope sDrawn) (by decide +kernel))
            (fun _ _ _ _ _ => pg_name (i := 6) scDn.nd rfl (Or.inl rfl)) (fun _ _ _ _ _ => pts_nil) (fun _ _ _ _ _ => pe_def dD hr1 (by rfl) (pa_cons (pv 0) (pa_cons (pv 4) pa_nil))))) pss_nil)
      (C8.pss_cut (ps_if (PW.pt (pw_or (pt_cmpR op_eq (pv 3) pe_int (nomark _)) (pw_or1 (pt_cmpR op_eq (pv 3) pe_int (nomark _)))))
          (pss_cons (ps_set (i := 5) scDn.nd rfl (.inl rfl) (pe_lst (pa_cons (pe_def dD hr1 (by rfl) (pa_cons (pv 0) (pa_cons (pv 4) pa_nil))) pa_nil)))
          (pss_one (ps_for PassesOwn.never rfl (pi_range1 (by rfl) B.range (pa_cons (pe_def dD hr1 (by rfl) (pa_cons (pv 0) (pa_cons pe_int pa_nil))) pa_nil)) (pg_name (i := 6) scDn.nd rfl (.inl rfl))
            (pss_cons (ps_set (i := 7) scDn.nd rfl (.inr rfl) (pe_def dD hr1 (by rfl) (pa_cons (pv 0) (pa_cons (pv 4) pa_nil))))
            (pss_one (ps_set (i := 5) scDn.nd rfl (.inl rfl) (pe_op op_cat (pv 5)
              (pe_lc (own := [("_law_mask", 9)]) (g := gName 9) rfl scDn.nd (pi_list (pv 5)) (blkOk_by (own := [("_law_mask", 9)]) (N := nDn) (sc := defScope sDrawn) (by decide +kernel))
                (fun _ _ _ _ _ => pg_name (i := 9) scDn.nd rfl (Or.inl rfl)) (fun _ _ _ _ _ => pts_one (pt_cmpR op_gt (pe_def dD hr1 (by rfl) (pa_cons (pv 0) (pa_cons pe_int pa_nil))) (pe_op op_sub pe_int (pv 3)) (nomark _)))
                (fun _ _ _ _ _ => pe_op op_xor (pv 9) (pv 7)))))))))) pss_nil)
      (C8.pss_cut (ps_if (pt_cmpR op_eq (pv 3) pe_int (nomark _))
          (pss_cons (ps_set (i := 8) scDn.nd rfl (.inr rfl)
            (pe_lc (own := [("_law_k", 6)]) (g := gName 6) (tt := tYes) rfl scDn.nd (pi_range1 (by rfl) B.range (pa_cons (pe_def dD hr1 (by rfl) (pa_cons (pv 0) (pa_cons pe_int pa_nil))) pa_nil)) (blkOk_by (own := [("_law_k", 6)]) (N := nDn) (sc := defScope sDrawn) (by decide +kernel))
              (fun _ _ _ _ _ => pg_name (i := 6) scDn.nd rfl (Or.inl rfl)) (fun _ _ _ _ _ => pts_nil) (fun _ _ _ _ _ => pe_def dD hr1 (by rfl) (pa_cons (pv 0) (pa_cons (pv 4) pa_nil)))))
          (pss_one (ps_setLc (i := 5) (own := [("_law_mask", 9)]) (g := gName 9) (tt := tTest (tOp (rIn K true) (tVar 9) (tVar 8))) (te := tVar 9) rfl scDn.nd rfl rfl (sw_true rfl rfl rfl (by decide +kernel)) (pi_range1 (by rfl) B.range (pa_cons (pv 4) pa_nil)) (blkOk_by (own := [("_law_mask", 9)]) (N := nDn) (sc := defScope sDrawn) (by decide +kernel))
            (fun _ _ _ _ _ => pg_name (i := 9) scDn.nd rfl (Or.inl rfl)) (fun _ _ _ _ _ => pts_one (pt_cmpR op_notIn_seq (pv 9) (pv 8) (by rfl))) (fun _ _ _ _ _ => pv 9)))) pss_nil)
      (pss_one (ps_ret (pe_tup (pa_cons (pv 2) (pa_cons (pe_callTy call_tuple_of (by rfl) B.tuple bT (pa_cons (pe_callB (cr_sortS rfl) (by rfl) B.sorted bS (pa_cons (pe_callTy (cr_setL rfl) (by rfl) B.set bSet (pa_cons (pv 5) pa_nil)) pa_nil)) pa_nil)) pa_nil)))))))))), ?_⟩
    -- width, way
    refine ⟨.ref S.s, rfl, .int most, rfl, S, t, most, rfl, st, by omega, by omega, by omega, fun H1 r1 t1 s1 hr1 => ?_⟩
    refine ⟨1, r1, rfl, rfl, .ref S.s, rfl, S, t1, 6, rfl, s1.st, by omega, by omega, by have := s1.hi; omega, fun H2 way t2 s2 hway => ?_⟩
    refine ⟨sz (n := 2) (by decide), fun T nT => ⟨T, _, rfl, SqT.of upd_same, rfl, _, _, rfl, _, _, rfl, rfl, ?_⟩⟩
    have s3 := (s1.trans s2).same (same_new (o := .tup [.int (1 + (r1 : Int)), .int (way : Int)]) nT)
    obtain ⟨n, hn⟩ : ∃ n : Nat, n = 1 + r1 := ⟨_, rfl⟩
    have hn1 : 1 ≤ n := by omega
    have hn6 : n ≤ most := by omega
    -- count, masks
    refine ⟨MidD S H t most n way 10, ?_, fun σ0 H0 mid0 => ?_⟩
    · refine ⟨.int (1 + (r1 : Int)), rfl, 1, (n : Int), rfl, by rw [hn]; rfl, cpow (by omega), sz (n := 0) (by decide), fun M nM => ⟨sz (n := 2) (by decide), fun T2 nT2 => ⟨T2, _, rfl, SqT.of upd_same, rfl, _, _, rfl, _, _, rfl, rfl, ?_⟩⟩⟩
      have fs := fresh_s s3.st nM
      have s4 := s3.same (same_new (o := .lst []) nM)
      refine ⟨M, [], t2, none, none, none, ?_, (s4.same (same_new nT2)).mono (by omega), ?_, fs.1, fs.2, by simp, by simp⟩
      · rw [← shl1 n, hn]
        rfl
      · rw [upd_ne (ne_of_none upd_same nT2)]
        exact upd_same
    -- if way == 0
    refine ⟨MidD S H t most n way 80, ?_, fun σ1 H1 mid1 => ?_⟩
    · obtain ⟨M, ks, t', y6, y7, y8, rfl, stp, hM, as, ap, hk, hl⟩ := mid0
      refine ⟨.int way, rfl, rfl, _, rfl, ite2 (fun e => ?_) (fun e => ?_)⟩
      · refine ⟨.int ((2 ^ n : Nat) : Int), rfl, ((2 ^ n : Nat) : Int), rfl, l62, r62 (by omega), fun D nD => ?_⟩
        have p6 := pow6 (w := n) (by omega)
        have hi0 := stp.hi
        refine lcs_range (S := S) (c := 2 ^ n) (d := 1) (n := 2 ^ n) stp.st nD (by omega) (fun i H3 t3 hi s3 => ?_) (fun H3 pv => ?_)
        · intro R1 R2 h1 h2
          have hi3 := s3.hi
          refine ⟨rfl, .ref S.s, rfl, S, t3, 2, rfl, s3.st, by omega, by omega, by omega, fun H4 r t4 s4 hr4 => ⟨rfl, _, rfl, ite2 (fun e => ?_) (fun e => ?_)⟩⟩
          · refine ⟨.int (0 + (i : Int)), rfl, ?_⟩
            rw [Int.zero_add]
            exact h2 i H4 t4 s4 hi
          · exact h1 H4 t4 s4
        · obtain ⟨ks2, t3, s3, hD, hk2, hl2⟩ := pv
          have fs := fresh_s stp.st nD
          exact ⟨D, ks2, t3, y6, y7, y8, rfl, (stp.trans s3).mono (by omega), hD, fs.1, fs.2, hk2, by omega⟩
      · exact ⟨M, ks, t', y6, y7, y8, rfl, stp.mono (by omega), hM, as, ap, hk, hl⟩
    -- if way == 1 or way == 2
    refine ⟨MidD S H t most n way 100, ?_, fun σ2 H2 mid2 => ?_⟩
    · obtain ⟨M, ks, t', y6, y7, y8, rfl, stp, hM, as, ap, hk, hl⟩ := mid1
      refine or_eq (x := (way : Int)) rfl (ite2 (fun e => ?_) (fun e => ?_))
      · have e1 : way = 1 ∨ way = 2 := by
          have := of_decide_eq_true e
          omega
        obtain ⟨m, hm, hm7⟩ : ∃ m : Nat, atI [V.int 3, V.int 7] ((way : Int) - 1) = some (.int (m : Int)) ∧ (m = 3 ∨ m = 7) := by
          rcases e1 with rfl | rfl
          · exact ⟨3, rfl, .inl rfl⟩
          · exact ⟨7, rfl, .inr rfl⟩
        have hi0 := stp.hi
        refine ⟨.ref S.s, rfl, sz (n := 2) (by decide), fun L nL => ⟨.int way, rfl, way, 1, rfl, rfl, L, _, (way : Int) - 1, .int (m : Int), rfl, rfl, SqL.of upd_same, hm, ?_⟩⟩
        have s0 := stp.same (same_new (o := .lst [.int 3, .int 7]) nL)
        refine ⟨S, t', m, rfl, s0.st, by omega, by omega, by omega, fun H3 r t3 s3 hr3 => ?_⟩
        have hi3 := s3.hi
        refine ⟨r, rfl, by omega, by omega, fun D nD => ?_⟩
        have p6 := pow6 (w := n) (by omega)
        have p0 := pow0 n
        refine lcs_range (S := S) (c := 2 ^ n) (d := 1) (n := r) (g := gName 6) (tt := tYes) (te := tDr (tVar 4)) (vs := [6]) s3.st nD (by omega) (fun i H4 t4 hi s4 => ?_) (fun H4 pv => ?_)
        · intro R1 R2 h1 h2
          have hi4 := s4.hi
          refine ⟨rfl, iteT (B := R1 H4) ⟨.ref S.s, rfl, .int ((2 ^ n : Nat) : Int), rfl, S, t4, 2 ^ n, rfl, s4.st, by omega, by omega, by omega, fun H5 r5 t5 s5 hr5 => h2 r5 H5 t5 s5 hr5⟩⟩
        · obtain ⟨ks2, t4, s4, hD, hk2, hl2⟩ := pv
          have fs := fresh_s s3.st nD
          exact ⟨D, ks2, t4, y6, y7, y8, rfl, ((s0.trans s3).trans s4).mono (by omega), hD, fs.1, fs.2, hk2, by omega⟩
      · exact ⟨M, ks, t', y6, y7, y8, rfl, stp.mono (by omega), hM, as, ap, hk, hl⟩
    -- if way == 3 or way == 4
    refine ⟨MidD S H t most n way 200, ?_, fun σ3 H3 mid3 => ?_⟩
    · obtain ⟨M, ks, t', y6, y7, y8, rfl, stp, hM, as, ap, hk, hl⟩ := mid2
      refine or_eq (x := (way : Int)) rfl (ite2 (fun e => ?_) (fun e => ?_))
      · have hi0 := stp.hi
        have p6 := pow6 (w := n) (by omega)
        have p0 := pow0 n
        refine ⟨.ref S.s, rfl, .int ((2 ^ n : Nat) : Int), rfl, S, t', 2 ^ n, rfl, stp.st, by omega, by omega, by omega, fun H3 r t3 s3 hr3 => ⟨sz (n := 1) (by decide), fun L nL => ?_⟩⟩
        have fs := fresh_s s3.st nL
        have s4 := (stp.trans s3).same (same_new (o := .lst [.int (r : Int)]) nL)
        have hi4 := s4.hi
        refine ⟨.ref S.s, rfl, S, t3, 4, rfl, s4.st, by omega, by omega, by omega, fun H5 r5 t5 s5 hr5 => ⟨r5, rfl, by omega, by omega, ?_⟩⟩
        have hL5 := s5.keep L _ fs.1 fs.2 (show (upd H3 L (.lst [.int (r : Int)])) L = some (.lst (vm [r])) from upd_same)
        refine for_range (lo := 0) (n := r5) (fun i σ K0 => ∃ (M : Addr) (ks : List Nat) (t' : Int) (z6 z7 : Option V),
          σ = [some (.ref S.s), some (.int (most : Int)), some (.int (n : Int)), some (.int (way : Int)), some (.int ((2 ^ n : Nat) : Int)), some (.ref M), z6, z7, y8, none] ∧
          Step S H t K0 t' (102 + 9 * i) ∧ K0 M = some (.lst (vm ks)) ∧ M ≠ S.s ∧ M ≠ S.p ∧ (∀ k ∈ ks, k < 2 ^ n) ∧ ks.length ≤ 2 ^ i) ?_ (fun i σ K0 hi h => ?_) (fun σ K0 h => ?_)
        · exact ⟨L, [r], t5, y6, y7, rfl, (s4.trans s5).mono (by omega), hL5, fs.1, fs.2, by simpa using hr3, by simp⟩
        · obtain ⟨M, ks, t6, z6, z7, rfl, s6, hM6, as6, ap6, hk6, hl6⟩ := h
          have hi6 := s6.hi
          have pi : 2 ^ i ≤ 4 := by
            have : i = 0 ∨ i = 1 ∨ i = 2 := by omega
            rcases this with rfl | rfl | rfl <;> decide
          refine ⟨.ref S.s, rfl, .int ((2 ^ n : Nat) : Int), rfl, S, t6, 2 ^ n, rfl, s6.st, by omega, by omega, by omega, fun H7 r7 t7 s7 hr7 => ?_⟩
          have hi7 := s7.hi
          have hM7 := s7.keep M _ as6 ap6 hM6
          refine ⟨.ref M, rfl, .ref M, rfl, M, rfl, ⟨_, SqL.of hM7⟩, fun D nD => ?_⟩
          have fsD := fresh_s s7.st nD
          refine lcs_list (S := S) (c := 2 ^ n) (d := 1) (ms := ks) s7.st nD hM7 as6 ap6 (by omega) (fun j m H8 t8 hj s8 => ?_) (fun H8 pv => ?_)
          · intro R1 R2 h1 h2
            have hi8 := s8.hi
            have hjl : j < ks.length := (List.getElem?_eq_some_iff.mp hj).1
            refine ⟨rfl, .ref S.s, rfl, S, t8, 9, rfl, s8.st, by omega, by omega, by omega, fun H9 r9 t9 s9 hr9 => ⟨.int way, rfl, 4, way, rfl, rfl, r9, _, rfl, rfl, _, rfl, ite2 (fun e => ?_) (fun e => ?_)⟩⟩
            · refine ⟨.int m, rfl, .int r7, rfl, m, r7, rfl, rfl, ?_⟩
              show R2 (.int (Builtin.bitXor (m : Int) (r7 : Int))) H9
              rw [bx]
              exact h2 (m ^^^ r7) H9 t9 s9 (xor_lt (hk6 m (List.mem_of_getElem? hj)) hr7)
            · exact h1 H9 t9 s9
          · obtain ⟨ks8, t8, s8, hD8, hk8, hl8⟩ := pv
            have hM8 := s8.keep M _ as6 ap6 hM7
            refine ⟨M, D, vm ks, vm ks8, rfl, rfl, hM8, hD8, ?_, fun C nC => ?_⟩
            · rw [vm_len, vm_len]; exact sz (by omega)
            · have fsC := fresh_s s8.st nC
              have s9 := ((s6.trans s7).trans s8).same (same_new (o := .lst (vm ks ++ vm ks8)) nC)
              refine ⟨C, ks ++ ks8, t8, some (.int (0 + (i : Int))), some (.int (r7 : Int)), rfl, s9.mono (by omega), ?_, fsC.1, fsC.2, ?_, ?_⟩
              · rw [upd_same]; unfold vm; rw [List.map_append]
              · intro k hk
                rcases List.mem_append.mp hk with hk | hk
                · exact hk6 k hk
                · exact hk8 k hk
              · rw [List.length_append, Nat.pow_succ]; omega
        · obtain ⟨M, ks, t6, z6, z7, rfl, s6, hM6, as6, ap6, hk6, hl6⟩ := h
          have pi : 2 ^ r5 ≤ 8 := by
            have : r5 = 0 ∨ r5 = 1 ∨ r5 = 2 ∨ r5 = 3 := by omega
            rcases this with rfl | rfl | rfl | rfl <;> decide
          exact ⟨M, ks, t6, z6, z7, y8, rfl, s6.mono (by omega), hM6, as6, ap6, hk6, by omega⟩
      · exact ⟨M, ks, t', y6, y7, y8, rfl, stp.mono (by omega), hM, as, ap, hk, hl⟩
    -- if way == 5
    refine ⟨MidD S H t most n way 300, ?_, fun σ4 H4 mid4 => ?_⟩
    · obtain ⟨M, ks, t', y6, y7, y8, rfl, stp, hM, as, ap, hk, hl⟩ := mid3
      refine ⟨.int way, rfl, rfl, _, rfl, ite2 (fun e => ?_) (fun e => ?_)⟩
      · have hi0 := stp.hi
        have p6 := pow6 (w := n) (by omega)
        have p0 := pow0 n
        refine ⟨.ref S.s, rfl, S, t', 4, rfl, stp.st, by omega, by omega, by omega, fun H5 r5 t5 s5 hr5 => ⟨r5, rfl, by omega, by omega, fun D nD => ?_⟩⟩
        have hi5 := s5.hi
        have fs := fresh_s s5.st nD
        refine lcs_range (S := S) (c := 2 ^ n) (d := 1) (n := r5) (g := gName 6) (tt := tYes) (te := tDr (tVar 4)) (vs := [6]) s5.st nD (by omega) (fun i H6 t6 hi s6 => ?_) (fun H6 pv => ?_)
        · intro R1 R2 h1 h2
          have hi6 := s6.hi
          refine ⟨rfl, iteT (B := R1 H6) ⟨.ref S.s, rfl, .int ((2 ^ n : Nat) : Int), rfl, S, t6, 2 ^ n, rfl, s6.st, by omega, by omega, by omega, fun H7 r7 t7 s7 hr7 => h2 r7 H7 t7 s7 hr7⟩⟩
        · obtain ⟨ks6, t6, s6, hD6, hk6, hl6⟩ := pv
          refine ⟨.int ((2 ^ n : Nat) : Int), rfl, ((2 ^ n : Nat) : Int), rfl, l62, r62 (by omega), fun L nL => ?_⟩
          have fsL := fresh_s s6.st nL
          refine lcp_range (n := 2 ^ n) (p := fun m => !decide (m ∈ ks6)) (f := fun m => .int (m : Int)) nL (small64 (by omega)) (fun i H7 hi s7 => ?_) (fun H7 s7 hL => ?_)
          · intro R1 R2 h1 h2
            refine ⟨rfl, _, rfl, .ref D, rfl, D, _, rfl, .inl (SqL.of (s7 _ _ hD6)), rfl, vm_flat _, _, rfl, ?_⟩
            have e : inV (.int (0 + (i : Int))) (vm ks6) = decide (i ∈ ks6) := by
              rw [Int.zero_add]; exact in_vm i ks6
            show if (!inV (.int (0 + (i : Int))) (vm ks6)) = true then _ else _
            rw [e]
            refine ite2 (fun z => ?_) (fun z => ?_)
            · refine ⟨.int (0 + (i : Int)), rfl, ?_⟩
              rw [Int.zero_add]
              exact h2 z _ (Same.refl _)
            · exact h1 (by simpa using z) _ (Same.refl _)
          · refine ⟨L, (List.range (2 ^ n)).filter fun m => !decide (m ∈ ks6), t6, y6, y7, some (.ref D), rfl, (((stp.trans s5).trans s6).same s7).mono (by omega), hL, fsL.1, fsL.2, fun k hk => ?_, ?_⟩
            · exact List.mem_range.mp (List.mem_filter.mp hk).1
            · refine Nat.le_trans (List.length_filter_le _ _) ?_
              rw [List.length_range]; exact p6
      · exact ⟨M, ks, t', y6, y7, y8, rfl, stp.mono (by omega), hM, as, ap, hk, hl⟩
    -- return
    obtain ⟨M, ks, t', y6, y7, y8, rfl, stp, hM, as, ap, hk, hl⟩ := mid4
    refine ⟨.int n, rfl, .ref M, rfl, M, ks.map fun (k : Nat) => (k : Int), rfl, SqL.of (by rw [hM, vm_ints]), by rw [List.length_map]; omega, fun G c nG => ?_⟩
    have sG := same_new (o := SetO w G (fun j => decide (j ∈ ks.map fun (k : Nat) => (k : Int))) c) nG
    refine ⟨G, _, c, rfl, upd_same, fun ns L asc hm nL => ?_⟩
    have sL := same_new (o := .lst (ns.map V.int)) nL
    refine ⟨L, _, rfl, .inl ⟨SqL.of upd_same, fun T3 nT3 => ⟨sz (n := 2) (by decide), fun U nU => ?_⟩⟩⟩
    refine q _ _ n (fun m => decide (m ∈ ks)) t' ((((stp.same sG).same sL).same (same_new nT3)).same (same_new nU)) hn1 hn6 ⟨U, T3, rfl, upd_same, ?_⟩
    rw [upd_ne (ne_of_none upd_same nU), upd_same, rising_lot (w := n) (P := fun m => decide (m ∈ ks)) asc fun z => ?_]
    rw [hm z, decide_eq_true_iff, List.mem_map]
    constructor
    · rintro ⟨m, h1, h2⟩
      exact ⟨m, h2.symm, hk m h1, decide_eq_true h1⟩
    · rintro ⟨m, h1, h2, h3⟩
      exact ⟨m, of_decide_eq_true h3, h1.symm⟩
end
end XT
namespace XT
open PySem PySem.Spec PyProof.Rows L2
abbrev scDt (n : Nat) (p : Nat → Bool) : PyData := .tuple ((scL n p).map PyData.int)
theorem dv_intL {K : PySem.W.Frag} {N : Addr → Prop} {H : Hp} : ∀ cs : List Int, DvAll K N H (cs.map V.int) (cs.map PyData.int)
  | [] => .nil
  | c :: cs => .cons (.int c) (dv_intL cs)
theorem gd_ints {M k : Nat} : ∀ {cs : List Int}, (∀ c ∈ cs, c.natAbs ≤ M) → GdAll M (62 * cs.length) k (cs.map PyData.int)
  | [], _ => GdAll.nil
  | c :: cs, h => (GdAll.cons ((gd_int (h c List.mem_cons_self)).mono (Nat.le_refl _) (Nat.le_refl _) (Nat.zero_le k)) (gd_ints fun x hx => h x (List.mem_cons_of_mem _ hx))).mono (Nat.le_refl _) (by rw [List.length_cons]; omega) (Nat.le_refl _)
section
variable {P : Program} {w : World} {K : PySem.W.Frag} {mg : Str → Option Value} {base : Heap}
abbrev nLw : List Str := ["_law_script", "_law_stream_here", "_law_turn", "_law_some", "_law_other", "_law_counts", "_law_values", "_law_value", "_law_shown", "_law_found", "_law_is_row", "_law_item", "_law_k"]
theorem scLw : FnScope nLw ["_law_script"] (defScope sLaw) := ⟨rfl, rfl, rfl, by decide +kernel, rfl, by decide +kernel, by decide +kernel⟩
theorem ii_of {k : Nat} (D : DefR P w K mg base k "_law_is_int" (spIsInt K)) : DefR P w K mg base k "_law_is_int" spIi := by
  obtain ⟨f, F, h1, h2⟩ := D
  refine ⟨f, F.imp fun vs H Q E ⟨i, lo, hi, ev, a, b, q⟩ => ⟨.int i, .int i, lo, hi, ev, .int i, ?_⟩, h1, h2⟩
  have e : isIn lo hi (.int i) = true := by
    show (decide (lo ≤ i) && decide (i ≤ hi)) = true
    rw [decide_eq_true a, decide_eq_true b]
    rfl
  rw [e]
  exact q
structure Defs (P : Program) (w : World) (K : PySem.W.Frag) (mg : Str → Option Value) (base : Heap) : Prop where
  lstream : DefR P w K mg base 5 "_law_stream" (spStream K)
  ldrawn : DefR P w K mg base 5 "_law_drawn" spDrawn
  lsigned : DefR P w K mg base 5 "_law_signed" spSc
  lodd : DefR P w K mg base 5 "_law_odd" (spOddS K)
  lbent : DefR P w K mg base 5 "_law_bent" (spBent K 1)
  lotwith : DefR P w K mg base 5 "lot_with" (spLwz K)
  lisint : DefR P w K mg base 5 "_law_is_int" (spIsInt K)
  lislot : DefR P w K mg base 5 "_law_is_lot" spIl
def spLaw (K : PySem.W.Frag) : Sp := fun vs H Q _ => ∃ (a : Addr) (ns : List Int), vs = [.ref a] ∧ SqL K H a (ns.map V.int) ∧ ns.length ≤ 63 ∧ ∀ H', Q (.bl true) H'
/-- the values so far -/
abbrev MF : Nat := 10 ^ 39 + 1
theorem dz_dp {K : PySem.W.Frag} {H : Hp} {v : V} {cs : List Int} (h : Dz K H v (.tuple (cs.map PyData.int))) : Dp K H v (.tuple (cs.map PyData.int)) := by
  cases h with
  | tup hx all =>
    have e := dz_ints all
    subst e
    exact .tup hx (dpInts cs)
def gI (c : Int) : PyData := if c = 0 then .bool false else if c = 1 then .bool true else .int c
def gV : V → V
  | .int c => if c = 0 then .bl false else if c = 1 then .bl true else .int c
  | v => v
theorem dv_g {K : PySem.W.Frag} {N : Addr → Prop} {H : Hp} : ∀ cs : List Int, DvAll K N H ((cs.map V.int).map gV) (cs.map gI)
  | [] => .nil
  | c :: cs => .cons (by
      show Dv K N H (if c = 0 then .bl false else if c = 1 then .bl true else .int c) (gI c)
      unfold gI
      by_cases h0 : c = 0
      · rw [if_pos h0, if_pos h0]; exact .bl false
      · rw [if_neg h0, if_neg h0]
        by_cases h1 : c = 1
        · rw [if_pos h1, if_pos h1]; exact .bl true
        · rw [if_neg h1, if_neg h1]; exact .int c) (dv_g cs)
theorem gd_g {M k : Nat} : ∀ {cs : List Int}, (∀ c ∈ cs, c.natAbs ≤ M) → GdAll M (62 * cs.length) k (cs.map gI)
  | [], _ => GdAll.nil
  | c :: cs, h => (GdAll.cons (n := 60) (by
      unfold gI
      split
      · exact (gd_bl _).mono (Nat.le_refl _) (by decide) (Nat.zero_le k)
      · split
        · exact (gd_bl _).mono (Nat.le_refl _) (by decide) (Nat.zero_le k)
        · exact (gd_int (h c List.mem_cons_self)).mono (Nat.le_refl _) (Nat.le_refl _) (Nat.zero_le k)) (gd_g fun x hx => h x (List.mem_cons_of_mem _ hx))).mono (Nat.le_refl _) (by rw [List.length_cons]; omega) (Nat.le_refl _)
theorem sc_le {n : Nat} {p : Nat → Bool} (hn : n ≤ 6) : ∀ c ∈ scL n p, c.natAbs ≤ MF := fun c hc => by
  unfold scL at hc
  obtain ⟨u, _, rfl⟩ := List.mem_map.mp hc
  have := sc_abs (u := u) (p := p) hn
  have : 64 ≤ MF := by decide
  omega
theorem sc_le9 {n : Nat} {p : Nat → Bool} (hn : n ≤ 6) : ∀ c ∈ scL n p, c.natAbs ≤ 10 ^ 39 := fun c hc => by
  unfold scL at hc
  obtain ⟨u, _, rfl⟩ := List.mem_map.mp hc
  have := sc_abs (u := u) (p := p) hn
  have : 64 ≤ 10 ^ 39 := by decide
  omega
theorem rep_flat (m : Nat) (z : Int) : (List.replicate m [V.int z]).flatten = (List.replicate m z).map V.int := by
  induction m with
  | zero => rfl
  | succ m ih => rw [List.replicate_succ, List.replicate_succ, List.flatten_cons, ih, List.map_cons]; rfl
theorem rep_le {m : Nat} {z : Int} (h : z.natAbs ≤ MF) : ∀ c ∈ List.replicate m z, c.natAbs ≤ MF := fun c hc => by rw [List.eq_of_mem_replicate hc]; exact h
theorem rep_or {K : PySem.W.Frag} {T : Addr} {k : Nat} {i : Int} {H : Hp} {QQ : VK} (hT : SqT K H T [.int 0]) (ei : i = (k : Int)) (h1 : 1 ≤ k) (h2 : k ≤ 64) (q : ∀ H' R, Same H H' → SqT K H' R ((List.replicate k 0).map V.int) → QQ (.ref R) H') :
    rRepT K (.ref T) (.int i) H QQ ∨ (∃ l xs, V.ref T = .ref l ∧ V.int i = .int 1 ∧ SqT K H l xs ∧ QQ (.ref l) H) := by
  subst ei
  by_cases e : k = 1
  · subst e
    exact .inr ⟨T, _, rfl, rfl, hT, q _ _ (Same.refl _) hT⟩
  · refine .inl ⟨T, _, [.int 0], rfl, rfl, hT, by simp, by omega, by omega, by decide, fun R nR => ?_⟩
    rw [Int.toNat_natCast, rep_flat]
    exact q _ _ (same_new nR) (SqT.of upd_same)
def b1 (n : Nat) : PyData → Bool
  | .tuple ds => decide (ds.length = 2 ^ n)
  | _ => false
def MidL (K : PySem.W.Frag) (NN : Addr → Addr → Prop) (a0 : Addr) (S : Sm) (i : Nat) (some oth : V) (q5 : Addr) (n : Nat) (p : Nat → Bool) (T : Int) (c : Nat) (σ : L2.St) (H : Hp) : Prop := ∃ (L : Addr) (xs : List V) (ds : List PyData) (t : Int) (z7 z8 z9 z10 : Option V),
  σ = [Option.some (.ref a0), Option.some (.ref S.s), Option.some (.int (0 + (i : Int))), Option.some some, Option.some oth, Option.some (.ref q5), Option.some (.ref L), z7, z8, z9, z10, none, none] ∧ Strm S H t ∧ t ≤ T ∧ H L = Option.some (.lst xs) ∧ L ≠ S.s ∧ L ≠ S.p ∧ L ≠ S.q ∧ DvAll K (NN L) H xs ds ∧ ds.length ≤ c ∧ (∀ e ∈ ds, Gd MF 20000 8 e) ∧
  LotAt H some n p ∧ TupI H (.ref q5) (scL n p)
theorem run_it {f : Addr} {fd : FuncData} (B : Bl mg) (mL : mg "list" = none) (mR : mg "repr" = none) (F : Fun K "law" "law" sLaw f fd) (d : Defs P w K mg base) : RunC P w K mg base 6 f (spLaw K) := by
  refine run_law (k := 5) F scLw (fun _ _ _ _ _ _ _ => rfl) (fun cdv s H v Q hr h => ?_)
  obtain ⟨a0, ns, ev, hA, hlen, q⟩ := h
  cases ev
  have hun : (callerA.deeper (envOfC "law" (defScope sLaw) s.heap.objs.size f cdv)).units + 128 < cLine := by have := hr.un; omega
  have hgd : (callerA.deeper (envOfC "law" (defScope sLaw) s.heap.objs.size f cdv)).guards = Option.some [] := rfl
  refine ⟨_, pss_cons (ps_set (i := 1) scLw.nd rfl (by first | exact Or.inl rfl | exact Or.inr rfl) (pe_def d.lstream hr (by rfl) (pa_cons (pv 0) pa_nil)))
      (pss_cons (ps_for PassesOwn.never rfl (pi_range1 (by rfl) B.range (pa_cons pe_int pa_nil)) (pg_name (i := 2) scLw.nd rfl (by first | exact Or.inl rfl | exact Or.inr rfl))
      (pss_cons (ps_par (i := 3) (j := 4) (by rfl) scLw.nd rfl rfl (by decide) rfl rfl (pa_cons (pe_def d.ldrawn hr (by rfl) (pa_cons (pv 1) (pa_cons (pe_ix ix_list (pe_lst (pa_cons pe_int (pa_cons pe_int (pa_cons pe_int pa_nil)))) (pe_op op_mod (pv 2) pe_int) (fun _ _ => rfl)) pa_nil))) (pa_cons (pe_def d.ldrawn hr (by rfl) (pa_cons (pv 1) (pa_cons pe_int pa_nil))) pa_nil)) (by rfl))
      (pss_cons (ps_set (i := 5) scLw.nd rfl (by first | exact Or.inl rfl | exact Or.inr rfl) (pe_def d.lsigned hr (by rfl) (pa_cons (pv 3) pa_nil)))
      (C8.pss_cut (ps_set (i := 6) scLw.nd rfl (by first | exact Or.inl rfl | exact Or.inr rfl) (pe_lst (pa_cons (pv 5) (pa_cons (pe_callTy call_listB (by rfl) mL boot_list (pa_cons (pv 5) pa_nil)) (pa_cons (pe_slice sl_tupU (pv 5) (po_some pe_int) po_none) (pa_cons (pe_op op_catU (pv 5) (pe_tup (pa_cons pe_int pa_nil))) (pa_cons (pe_def d.lsigned hr (by rfl) (pa_cons (pv 4) pa_nil)) (pa_cons pe_non (pa_cons (pe_tup pa_nil) (pa_cons (pe_def d.lodd hr (by rfl) (pa_cons (pv 1) pa_nil)) pa_nil))))))))))
      (C8.pss_cut (ps_expr (pe_bm PySem.F.plainAttrs_list PySem.F.slot_list_append PySem.F.type_list_append mt_append (pv 6) (pa_cons (pe_callTy call_tuple_of (by rfl) B.tuple bT (pa_cons (pe_lc (own := [("_law_item", 11)]) (g := gName 11) (tt := tYes) (te := (tOp (rIxL K) (tLst (tCons (tVar 11) (tCons (tOp rEq (tVar 11) (tC (.int 1))) tNil))) (tCB (fun xs H Q => ∃ b, xs = [.bl b] ∧ Q (.int (if b = true then 1 else 0)) H) (tCons (tOp (rIn K false) (tVar 11) (tTup (tCons (tC (.int 0)) (tCons (tC (.int 1)) tNil)))) tNil)))) rfl scLw.nd (pi_tup (pv 5)) (blkOk_by (own := [("_law_item", 11)]) (N := nLw) (sc := defScope sLaw) (by decide +kernel))
          (fun _ _ _ _ _ => pg_name (i := 11) scLw.nd rfl (Or.inl rfl)) (fun _ _ _ _ _ => pts_nil) (fun _ _ _ _ _ => pe_ix ix_list (pe_lst (pa_cons (pv 11) (pa_cons (pe_cmpR op_eq (pv 11) pe_int (nomark _)) pa_nil))) (pe_callTy call_intB (by rfl) B.int bInt (pa_cons (pe_cmpR op_in_seq (pv 11) (pe_tup (pa_cons pe_int (pa_cons pe_int pa_nil))) (by rfl)) pa_nil)) (fun _ _ => rfl))) pa_nil)) pa_nil)))
      (C8.pss_cut (ps_set (i := 6) scLw.nd rfl (by first | exact Or.inl rfl | exact Or.inr rfl) (pe_op op_cat (pv 6) (pe_lst (pa_cons (pe_op op_repT (pe_tup (pa_cons pe_int pa_nil)) (pe_callB call_len_seq (by rfl) B.len PySem.boot_len (pa_cons (pv 5) pa_nil))) (pa_cons (pe_op op_catU (pe_tup (pa_cons (pe_callB call_len_seq (by rfl) B.len PySem.boot_len (pa_cons (pv 5) pa_nil)) pa_nil)) (pe_op (OpR.or op_repT op_rep1) (pe_tup (pa_cons pe_int pa_nil)) (pe_op op_sub (pe_callB call_len_seq (by rfl) B.len PySem.boot_len (pa_cons (pv 5) pa_nil)) pe_int))) (pa_cons (pe_op op_repT (pe_tup (pa_cons pe_int pa_nil)) (pe_callB call_len_seq (by rfl) B.len PySem.boot_len (pa_cons (pv 5) pa_nil))) pa_nil))))))
      (C8.pss_cut (ps_set (i := 6) scLw.nd rfl (by first | exact Or.inl rfl | exact Or.inr rfl) (pe_op op_cat (pe_op op_cat (pv 6) (pe_lc (own := [("_law_k", 12)]) (g := gName 12) (tt := tYes) (te := (tDf (spBent K 1) (tCons (tVar 1) (tCons (tVar 5) (tCons (tC (.int 1)) tNil))))) rfl scLw.nd (pi_range1 (by rfl) B.range (pa_cons pe_int pa_nil)) (blkOk_by (own := [("_law_k", 12)]) (N := nLw) (sc := defScope sLaw) (by decide +kernel))
          (fun _ _ _ _ _ => pg_name (i := 12) scLw.nd rfl (Or.inl rfl)) (fun _ _ _ _ _ => pts_nil) (fun _ _ _ _ _ => pe_def d.lbent hr (by rfl) (pa_cons (pv 1) (pa_cons (pv 5) (pa_cons pe_int pa_nil)))))) (pe_lst (pa_cons (pv 5) pa_nil))))
      (pss_one (ps_for PassesOwn.never rfl (pi_list (pv 6)) (pg_name (i := 7) scLw.nd rfl (by first | exact Or.inl rfl | exact Or.inr rfl))
      (pss_cons (ps_par (i := 8) (j := 9) (by rfl) scLw.nd rfl rfl (by decide) rfl rfl (pa_cons (pe_callB (cr_reprA hgd hun) (by rfl) mR boot_repr (pa_cons (pv 7) pa_nil)) (pa_cons (pe_def d.lotwith hr (by rfl) (pa_cons (pe_ix ix_tup (pv 3) pe_int (fun _ _ => rfl)) (pa_cons (pv 7) pa_nil))) pa_nil)) (by rfl))
      (C8.pss_cut (ps_set (i := 10) scLw.nd rfl (by first | exact Or.inl rfl | exact Or.inr rfl) (pe_and (pe_callB call_isi (by rfl) B.isinstance bI (pa_cons (pv 7) (pa_cons (pe_bltn (v := .ty "tuple") (by rfl) B.tuple bT rfl) pa_nil))) (pe_one (pe_cmpR op_eq (pe_callB call_len_seq (by rfl) B.len PySem.boot_len (pa_cons (pv 7) pa_nil)) (pe_callB call_len_seq (by rfl) B.len PySem.boot_len (pa_cons (pv 5) pa_nil)) (nomark _)))))
      (C8.pss_cut (ps_if (pt_val (pv 10)) (pss_one (ps_set (i := 10) scLw.nd rfl (by first | exact Or.inl rfl | exact Or.inr rfl) (pe_cmpR (op_eqEL hr.units0) (pe_lc (own := [("_law_item", 11)]) (g := gName 11) (tt := (tNot (tB (tDf (spIsInt K) (tCons (tVar 11) (tCons (tUn (rU fun i => .int (-i)) (tOp (rI CPow fun i j => .int (i ^ j.toNat)) (tC (.int 10)) (tC (.int 40)))) (tCons (tOp (rI CPow fun i j => .int (i ^ j.toNat)) (tC (.int 10)) (tC (.int 40))) tNil))))))) (te := (tVar 11)) rfl scLw.nd (pi_tup (pv 7)) (blkOk_by (own := [("_law_item", 11)]) (N := nLw) (sc := defScope sLaw) (by decide +kernel))
          (fun _ _ _ _ _ => pg_name (i := 11) scLw.nd rfl (Or.inl rfl)) (fun _ _ _ _ _ => pts_one (pt_not (pt_val (pe_def d.lisint hr (by rfl) (pa_cons (pv 11) (pa_cons (pe_un un_neg (pe_op op_pow pe_int pe_int)) (pa_cons (pe_op op_pow pe_int pe_int) pa_nil))))))) (fun _ _ _ _ _ => pv 11)) (pe_lst pa_nil) (nomark _)))) pss_nil)
      (pss_cons (ps_if (PW.pt (pw_and (pt_cmpR op_notN (pv 9) pe_non (nomark _)) (pw_and1 (PW.pt (pw_or (pt_not (pt_val (pv 10))) (pw_or (pt_not (pt_val (pe_def d.lislot hr (by rfl) (pa_cons (pv 9) pa_nil)))) (pw_or1 (pt_cmpR op_ne (pe_ix ix_tup (pv 9) pe_int (fun _ _ => rfl)) (pe_ix ix_tup (pv 3) pe_int (fun _ _ => rfl)) (nomark _))))))))) pss_never pss_nil)
      (pss_cons (ps_if (PW.pt (pw_or (PW.pt (pw_and (pt_cmpR op_notN (pv 9) pe_non (nomark _)) (pw_and1 (pt_cmpR op_ne (pe_callB (cr_reprA hgd hun) (by rfl) mR boot_repr (pa_cons (pe_def d.lsigned hr (by rfl) (pa_cons (pv 9) pa_nil)) pa_nil)) (pv 8) (nomark _))))) (pw_or1 (pt_cmpR op_ne (pe_callB (cr_reprA hgd hun) (by rfl) mR boot_repr (pa_cons (pv 7) pa_nil)) (pv 8) (nomark _))))) pss_never pss_nil)
      (pss_one (ps_if (PW.pt (pw_and (pt_val (pv 10)) (pw_and (pt_cmpR (op_eqD hr.units) (pv 7) (pv 5) (nomark _)) (pw_and1 (pt_cmpR (op_neD hr.units) (pv 9) (pv 3) (nomark _)))))) pss_never pss_nil))))))))))))))))
      (pss_one (ps_ret pe_bl))), ?_⟩
  refine ⟨.ref a0, rfl, a0, ns, rfl, hA, hlen, fun H1 S s1 st1 => ?_⟩
  refine ⟨6, rfl, by decide, by decide, for_range (lo := 0) (n := 6) (fun i σ H' => ∃ (t : Int) (z2 z3 z4 z5 z6 z7 z8 z9 z10 : Option V), σ = [some (.ref a0), some (.ref S.s), z2, z3, z4, z5, z6, z7, z8, z9, z10, none, none] ∧ Strm S H' t ∧ t ≤ 2000 * i) ⟨0, none, none, none, none, none, none, none, none, none, rfl, st1, by omega⟩ (fun i σ H2 hi h => ?_) (fun σ H2 h => q H2)⟩
  obtain ⟨t, z2, z3, z4, z5, z6, z7, z8, z9, z10, rfl, st, ht⟩ := h
  obtain ⟨c, hc, hc1, hc6⟩ : ∃ c : Nat, atI [V.int 6, .int 3, .int 2] ((0 + (i : Int)) % 3) = some (.int (c : Int)) ∧ 1 ≤ c ∧ c ≤ 6 := by
    match i, hi with
    | 0, _ => exact ⟨6, rfl, by decide, by decide⟩
    | 1, _ => exact ⟨3, rfl, by decide, by decide⟩
    | 2, _ => exact ⟨2, rfl, by decide, by decide⟩
    | 3, _ => exact ⟨6, rfl, by decide, by decide⟩
    | 4, _ => exact ⟨3, rfl, by decide, by decide⟩
    | 5, _ => exact ⟨2, rfl, by decide, by decide⟩
  refine ⟨.ref S.s, rfl, sz (n := 3) (by decide), fun L0 nL0 => ⟨.int (0 + (i : Int)), rfl, 0 + (i : Int), 3, rfl, rfl, (by decide : (0 : Int) < 3), L0, _, _, .int (c : Int), rfl, rfl, SqL.of upd_same, hc, S, t, c, rfl, st.same (same_new nL0), hc1, hc6, by omega, fun H3 some n p t3 s3 h1 hnc l3 => ?_⟩⟩
  have h6 : n ≤ 6 := by omega
  have p6 := pow6 h6
  have p0 := pow0 n
  have hi3 := s3.hi
  refine ⟨.ref S.s, rfl, S, t3, 4, rfl, s3.st, by decide, by decide, by omega, fun H4 oth n' p' t4 s4 g1 gnc l4 => ?_⟩
  have hi4 := s4.hi
  have l3 := l3.keep s4.keep s3.st
  have g6 : n' ≤ 6 := by omega
  refine ⟨_, _, rfl, some, rfl, some, n, p, rfl, l3, h6, fun H5 cv s5 gc => ?_⟩
  obtain ⟨q5, rfl, hq5⟩ := id gc
  have l5 := l3.same s5
  have o5 := l4.same s5
  have st5 := s4.st.same s5
  have hcl : (scL n p).length = 2 ^ n := sc_len
  have hvl : ((scL n p).map V.int).length = 2 ^ n := by rw [List.length_map]; exact hcl
  have kt5 : Strm S H5 t4 := st5
  -- the first eight
  refine ⟨MidL K (Nod S) a0 S i some oth q5 n p (t + 700) 8, ?_, fun σ1 H6 mid1 => ?_⟩
  · refine ⟨.ref q5, rfl, .ref q5, rfl, q5, _, rfl, SqT.of hq5, fun L1 nL1 bL1 => ?_⟩
    have c1 := same_new (o := .lst ((scL n p).map V.int)) nL1
    refine ⟨.ref q5, rfl, 1, rfl, q5, _, rfl, SqT.of (c1 _ _ hq5), fun H6 p6 c2 h6' => ⟨.ref q5, rfl, sz (n := 1) (by decide), fun p7 np7 => ?_⟩⟩
    have c3 := same_new (o := .tup [.int 0]) np7
    have c13 := (c1.trans c2).trans c3
    refine ⟨q5, p7, _, _, rfl, rfl, SqT.of (c13 _ _ hq5), SqT.of upd_same, szl (m := 100) (by rw [hvl]; show 2 ^ n + 1 ≤ 100; omega) (by decide), fun H8 p8 c4 h8 => ?_⟩
    have c14 := c13.trans c4
    refine ⟨oth, rfl, oth, n', p', rfl, o5.same c14, g6, fun H9 ov c5 go => ⟨sz (n := 0) (by decide), fun T0 nT0 => ?_⟩⟩
    have c6 := same_new (o := .tup []) nT0
    have c16 := (c14.trans c5).trans c6
    refine ⟨.ref S.s, rfl, S, t4, Nof S, rfl, kt5.same c16, by omega, nw_all (kt5.same c16), fun H11 od dod t11 s11 zod mod => ⟨sz (n := 8) (by decide), fun L nL => ?_⟩⟩
    have c7 := same_new (o := .lst [.ref q5, .ref L1, .ref p6, .ref p8, ov, .non, .ref T0, od]) nL
    have hi11 := s11.hi
    have ne := strm_ne s11.st nL
    have n1 := strm_ne kt5 nL1
    have kT : ∀ {b : Addr} {zs : List V}, SqT K (upd _ T0 (.tup [])) b zs → SqT K (upd H11 L (.lst [.ref q5, .ref L1, .ref p6, .ref p8, ov, .non, .ref T0, od])) b zs := fun e => Same.sqT c7 (s11.keep.sqT (kt5.same c16) e)
    have gL1 := s11.keep L1 _ n1.1 n1.2.1 (((((c2.trans c3).trans c4).trans c5).trans c6) _ _ upd_same)
    have goT := ((go.same c6).keep s11.keep (kt5.same c16)).same c7
    obtain ⟨qo, rfl, hqo⟩ := id goT
    refine ⟨L, _, [scDt n p, .list ((scL n p).map PyData.int), .tuple (cutD ((scL n p).map PyData.int) (Option.some 1) none), .tuple ((scL n p).map PyData.int ++ [.int 0]), scDt n' p', .none, .tuple [], dod], t11, _, _, _, _, rfl, s11.st.same c7, by omega, upd_same, ne.1, ne.2.1, ne.2.2, ?_, (by show 8 ≤ 8; decide), ?_, ((l5.same c16).keep s11.keep (kt5.same c16)).same c7, ((gc.same c16).keep s11.keep (kt5.same c16)).same c7⟩
    · refine .cons (.tup (kT (SqT.of (c16 _ _ hq5))) (dv_intL _)) (.cons (.lst (SqL.of (c7 _ _ gL1)) bL1 ⟨⟨n1.1, n1.2.1⟩, fun z => by rw [z, nL] at gL1; cases gL1⟩ (dv_intL _)) (.cons (.tup (kT (Same.sqT (((c3.trans c4).trans c5).trans c6) h6')) ((dv_intL _).cut _ _)) (.cons (.tup (kT (Same.sqT (c5.trans c6) h8)) ((dv_intL _).app (.cons (.int 0) .nil))) (.cons (.tup (SqT.of hqo) (dv_intL _)) (.cons .non (.cons (.tup (kT (SqT.of upd_same)) .nil) (.cons ?_ .nil)))))))
      exact (zod.imp fun b h => ⟨h.1, fun z => h.2 (by rw [z]; exact nL)⟩).same c7
    · intro e he
      have gi : GdAll MF (62 * 64) 7 ((scL n p).map PyData.int) := (gd_ints (sc_le h6)).mono (Nat.le_refl _) (by rw [hcl]; omega) (Nat.le_refl _)
      have gi' : GdAll MF (62 * 64) 7 ((scL n' p').map PyData.int) := (gd_ints (sc_le g6)).mono (Nat.le_refl _) (by rw [sc_len]; have := pow6 g6; omega) (Nat.le_refl _)
      simp only [List.mem_cons, List.not_mem_nil, or_false] at he
      rcases he with rfl | rfl | rfl | rfl | rfl | rfl | rfl | rfl
      · exact gi.tuple.mono (Nat.le_refl _) (by decide) (by decide)
      · exact gi.list.mono (Nat.le_refl _) (by decide) (by decide)
      · exact (cutD_gd gi _ _).tuple.mono (Nat.le_refl _) (by decide) (by decide)
      · exact (gi.app (GdAll.cons ((gd_int (M := MF) (i := 0) (by decide)).mono (Nat.le_refl _) (Nat.le_refl _) (Nat.zero_le 7)) GdAll.nil)).tuple.mono (Nat.le_refl _) (by decide) (by decide)
      · exact gi'.tuple.mono (Nat.le_refl _) (by decide) (by decide)
      · exact gd_non.mono (Nat.le_refl _) (by decide) (by decide)
      · exact (GdAll.nil (M := MF) (k := 0)).tuple.mono (Nat.le_refl _) (by decide) (by decide)
      · exact (gd_odd _ mod).mono (by decide) (by decide) (by decide)
  obtain ⟨L, xs, ds, t6, y7, y8, y9, y10, rfl, st6, ht6, hL, nL1, nL2, nL3, all, hdl, hgd', l6, g6q⟩ := mid1
  have hxl := all.len
  -- values.append(..)
  refine ⟨MidL K (fun _ => Nof S) a0 S i some oth q5 n p (t + 700) 9, ?_, fun σ2 H7 mid2 => ?_⟩
  · obtain ⟨q', eq', hq'⟩ := id g6q
    cases eq'
    refine ⟨.ref L, rfl, .inl ⟨rfl, _, SqL.of hL⟩, .ref q5, rfl, q5, rfl, ⟨_, SqT.of hq'⟩, fun D nD => lcp_tup (p := fun _ => true) (f := gV) nD (SqT.of hq') (small64 (by rw [hvl]; omega)) (fun j z Hc hz sc => ?_) (fun H8 s8 hD => ?_)⟩
    · intro R1 R2 r1 r2
      rw [List.getElem?_map] at hz
      obtain ⟨z', hz', rfl⟩ := Option.map_eq_some_iff.mp hz
      refine ⟨rfl, iteT (B := R1 Hc) ⟨_, rfl, _, rfl, rfl, sz (n := 2) (by decide), fun P1 nP1 => ⟨_, rfl, sz (n := 2) (by decide), fun T2 nT2 => ⟨T2, _, rfl, .inr (SqT.of upd_same), rfl, rfl, ?_⟩⟩⟩⟩
      have cA := (same_new (o := .lst [.int z', .bl (decide (V.int z' = V.int 1))]) nP1)
      have cB := same_new (o := .tup [.int 0, .int 1]) nT2
      have hP1 := cB P1 _ upd_same
      have e1 : gV (.int z') = if z' = 0 then .bl false else if z' = 1 then .bl true else .int z' := rfl
      by_cases h0 : z' = 0
      · subst h0
        exact ⟨true, rfl, P1, _, 1, .bl false, rfl, rfl, SqL.of hP1, rfl, r2 rfl _ (cA.trans cB)⟩
      · by_cases h1 : z' = 1
        · subst h1
          exact ⟨true, rfl, P1, _, 1, .bl true, rfl, rfl, SqL.of hP1, rfl, r2 rfl _ (cA.trans cB)⟩
        · have e : inV (.int z') [V.int 0, .int 1] = false := by
            have e0 : ∀ i : Int, z' ≠ i → eqV (.int i) (.int z') = false := fun i h => decide_eq_false fun q => h q.symm
            show (eqV (.int 0) (.int z') || (eqV (.int 1) (.int z') || false)) = _
            rw [e0 0 h0, e0 1 h1]
            rfl
          refine ⟨inV (.int z') [V.int 0, .int 1], rfl, ?_⟩
          rw [e]
          rw [if_neg h0, if_neg h1] at e1
          refine ⟨P1, _, 0, .int z', rfl, rfl, SqL.of hP1, rfl, ?_⟩
          have g := r2 rfl _ (cA.trans cB)
          rw [e1] at g
          exact g
    · rw [List.filter_eq_self.mpr (fun _ _ => rfl)] at hD
      refine ⟨D, _, rfl, .inl ⟨SqL.of hD, fun T nT => ?_⟩⟩
      have cT := same_new (o := .tup (((scL n p).map V.int).map gV)) nT
      have s8T := s8.trans cT
      have hL8 := s8T _ _ hL
      refine ⟨L, _, _, rfl, rfl, hL8, small64 (by omega), ?_⟩
      have neT : T ≠ L := fun z => by rw [z] at nT; rw [s8 _ _ hL] at nT; cases nT
      have stq := st6.same s8T
      refine ⟨L, _, ds ++ [.tuple ((scL n p).map gI)], t6, _, _, _, _, rfl, strm_upd stq nL1 nL2 nL3, ht6, upd_same, nL1, nL2, nL3, ?_, by rw [List.length_append]; show ds.length + 1 ≤ 9; omega, ?_, lot_upd hL8 (l6.same s8T), ?_⟩
      · exact (DvAll.put hL8 (fun b hb => hb.2) ((all.same s8T).app (.cons (.tup (SqT.of upd_same) (dv_g _)) .nil))).imp fun b h => h.1
      · intro e he
        rcases List.mem_append.mp he with he | he
        · exact hgd' e he
        · rw [List.mem_singleton.mp he]
          exact ((gd_g (k := 7) (sc_le h6)).mono (Nat.le_refl _) (show 62 * (scL n p).length ≤ 62 * 64 by rw [hcl]; omega) (Nat.le_refl _)).tuple.mono (Nat.le_refl _) (by decide) (by decide)
      · exact ⟨q5, rfl, by rw [upd_ne (fun z => by rw [z, hL] at hq'; cases hq')]; exact s8T _ _ hq'⟩
  obtain ⟨L, xs, ds, t6, y7, y8, y9, y10, rfl, st6, ht6, hL, nL1, nL2, nL3, all, hdl, hgd', l6, g6q⟩ := mid2
  have hxl := all.len
  have zero_le : (0 : Int).natAbs ≤ MF := by decide
  have gR : ∀ (m : Nat) (z : Int), m ≤ 64 → z.natAbs ≤ MF → GdAll MF (62 * 64) 7 ((List.replicate m z).map PyData.int) := fun m z hm hz => (gd_ints (rep_le hz)).mono (Nat.le_refl _) (by rw [List.length_replicate]; omega) (Nat.le_refl _)
  -- (0,) * ..
  refine ⟨MidL K (fun _ => Nof S) a0 S i some oth q5 n p (t + 700) 12, ?_, fun σ3 H8 mid3 => ?_⟩
  · obtain ⟨q', eq', hq'⟩ := id g6q
    cases eq'
    have two : 2 ≤ 2 ^ n := by
      have := Nat.pow_le_pow_right (show 0 < 2 by decide) h1
      omega
    have elen : ((((scL n p).map V.int).length : Nat) : Int) = ((2 ^ n : Nat) : Int) := by rw [hvl]
    refine ⟨.ref L, rfl, sz (n := 1) (by decide), fun T1 nT1 => ?_⟩
    have c1 := same_new (o := .tup [.int 0]) nT1
    refine ⟨.ref q5, rfl, q5, _, rfl, .inr (SqT.of (c1 _ _ hq')), T1, _, [.int 0], rfl, rfl, SqT.of upd_same, (by simp), by rw [hvl]; omega, by rw [hvl]; omega, (by decide), fun R1 nR1 => ?_⟩
    rw [elen, Int.toNat_natCast, rep_flat]
    have c2 := same_new (o := .tup ((List.replicate (2 ^ n) 0).map V.int)) nR1
    have c12 := c1.trans c2
    refine ⟨.ref q5, rfl, q5, _, rfl, .inr (SqT.of (c12 _ _ hq')), sz (n := 1) (by decide), fun T2 nT2 => ⟨sz (n := 1) (by decide), fun T3 nT3 => ?_⟩⟩
    rw [elen] at nT3 ⊢
    have c3 := same_new (o := .tup [.int ((2 ^ n : Nat) : Int)]) nT2
    have c4 := same_new (o := .tup [.int 0]) nT3
    have c14 := (c12.trans c3).trans c4
    refine ⟨.ref q5, rfl, q5, _, rfl, .inr (SqT.of (c14 _ _ hq')), _, 1, rfl, rfl, rep_or (k := 2 ^ n - 1) (SqT.of upd_same) (by rw [elen]; omega) (by omega) (by omega) fun H9 R2 c5 hR2 => ?_⟩
    refine ⟨T2, R2, _, _, rfl, rfl, Same.sqT c5 (SqT.of (c4 _ _ upd_same)), hR2, szl (m := 100) (by rw [List.length_map, List.length_replicate]; show 1 + _ ≤ 100; omega) (by decide), fun H10 p10 c6 h10 => ?_⟩
    have c16 := (c14.trans c5).trans c6
    refine ⟨sz (n := 1) (by decide), fun T4 nT4 => ?_⟩
    have c7 := same_new (o := .tup [.int 1]) nT4
    refine ⟨.ref q5, rfl, q5, _, rfl, .inr (SqT.of ((c16.trans c7) _ _ hq')), T4, _, [.int 1], rfl, rfl, SqT.of upd_same, (by simp), by rw [hvl]; omega, by rw [hvl]; omega, (by decide), fun R4 nR4 => ?_⟩
    rw [elen, Int.toNat_natCast, rep_flat]
    have c8 := same_new (o := .tup ((List.replicate (2 ^ n) 1).map V.int)) nR4
    refine ⟨sz (n := 3) (by decide), fun N nN => ?_⟩
    have c9 := same_new (o := .lst [.ref R1, .ref p10, .ref R4]) nN
    have c19 := ((c16.trans c7).trans c8).trans c9
    refine ⟨L, N, xs, _, rfl, rfl, c19 _ _ hL, upd_same, szl (m := 100) (by show _ + 3 ≤ 100; omega) (by decide), fun C nC => ?_⟩
    have c10 := same_new (o := .lst (xs ++ [.ref R1, .ref p10, .ref R4])) nC
    have ce := c19.trans c10
    have ne := strm_ne (st6.same c19) nC
    refine ⟨C, _, ds ++ [.tuple ((List.replicate (2 ^ n) 0).map PyData.int), .tuple (PyData.int ((2 ^ n : Nat) : Int) :: (List.replicate (2 ^ n - 1) 0).map PyData.int), .tuple ((List.replicate (2 ^ n) 1).map PyData.int)], t6, _, _, _, _, rfl, st6.same ce, ht6, upd_same, ne.1, ne.2.1, ne.2.2, ?_, by rw [List.length_append]; show ds.length + 3 ≤ 12; omega, ?_, l6.same ce, g6q.same ce⟩
    · refine (all.same ce).app (.cons (.tup (SqT.of (((((((c3.trans c4).trans c5).trans c6).trans c7).trans c8).trans (c9.trans c10)) _ _ upd_same)) (dv_intL _)) (.cons (.tup (Same.sqT ((c7.trans c8).trans (c9.trans c10)) h10) (.cons (.int _) (dv_intL _))) (.cons (.tup (SqT.of ((c9.trans c10) _ _ upd_same)) (dv_intL _)) .nil)))
    · intro e he
      rcases List.mem_append.mp he with he | he
      · exact hgd' e he
      · simp only [List.mem_cons, List.not_mem_nil, or_false] at he
        rcases he with rfl | rfl | rfl
        · exact (gR _ _ (by omega) (by decide)).tuple.mono (Nat.le_refl _) (by decide) (by decide)
        · refine (GdAll.cons ((gd_int (M := MF) (i := ((2 ^ n : Nat) : Int)) ?_).mono (Nat.le_refl _) (Nat.le_refl _) (Nat.zero_le 7)) (gR _ _ (by omega) (by decide))).tuple.mono (Nat.le_refl _) (by decide) (by decide)
          have : 64 ≤ MF := by decide
          omega
        · exact (gR _ _ (by omega) (by decide)).tuple.mono (Nat.le_refl _) (by decide) (by decide)
  obtain ⟨L, xs, ds, t6, y7, y8, y9, y10, rfl, st6, ht6, hL, nL1, nL2, nL3, all, hdl, hgd', l6, g6q⟩ := mid3
  have hxl := all.len
  -- the bent ones
  refine ⟨MidL K (fun _ => Nof S) a0 S i some oth q5 n p (t + 900) 21, ?_, fun σ4 H9 mid4 => ?_⟩
  · obtain ⟨q', eq', hq'⟩ := id g6q
    cases eq'
    refine ⟨.ref L, rfl, 8, rfl, by decide, by decide, fun D nD => lcz_range (K := K) (d := 20) (G := Gd MF 20000 8) (n := 8) st6 nD (by decide) (fun j Hc tc hj sc ok => ?_) (fun H9 pv9 => ?_)⟩
    · intro R1 R2 r2
      have hsc := sc.hi
      refine ⟨rfl, iteT (B := R1 Hc) ⟨.ref S.s, rfl, .ref q5, rfl, S, tc, .ref q5, scDt n p, 10 ^ 39, 4000, 1, Nod S D, rfl, ok, sc.st, by omega, .tup (SqT.of (sc.keep.tup st6 hq')) (dv_intL _), ?_, Nat.le_refl _, by decide, by decide, fun H' v' d' t' s' dv' g' => r2 v' d' H' t' s' dv' (g'.mono (Nat.le_refl _) (by decide) (by decide))⟩⟩
      exact (gd_ints (k := 0) (sc_le9 h6)).tuple.mono (Nat.le_refl _) (by rw [hcl]; omega) (Nat.le_refl _)
    · obtain ⟨us, es, t9, s9, hD, hk, hg, hl2⟩ := pv9
      have hi9 := s9.hi
      have hul := hk.len
      have hL9 := s9.keep L _ nL1 nL2 hL
      refine ⟨L, D, xs, us, rfl, rfl, hL9, hD, szl (m := 100) (by omega) (by decide), fun C1 nC1 => ⟨.ref q5, rfl, sz (n := 1) (by decide), fun N nN => ?_⟩⟩
      have c1 := same_new (o := .lst (xs ++ us)) nC1
      have c2 := same_new (o := .lst [.ref q5]) nN
      refine ⟨C1, N, _, _, rfl, rfl, c2 _ _ upd_same, upd_same, szl (m := 100) (by rw [List.length_append]; show _ + 1 ≤ 100; omega) (by decide), fun C2 nC2 => ?_⟩
      have c3 := same_new (o := .lst (xs ++ us ++ [.ref q5])) nC2
      have ce := (c1.trans c2).trans c3
      have ne := strm_ne (s9.st.same (c1.trans c2)) nC2
      have tq := (g6q.keep s9.keep st6).same ce
      obtain ⟨q'', eq'', hq''⟩ := id tq
      cases eq''
      refine ⟨C2, _, ds ++ es ++ [scDt n p], t9, _, _, _, _, rfl, s9.st.same ce, by omega, upd_same, ne.1, ne.2.1, ne.2.2, ?_, by rw [List.length_append, List.length_append]; show ds.length + es.length + 1 ≤ 21; omega, ?_, (l6.keep s9.keep st6).same ce, tq⟩
      · exact (((all.keep s9.keep st6).app (hk.imp fun b h => h.1)).same ce).app (.cons (.tup (SqT.of hq'') (dv_intL _)) .nil)
      · intro e he
        rcases List.mem_append.mp he with he | he
        · rcases List.mem_append.mp he with he | he
          · exact hgd' e he
          · exact hg e he
        · rw [List.mem_singleton.mp he]
          exact (gd_ints (k := 7) (sc_le h6)).tuple.mono (Nat.le_refl _) (by rw [hcl]; omega) (by decide)
  obtain ⟨L, xs, ds, t9, y7, y8, y9, y10, rfl, st9, ht9, hL, nL1, nL2, nL3, all, hdl, hgd', l9, g9q⟩ := mid4
  have hxl := all.len
  obtain ⟨x5, y5, e5, hx5, hy5⟩ := id l9
  obtain ⟨q', eq', hq9⟩ := id g9q
  cases eq'
  refine ⟨.ref L, rfl, L, rfl, ⟨_, SqL.of hL⟩, for_list (K := K) (xs := xs) (fun j σ H' => ∃ z7 z8 z9 z10, σ = [Option.some (.ref a0), Option.some (.ref S.s), Option.some (.int (0 + (i : Int))), Option.some some, Option.some oth, Option.some (.ref q5), Option.some (.ref L), z7, z8, z9, z10, none, none] ∧ Same H9 H') ⟨_, _, _, _, rfl, Same.refl _⟩ (fun j σ H' _ h => ?_) (fun j v σ H10 hv h => ?_) (fun σ H10 h => ?_)⟩
  · obtain ⟨_, _, _, _, _, sm⟩ := h
    exact SqL.of (sm _ _ hL)
  rotate_left
  · obtain ⟨w7, w8, w9, w10, rfl, sm⟩ := h
    exact ⟨t9, _, _, _, _, _, _, _, _, _, rfl, st9.same sm, by omega⟩
  obtain ⟨w7, w8, w9, w10, rfl, sm⟩ := h
  obtain ⟨e, he, hze⟩ := all.at hv
  have hz := hze.dz.same sm
  have hge := hgd' e (List.mem_of_getElem? he)
  have shw := shown_le (M := MF) (by decide) e hge.f
  have hgz := hge.z
  have hgp := hge.p
  refine ⟨v, rfl, v, e, rfl, hz, by omega, shw.1, szl (m := 20000) (by omega) (by decide), some, rfl, x5, _, 0, .int n, e5, rfl, SqT.of (sm _ _ hx5), rfl, v, rfl, n, v, e, rfl, hz, h6, fun H11 fz s11 g11 => ⟨_, _, rfl, ?_⟩⟩
  have sm11 := sm.trans s11
  have hz11 := hz.same s11
  -- is a row: a tuple of so many
  refine ⟨fun σ H' => σ = [Option.some (.ref a0), Option.some (.ref S.s), Option.some (.int (0 + (i : Int))), Option.some some, Option.some oth, Option.some (.ref q5), Option.some (.ref L), Option.some v, Option.some (.str e.shown), Option.some fz, Option.some (.bl (b1 n e)), none, none] ∧ Same H11 H', ?_, fun σ5 H12 mid5 => ?_⟩
  · refine ⟨v, rfl, v, .ty "tuple", _, _, isTp e, rfl, .ty _, hz11.ty, kitT e, isTp e, rfl, ?_⟩
    cases hz11 with
    | non => exact iteF ⟨rfl, Same.refl _⟩
    | bl b => exact iteF ⟨rfl, Same.refl _⟩
    | int i => exact iteF ⟨rfl, Same.refl _⟩
    | str x => exact iteF ⟨rfl, Same.refl _⟩
    | lst _ _ _ => exact iteF ⟨rfl, Same.refl _⟩
    | dct kvs _ => exact iteF ⟨rfl, Same.refl _⟩
    | @tup a ys es hx alle =>
      refine iteT ⟨.ref a, rfl, a, _, rfl, .inr hx, .ref q5, rfl, q5, _, rfl, .inr (SqT.of (sm11 _ _ hq9)), rfl, ?_, Same.refl _⟩
      have eb : decide (V.int ((ys.length : Nat) : Int) = V.int ((((scL n p).map V.int).length : Nat) : Int)) = b1 n (.tuple es) := by
        have := alle.len
        show _ = decide (es.length = 2 ^ n)
        rw [Bool.eq_iff_iff, decide_eq_true_iff, decide_eq_true_iff, hvl]
        constructor
        · intro h
          have := V.int.inj h
          omega
        · intro h
          rw [this, h]
      rw [eb]
      rfl
  obtain ⟨rfl, s12⟩ := mid5
  have sm12 := sm11.trans s12
  have hz12 := hz11.same s12
  -- .. of numbers
  refine ⟨fun σ H' => σ = [Option.some (.ref a0), Option.some (.ref S.s), Option.some (.int (0 + (i : Int))), Option.some some, Option.some oth, Option.some (.ref q5), Option.some (.ref L), Option.some v, Option.some (.str e.shown), Option.some fz, Option.some (.bl (isRow n e)), none, none] ∧ Same H12 H', ?_, fun σ6 H13 mid6 => ?_⟩
  · refine ⟨_, rfl, _, rfl, ?_⟩
    cases hz12 with
    | non => exact iteF ⟨rfl, Same.refl _⟩
    | bl b => exact iteF ⟨rfl, Same.refl _⟩
    | int i => exact iteF ⟨rfl, Same.refl _⟩
    | str x => exact iteF ⟨rfl, Same.refl _⟩
    | lst _ _ _ => exact iteF ⟨rfl, Same.refl _⟩
    | dct kvs _ => exact iteF ⟨rfl, Same.refl _⟩
    | @tup a ys es hx alle =>
      have hyl := alle.len
      show if decide (es.length = 2 ^ n) = true then _ else _
      by_cases hl : es.length = 2 ^ n
      rotate_left
      · rw [decide_eq_false hl]
        refine iteF ⟨?_, Same.refl _⟩
        show _ = [_, _, _, _, _, _, _, _, _, _, Option.some (V.bl (decide (es.length = 2 ^ n) && es.all isN)), none, none]
        show [_, _, _, _, _, _, _, _, _, _, Option.some (V.bl (decide (es.length = 2 ^ n))), none, none] = _
        rw [decide_eq_false hl]
        rfl
      rw [decide_eq_true hl]
      refine iteT ⟨.ref a, rfl, a, rfl, ⟨_, hx⟩, fun D nD => lcp_tup (p := fun z => !nV z) (f := id) nD hx (small64 (by omega)) (fun j z Hc hzj sc => ?_) (fun H13 s13 hD => ?_)⟩
      · intro R1 R2 r1 r2
        obtain ⟨d', hd', hz'⟩ := alle.at hzj
        have hgi := hge.all.1.at (List.mem_of_getElem? hd')
        refine ⟨rfl, z, rfl, 10, 40, rfl, rfl, ⟨by decide, by decide, by decide⟩, _, rfl, 10, 40, rfl, rfl, ⟨by decide, by decide, by decide⟩, z, d', -(10 ^ 40), 10 ^ 40, rfl, hz'.same sc, ?_⟩
        have ei : isIn (-(10 ^ 40)) (10 ^ 40) d' = nV z := by
          rw [hz'.nV]
          cases d' with
          | int c =>
            have hc : c.natAbs ≤ MF := hgi.f
            have hM : (MF : Int) ≤ 10 ^ 40 := by decide
            show (decide (-(10 ^ 40) ≤ c) && decide (c ≤ 10 ^ 40)) = true
            rw [decide_eq_true (by omega), decide_eq_true (by omega)]
            rfl
          | _ => rfl
        rw [ei]
        refine ⟨_, rfl, ?_⟩
        cases hn : nV z with
        | true => exact iteF (r1 (by rw [hn]; rfl) _ (Same.refl _))
        | false => exact iteT ⟨_, rfl, r2 (by rw [hn]; rfl) _ (Same.refl _)⟩
      · rw [List.map_id] at hD
        refine ⟨sz (n := 0) (by decide), fun Z nZ => ⟨D, Z, _, rfl, rfl, SqL.of (same_new nZ _ _ hD), SqL.of upd_same, ?_, s13.trans (same_new nZ)⟩⟩
        have eb : (ys.filter fun z => !nV z).isEmpty = isRow n (.tuple es) := by
          show _ = (decide (es.length = 2 ^ n) && es.all isN)
          rw [decide_eq_true hl, Bool.true_and, ← dz_all alle, Bool.eq_iff_iff, List.isEmpty_iff, List.filter_eq_nil_iff, List.all_map, List.all_eq_true]
          constructor
          · intro h z hz
            have := h z hz
            simpa using this
          · intro h z hz
            have := h z hz
            simpa using this
        rw [eb]
        rfl
  obtain ⟨rfl, s13⟩ := mid6
  have sm13 := sm12.trans s13
  have hz13 := hz12.same s13
  have hx13 := sm13 _ _ hx5
  have l13 := l9.same sm13
  rcases g11 with ⟨cs, rfl, hcs, ⟨ok, lz⟩ | ⟨ok, rfl⟩⟩ | ⟨nr, rfl⟩
  · -- found
    have er : isRow n (.tuple (cs.map PyData.int)) = true := by
      show (decide ((cs.map PyData.int).length = 2 ^ n) && (cs.map PyData.int).all isN) = true
      rw [List.length_map, decide_eq_true hcs, Bool.true_and, List.all_eq_true]
      intro z hz
      obtain ⟨c', _, rfl⟩ := List.mem_map.mp hz
      rfl
    rw [er]
    have lz13 := (lz.same s12).same s13
    obtain ⟨xz, yz, rfl, hxz, hyz⟩ := id lz13
    refine ⟨.ref xz, rfl, rfl, true, rfl, iteT ⟨_, rfl, _, rfl, iteF ⟨.ref xz, rfl, .ref xz, n, _, rfl, lz13, h1, h6, fun H14 s14 => ⟨true, rfl, iteF ?_⟩⟩⟩⟩
    refine ⟨.ref xz, rfl, xz, _, 0, .int n, rfl, rfl, SqT.of (s14 _ _ hxz), rfl, some, rfl, x5, _, 0, .int n, e5, rfl, SqT.of (s14 _ _ hx13), rfl, rfl, _, rfl, iteNS rfl ?_⟩
    have s14' := sm13.trans s14
    have lz14 := lz13.same s14
    refine ⟨.ref xz, rfl, rfl, true, rfl, iteT ⟨.ref xz, rfl, .ref xz, n, _, rfl, lz14, h6, fun H15 sv s15 gv => ?_⟩⟩
    rw [sc_of h6 hcs ok] at gv
    obtain ⟨qv, rfl, hqv⟩ := gv
    have hz15 := (hz13.same s14).same s15
    refine ⟨.ref qv, .tuple (cs.map PyData.int), rfl, .tup (SqT.of hqv) (dv_intL (N := fun _ => True) cs).dz, by omega, shw.1, szl (m := 20000) (by omega) (by decide), _, rfl, rfl, _, rfl, iteNS rfl ?_⟩
    refine ⟨v, rfl, v, _, rfl, hz15, by omega, shw.1, szl (m := 20000) (by omega) (by decide), _, rfl, rfl, _, rfl, iteNS rfl ?_⟩
    refine ⟨_, rfl, _, rfl, iteT ⟨v, rfl, .ref q5, rfl, _, _, dz_dp hz15, .tup (SqT.of (s15 _ _ (s14' _ _ hq9))) (dpInts _), ints_shaped _, ints_shaped _, _, rfl, ?_⟩⟩
    rw [eqv_tupI]
    refine ite2 (fun ee => ?_) (fun _ => ⟨_, _, _, _, rfl, s14'.trans s15⟩)
    have ecs : cs = scL n p := of_decide_eq_true ee
    refine ⟨.ref xz, rfl, some, rfl, ne_lot (lz14.same s15) ((l13.same s14).same s15) (fun m hm => ?_) ⟨_, rfl, iteF ⟨_, _, _, _, rfl, s14'.trans s15⟩⟩⟩
    rw [ecs]
    exact p_sc h6 hm
  · -- no lot has them
    have er : isRow n (.tuple (cs.map PyData.int)) = true := by
      show (decide ((cs.map PyData.int).length = 2 ^ n) && (cs.map PyData.int).all isN) = true
      rw [List.length_map, decide_eq_true hcs, Bool.true_and, List.all_eq_true]
      intro z hz
      obtain ⟨c', _, rfl⟩ := List.mem_map.mp hz
      rfl
    rw [er]
    refine ⟨.non, rfl, rfl, false, rfl, iteF ⟨.non, rfl, rfl, false, rfl, iteF ?_⟩⟩
    refine ⟨v, rfl, v, _, rfl, hz13, by omega, shw.1, szl (m := 20000) (by omega) (by decide), _, rfl, rfl, _, rfl, iteNS rfl ?_⟩
    refine ⟨_, rfl, _, rfl, iteT ⟨v, rfl, .ref q5, rfl, _, _, dz_dp hz13, .tup (SqT.of (sm13 _ _ hq9)) (dpInts _), ints_shaped _, ints_shaped _, _, rfl, ?_⟩⟩
    rw [eqv_tupI]
    refine ite2 (fun ee => ?_) (fun _ => ⟨_, _, _, _, rfl, sm13⟩)
    have ecs : cs = scL n p := of_decide_eq_true ee
    rw [ecs, ok_sc h6] at ok
    cases ok
  · rw [nr]
    refine ⟨.non, rfl, rfl, false, rfl, iteF ⟨.non, rfl, rfl, false, rfl, iteF ?_⟩⟩
    refine ⟨v, rfl, v, _, rfl, hz13, by omega, shw.1, szl (m := 20000) (by omega) (by decide), _, rfl, rfl, _, rfl, iteNS rfl ?_⟩
    exact ⟨_, rfl, _, rfl, iteF ⟨_, _, _, _, rfl, sm13⟩⟩
end
end XT
namespace XT
open PySem PySem.Spec PyProof.Rows L2
/-! what the top has written -/
theorem all_mk {l : PySem.W.OpenLaw} {w : World} {K : PySem.W.Frag} {h : Heap} {mg : Str → Option Value} {fa : Addr} (X : K.In h) (G : h.Ns mainGlobals mg) (hfa : mg "law" = some (.ref fa))
    {f1 : Addr} {od1 an1 : Option Addr} {sl1 : Array (Option Value)} {oc1 kV1 dc1 pm1 cd1 ct1 : Value}
    (a1 : PySem.W.nsIn K mainGlobals "is_number" = some (some (.ref f1))) (l1 : K.lookup f1 = some ⟨oc1, od1, .func (PySem.W.fnOf "is_number" "is_number" (defArgs sNum) (defBody sNum) (defScope sNum) .none kV1 dc1 pm1 an1 cd1 ct1), sl1⟩) (c1 : PySem.W.codeIn K cd1 "is_number" = true) (k1 : PySem.W.keepIn K (.ref f1) = true)
    {f2 : Addr} {od2 an2 : Option Addr} {sl2 : Array (Option Value)} {oc2 kV2 dc2 pm2 cd2 ct2 : Value}
    (a2 : PySem.W.nsIn K mainGlobals "count_ones" = some (some (.ref f2))) (l2 : K.lookup f2 = some ⟨oc2, od2, .func (PySem.W.fnOf "count_ones" "count_ones" (defArgs sCountOnes) (defBody sCountOnes) (defScope sCountOnes) .none kV2 dc2 pm2 an2 cd2 ct2), sl2⟩) (c2 : PySem.W.codeIn K cd2 "count_ones" = true) (k2 : PySem.W.keepIn K (.ref f2) = true)
    {f3 : Addr} {od3 an3 : Option Addr} {sl3 : Array (Option Value)} {oc3 kV3 dc3 pm3 cd3 ct3 : Value}
    (a3 : PySem.W.nsIn K mainGlobals "sign" = some (some (.ref f3))) (l3 : K.lookup f3 = some ⟨oc3, od3, .func (PySem.W.fnOf "sign" "sign" (defArgs sSign) (defBody sSign) (defScope sSign) .none kV3 dc3 pm3 an3 cd3 ct3), sl3⟩) (c3 : PySem.W.codeIn K cd3 "sign" = true) (k3 : PySem.W.keepIn K (.ref f3) = true)
    {f4 : Addr} {od4 an4 : Option Addr} {sl4 : Array (Option Value)} {oc4 kV4 dc4 pm4 cd4 ct4 : Value}
    (a4 : PySem.W.nsIn K mainGlobals "lot_with" = some (some (.ref f4))) (l4 : K.lookup f4 = some ⟨oc4, od4, .func (PySem.W.fnOf "lot_with" "lot_with" (defArgs sLotWith) (defBody sLotWith) (defScope sLotWith) .none kV4 dc4 pm4 an4 cd4 ct4), sl4⟩) (c4 : PySem.W.codeIn K cd4 "lot_with" = true) (k4 : PySem.W.keepIn K (.ref f4) = true)
    {f5 : Addr} {od5 an5 : Option Addr} {sl5 : Array (Option Value)} {oc5 kV5 dc5 pm5 cd5 ct5 : Value}
    (a5 : PySem.W.nsIn K mainGlobals "_law_stream" = some (some (.ref f5))) (l5 : K.lookup f5 = some ⟨oc5, od5, .func (PySem.W.fnOf "_law_stream" "_law_stream" (defArgs sStream) (defBody sStream) (defScope sStream) .none kV5 dc5 pm5 an5 cd5 ct5), sl5⟩) (c5 : PySem.W.codeIn K cd5 "_law_stream" = true) (k5 : PySem.W.keepIn K (.ref f5) = true)
    {f6 : Addr} {od6 an6 : Option Addr} {sl6 : Array (Option Value)} {oc6 kV6 dc6 pm6 cd6 ct6 : Value}
    (a6 : PySem.W.nsIn K mainGlobals "_law_draw" = some (some (.ref f6))) (l6 : K.lookup f6 = some ⟨oc6, od6, .func (PySem.W.fnOf "_law_draw" "_law_draw" (defArgs sDraw) (defBody sDraw) (defScope sDraw) .none kV6 dc6 pm6 an6 cd6 ct6), sl6⟩) (c6 : PySem.W.codeIn K cd6 "_law_draw" = true) (k6 : PySem.W.keepIn K (.ref f6) = true)
    {f7 : Addr} {od7 an7 : Option Addr} {sl7 : Array (Option Value)} {oc7 kV7 dc7 pm7 cd7 ct7 : Value}
    (a7 : PySem.W.nsIn K mainGlobals "_law_pick" = some (some (.ref f7))) (l7 : K.lookup f7 = some ⟨oc7, od7, .func (PySem.W.fnOf "_law_pick" "_law_pick" (defArgs sLPick) (defBody sLPick) (defScope sLPick) .none kV7 dc7 pm7 an7 cd7 ct7), sl7⟩) (c7 : PySem.W.codeIn K cd7 "_law_pick" = true) (k7 : PySem.W.keepIn K (.ref f7) = true)
    {f8 : Addr} {od8 an8 : Option Addr} {sl8 : Array (Option Value)} {oc8 kV8 dc8 pm8 cd8 ct8 : Value}
    (a8 : PySem.W.nsIn K mainGlobals "_law_odd" = some (some (.ref f8))) (l8 : K.lookup f8 = some ⟨oc8, od8, .func (PySem.W.fnOf "_law_odd" "_law_odd" (defArgs sLOdd) (defBody sLOdd) (defScope sLOdd) .none kV8 dc8 pm8 an8 cd8 ct8), sl8⟩) (c8 : PySem.W.codeIn K cd8 "_law_odd" = true) (k8 : PySem.W.keepIn K (.ref f8) = true)
    {f9 : Addr} {od9 an9 : Option Addr} {sl9 : Array (Option Value)} {oc9 kV9 dc9 pm9 cd9 ct9 : Value}
    (a9 : PySem.W.nsIn K mainGlobals "_law_is_int" = some (some (.ref f9))) (l9 : K.lookup f9 = some ⟨oc9, od9, .func (PySem.W.fnOf "_law_is_int" "_law_is_int" (defArgs sLIsInt) (defBody sLIsInt) (defScope sLIsInt) .none kV9 dc9 pm9 an9 cd9 ct9), sl9⟩) (c9 : PySem.W.codeIn K cd9 "_law_is_int" = true) (k9 : PySem.W.keepIn K (.ref f9) = true)
    {f10 : Addr} {od10 an10 : Option Addr} {sl10 : Array (Option Value)} {oc10 kV10 dc10 pm10 cd10 ct10 : Value}
    (a10 : PySem.W.nsIn K mainGlobals "_law_drawn" = some (some (.ref f10))) (l10 : K.lookup f10 = some ⟨oc10, od10, .func (PySem.W.fnOf "_law_drawn" "_law_drawn" (defArgs sDrawn) (defBody sDrawn) (defScope sDrawn) .none kV10 dc10 pm10 an10 cd10 ct10), sl10⟩) (c10 : PySem.W.codeIn K cd10 "_law_drawn" = true) (k10 : PySem.W.keepIn K (.ref f10) = true)
    {f11 : Addr} {od11 an11 : Option Addr} {sl11 : Array (Option Value)} {oc11 kV11 dc11 pm11 cd11 ct11 : Value}
    (a11 : PySem.W.nsIn K mainGlobals "_law_bent" = some (some (.ref f11))) (l11 : K.lookup f11 = some ⟨oc11, od11, .func (PySem.W.fnOf "_law_bent" "_law_bent" (defArgs sLBent) (defBody sLBent) (defScope sLBent) .none kV11 dc11 pm11 an11 cd11 ct11), sl11⟩) (c11 : PySem.W.codeIn K cd11 "_law_bent" = true) (k11 : PySem.W.keepIn K (.ref f11) = true)
    {f12 : Addr} {od12 an12 : Option Addr} {sl12 : Array (Option Value)} {oc12 kV12 dc12 pm12 cd12 ct12 : Value}
    (a12 : PySem.W.nsIn K mainGlobals "_law_sign" = some (some (.ref f12))) (l12 : K.lookup f12 = some ⟨oc12, od12, .func (PySem.W.fnOf "_law_sign" "_law_sign" (defArgs sLSign) (defBody sLSign) (defScope sLSign) .none kV12 dc12 pm12 an12 cd12 ct12), sl12⟩) (c12 : PySem.W.codeIn K cd12 "_law_sign" = true) (k12 : PySem.W.keepIn K (.ref f12) = true)
    {f13 : Addr} {od13 an13 : Option Addr} {sl13 : Array (Option Value)} {oc13 kV13 dc13 pm13 cd13 ct13 : Value}
    (a13 : PySem.W.nsIn K mainGlobals "_law_signed" = some (some (.ref f13))) (l13 : K.lookup f13 = some ⟨oc13, od13, .func (PySem.W.fnOf "_law_signed" "_law_signed" (defArgs sLSigned) (defBody sLSigned) (defScope sLSigned) .none kV13 dc13 pm13 an13 cd13 ct13), sl13⟩) (c13 : PySem.W.codeIn K cd13 "_law_signed" = true) (k13 : PySem.W.keepIn K (.ref f13) = true)
    {f14 : Addr} {od14 an14 : Option Addr} {sl14 : Array (Option Value)} {oc14 kV14 dc14 pm14 cd14 ct14 : Value}
    (a14 : PySem.W.nsIn K mainGlobals "_law_is_lot" = some (some (.ref f14))) (l14 : K.lookup f14 = some ⟨oc14, od14, .func (PySem.W.fnOf "_law_is_lot" "_law_is_lot" (defArgs sLIsLot) (defBody sLIsLot) (defScope sLIsLot) .none kV14 dc14 pm14 an14 cd14 ct14), sl14⟩) (c14 : PySem.W.codeIn K cd14 "_law_is_lot" = true) (k14 : PySem.W.keepIn K (.ref f14) = true)
    {f15 : Addr} {od15 an15 : Option Addr} {sl15 : Array (Option Value)} {oc15 kV15 dc15 pm15 cd15 ct15 : Value}
    (a15 : PySem.W.nsIn K mainGlobals "law" = some (some (.ref f15))) (l15 : K.lookup f15 = some ⟨oc15, od15, .func (PySem.W.fnOf "law" "law" (defArgs sLaw) (defBody sLaw) (defScope sLaw) .none kV15 dc15 pm15 an15 cd15 ct15), sl15⟩) (c15 : PySem.W.codeIn K cd15 "law" = true) (k15 : PySem.W.keepIn K (.ref f15) = true)
    (y1 : PySem.W.nsIn K mainGlobals "list" = some none)
    (y2 : PySem.W.nsIn K mainGlobals "repr" = some none)
    (y3 : PySem.W.nsIn K mainGlobals "str" = some none)
    (y4 : PySem.W.nsIn K mainGlobals "sum" = some none)
    (z1 : PySem.W.nsIn K mainGlobals "len" = some none) (z2 : PySem.W.nsIn K mainGlobals "abs" = some none) (z3 : PySem.W.nsIn K mainGlobals "tuple" = some none) (z4 : PySem.W.nsIn K mainGlobals "sorted" = some none) (z5 : PySem.W.nsIn K mainGlobals "isinstance" = some none) (z6 : PySem.W.nsIn K mainGlobals "int" = some none) (z7 : PySem.W.nsIn K mainGlobals "bool" = some none) (z8 : PySem.W.nsIn K mainGlobals "set" = some none) (z9 : PySem.W.nsIn K mainGlobals "all" = some none) (z10 : PySem.W.nsIn K mainGlobals "range" = some none) (z11 : PySem.W.nsIn K mainGlobals "enumerate" = some none) :
    ∀ base : Heap, K.In base → base.Ns mainGlobals mg → RunC l.prog w K mg base 6 fa (spLaw K) := by
  cases hfa.symm.trans (PySem.W.mg_of X G a15)
  have F1 := fun_mk (st := sNum) l1 c1 k1
  have F2 := fun_mk (st := sCountOnes) l2 c2 k2
  have F3 := fun_mk (st := sSign) l3 c3 k3
  have F4 := fun_mk (st := sLotWith) l4 c4 k4
  have F5 := fun_mk (st := sStream) l5 c5 k5
  have F6 := fun_mk (st := sDraw) l6 c6 k6
  have F7 := fun_mk (st := sLPick) l7 c7 k7
  have F8 := fun_mk (st := sLOdd) l8 c8 k8
  have F9 := fun_mk (st := sLIsInt) l9 c9 k9
  have F10 := fun_mk (st := sDrawn) l10 c10 k10
  have F11 := fun_mk (st := sLBent) l11 c11 k11
  have F12 := fun_mk (st := sLSign) l12 c12 k12
  have F13 := fun_mk (st := sLSigned) l13 c13 k13
  have F14 := fun_mk (st := sLIsLot) l14 c14 k14
  have F15 := fun_mk (st := sLaw) l15 c15 k15
  have b1 := F1.binds (ps := ["value"]) fun _ _ _ _ _ _ us hl => match us, hl with | [_], _ => rfl
  have b2 := F2.binds (ps := ["mask"]) fun _ _ _ _ _ _ us hl => match us, hl with | [_], _ => rfl
  have b3 := F3.binds (ps := ["one", "other"]) fun _ _ _ _ _ _ us hl => match us, hl with | [_, _], _ => rfl
  have b4 := F4.binds (ps := ["width", "value"]) fun _ _ _ _ _ _ us hl => match us, hl with | [_, _], _ => rfl
  have b5 := F5.binds (ps := ["_law_script"]) fun _ _ _ _ _ _ us hl => match us, hl with | [_], _ => rfl
  have b6 := F6.binds (ps := ["_law_stream_here", "_law_many"]) fun _ _ _ _ _ _ us hl => match us, hl with | [_, _], _ => rfl
  have b7 := F7.binds (ps := ["_law_stream_here", "_law_items"]) fun _ _ _ _ _ _ us hl => match us, hl with | [_, _], _ => rfl
  have b8 := F8.binds (ps := ["_law_stream_here"]) fun _ _ _ _ _ _ us hl => match us, hl with | [_], _ => rfl
  have b9 := F9.binds (ps := ["_law_value", "_law_low", "_law_high"]) fun _ _ _ _ _ _ us hl => match us, hl with | [_, _, _], _ => rfl
  have b10 := F10.binds (ps := ["_law_stream_here", "_law_most"]) fun _ _ _ _ _ _ us hl => match us, hl with | [_, _], _ => rfl
  have b11 := F11.binds (ps := ["_law_stream_here", "_law_value", "_law_deep"]) fun _ _ _ _ _ _ us hl => match us, hl with | [_, _, _], _ => rfl
  have b12 := F12.binds (ps := ["_law_one", "_law_other"]) fun _ _ _ _ _ _ us hl => match us, hl with | [_, _], _ => rfl
  have b13 := F13.binds (ps := ["_law_lot"]) fun _ _ _ _ _ _ us hl => match us, hl with | [_], _ => rfl
  have b14 := F14.binds (ps := ["_law_value"]) fun _ _ _ _ _ _ us hl => match us, hl with | [_], _ => rfl
  have B : Bl mg := ⟨PySem.W.mg_none_of X G z1, PySem.W.mg_none_of X G z2, PySem.W.mg_none_of X G z3, PySem.W.mg_none_of X G z4, PySem.W.mg_none_of X G z5, PySem.W.mg_none_of X G z6, PySem.W.mg_none_of X G z7, PySem.W.mg_none_of X G z8, PySem.W.mg_none_of X G z9, PySem.W.mg_none_of X G z10, PySem.W.mg_none_of X G z11⟩
  intro base _ _
  have dD0 : DefR l.prog w K mg base 1 "_law_draw" spDraw := .of (ok_draw F6 B.len) b6 (PySem.W.mg_of X G a6) k6
  have dD1 := drawN dD0
  have dDM := drawM dD0
  have dO : DefR l.prog w K mg base 2 "_law_odd" (spOddS K) := .of (ok_oddS F8 dD1) b8 (PySem.W.mg_of X G a8) k8
  have dP : DefR l.prog w K mg base 2 "_law_pick" (spPick K) := .of (ok_pick B F7 dD1) b7 (PySem.W.mg_of X G a7) k7
  have dB0 : DefR l.prog w K mg base 3 "_law_bent" (fun _ _ _ _ => False) := .of (Fun.ok F11 scBt (fun _ _ _ _ h => h.elim) (fun _ _ _ _ _ _ _ _ _ h => h.elim)) b11 (PySem.W.mg_of X G a11) k11
  have dB1 : DefR l.prog w K mg base 4 "_law_bent" (spBent K 0) := .of (ok_bent (j := 3) B (PySem.W.mg_none_of X G y1) (PySem.W.mg_none_of X G y3) F11 dDM dO dP dB0 (by omega) (fun dq e => absurd e (by omega))) b11 (PySem.W.mg_of X G a11) k11
  have dI : DefR l.prog w K mg base 1 "_law_is_int" (spIsInt K) := .of (ok_isInt B F9) b9 (PySem.W.mg_of X G a9) k9
  have dN : DefR l.prog w K mg base 1 "is_number" (spNumZ K) := .of (ok_numZ B F1) b1 (PySem.W.mg_of X G a1) k1
  have d_count_ones : DefR l.prog w K mg base 1 "count_ones" spOnes := .of (ok_ones F2) b2 (PySem.W.mg_of X G a2) k2
  have d_sign : DefR l.prog w K mg base 2 "sign" spSgn := .of (ok_sign F3 d_count_ones) b3 (PySem.W.mg_of X G a3) k3
  have d_law_sign : DefR l.prog w K mg base 2 "_law_sign" spSgn := .of (ok_lsign F12) b12 (PySem.W.mg_of X G a12) k12
  exact run_it B (PySem.W.mg_none_of X G y1) (PySem.W.mg_none_of X G y2) F15 ⟨.of (ok_stream F5 B.len B.abs) b5 (PySem.W.mg_of X G a5) k5, .of (ok_drawn B F10 dD1) b10 (PySem.W.mg_of X G a10) k10, .of (ok_Ls B (PySem.W.mg_none_of X G y4) F13 d_law_sign) b13 (PySem.W.mg_of X G a13) k13, .of (ok_oddS F8 dD1) b8 (PySem.W.mg_of X G a8) k8, .of (ok_bent (j := 4) B (PySem.W.mg_none_of X G y1) (PySem.W.mg_none_of X G y3) F11 dDM dO dP dB1 (by omega) (fun dq e vs H Q E h => by cases (Nat.succ.inj e : 0 = dq); exact h)) b11 (PySem.W.mg_of X G a11) k11, .of (ok_lwz B (PySem.W.mg_none_of X G y4) F4 dN d_sign) b4 (PySem.W.mg_of X G a4) k4, .of (ok_isInt B F9) b9 (PySem.W.mg_of X G a9) k9, .of (ok_il B F14 (ii_of dI)) b14 (PySem.W.mg_of X G a14) k14⟩
end XT
open PySem PySem.W PyProof.Rows
set_option maxHeartbeats 0 in
theorem PySem.Challenge.cw_xorturns_k33_signed_counts_judged_holds : PySem.Challenge.rw_xorturns_k33_signed_counts_judged.Holds := by
  w_on; o_law; k_head; (case hw => w_witness2)
  k_fill
  refine XT.walk_ofC (l := PySem.Challenge.rw_xorturns_k33_signed_counts_judged) (n := 63) (k := 6) (sp := fun w => XT.spLaw _) rfl (by decide) rfl ⟨rfl, by decide, by decide⟩ (fun w h Y => PySem.W.kIn_of Y) ?F (fun _ _ a ns hl hS => ⟨a, ns, rfl, hS, hl, fun _ => rfl⟩)
  case F =>
    intro w mg fa h KX G hmg
    refine' XT.all_mk KX G hmg ?a1 ?l1 ?c1 ?k1 ?a2 ?l2 ?c2 ?k2 ?a3 ?l3 ?c3 ?k3 ?a4 ?l4 ?c4 ?k4 ?a5 ?l5 ?c5 ?k5 ?a6 ?l6 ?c6 ?k6 ?a7 ?l7 ?c7 ?k7 ?a8 ?l8 ?c8 ?k8 ?a9 ?l9 ?c9 ?k9 ?a10 ?l10 ?c10 ?k10 ?a11 ?l11 ?c11 ?k11 ?a12 ?l12 ?c12 ?k12 ?a13 ?l13 ?c13 ?k13 ?a14 ?l14 ?c14 ?k14 ?a15 ?l15 ?c15 ?k15 ?y1 ?y2 ?y3 ?y4 ?z1 ?z2 ?z3 ?z4 ?z5 ?z6 ?z7 ?z8 ?z9 ?z10 ?z11
    (case a1 => k_is); (case l1 => k_is); (case c1 => k_is); (case k1 => k_is); (case a2 => k_is); (case l2 => k_is); (case c2 => k_is); (case k2 => k_is); (case a3 => k_is); (case l3 => k_is); (case c3 => k_is); (case k3 => k_is); (case a4 => k_is); (case l4 => k_is); (case c4 => k_is); (case k4 => k_is); (case a5 => k_is); (case l5 => k_is); (case c5 => k_is); (case k5 => k_is); (case a6 => k_is); (case l6 => k_is); (case c6 => k_is); (case k6 => k_is); (case a7 => k_is); (case l7 => k_is); (case c7 => k_is); (case k7 => k_is); (case a8 => k_is); (case l8 => k_is); (case c8 => k_is); (case k8 => k_is); (case a9 => k_is); (case l9 => k_is); (case c9 => k_is); (case k9 => k_is); (case a10 => k_is); (case l10 => k_is); (case c10 => k_is); (case k10 => k_is); (case a11 => k_is); (case l11 => k_is); (case c11 => k_is); (case k11 => k_is); (case a12 => k_is); (case l12 => k_is); (case c12 => k_is); (case k12 => k_is); (case a13 => k_is); (case l13 => k_is); (case c13 => k_is); (case k13 => k_is); (case a14 => k_is); (case l14 => k_is); (case c14 => k_is); (case k14 => k_is); (case a15 => k_is); (case l15 => k_is); (case c15 => k_is); (case k15 => k_is); (case y1 => k_is); (case y2 => k_is); (case y3 => k_is); (case y4 => k_is); (case z1 => k_is); (case z2 => k_is); (case z3 => k_is); (case z4 => k_is); (case z5 => k_is); (case z6 => k_is); (case z7 => k_is); (case z8 => k_is); (case z9 => k_is); (case z10 => k_is); (case z11 => k_is)
