import PyProof.Rows.All
import Wide.All
import OpenK.AllK
import Wide.FinOn
import PyProof.EqAt
import PyProof.EqKinds
import PyProof.TupleCall
import HandS.ForMost
import HandS.Strs
import HandS.SetFor
import HandS.SortInts
import HandS.Star
import HandS.IsInst
import KE.GoesMore
import PyProof.ReprRoads
import PyProof.StrLawsRepr
import PyProof.ReprLen
import HandS.Dict
import HandS.Codes
import PyProof.StrCaseBound
import PyProof.FitsInt
import HandS.TupAny
import KE.KRevSl
import PyProof.Rows.IntBool
import PyProof.Rows.EqBoolInt
import HandS.Conv
import HandS.Zip
import KE.GoesEnum
import HandS.ForExc
import HandS.ExcInit
import HandS.ExcField
import HandS.CallSlots
import HandS.HotCalls
import KE.KExcIs
import HandS.Property
import KE.KOpsOwn
import KE.KCallOwn
import OpenK.KMeth
import OpenK.KOps
import PyProof.Conv_int_bool
import PyProof.NeKinds
import HandS.TupMul
import HandS.SetKeys
import PyProof.Rows.SortShellAny
import HandS.TupSets
import KE.KeyNested
import KE.SortData
import KE.DataMinMax
import HandS.SortOrd
import HandS.SetBool
import HandS.TupLe
import HandS.ExcIs
import PySem.Challenge.RW_xorturns_k21_whole_one_answer_for_two_lo
set_option Elab.async false
set_option linter.all false
set_option maxRecDepth 100000
set_option maxHeartbeats 4000000
namespace XT
open PySem PySem.Spec PyProof.Rows L2
/-! heaps -/
theorem same_new {H : Hp} {p : Addr} {o : HO} (h : H p = none) : Same H (upd H p o) := fun b x e => by
  rw [upd_ne (ne_of_none e h)]; exact e

/-- a stream: its own list, the list of its great cells, the list of its cells -/
structure Sm where
  s : Addr
  p : Addr
  q : Addr
  cs : List Int
structure StrmB (S : Sm) (H : Hp) (t : Int) (big : List Int) : Prop where
  hs : H S.s = some (.lst [.ref S.p, .ref S.q, .int t])
  hp : H S.p = some (.lst (big.map V.int))
  hq : H S.q = some (.lst (S.cs.map V.int))
  sp : S.s ≠ S.p
  sq : S.s ≠ S.q
  pq : S.p ≠ S.q
  ne : 0 < S.cs.length
  t0 : 0 ≤ t
def Strm (S : Sm) (H : Hp) (t : Int) : Prop := ∃ big, StrmB S H t big
def Keep (S : Sm) (H H' : Hp) : Prop := ∀ b o, b ≠ S.s → b ≠ S.p → H b = some o → H' b = some o
theorem Keep.refl (S : Sm) (H : Hp) : Keep S H H := fun _ _ _ _ h => h
theorem Keep.trans {S : Sm} {H H1 H2 : Hp} (a : Keep S H H1) (b : Keep S H1 H2) : Keep S H H2 := fun c o n1 n2 h => b c o n1 n2 (a c o n1 n2 h)
theorem Keep.of {S : Sm} {H H' : Hp} (a : Same H H') : Keep S H H' := fun c o _ _ h => a c o h
theorem StrmB.same {S : Sm} {H H' : Hp} {t : Int} {big : List Int} (h : StrmB S H t big) (e : Same H H') : StrmB S H' t big :=
  ⟨e _ _ h.hs, e _ _ h.hp, e _ _ h.hq, h.sp, h.sq, h.pq, h.ne, h.t0⟩
theorem Strm.same {S : Sm} {H H' : Hp} {t : Int} (h : Strm S H t) (e : Same H H') : Strm S H' t := let ⟨b, h⟩ := h; ⟨b, h.same e⟩
theorem Strm.ns {S : Sm} {H : Hp} {t : Int} {b : Addr} {xs : List V} (h : Strm S H t) (e : H b = some (.tup xs)) : b ≠ S.s := by
  obtain ⟨_, h⟩ := h
  exact ne_of e h.hs (by intro z; cases z)
theorem Strm.np {S : Sm} {H : Hp} {t : Int} {b : Addr} {xs : List V} (h : Strm S H t) (e : H b = some (.tup xs)) : b ≠ S.p := by
  obtain ⟨_, h⟩ := h
  exact ne_of e h.hp (by intro z; cases z)
theorem Keep.tup {S : Sm} {H H' : Hp} {t : Int} {b : Addr} {xs : List V} (k : Keep S H H') (h : Strm S H t) (e : H b = some (.tup xs)) : H' b = some (.tup xs) :=
  k b _ (h.ns e) (h.np e) e
theorem Keep.free {S : Sm} {H H' : Hp} {t : Int} {x : Addr} (k : Keep S H H') (h : Strm S H' t) (e : H' x = none) : H x = none := by
  obtain ⟨_, h⟩ := h
  cases q : H x with
  | none => rfl
  | some o =>
    by_cases h1 : x = S.s
    · rw [h1, h.hs] at e; cases e
    · by_cases h2 : x = S.p
      · rw [h2, h.hp] at e; cases e
      · rw [k x o h1 h2 q] at e; cases e
/-- a list of one's own, new behind H, is neither of the stream's -/
theorem Keep.mine {S : Sm} {H H' H2 : Hp} {t : Int} {x : Addr} {o : HO} (k : Keep S H' H2) (h : Strm S H t) (n : H x = none) (e : H' x = some o) : H2 x = some o := by
  obtain ⟨_, h⟩ := h
  refine k x o (fun z => ?_) (fun z => ?_) e
  · rw [z, h.hs] at n; cases n
  · rw [z, h.hp] at n; cases n

theorem dpInts {K : PySem.W.Frag} {H : Hp} : ∀ ns : List Int, DpAll K H (ns.map V.int) (ns.map PyData.int)
  | [] => .nil
  | n :: ns => .cons (.int n) (dpInts ns)
theorem ke_shaped (ns : List Int) : SeqAt.shaped (.list (ns.map PyData.int)) = true := by
  have h1 : ∀ ns : List Int, PyData.canLay0 (.list (ns.map PyData.int)) = true := by
    intro ns
    induction ns with
    | nil => rfl
    | cons n ns ih => simpa [PyData.canLay0, PyData.canLayAll0] using ih
  have h2 : ∀ ns : List Int, PyData.depth (.list (ns.map PyData.int)) ≤ 2 := by
    intro ns
    induction ns with
    | nil => decide
    | cons n ns ih => simp only [PyData.depth, PyData.depthAll, List.map] at ih ⊢; omega
  unfold SeqAt.shaped
  rw [h1 ns, decide_eq_true (Nat.le_trans (h2 ns) (by decide))]
  rfl
theorem ix0 {n : Nat} (h : 0 < n) : ixN n 0 = some 0 := by
  have h2 : (0 : Int) < n := by omega
  simp [ixN]; omega
theorem sq0 {n : Nat} (h : 0 < n) : seqIndex? 0 n = some 0 := (ixN_seq (ix0 h)).1
theorem pm31 {x : Int} : x % 2147483647 < 2147483647 ∧ 0 ≤ x % 2147483647 := ⟨Int.emod_lt_of_pos _ (by decide), Int.emod_nonneg _ (by decide)⟩
theorem pm87 {x : Int} : x % 2147483587 < 2147483587 ∧ 0 ≤ x % 2147483587 := ⟨Int.emod_lt_of_pos _ (by decide), Int.emod_nonneg _ (by decide)⟩

def spDraw : Sp := fun vs H Q _ => ∃ (S : Sm) (t m : Int), vs = [.ref S.s, .int m] ∧ Strm S H t ∧ 0 < m ∧ m < 1073741824 ∧ t < 1000000000000 ∧
  ∀ (H' : Hp) (r t' : Int), Keep S H H' → Strm S H' t' → t ≤ t' → t' ≤ t + 1 → 0 ≤ r → r < m → Q (.int r) H'
theorem sz {n : Nat} (h : n ≤ 1000) : n ≤ sizeLine := Nat.le_trans h (by decide)
theorem small64 {n : Nat} (h : n ≤ 1000) : n < sizeLine := Nat.lt_of_le_of_lt h (by decide)
def ab (i : Int) : Int := if i < 0 then -i else i
def spStream (K : PySem.W.Frag) : Sp := fun vs H Q _ => ∃ (a : Addr) (ns : List Int), vs = [.ref a] ∧ SqL K H a (ns.map V.int) ∧ ns.length ≤ 63 ∧
  ∀ (H' : Hp) (S : Sm), Same H H' → Strm S H' 0 → Q (.ref S.s) H'
end XT
namespace XT
open PySem PySem.Spec PyProof.Rows L2

/-! comprehensions whose turns only lay new things -/
theorem take_one {α β : Type} (f : α → β) (p : α → Bool) {xs : List α} {i : Nat} {x : α} (h : xs[i]? = some x) :
    ((xs.take (i + 1)).filter p).map f = ((xs.take i).filter p).map f ++ (if p x = true then [f x] else []) := by
  rw [List.take_add_one, h, List.filter_append, List.map_append]
  by_cases hp : p x = true
  · simp [hp]
  · simp [hp]
theorem flt_len {α β : Type} (f : α → β) (p : α → Bool) (xs : List α) (i : Nat) : (((xs.take i).filter p).map f).length ≤ i := by
  rw [List.length_map]
  exact Nat.le_trans (List.length_filter_le _ _) (by rw [List.length_take]; exact Nat.min_le_left _ _)

section
variable {K : PySem.W.Frag} {a : Addr} {g : TG} {tt : TT} {te : TE} {vs : List Nat} {σ : L2.St} {H1 : Hp} {D : Addr} {Qd : Hp → Prop}
/-- what one turn must do -/
def TurnP (g : TG) (tt : TT) (te : TE) (vs : List Nat) (σ : L2.St) (x y : V) (keep : Bool) (H : Hp) : Prop :=
  ∀ (R1 : Hp → Prop) (R2 : V → Hp → Prop), (keep = false → ∀ H3, Same H H3 → R1 H3) → (keep = true → ∀ H4, Same H H4 → R2 y H4) →
    g x (wipe σ vs) H fun σ2 H2 => wipe σ2 vs = wipe σ vs ∧ tt σ2 H2 fun b H3 => if b = true then te σ2 H3 R2 else R1 H3
/-- the invariant -/
def PvP (H1 : Hp) (D : Addr) (ys : List V) (H : Hp) : Prop := Same H1 H ∧ H D = some (.lst ys)
theorem pvp_turn {x y : V} {keep : Bool} {H : Hp} {ys : List V} (nD : H1 D = none) (h : PvP H1 D ys H) (hl : ys.length < sizeLine) (ht : TurnP g tt te vs σ x y keep H) (zs : List V) (ez : zs = ys ++ (if keep = true then [y] else [])) :
    g x (wipe σ vs) H fun σ2 H2 => wipe σ2 vs = wipe σ vs ∧ tt σ2 H2 fun b H3 =>
      if b = true then te σ2 H3 fun y H4 => ∃ acc, H4 D = some (.lst acc) ∧ acc.length < sizeLine ∧ PvP H1 D zs (upd H4 D (.lst (acc ++ [y]))) else PvP H1 D zs H3 := by
  obtain ⟨sm, hD⟩ := h
  refine ht _ _ (fun hk H3 s3 => ?_) (fun hk H4 s4 => ?_)
  · subst hk
    refine ⟨sm.trans s3, ?_⟩
    rw [ez, s3 _ _ hD]
    simp
  · subst hk
    refine ⟨ys, s4 _ _ hD, hl, fun b o e => ?_, ?_⟩
    · rw [upd_ne (ne_of_none e nD)]
      exact s4 _ _ (sm _ _ e)
    · rw [upd_same, ez]
      rfl
theorem lcp_list {xs : List V} (p : V → Bool) (f : V → V) (nD : H1 D = none) (hA : SqL K H1 a xs) (hz : xs.length < sizeLine) (ht : ∀ (i : Nat) x H, xs[i]? = some x → Same H1 H → TurnP g tt te vs σ x (f x) (p x) H)
    (hd : ∀ H, Same H1 H → H D = some (.lst ((xs.filter p).map f)) → Qd H) :
    ∃ W : Nat → Nat → Hp → Prop, (∃ m, W 0 m (upd H1 D (.lst []))) ∧ ∀ i m H, W i m H →
      ((Itl K a).stop i H ∧ Qd H) ∨ ((Itl K a).go i H ∧ ∃ Nx : Hp → Prop, (∀ H', Nx H' → ∃ m', m' < m ∧ W (i + 1) m' H') ∧ ∀ x H', (Itl K a).yld i H x H' → g x (wipe σ vs) H' fun σ2 H2 => wipe σ2 vs = wipe σ vs ∧ tt σ2 H2 fun b H3 =>
        if b = true then te σ2 H3 fun y H4 => ∃ acc, H4 D = some (.lst acc) ∧ acc.length < sizeLine ∧ Nx (upd H4 D (.lst (acc ++ [y]))) else Nx H3) := by
  refine lc_list (xs := xs) (fun i H => PvP H1 D (((xs.take i).filter p).map f) H) ⟨same_new nD, upd_same⟩ (fun i H _ h => h.1.seq hA) (fun i x H hx h => ?_) (fun H h => ?_)
  · have hi : i < xs.length := (List.getElem?_eq_some_iff.mp hx).1
    exact pvp_turn nD h (Nat.lt_of_le_of_lt (flt_len f p xs i) (Nat.lt_trans hi hz)) (ht i x H hx h.1) _ (take_one f p hx)
  · have h2 := h.2
    rw [List.take_length] at h2
    exact hd H h.1 h2
theorem Same.sqT {H H' : Hp} {a : Addr} {xs : List V} (e : Same H H') (h : SqT K H a xs) : SqT K H' a xs := by
  rcases h with (h | ⟨o, h⟩) | h
  · exact .inl (.inl (e _ _ h))
  · exact .inl (.inr ⟨o, e _ _ h⟩)
  · exact .inr h
theorem lcp_tup {xs : List V} (p : V → Bool) (f : V → V) (nD : H1 D = none) (hA : SqT K H1 a xs) (hz : xs.length < sizeLine) (ht : ∀ (i : Nat) x H, xs[i]? = some x → Same H1 H → TurnP g tt te vs σ x (f x) (p x) H)
    (hd : ∀ H, Same H1 H → H D = some (.lst ((xs.filter p).map f)) → Qd H) :
    ∃ W : Nat → Nat → Hp → Prop, (∃ m, W 0 m (upd H1 D (.lst []))) ∧ ∀ i m H, W i m H →
      ((Itt K a).stop i H ∧ Qd H) ∨ ((Itt K a).go i H ∧ ∃ Nx : Hp → Prop, (∀ H', Nx H' → ∃ m', m' < m ∧ W (i + 1) m' H') ∧ ∀ x H', (Itt K a).yld i H x H' → g x (wipe σ vs) H' fun σ2 H2 => wipe σ2 vs = wipe σ vs ∧ tt σ2 H2 fun b H3 =>
        if b = true then te σ2 H3 fun y H4 => ∃ acc, H4 D = some (.lst acc) ∧ acc.length < sizeLine ∧ Nx (upd H4 D (.lst (acc ++ [y]))) else Nx H3) := by
  refine lc_tup (xs := xs) (fun i H => PvP H1 D (((xs.take i).filter p).map f) H) ⟨same_new nD, upd_same⟩ (fun i H _ h => Same.sqT h.1 hA) (fun i x H hx h => ?_) (fun H h => ?_)
  · have hi : i < xs.length := (List.getElem?_eq_some_iff.mp hx).1
    exact pvp_turn nD h (Nat.lt_of_le_of_lt (flt_len f p xs i) (Nat.lt_trans hi hz)) (ht i x H hx h.1) _ (take_one f p hx)
  · have h2 := h.2
    rw [List.take_length] at h2
    exact hd H h.1 h2
theorem lcp_range {n : Nat} (p : Nat → Bool) (f : Nat → V) (nD : H1 D = none) (hz : n < sizeLine) (ht : ∀ (i : Nat) H, i < n → Same H1 H → TurnP g tt te vs σ (.int (0 + (i : Int))) (f i) (p i) H)
    (hd : ∀ H, Same H1 H → H D = some (.lst (((List.range n).filter p).map f)) → Qd H) :
    ∃ W : Nat → Nat → Hp → Prop, (∃ m, W 0 m (upd H1 D (.lst []))) ∧ ∀ i m H, W i m H →
      ((Itr 0 n).stop i H ∧ Qd H) ∨ ((Itr 0 n).go i H ∧ ∃ Nx : Hp → Prop, (∀ H', Nx H' → ∃ m', m' < m ∧ W (i + 1) m' H') ∧ ∀ x H', (Itr 0 n).yld i H x H' → g x (wipe σ vs) H' fun σ2 H2 => wipe σ2 vs = wipe σ vs ∧ tt σ2 H2 fun b H3 =>
        if b = true then te σ2 H3 fun y H4 => ∃ acc, H4 D = some (.lst acc) ∧ acc.length < sizeLine ∧ Nx (upd H4 D (.lst (acc ++ [y]))) else Nx H3) := by
  refine lc_range (lo := 0) (n := n) (fun i H => PvP H1 D ((((List.range n).take i).filter p).map f) H) ⟨same_new nD, upd_same⟩ (fun i H hi h => ?_) (fun H h => ?_)
  · have hx : (List.range n)[i]? = some i := List.getElem?_range hi
    exact pvp_turn nD h (Nat.lt_of_le_of_lt (flt_len f p _ i) (Nat.lt_trans hi hz)) (ht i H hi h.1) _ (take_one f p hx)
  · have h2 := h.2
    rw [List.take_of_length_le (by rw [List.length_range]; exact Nat.le_refl _)] at h2
    exact hd H h.1 h2
end
end XT
/-! set(list of ints); sorted(set of ints) of any number -/
namespace XT
open PySem PySem.Spec PyProof.Rows L2
abbrev newS (w : World) : Obj := { cls := .type "set", dict := none, data := .set #[] 0 (.fresh 0 0 (!w.params.followText "set-order")) }
section
variable {P : Program} {w : World} {A : Around} {E : Value → Shared → Prop} {s : Shared}
abbrev afterS (w : World) (s : Shared) (ns : List Int) (r : Value) (s2 : Shared) : Prop :=
  r = .none ∧ ∃ (hp : Heap) (tk c : Nat), s2 = { s with heap := hp, toks := tk } ∧ SetR w hp s.heap.objs.size (fun j => decide (j ∈ ns)) c ∧ c ≤ ns.length ∧ (∀ b o, s.heap.get? b = some o → hp.get? b = some o)
abbrev withS (w : World) (s : Shared) : Shared := { s with heap := s.heap.push (newS w) }
theorem items_at {items : Array Value} {ns : List Int} (hit : IntsAre items.toList ns) (hz : items.size = ns.length) (i : Nat) (v : Value) (hv : items[i]? = some v) : ∃ k t, ns[i]? = some k ∧ v = .int k t := by
  have hi : i < ns.length := by rw [← hz]; exact (Array.getElem?_eq_some_iff.mp hv).1
  obtain ⟨t, e⟩ := IntsAre.int_at hit i v (by rw [Array.getElem?_toList]; exact hv)
  exact ⟨ns[i], t, List.getElem?_eq_getElem hi, by rw [e, List.getD_eq_getElem?_getD, List.getElem?_eq_getElem hi] <;> rfl⟩
theorem set_listI {l : Addr} {items : Array Value} (ns : List Int) {Q : Value → Shared → Prop} (hh : A.handled = none) (hl : s.heap.IsList l items) (hit : IntsAre items.toList ns) (hb : ns.length + 1 < scanBound)
    (h : ∀ (hp : Heap) (tk c : Nat), SetR w hp s.heap.objs.size (fun j => decide (j ∈ ns)) c → c ≤ ns.length → (∀ b o, s.heap.get? b = some o → hp.get? b = some o) → Q (.ref s.heap.objs.size) { s with heap := hp, toks := tk }) :
    wpAny (model P w) A (call (.type "set") [.ref l]) Q E s := by
  have hz : items.size = ns.length := by
    have e := IntsAre.length hit
    rwa [Array.length_toList] at e
  obtain ⟨mc, mt, m0⟩ := F.called_set.mro
  have m1 := F.called_set.made
  have m2 := F.called_set.sub
  have m3 := F.called_set.notType
  have m4 := F.called_set.canCreate
  have m5 := F.typeCall_set_1 (.ref l)
  refine wpAny_call (codeAny_of_tree ?_)
  show wpAny _ _ (callAny (.type "set") _) _ _ _
  refine wpAny_pure ⟨Code.quiet_builtin _ (by decide +kernel), codeAny_builtin F.entry_type_call ?_⟩
  rw [Around.under_plain (weight_type_call_type "set" [.ref l] []) rfl]
  repeat (any_goals (first | assumption | wp_step))
  refine codeAny_mono (code_set_led1 (.ref l) (E := E) (Q₁ := fun v s1 => v = .ref s.heap.objs.size ∧ s1 = withS w s) ⟨rfl, rfl⟩) fun r s1 hr => ?_
  match r, hr with
  | .error e, hr => exact hr
  | .ok .next, hr => exact hr.elim
  | .ok .brk, hr => exact hr.elim
  | .ok .cont, hr => exact hr.elim
  | .ok (.ret v), hr =>
    obtain ⟨rfl, rfl⟩ := hr
    have g0 : (s.heap.push (newS w)).get? s.heap.objs.size = some (newS w) := Heap.get?_push_size _ rfl
    have g1 : Shared.TypeIs (withS w s) (.ref s.heap.objs.size) "set" := ⟨_, g0, rfl⟩
    have g2 := F.called_set.init.lookup
    have g3 := F.called_set.init.bind (.ref s.heap.objs.size)
    repeat (any_goals (first | assumption | wp_step))
    refine codeAny_mono (codeAny_call_builtin (R := wants (afterS w s ns) E) F.called_set.init.plain F.entry_set_init (check_set_init_1 g1 ?_)) fun r2 s2 hr2 => ?_
    · obtain ⟨ol, hol, hcl, nl, hdl⟩ := hl
      obtain ⟨oc, od, odt, osl⟩ := ol
      simp only at hcl hdl
      subst hcl hdl
      have hol1 : (s.heap.push (newS w)).get? l = some { cls := .type "list", dict := od, data := .seq items nl, slots := osl } := Heap.get?_push_of_some _ hol
      have n1 := F.sub_list_set
      have n2 := F.sub_list_frozenset
      have n3 : (Value.type "list" == Value.type "dict") = false := by decide
      have hl1 : (s.heap.push (newS w)).IsList l items := ⟨_, hol1, rfl, nl, rfl⟩
      have lS : l < s.heap.objs.size := Heap.lt_size hol
      have z1 : (s.heap.push (newS w)).objs.size = s.heap.objs.size + 1 := Heap.size_push ..
      unfold Builtin.«set.__init__» noKeywords Builtin.Frozenset.updateFrom
      generalize hPI : pyIter = PI
      wp_walk
      subst hPI
      refine wpAny_pyIter_list hl1 (wpAny_bind (wpAny_runValue ?_))
      refine set_update_ints ((Walks.list (by simp [hh]) _ l (by rw [z1]; exact Nat.ne_of_lt (Nat.lt_succ_of_lt lS)) items).toS) s.heap.objs.size (by rw [z1]; simp only [List.mem_cons, List.not_mem_nil, or_false, not_or]; exact ⟨Nat.ne_of_lt (Nat.lt_succ_self _), Nat.ne_of_gt lS⟩) ns hz hb (items_at hit hz) (items.size - 0) 0 _ (by omega) (Nat.zero_le _)
        ⟨⟨_, Heap.get?_push_size _ rfl, rfl, rfl⟩, hl1.push _⟩ ⟨0, Nat.le_refl 0, setR_new_at (Heap.get?_push_of_some _ g0)⟩ ?_
      intro s3 c hm hc hS
      obtain ⟨h3, ge, dr, tk, os⟩ := s3
      obtain rfl : ge = s.gens := hm.gens
      obtain rfl : dr = s.drawn := hm.drawn
      obtain rfl : os = s.os := hm.os
      show wpAny _ _ _ _ _ _
      refine wpAny_pure ?_
      show wpAny _ _ (ret Value.none) _ _ _
      rw [hz] at hc
      refine wpAny_pure ⟨rfl, h3, tk, c, rfl, hS, hc, fun b o e => ?_⟩
      have b0 : b < s.heap.objs.size := Heap.lt_size e
      exact hm.heap b o (by rw [z1]; simp only [List.mem_cons, List.not_mem_nil, or_false, not_or]; exact ⟨Nat.ne_of_lt b0, Nat.ne_of_lt (Nat.lt_succ_of_lt b0)⟩) (Heap.get?_push_of_some _ (Heap.get?_push_of_some _ e))
    · match r2, hr2 with
      | .error e, hr2 => exact hr2
      | .ok .next, hr2 => exact hr2.elim
      | .ok .brk, hr2 => exact hr2.elim
      | .ok .cont, hr2 => exact hr2.elim
      | .ok (.ret v), hr2 =>
        obtain ⟨rfl, hp, tk, c, rfl, hS, hc, hk⟩ := hr2
        repeat (any_goals (first | assumption | wp_step))
        exact h _ _ _ hS hc hk
end
end XT
namespace XT
open PySem PySem.Spec PyProof.Rows L2
section
variable {P : Program} {w : World} {A : Around} {E : Value → Shared → Prop} {s : Shared} {a : Addr}
theorem iv_raw (v : Value) (h : ∃ k t, v = Value.int k t) : SrtO.iv v = Builtin.Re.reRawOf v := by
  obtain ⟨k, t, rfl⟩ := h
  rfl
/-- sorted(set of ints), however many -/
theorem sorted_setN {S : Int → Bool} {n : Nat} {Q : Value → Shared → Prop} (R : SetR w s.heap a S n) (hh : A.handled = none)
    (hQ : ∀ s2 p (out : List Value) (c : Nat) (ns : List Int), (∀ b o, s.heap.get? b = some o → s2.heap.get? b = some o) → s2.gens = s.gens → s2.os = s.os → s.heap.objs.size ≤ p →
      s2.heap.get? p = some (seqObj "list" out.toArray c) → IntsAre out ns → ns.Pairwise (· < ·) → (∀ k, k ∈ ns ↔ S k = true) → ns.length = n → Q (.ref p) s2) :
    wpAny (model P w) A (call (.builtin "sorted") [.ref a]) Q E s := by
  obtain ⟨o, es, ep, t, ho, hex, hd, g, nd, hm, hb, hf, hn, hr, hl⟩ := R
  refine Calls.call_function_entry kind_sorted plain_sorted entry_sorted (args_sorted1 _) ?_
  unfold Builtin.«sorted»
  refine wpAny_bind (m := checkCount "sorted" 1 1 _) (wpAny_pure (wpAny_bind (collect_set (A := A.in1) hh ⟨o, ho, hex.1, hd⟩ hf hb hr hl fun s1 vs k1 hz g1 o1 pm => ?_)))
  have vl : vs.length = n := by rw [pm.length_eq, List.length_map, Array.length_toList]; exact hn
  have n0 : n ≤ sizeLine := by rw [sizeLine_eq]; unfold scanBound at hb; omega
  have allI : ∀ v ∈ vs, ∃ k t, v = Value.int k t := fun v hv => by
    obtain ⟨e, he, q⟩ := List.mem_map.mp (pm.mem_iff.mp hv)
    obtain ⟨k, tk, h1, _⟩ := g e he
    exact ⟨k, tk, by rw [← q]; exact h1⟩
  have hI : IntsAre vs (vs.map SrtO.iv) := SrtO.ints_iv allI
  have pk : (vs.map SrtO.iv).Perm (es.toList.map keyOf) := by
    have e1 : vs.map SrtO.iv = vs.map Builtin.Re.reRawOf := List.map_congr_left fun v hv => iv_raw v (allI v hv)
    have q := pm.map Builtin.Re.reRawOf
    rw [List.map_map] at q
    rw [e1]
    exact q
  refine wpAny_bind (wpAny_newList ?_ (by rw [vl]; exact n0))
  have hoL : (s1.heap.push (seqObj "list" vs.toArray 0)).get? s1.heap.objs.size = some (seqObj "list" vs.toArray 0) := Heap.get?_push_size _ rfl
  refine wpAny_bind (wpAny_holding (wpAny_call_entry slot_list_sort ⟨_, hoL, rfl⟩ entry_list_sort (SrtO.list_sort_ord SrtO.swo_int hoL (by rw [vl]; exact n0) (fun h2 => SrtO.ints_sortable hI h2) fun out a1 a2 => ⟨_, rfl, ?_⟩) (args_list_sort _)))
  obtain ⟨j1, j2, j3⟩ := SrtO.ints_out hI a1 a2
  obtain ⟨c, hc⟩ := sortedHeap_at (vs := vs) (out := out.toArray) hoL
  have pn := j2.trans pk
  refine wpAny_pure ⟨_, rfl, hQ _ s1.heap.objs.size out c _ (fun b u e => ?_) g1 o1 hz hc j1 (lt_of_le_nodup _ j3 (pn.nodup_iff.mpr nd)) (fun k => by rw [pn.mem_iff, ← hm k]) ?_⟩
  · have q := k1 b u e
    have lt := Heap.lt_size q
    show (sortedHeap (s1.heap.push (seqObj "list" vs.toArray 0)) s1.heap.objs.size vs out.toArray).get? b = some u
    rw [sortedHeap_old (Nat.ne_of_lt lt) (by rw [size_push']; exact Nat.lt_succ_of_lt lt)]
    exact Heap.get?_push_of_some _ q
  · rw [pn.length_eq, List.length_map, Array.length_toList]; exact hn
end
section
variable {X : Cx}
/-- set(xs), a list of ints -/
def rSetL (K : PySem.W.Frag) (w : World) : List V → Hp → VK → Prop := fun vs H Q => ∃ (a : Addr) (ns : List Int), vs = [V.ref a] ∧ SqL K H a (ns.map V.int) ∧ ns.length ≤ 1000 ∧
  ∀ (p : Addr) (c : Nat), H p = none → Q (.ref p) (upd H p (SetO w p (fun j => decide (j ∈ ns)) c))
theorem cr_setL (hc : X.calm = true) : CallR X (.type "set") (XT.rSetL X.K X.w) := by
  intro pins s σ H vs us Q I r h
  obtain ⟨a, ns, rfl, hs, hn, q⟩ := h
  obtain ⟨its, rv, hl, hz⟩ := I.list hs
  rw [Vals.ref1 r]
  refine set_listI ns (I.ok.hd hc) hl.isList (by simpa using rv.ints) (by unfold scanBound; omega) fun hp tk c hS hcn hk => ?_
  exact ⟨.ref _, _, I.laid (t' := tk) hk (Nat.le_refl _) (setO_new hS), rfl, q _ c (I.hok.fresh (Nat.le_refl _))⟩
/-- sorted(found) -/
def rSortS (w : World) : List V → Hp → VK → Prop := fun vs H Q => ∃ (a : Addr) (S : Int → Bool) (n : Nat), vs = [V.ref a] ∧ H a = some (SetO w a S n) ∧
  ∀ (ns : List Int) (p : Addr), ns.Pairwise (· < ·) → (∀ k : Int, k ∈ ns ↔ S k = true) → H p = none → Q (.ref p) (upd H p (.lst (ns.map V.int)))
theorem cr_sortS (hc : X.calm = true) : CallR X (.builtin "sorted") (rSortS X.w) := by
  intro pins s σ H vs us Q I r h
  obtain ⟨a, S, n, rfl, ha, q⟩ := h
  have R := setO_get I ha
  have n0 : n ≤ sizeLine := by
    obtain ⟨_, _, _, _, _, _, _, _, _, _, hb, _, hn, _⟩ := R
    rw [sizeLine_eq]; unfold scanBound at hb; omega
  rw [Vals.ref1 r]
  refine sorted_setN R (I.ok.hd hc) fun s2 p out c ns k g o hp hg hi hs hm hl => ?_
  have hn : H p = none := I.hok.fresh hp
  have J : Inv X pins σ (upd H p (.lst (ns.map V.int))) { s with heap := s2.heap, gens := s2.gens, drawn := s2.drawn, toks := s2.toks } :=
    I.call (ch := []) (Un.laid k hp hn) (I.hok.laid k hp ⟨by rw [List.length_map, hl]; exact n0, out, c, vals_of_ints hi, hg⟩) (by rw [g]; exact I.bare) (fun _ z => nomatch z)
  have e : s2 = { s with heap := s2.heap, gens := s2.gens, drawn := s2.drawn, toks := s2.toks } := by
    cases s2; cases s; cases o; rfl
  rw [e]
  exact ⟨.ref p, _, J, rfl, q ns p hs hm hn⟩
end
end XT
/-! for i, x in enumerate(t), t a tuple -/
namespace XT
open PySem PySem.Spec PyProof.Rows L2
abbrev enO (it : Addr) : Obj := { cls := .type "enumerate", data := .fields #[.none, .bool false, .ref it, rawInt 0, .none, .none] }
abbrev tiO (t : Addr) : Obj := { cls := .type "tuple_iterator", data := .fields #[.ref t, .int 0 0] }
theorem newEnumT (t : Addr) (items : Array Value) : Meets (Builtin.«enumerate.__new__» ⟨[.type "enumerate", .ref t], []⟩)
    (fun _ R s => s.heap.IsTuple t items ∧ R (.ok (.ret (.ref (s.heap.push (tiO t)).objs.size))) { s with heap := (s.heap.push (tiO t)).push (enO s.heap.objs.size) }) :=
  .of_wp fun prog w A R s h => by
    obtain ⟨hp, ge, dr, tk, os⟩ := s
    obtain ⟨h1, h2⟩ := h
    have sb := sub_enumerate
    have q : ∀ {A2 : Around} {E : Value → Shared → Prop} {Q : Value → Shared → Prop}, Q (.ref hp.objs.size) ⟨hp.push (tiO t), ge, dr, tk, os⟩ → wpAny (model prog w) A2 (pyIter (.ref t)) Q E ⟨hp, ge, dr, tk, os⟩ :=
      fun z => wpAny_pyIter_tuple (s := ⟨hp, ge, dr, tk, os⟩) h1 z
    wp_walk using q
    refine wpAny_stack_any fun st => wpAny_pure ?_
    split
    · rename_i c _ _ _ _ _
      cases (c == Value.type "enumerate") <;> (wp_walk using q; exact ⟨_, rfl, h2⟩)
    · wp_walk using q
      exact ⟨_, rfl, h2⟩
section
variable {prog : Program} {w : World} {A : Around} {E : Value → Shared → Prop} {s : Shared}
theorem call_enumT {t : Addr} {items : Array Value} {Q : Value → Shared → Prop} (hT : s.heap.IsTuple t items)
    (h : ∀ hp, IsEnum hp (s.heap.objs.size + 1) s.heap.objs.size 0 .none → hp.IsTupleIter s.heap.objs.size t 0 → (∀ b o, s.heap.get? b = some o → hp.get? b = some o) → Q (.ref (s.heap.objs.size + 1)) { s with heap := hp }) :
    wpAny (model prog w) A (call (.type "enumerate") [.ref t]) Q E s := by
  refine callType_new F.called_enumerate (by decide) (F.typeCall_enumerate_1 _) (F.newCall_enumerate_1 _) (fun obj => F.args_object_init_2 obj _) F.entry_enumerate_new (newEnumT t items) ⟨hT, ?_⟩
  have z : (s.heap.push (tiO t)).objs.size = s.heap.objs.size + 1 := Heap.size_push ..
  have e0 := Heap.get?_push_size (s.heap.push (tiO t)) (o := enO s.heap.objs.size) rfl
  rw [z] at e0
  show _ ∧ _
  rw [z]
  exact ⟨⟨_, e0, rfl⟩, h _ e0 ⟨_, Heap.get?_push_of_some _ (Heap.get?_push_size _ rfl), rfl, rfl⟩ fun b o x => Heap.get?_push_of_some _ (Heap.get?_push_of_some _ x)⟩
end
/-- the tuple at a, its items in new pairs with their places -/
def ItT (K : PySem.W.Frag) (a : Addr) : It :=
  ⟨fun i H => ∃ (xs : List V) (x : V), SqT K H a xs ∧ xs[i]? = some x,
   fun i H v H2 => ∃ T x, v = .ref T ∧ H T = none ∧ H2 = upd H T (.tup [.int (i : Nat), x]) ∧ ∀ xs, SqT K H a xs → xs[i]? = some x,
   fun i H => ∃ xs : List V, SqT K H a xs ∧ xs.length = i⟩
theorem turn_enumT {P : Program} {w : World} {K : PySem.W.Frag} {elts : List Expr} {kk : Nat} {tpos : Pos} (a e it : Addr) (hne : e ≠ it) (hai : a ≠ it) (hae : e ≠ a) :
    Turn P w K (.Tuple elts kk tpos) (ItT K a) [e, it] e (fun i h => (∃ old, IsEnum h e it ((i : Nat) : Int) old) ∧ h.IsTupleIter it a i) where
  mem := List.mem_cons_self
  obj := fun i h st b hb => by
    obtain ⟨⟨old, he⟩, ⟨o, ho, hc, hd⟩⟩ := st
    rcases List.mem_cons.mp hb with z | z
    · rw [z]; exact ⟨_, he, fun v q => nomatch q⟩
    · rw [List.mem_singleton.mp z]; exact ⟨o, ho, fun v q => by rw [hd] at q; cases q⟩
  keep := fun i h h2 st k => ⟨let ⟨old, he⟩ := st.1; ⟨old, k e (by simp) _ he⟩, st.2.at fun o q => k it (by simp) o q⟩
  item := by
    intro X hP hw hK hc i pins s σ H E I hf st hg
    subst hP hw hK
    obtain ⟨⟨old, he⟩, hit⟩ := st
    obtain ⟨xs, x, hq, hx⟩ := hg
    obtain ⟨its, rv, p, hz⟩ := I.tuple hq
    obtain ⟨u, hu, ru⟩ := rv.get hx
    have p' : s.heap.IsTuple a its.toArray := p
    have el : e < s.heap.objs.size := Heap.lt_size he
    have il : it < s.heap.objs.size := by obtain ⟨_, q, _⟩ := hit; exact Heap.lt_size q
    have hi : i < its.toArray.size := by
      rw [List.size_toArray]; exact (List.getElem?_eq_some_iff.mp hu).1
    refine wpAny_pyNext_enum_itemD (Draws.tuple (A := X.A.in1) (I.ok.hd hc) it a hai its.toArray) he ⟨hit, p'⟩ hi hne (by simp [hne, hae]) fun y h1 tk hy ho hit1 hT hsz hk => ?_
    have ey : y = u := by
      have q : its.toArray[i]? = some u := by simpa using hu
      exact Option.some.inj (hy.symm.trans q)
    subst ey
    refine ⟨_, rfl, wpAny_letOwnedTupleGo_enum (s := { s with heap := h1, toks := tk + 1 }) ho fun h2 he2 sb => ?_⟩
    have gT : h2.get? s.heap.objs.size = some { cls := .type "tuple", data := .seq #[.int i tk, y] } := (sb.2 _ (Nat.ne_of_gt el)).trans hT
    have new : ObjOk X.prog X.w (upd H s.heap.objs.size (.tup [.int (i : Nat), x])) h2 s.heap.objs.size (.tup [.int (i : Nat), x]) :=
      ⟨sz (n := 2) (by decide), [.int i tk, y], .cons ⟨_, rfl⟩ (.cons ru .nil), ⟨_, gT, rfl, _, rfl⟩⟩
    have J := I.turnedNew (t' := tk + 1) (ch := [e, it]) (fun b ob hb q => (sb.2 b (fun z => hb (by simp [z]))).trans (hk b ob (fun z => hb (by simp [z])) (fun z => hb (by simp [z])) q)) hf (Nat.le_refl _) new
    refine ⟨.ref s.heap.objs.size, _, J, rfl, ⟨_, x, rfl, I.hok.fresh (Nat.le_refl _), rfl, fun ys hy => by rw [I.tuple_inj hy hq]; exact hx⟩, ⟨⟨y, ?_⟩, hit1.1.at fun o q => (sb.2 it (Ne.symm hne)).trans q⟩, fun b hb => ?_⟩
    · rw [show ((i + 1 : Nat) : Int) = (i : Int) + 1 by omega]; exact he2
    · have hb2 : b < s.heap.objs.size := by
        rcases List.mem_cons.mp hb with z | z
        · rw [z]; exact el
        · rw [List.mem_singleton.mp z]; exact il
      rw [upd_ne (Nat.ne_of_lt hb2)]
      exact (hf b hb).1
  done := by
    intro X hP hw hK hc i pins s σ H E I hf st hg
    subst hP hw hK
    obtain ⟨⟨old, he⟩, hit⟩ := st
    obtain ⟨xs, hq, hx⟩ := hg
    obtain ⟨its, rv, p, hz⟩ := I.tuple hq
    obtain ⟨f0, f1, f2, f3, f4, f5⟩ := hf it (by simp)
    have hl : its.toArray.size = i := by rw [List.size_toArray, ← rv.length]; exact hx
    have D := Draws.tuple (prog := X.prog) (w := X.w) (A := X.A.in1) (I.ok.hd hc) it a hai its.toArray
    rw [hl] at D
    exact wpAny_pyNext_enum_endD D he ⟨hit, p⟩ fun h2 eb => ⟨rfl, I.turned (t' := s.toks) (fun b o hb q => eb b o hb q) f0 f1 f3 f4 f5⟩
  self := fun A i s Q E st h => let ⟨⟨_, he⟩, _⟩ := st; wpAny_pyIter_enum he h
def iEnT (K : PySem.W.Frag) (ta : TA) : TI := fun σ H R => ta σ H fun vs H1 => ∃ a xs, vs = [.ref a] ∧ SqT K H1 a xs ∧ R (ItT K a) H1
theorem pi_enumT {X : Cx} {e : Expr} {ta : TA} {p pos tpos : Pos} {elts : List Expr} {kk : Nat} (hg : Gl X "enumerate") (hm : X.mg "enumerate" = none) (ha : PA X [e] ta) (hs : starEach [e] X.env = [(false, eval e X.env)] := by rfl) :
    PI X (.Tuple elts kk tpos) (.Call (.Name "enumerate" p) [e] [] pos) (iEnT X.K ta) := by
  refine ⟨fun pins s σ H R I h => Call_ (ld_blt I hg hm boot_enumerate (callWith_type1 (thn (ha.run pos pins s σ H _ I h) fun us s1 ⟨vs, H1, I1, r1, q1⟩ => ?_) hs rfl))⟩
  obtain ⟨a, xs, ex, hq, q⟩ := q1
  subst ex
  obtain ⟨u, rfl, ru⟩ := vals1 r1
  cases (show u = Value.ref a from ru)
  obtain ⟨its, rv, p2, hz⟩ := I1.tuple hq
  have al : a < s1.heap.objs.size := by obtain ⟨o, ho, _⟩ := p2; exact Heap.lt_size ho
  refine call_enumT (items := its.toArray) p2 fun hp he hit hk => wpAny_pyIter_enum he ?_
  have I2 : Inv X pins σ H1 { s1 with heap := hp } := I1.kept (t' := s1.toks) hk
  refine ⟨s1.heap.objs.size + 1, [s1.heap.objs.size + 1, s1.heap.objs.size], _, _, H1, rfl, I2, turn_enumT a (s1.heap.objs.size + 1) s1.heap.objs.size (Nat.succ_ne_self _) (Nat.ne_of_lt al) (Nat.ne_of_gt (Nat.lt_succ_of_lt al)), ⟨⟨.none, he⟩, hit⟩, fun b hb => ?_, q⟩
  have hle : s1.heap.objs.size ≤ b := by
    rcases List.mem_cons.mp hb with z | z
    · rw [z]; exact Nat.le_succ _
    · rw [List.mem_singleton.mp z]; exact Nat.le_refl _
  exact I1.fpOk hle (I1.hok.fresh hle)
end XT
/-! lots as lists of numbers -/
namespace XT
open PySem PySem.Spec PyProof.Rows L2
def lotOf (w : Nat) (P : Nat → Bool) : List Nat := (List.range (2 ^ w)).filter P
def vm (ms : List Nat) : List V := ms.map fun (m : Nat) => V.int (m : Int)
theorem mem_lot {w : Nat} {P : Nat → Bool} {m : Nat} : m ∈ lotOf w P ↔ m < 2 ^ w ∧ P m = true := by
  unfold lotOf
  rw [List.mem_filter, List.mem_range]
theorem lot_congr {w : Nat} {P P' : Nat → Bool} (h : ∀ m, m < 2 ^ w → P m = P' m) : lotOf w P = lotOf w P' := by
  unfold lotOf
  exact List.filter_congr fun m hm => h m (List.mem_range.mp hm)
theorem pow6 {w : Nat} (h : w ≤ 6) : 2 ^ w ≤ 64 := by
  have : w = 0 ∨ w = 1 ∨ w = 2 ∨ w = 3 ∨ w = 4 ∨ w = 5 ∨ w = 6 := by omega
  rcases this with rfl | rfl | rfl | rfl | rfl | rfl | rfl <;> decide
theorem pow0 (w : Nat) : 0 < 2 ^ w := Nat.pow_pos (by decide)
theorem lot_len {w : Nat} (h : w ≤ 6) (P : Nat → Bool) : (lotOf w P).length ≤ 64 := by
  refine Nat.le_trans (List.length_filter_le _ _) ?_
  rw [List.length_range]
  exact pow6 h
theorem vm_len (ms : List Nat) : (vm ms).length = ms.length := List.length_map _
/-- two rising lists with the same members are one -/
theorem rising_eq : ∀ {l m : List Int}, l.Pairwise (· < ·) → m.Pairwise (· < ·) → (∀ k, k ∈ l ↔ k ∈ m) → l = m
  | [], [], _, _, _ => rfl
  | [], b :: m, _, _, h => absurd ((h b).mpr List.mem_cons_self) (by simp)
  | a :: l, [], _, _, h => absurd ((h a).mp List.mem_cons_self) (by simp)
  | a :: l, b :: m, hl, hm, h => by
    obtain ⟨l1, l2⟩ := List.pairwise_cons.mp hl
    obtain ⟨m1, m2⟩ := List.pairwise_cons.mp hm
    have e : a = b := by
      rcases List.mem_cons.mp ((h a).mp List.mem_cons_self) with e | e
      · exact e
      · rcases List.mem_cons.mp ((h b).mpr List.mem_cons_self) with e' | e'
        · exact e'.symm
        · have := m1 a e
          have := l1 b e'
          omega
    subst e
    congr 1
    refine rising_eq l2 m2 fun k => ⟨fun hk => ?_, fun hk => ?_⟩
    · rcases List.mem_cons.mp ((h k).mp (List.mem_cons_of_mem _ hk)) with e | e
      · have := l1 k hk
        omega
      · exact e
    · rcases List.mem_cons.mp ((h k).mpr (List.mem_cons_of_mem _ hk)) with e | e
      · have := m1 k hk
        omega
      · exact e
theorem range_rising (n : Nat) : ((List.range n).map fun (m : Nat) => (m : Int)).Pairwise (· < ·) := by
  rw [List.pairwise_map]
  exact List.pairwise_lt_range.imp fun h => by omega
theorem lot_rising (w : Nat) (P : Nat → Bool) : ((lotOf w P).map fun (m : Nat) => (m : Int)).Pairwise (· < ·) := by
  unfold lotOf
  have h := List.pairwise_map.mp (range_rising (2 ^ w))
  rw [List.pairwise_map]
  exact h.filter _
theorem rising_lot {w : Nat} {P : Nat → Bool} {ns : List Int} (h : ns.Pairwise (· < ·)) (hm : ∀ k, k ∈ ns ↔ ∃ m : Nat, k = m ∧ m < 2 ^ w ∧ P m = true) : ns.map V.int = vm (lotOf w P) := by
  have e : ns = (lotOf w P).map fun (m : Nat) => (m : Int) := rising_eq h (lot_rising w P) fun k => by
    rw [hm k, List.mem_map]
    constructor
    · rintro ⟨m, rfl, h1, h2⟩
      exact ⟨m, mem_lot.mpr ⟨h1, h2⟩, rfl⟩
    · rintro ⟨m, h1, rfl⟩
      exact ⟨m, rfl, mem_lot.mp h1⟩
  rw [e, List.map_map]
  rfl
theorem vm_ints (ms : List Nat) : vm ms = (ms.map fun (m : Nat) => (m : Int)).map V.int := by
  unfold vm
  rw [List.map_map]
  rfl
theorem vm_flat (ms : List Nat) : (vm ms).all flatV = true := by
  rw [List.all_eq_true]
  intro v hv
  obtain ⟨m, _, rfl⟩ := List.mem_map.mp hv
  rfl
theorem in_vm (k : Nat) (ms : List Nat) : inV (.int (k : Int)) (vm ms) = decide (k ∈ ms) := by
  rw [Bool.eq_iff_iff, decide_eq_true_iff]
  unfold inV
  rw [List.any_eq_true]
  constructor
  · rintro ⟨v, hv, e⟩
    obtain ⟨m, hm, rfl⟩ := List.mem_map.mp hv
    have e' : ((m : Int) == (k : Int)) = true := e
    have : (m : Int) = k := by simpa using e'
    have : m = k := by omega
    rw [← this]
    exact hm
  · intro h
    exact ⟨_, List.mem_map.mpr ⟨k, h, rfl⟩, by show ((k : Int) == (k : Int)) = true; simp⟩
theorem in_lot {w : Nat} {P : Nat → Bool} {k : Nat} (hk : k < 2 ^ w) : inV (.int (k : Int)) (vm (lotOf w P)) = P k := by
  rw [in_vm, Bool.eq_iff_iff, decide_eq_true_iff, mem_lot]
  exact ⟨fun h => h.2, fun h => ⟨hk, h⟩⟩
/-- a lot -/
def LotAt (H : Hp) (v : V) (w : Nat) (P : Nat → Bool) : Prop := ∃ p q, v = .ref p ∧ H p = some (.tup [.int (w : Int), .ref q]) ∧ H q = some (.tup (vm (lotOf w P)))
theorem LotAt.same {H H' : Hp} {v : V} {w : Nat} {P : Nat → Bool} (h : LotAt H v w P) (e : Same H H') : LotAt H' v w P := by
  obtain ⟨p, q, rfl, h1, h2⟩ := h
  exact ⟨p, q, rfl, e _ _ h1, e _ _ h2⟩
theorem LotAt.keep {S : Sm} {H H' : Hp} {t : Int} {v : V} {w : Nat} {P : Nat → Bool} (h : LotAt H v w P) (k : Keep S H H') (st : Strm S H t) : LotAt H' v w P := by
  obtain ⟨p, q, rfl, h1, h2⟩ := h
  exact ⟨p, q, rfl, k.tup st h1, k.tup st h2⟩
theorem LotAt.congr {H : Hp} {v : V} {w : Nat} {P P' : Nat → Bool} (h : LotAt H v w P) (e : ∀ m, m < 2 ^ w → P m = P' m) : LotAt H v w P' := by
  obtain ⟨p, q, rfl, h1, h2⟩ := h
  exact ⟨p, q, rfl, h1, by rw [← lot_congr e]; exact h2⟩
def dLot (w : Nat) (P : Nat → Bool) : PyData := .tuple [.int (w : Int), .tuple ((lotOf w P).map fun (m : Nat) => .int (m : Int))]
theorem dpVm {K : PySem.W.Frag} {H : Hp} : ∀ ms : List Nat, DpAll K H (vm ms) (ms.map fun (m : Nat) => .int (m : Int))
  | [] => .nil
  | m :: ms => .cons (.int m) (dpVm ms)
theorem LotAt.dp {K : PySem.W.Frag} {H : Hp} {v : V} {w : Nat} {P : Nat → Bool} (h : LotAt H v w P) : Dp K H v (dLot w P) := by
  obtain ⟨p, q, rfl, h1, h2⟩ := h
  exact .tup (SqT.of h1) (.cons (.int _) (.cons (.tup (SqT.of h2) (dpVm _)) .nil))
theorem ints_lay : ∀ ms : List Nat, PyData.canLayAll0 (ms.map fun (m : Nat) => PyData.int (m : Int)) = true
  | [] => rfl
  | m :: ms => by
    have h := ints_lay ms
    simpa [PyData.canLayAll0, PyData.canLay0] using h
theorem ints_depth : ∀ ms : List Nat, PyData.depthAll (ms.map fun (m : Nat) => PyData.int (m : Int)) ≤ 1
  | [] => by decide
  | m :: ms => by
    have h := ints_depth ms
    simp only [PyData.depthAll, PyData.depth, List.map] at h ⊢
    omega
theorem dLot_shaped (w : Nat) (P : Nat → Bool) : SeqAt.shaped (dLot w P) = true := by
  have h1 : PyData.canLay0 (dLot w P) = true := by
    have h := ints_lay (lotOf w P)
    simp [dLot, PyData.canLay0, PyData.canLayAll0, h]
  have h2 : PyData.depth (dLot w P) ≤ 64 := by
    have h := ints_depth (lotOf w P)
    simp only [dLot, PyData.depth, PyData.depthAll]
    omega
  unfold SeqAt.shaped
  rw [h1, decide_eq_true h2]
  rfl
theorem eqv_ints : ∀ ms : List Nat, PyData.eqvAll (ms.map fun (m : Nat) => PyData.int (m : Int)) (ms.map fun (m : Nat) => PyData.int (m : Int)) = true
  | [] => rfl
  | m :: ms => by
    have h := eqv_ints ms
    simp [PyData.eqvAll, PyData.eqv, h]
theorem eqv_lot {w : Nat} {P P' : Nat → Bool} (h : ∀ m, m < 2 ^ w → P m = P' m) : PyData.eqv (dLot w P) (dLot w P') = true := by
  unfold dLot
  rw [lot_congr h]
  simp [PyData.eqv, PyData.eqvAll, eqv_ints]
/-- a != b, two lots that are one -/
theorem ne_lot {K : PySem.W.Frag} {H : Hp} {x y : V} {w : Nat} {P P' : Nat → Bool} {Q : VK} (hx : LotAt H x w P) (hy : LotAt H y w P') (h : ∀ m, m < 2 ^ w → P m = P' m) (q : Q (.bl false) H) : rNeD K x y H Q := by
  refine ⟨_, _, hx.dp, hy.dp, dLot_shaped _ _, dLot_shaped _ _, ?_⟩
  rw [eqv_lot h]
  exact q
end XT
/-! the program's own defs -/
namespace XT
open PySem PySem.Spec PyProof.Rows L2
def DefR (P : Program) (w : World) (K : PySem.W.Frag) (mg : Str → Option Value) (base : Heap) (k : Nat) (x : Str) (sp : Sp) : Prop :=
  ∃ f, FnR P w K mg base CX0 k f sp ∧ mg x = some (.ref f) ∧ PySem.W.keepIn K (.ref f) = true
theorem DefR.of {P : Program} {w : World} {K : PySem.W.Frag} {mg : Str → Option Value} {base : Heap} {k : Nat} {x : Str} {sp : Sp} {f : Addr} {fd : FuncData} {ps : List Str}
    (F : FnOk P w K mg base CX0 k f fd ps sp) (b : Binds K fd ps []) (hm : mg x = some (.ref f)) (hk : PySem.W.keepIn K (.ref f) = true) : DefR P w K mg base k x sp :=
  ⟨f, (FnOk.raw F b .nil).imp fun vs H Q E h => by rw [List.append_nil]; exact h, hm, hk⟩
section
variable {X : Cx}
/-- f(e, ..) -/
theorem pe_def {j : Nat} {x : Str} {sp : Sp} {e : Expr} {es : List Expr} {t : TA} {p pos : Pos} (D : DefR X.prog X.w X.K X.mg X.base j x sp) (hr : Room j X.A) (hg : Gl X x) (ha : PA X (e :: es) t)
    (hdb : (x == ("__debug__" : Str)) = false := by decide) (he : starEach (e :: es) X.env = (false, eval e X.env) :: starEach es X.env := by rfl) (hpl : (backTo pos (starEach es X.env)).any (·.1) = false := by rfl) :
    PE X (.Call (.Name x p) (e :: es) [] pos) (fun σ H Q => t σ H fun vs H1 => sp vs H1 Q E0) := by
  obtain ⟨f, F, hm, hk⟩ := D
  refine ⟨fun pins s σ H Q I h => wpAny_Call_Name_kw (ld_glob I hg hm ?_ hdb)⟩
  refine PySem.W.callWith_K (h₀ := X.base) I.ok.mod.kin hk (thn (ha.run pos pins s σ H _ I h) fun us s1 ⟨vs, H1, I1, r, q⟩ => ⟨I1.kIn, ?_⟩) he hpl
  refine wpAny_call (codeAny_mono (run_fnR F hr pass0 I1 r q) fun r s2 z => ?_)
  match r, z with
  | .ok (.ret v), z => exact z
  | .ok .next, z => exact z.elim
  | .ok .brk, z => exact z.elim
  | .ok .cont, z => exact z.elim
  | .error e, z => exact z
end
theorem bT : bootBuiltins "tuple" = some (.type "tuple") := by decide +kernel
theorem bS : bootBuiltins "sorted" = some (.builtin "sorted") := by decide +kernel
theorem bI : bootBuiltins "isinstance" = some (.builtin "isinstance") := by decide +kernel
theorem bInt : bootBuiltins "int" = some (.type "int") := by decide +kernel
theorem bBool : bootBuiltins "bool" = some (.type "bool") := by decide +kernel
theorem bSet : bootBuiltins "set" = some (.type "set") := by decide +kernel
theorem bAll : bootBuiltins "all" = some (.builtin "all") := by decide +kernel

section
variable {P : Program} {w : World} {K : PySem.W.Frag} {mg : Str → Option Value} {base : Heap}
/-- the module's names that are still the built-in ones -/
structure Bl (mg : Str → Option Value) : Prop where
  len : mg "len" = none
  abs : mg "abs" = none
  tuple : mg "tuple" = none
  sorted : mg "sorted" = none
  isinstance : mg "isinstance" = none
  int : mg "int" = none
  bool : mg "bool" = none
  set : mg "set" = none
  all : mg "all" = none
  range : mg "range" = none
  enumerate : mg "enumerate" = none

theorem shl1 (n : Nat) : (1 : Int) * 2 ^ ((n : Int).toNat) = ((2 ^ n : Nat) : Int) := by
  rw [Int.toNat_natCast, Int.one_mul]
  norm_cast
theorem cpow {n : Nat} (h : n ≤ 6) : CPow 1 (n : Int) := ⟨by omega, by omega, by decide⟩
theorem xor_lt {a b n : Nat} (ha : a < 2 ^ n) (hb : b < 2 ^ n) : a ^^^ b < 2 ^ n := Nat.xor_lt_two_pow ha hb
theorem bx (a b : Nat) : Builtin.bitXor (a : Int) (b : Int) = ((a ^^^ b : Nat) : Int) := by
  rw [Bits.bitXor_pp (by omega) (by omega)]
  rfl
end
end XT
/-! the law's own call, where no repr is under way; repr of data -/
namespace XT
open PySem PySem.Spec PyProof.Rows L2
def RunC (P : Program) (w : World) (K : PySem.W.Frag) (mg : Str → Option Value) (base : Heap) (k : Nat) (f : Addr) (sp : Sp) : Prop :=
  ∀ (s : Shared) (H : Hp) (u : Value) (v : V) (Q : VK), Room k callerA → Env0 P w K mg base callerA [] s H → RelV v u → sp [v] H Q E0 → codeAny (model P w) callerA (.call (.ref f) ⟨[u], []⟩) (CR CX0 [] P w H s Q E0) s
section
variable {P : Program} {w : World} {K : PySem.W.Frag} {mg : Str → Option Value} {base : Heap}
theorem run_law {x par : Str} {st : Stmt} {f : Addr} {fd : FuncData} {N : List Str} {k : Nat} {sp : Sp} (F : Fun K x x st f fd) (S : FnScope N [par] (defScope st))
    (hb : ∀ (kV doc pm : Value) (an : Option Addr) (cdv ct u : Value), bindArgs (PySem.W.fnOf x x (defArgs st) (defBody st) (defScope st) .none kV doc pm an cdv ct) ⟨[u], []⟩ = pure [(par, u)])
    (hbody : ∀ (cdv : Value) (s : Shared) (H : Hp) (v : V) (Q : VK), Room k (callerA.deeper (envOfC x (defScope st) s.heap.objs.size f cdv)) → sp [v] H Q E0 →
      ∃ t, PSs (cxOf CX0 P w K mg base N x (defScope st) f cdv callerA [] s H E0).nox (defBody st) t ∧ t { nx := fun _ H' => Q .non H', rt := Q } (start N [v]) H) : RunC P w K mg base (k + 1) f sp := by
  obtain ⟨oc, od, kV, doc, pm, an, cdv, ct, osl, rfl, lk, hcd⟩ := F.ex
  intro s H u v Q hr e0 rv hsp
  refine StX.run_bnd lk hcd S hr e0 (G := fun vs H2 => vs = [v] ∧ H2 = H) (fun A2 Ex Q2 h => ?_) fun s2 H2 vs ⟨ev, eH⟩ hr2 => ?_
  · rw [hb kV doc pm an cdv ct u]
    exact wpAny_pure (h s H [v] [u] e0 Un.refl rfl (fun _ _ z => z) (.cons rv .nil) rfl ⟨rfl, rfl⟩)
  · subst ev eH
    obtain ⟨t, h1, h2⟩ := hbody cdv s2 H2 v Q hr2 hsp
    exact ⟨t, h1.nox, h2⟩
/-- from the law's promise to what the row asks of its call -/
theorem law_end {mb : Str → Option Value} {k : Nat} {fa a : Addr} {sp : Sp} {s1 : Shared} {vs : List Value} {ns : List Int} (KX : K.In s1.heap) (hns : s1.heap.Ns mainGlobals mg) (hb : s1.heap.Ns builtinsNs mb)
    (hbb : ∀ x : Str, x ≠ "__name__" → mb x = bootBuiltins x) (hlim : s1.heap.NoLimit) (hg : s1.gens = #[]) (ha : s1.heap.get? a = some { cls := .type "list", data := .seq vs.toArray }) (hi : IntsAre vs ns) (hl : ns.length ≤ sizeLine)
    (hr : Room k callerA) (F : ∀ base : Heap, K.In base → base.Ns mainGlobals mg → RunC P w K mg base k fa sp) (hsp : ∀ H : Hp, SqL K H a (ns.map V.int) → sp [.ref a] H (fun v _ => v = .bl true) E0) :
    codeAny (model P w) callerA (.call (.ref fa) ⟨[.ref a], []⟩) (fun r s2 => r = .ok (.ret (.bool true)) ∧ OldK s1.heap s2.heap ∧ s2.os = s1.os ∧ AllBare s2.gens) s1 := by
  have rv : Vals (ns.map V.int) vs := vals_of_ints hi
  have nl := hi.length
  have go : ∀ H : Hp, SqL K H a (ns.map V.int) → HOk P w H s1.heap → (∀ b, H b = none ∨ (b = a ∧ K.lookup a = none ∧ ∃ o xs, H b = some (.frz o (.lst xs)))) →
      codeAny (model P w) callerA (.call (.ref fa) ⟨[.ref a], []⟩) (fun r s2 => r = .ok (.ret (.bool true)) ∧ OldK s1.heap s2.heap ∧ s2.os = s1.os ∧ AllBare s2.gens) s1 := by
    intro H hS hok hO
    have nsK : ∀ {b : Addr} {m : Str → Option Value}, s1.heap.Ns b m → (hidT s1.heap H).Ns b m := fun {b m} ⟨o, es, ep, e, d, r⟩ => by
      refine ⟨o, es, ep, hidT_get e ?_, d, r⟩
      rcases hO b with z | ⟨z, _, _⟩
      · exact z
      · rw [z, ha] at e
        cases e
        have d2 : Data.seq vs.toArray _ = Data.dict es ep := d
        cases d2
    have kb : K.In (hidT s1.heap H) := fun b o e => by
      refine hidT_get (KX b o e) ?_
      rcases hO b with z | ⟨z, y, _⟩
      · exact z
      · rw [z, y] at e; cases e
    have M : Mod K mg (hidT s1.heap H) := ⟨kb, nsK hns, ⟨mb, nsK hb, hbb⟩, let ⟨mc, h1, h2⟩ := hlim; ⟨mc, nsK h1, h2⟩⟩
    have e0 : Env0 P w K mg (hidT s1.heap H) callerA [] s1 H := ⟨rfl, M, fun b o e => of_hidT e, Nat.le_of_eq (hidT_size _ _), trivial, fun b z => absurd (show b ∈ ([] : List Addr) from z) (by simp), hok, .of_eq hg⟩
    refine codeAny_mono (F _ kb (nsK hns) s1 H (.ref a) (.ref a) _ hr e0 rfl (hsp H hS)) fun r s2 z => ?_
    match r, z with
    | .error e, z => exact z.elim
    | .ok .next, z => exact z.elim
    | .ok .brk, z => exact z.elim
    | .ok .cont, z => exact z.elim
    | .ok (.ret u), z =>
      obtain ⟨v, H2, os, bare, un, hok2, rr, q⟩ := z
      have q : v = .bl true := q
      subst q
      obtain rfl : u = Value.bool true := rr
      refine ⟨rfl, OldK.of_keep fun b o e => ?_, os, bare⟩
      rcases hO b with y | ⟨_, _, ob, xs, y⟩
      · exact un.keep b o e y (fun z => absurd (show b ∈ ([] : List Addr) from z) (by simp)) (by simp)
      · obtain ⟨g1, _⟩ := hok b _ y
        obtain ⟨g2, _⟩ := hok2 b _ (un.frzs b ob _ y)
        rw [e] at g1
        cases g1
        exact g2
  cases hk : K.lookup a with
  | some o =>
    have e := KX a o hk
    rw [ha] at e
    cases e
    exact go (fun _ => none) (.inr ⟨_, vs.toArray, _, hk, rfl, rfl, rfl, by rw [List.size_toArray, nl]; exact hl, by simpa using rv⟩) (fun b u z => nomatch z) fun _ => .inl rfl
  | none =>
    refine go (upd (fun _ => none) a (.frz { cls := .type "list", data := .seq vs.toArray } (.lst (ns.map V.int)))) (.inl (.inr ⟨_, upd_same⟩)) (fun b u z => ?_) fun b => ?_
    · by_cases e : b = a
      · subst e
        rw [upd_same] at z
        cases z
        exact ⟨ha, by rw [List.length_map]; exact hl, vs, _, rv, ha⟩
      · rw [upd_ne e] at z
        cases z
    · by_cases e : b = a
      · exact .inr ⟨e, hk, _, _, by rw [e]; exact upd_same⟩
      · exact .inl (upd_ne e)
end
theorem walk_ofC {l : PySem.W.OpenLaw} {n k : Nat} {q : Program} {loose : List Str} {XP : (Str → Option Value) → Heap → Prop} {YP : World → Heap → Prop} {d : DefRec} {K : Params → PySem.W.Frag} {sp : World → Sp}
    (hn : l.most = some n) (hn2 : n ≤ sizeLine) (hdf : d.params.defaults = []) (hr : Room k callerA) (hY : ∀ (w : World) (h : Heap), YP w h → (K w.params).In h)
    (F : ∀ (w : World) (mg : Str → Option Value) (fa : Addr) (h : Heap), (K w.params).In h → h.Ns mainGlobals mg → mg d.name = some (.ref fa) → ∀ base : Heap, (K w.params).In base → base.Ns mainGlobals mg → RunC l.prog w (K w.params) mg base k fa (sp w))
    (hsp : ∀ (w : World) (H : Hp) (a : Addr) (ns : List Int), ns.length ≤ n → SqL (K w.params) H a (ns.map V.int) → sp w [.ref a] H (fun v _ => v = .bl true) E0) :
    PySem.W.WalkO q loose XP YP l.row.toRowW d [] (fun f vs => PySem.call f vs) :=
  Att.attach_call hn hdf fun w s0 s1 mg mb fa o pm cd doc a vs ns G Y ho hd hcd hmg hobj hints hlen hg =>
    law_end (hY w _ Y) G.T.g G.T.b G.T.builtins G.T.nolimit hg hobj hints (Nat.le_trans hlen hn2) hr (F w mg fa _ (hY w _ Y) G.T.g hmg) fun H hS => hsp w H a ns hlen hS
/-! repr -/
section
variable {X : Cx}
def rRepr (K : PySem.W.Frag) : List V → Hp → VK → Prop := fun xs H Q => ∃ (a : Addr) (d : PyData), xs = [.ref a] ∧ Dp K H (.ref a) d ∧ SeqAt.shaped d = true ∧ d.showable = true ∧ d.shown.length ≤ sizeLine ∧ Q (.str d.shown) H
theorem cr_repr (hg : X.A.guards = some []) (hu : X.A.units + 128 < cLine) : CallR X (.builtin "repr") (rRepr X.K) := by
  intro pins s σ H xs us Q I r h
  obtain ⟨a, d, rfl, hd, hs, hw, hz, q⟩ := h
  rw [Vals.ref1 r]
  obtain ⟨as, rd⟩ := Dp.reads I d (.ref a) (.ref a) hd rfl
  have nd : d.hasDict = false := PyData.hasDict_of_canLay d (SeqAt.canLay_of_shaped hs)
  have dp := SeqAt.depth_of_shaped hs
  refine repr_of_reads' rd hw (PyData.noDict_hsm nd) hg (by omega) (fun _ _ e => e) (fun h2 u tk k => ?_) hz
  exact ⟨.str d.shown, H, I.kept (t' := tk) k, ⟨u, rfl⟩, q⟩
end
end XT
namespace XT
open PySem PySem.Spec PyProof.Rows L2
theorem lot_filter (n : Nat) (p q : Nat → Bool) : (lotOf n p).filter q = lotOf n (fun m => p m && q m) := by
  unfold lotOf
  rw [List.filter_filter]
  refine List.filter_congr fun m _ => ?_
  rw [Bool.and_comm]
theorem vm_filter (ms : List Nat) (q : Nat → Bool) (r : V → Bool) (h : ∀ m ∈ ms, r (.int (m : Int)) = q m) : ((vm ms).filter r).map id = vm (ms.filter q) := by
  unfold vm
  rw [List.map_id, List.filter_map]
  congr 1
  exact List.filter_congr fun m hm => h m hm
theorem mem_vm {ms : List Nat} {i : Nat} {v : V} (h : (vm ms)[i]? = some v) : ∃ m, ms[i]? = some m ∧ v = .int (m : Int) := by
  unfold vm at h
  rw [List.getElem?_map] at h
  obtain ⟨m, h1, h2⟩ := Option.map_eq_some_iff.mp h
  exact ⟨m, h1, h2.symm⟩
/-- for i, x in enumerate(t) -/
theorem for_enumT {K : PySem.W.Frag} {a : Addr} {xs : List V} {g : TG} {tb : TS} {D : Ends} {σ : L2.St} {H : Hp} (Pv : Nat → L2.St → Hp → Prop) (h0 : Pv 0 σ H) (hl : ∀ i σ H, i ≤ xs.length → Pv i σ H → SqT K H a xs)
    (hs : ∀ i x σ H T, xs[i]? = some x → Pv i σ H → H T = none → g (.ref T) σ (upd H T (.tup [.int (i : Nat), x])) fun σ2 H2 => tb { D with nx := Pv (i + 1), ct := Pv (i + 1), bk := D.nx } σ2 H2) (hd : ∀ σ H, Pv xs.length σ H → D.nx σ H) :
    ∃ W : Nat → Nat → L2.St → Hp → Prop, (∃ m, W 0 m σ H) ∧ ∀ i m σ H, W i m σ H →
      ((ItT K a).stop i H ∧ D.nx σ H) ∨ ((ItT K a).go i H ∧ ∃ N : L2.St → Hp → Prop, (∀ σ' H', N σ' H' → ∃ m', m' < m ∧ W (i + 1) m' σ' H') ∧ ∀ x H', (ItT K a).yld i H x H' → g x σ H' fun σ2 H2 => tb { D with nx := N, ct := N, bk := D.nx } σ2 H2) := by
  refine ⟨fun i m σ H => m = xs.length - i ∧ i ≤ xs.length ∧ Pv i σ H, ⟨xs.length, by simp, Nat.zero_le _, h0⟩, ?_⟩
  rintro i m σ H ⟨rfl, hi, p⟩
  have q := hl i σ H hi p
  rcases Nat.lt_or_ge i xs.length with lt | ge
  · refine .inr ⟨⟨xs, xs[i], q, List.getElem?_eq_getElem lt⟩, Pv (i + 1), fun σ' H' p' => ⟨xs.length - (i + 1), by omega, rfl, lt, p'⟩, fun v H' y => ?_⟩
    obtain ⟨T, x, rfl, nT, rfl, fx⟩ := y
    exact hs i x σ H T (fx xs q) p nT
  · have e : i = xs.length := by omega
    subst e
    exact .inl ⟨⟨xs, q, rfl⟩, hd σ H p⟩
theorem r62 {n : Nat} (h : n ≤ 6) : ((2 ^ n : Nat) : Int) < 2 ^ 62 := by
  have := pow6 h
  omega
theorem l62 {n : Nat} : -(2 ^ 62) ≤ ((2 ^ n : Nat) : Int) := Int.le_trans (by decide : -(2 ^ 62) ≤ (0 : Int)) (Int.natCast_nonneg _)
end XT
/-! data with dicts, and repr of them -/
namespace XT
open PySem PySem.Spec PyProof.Rows L2
/-- a dict of texts and numbers -/
def dkV (kvs : List (Str × Int)) : List (Key × V) := kvs.map fun p => (.inr p.1, .int p.2)
def dkD (kvs : List (Str × Int)) : PyData := .dict (kvs.map fun p => (.str p.1, .int p.2))
mutual
inductive Dz (K : PySem.W.Frag) (H : Hp) : V → PyData → Prop
  | non : Dz K H .non .none
  | bl (b : Bool) : Dz K H (.bl b) (.bool b)
  | int (i : Int) : Dz K H (.int i) (.int i)
  | str (x : Str) : Dz K H (.str x) (.str x)
  | lst {a : Addr} {xs : List V} {ds : List PyData} : SqL K H a xs → a ≠ sysModules → DzAll K H xs ds → Dz K H (.ref a) (.list ds)
  | tup {a : Addr} {xs : List V} {ds : List PyData} : SqT K H a xs → DzAll K H xs ds → Dz K H (.ref a) (.tuple ds)
  | dct {a : Addr} (kvs : List (Str × Int)) : H a = some (.dK (dkV kvs)) → Dz K H (.ref a) (dkD kvs)
inductive DzAll (K : PySem.W.Frag) (H : Hp) : List V → List PyData → Prop
  | nil : DzAll K H [] []
  | cons {v : V} {vs : List V} {d : PyData} {ds : List PyData} : Dz K H v d → DzAll K H vs ds → DzAll K H (v :: vs) (d :: ds)
end
mutual
theorem Dz.same {K : PySem.W.Frag} {H H' : Hp} (e : Same H H') : ∀ {v : V} {d : PyData}, Dz K H v d → Dz K H' v d
  | _, _, .non => .non
  | _, _, .bl b => .bl b
  | _, _, .int i => .int i
  | _, _, .str x => .str x
  | _, _, .lst h n a => .lst (e.seq h) n (DzAll.same e a)
  | _, _, .tup h a => .tup (Same.sqT e h) (DzAll.same e a)
  | _, _, .dct kvs h => .dct kvs (e _ _ h)
theorem DzAll.same {K : PySem.W.Frag} {H H' : Hp} (e : Same H H') : ∀ {vs : List V} {ds : List PyData}, DzAll K H vs ds → DzAll K H' vs ds
  | _, _, .nil => .nil
  | _, _, .cons h a => .cons (Dz.same e h) (DzAll.same e a)
end
theorem dk_reads {P : Program} {w : World} {h : Heap} : ∀ {kvs : List (Str × Int)} {vs : List (Key × Value)} {es : List DictEntry}, KV (dkV kvs) vs → Pairs (mixKind P w) es vs →
    ReadsAll h (es.map (·.key)) ((kvs.map fun p => ((PyData.str p.1, PyData.int p.2) : PyData × PyData)).map (·.1)) [] ∧ ReadsAll h (es.map (·.val)) ((kvs.map fun p => ((PyData.str p.1, PyData.int p.2) : PyData × PyData)).map (·.2)) []
  | [], _, _, r, p => by
    cases r
    cases p
    exact ⟨.nil, .nil⟩
  | (x, i) :: kvs, _, _, r, p => by
    cases r with
    | @cons a kv as bs r1 r2 =>
      cases p with
      | @cons e _ es' _ hk hv p2 =>
        obtain ⟨h1, h2⟩ := dk_reads (P := P) (w := w) (h := h) (kvs := kvs) r2 p2
        obtain ⟨e1, e2⟩ := r1
        have e1 : (Sum.inr x : Key) = kv.1 := e1
        have e2 : RelV (.int i) kv.2 := e2
        have hk : keyIs kv.1 e.key = true := hk
        rw [← e1] at hk
        rcases keyIs_shape hk with ⟨j, t, z, _⟩ | ⟨y, t, z, ey⟩
        · cases z
        · cases z
          obtain ⟨t2, e3⟩ := e2
          refine ⟨?_, ?_⟩
          · show ReadsAll h (e.key :: es'.map (·.key)) (PyData.str x :: _) ([] ++ [])
            rw [ey]
            exact .cons (.str x t) h1
          · show ReadsAll h (e.val :: es'.map (·.val)) (PyData.int i :: _) ([] ++ [])
            rw [hv, e3]
            exact .cons (.int i t2) h2
section
variable {X : Cx} {pins : List (Addr × Obj)} {σ : L2.St} {H : Hp} {s : Shared}
mutual
theorem Dz.reads (I : Inv X pins σ H s) : ∀ {v : V} {d : PyData}, Dz X.K H v d → ∀ u : Value, RelV v u → ∃ as, Reads s.heap u d as ∧ sysModules ∉ as
  | _, _, .non, u, r => by
    cases r
    exact ⟨_, Reads.none, by simp⟩
  | _, _, .bl b, u, r => by
    cases r
    exact ⟨_, Reads.bool b, by simp⟩
  | _, _, .int i, u, r => by
    obtain ⟨t, rfl⟩ := r
    exact ⟨_, Reads.int i t, by simp⟩
  | _, _, .str x, u, r => by
    obtain ⟨t, rfl⟩ := r
    exact ⟨_, Reads.str x t, by simp⟩
  | _, _, .lst hs ne ha, u, r => by
    cases r
    obtain ⟨its, rv, ⟨o, n, ho, hc, _, hd⟩, _⟩ := I.list hs
    obtain ⟨as, hr, nm⟩ := DzAll.reads I ha its rv
    exact ⟨_, Reads.list ho hc hd hr, fun z => (List.mem_cons.mp z).elim (fun z => ne z.symm) nm⟩
  | _, _, .tup hs ha, u, r => by
    cases r
    obtain ⟨its, rv, ⟨o, ho, hc, n, hd⟩, _⟩ := I.tuple hs
    obtain ⟨as, hr, nm⟩ := DzAll.reads I ha its rv
    exact ⟨_, Reads.tuple ho hc hd hr, nm⟩
  | _, _, .dct (a := a) kvs h, u, r => by
    cases r
    have hx : ObjOk X.prog X.w H s.heap a (.dK (dkV kvs)) := I.hok a _ h
    obtain ⟨_, hm, vs, rk, o, es, ep, ho, hex, hd, _, hp, _⟩ := hx
    obtain ⟨h1, h2⟩ := dk_reads (h := s.heap) rk hp
    have hne : a ≠ sysModules := beq_eq_false_iff_ne.mp hm
    exact ⟨_, Reads.dict ho hex.1 hd h1 h2, fun z => by
      simp only [List.append_nil, List.mem_cons, List.not_mem_nil, or_false] at z
      exact hne z.symm⟩
theorem DzAll.reads (I : Inv X pins σ H s) : ∀ {vs : List V} {ds : List PyData}, DzAll X.K H vs ds → ∀ us : List Value, Vals vs us → ∃ as, ReadsAll s.heap us ds as ∧ sysModules ∉ as
  | _, _, .nil, us, r => by
    cases r
    exact ⟨_, ReadsAll.nil, by simp⟩
  | _, _, .cons h1 h2, us, r => by
    cases r with
    | cons r1 r2 =>
      obtain ⟨as, q1, n1⟩ := Dz.reads I h1 _ r1
      obtain ⟨bs, q2, n2⟩ := DzAll.reads I h2 _ r2
      exact ⟨_, ReadsAll.cons q1 q2, fun z => (List.mem_append.mp z).elim n1 n2⟩
end
end
section
variable {X : Cx}
def rReprZ (K : PySem.W.Frag) : List V → Hp → VK → Prop := fun xs H Q => ∃ (a : Addr) (d : PyData), xs = [.ref a] ∧ Dz K H (.ref a) d ∧ d.depth ≤ 64 ∧ d.showable = true ∧ d.shown.length ≤ sizeLine ∧ Q (.str d.shown) H
theorem cr_reprZ (hg : X.A.guards = some []) (hu : X.A.units + 128 < cLine) : CallR X (.builtin "repr") (rReprZ X.K) := by
  intro pins s σ H xs us Q I r h
  obtain ⟨a, d, rfl, hd, dp, hw, hz, q⟩ := h
  rw [Vals.ref1 r]
  obtain ⟨as, rd, nm⟩ := Dz.reads I hd (.ref a) rfl
  refine repr_of_reads' rd hw (fun _ => nm) hg (by omega) (fun _ _ e => e) (fun h2 u tk k => ?_) hz
  exact ⟨.str d.shown, H, I.kept (t' := tk) k, ⟨u, rfl⟩, q⟩
/-- a list display: not at the place of sys.modules -/
def tLstB (t : TA) : TE := fun σ H Q => t σ H fun xs H1 => xs.length ≤ sizeLine ∧ ∀ p, H1 p = none → p ≠ sysModules → Q (.ref p) (upd H1 p (.lst xs))
theorem pe_lstB {es : List Expr} {t : TA} {pos : Pos} (h : PA X es t) : PE X (.List es pos) (tLstB t) := by
  refine ⟨fun pins s σ H Q I hq => ?_⟩
  refine wpAny_List_spliced (thn (h.run pos pins s σ H _ I hq) fun us s1 ⟨xs, H1, I1, r, z, q⟩ => ⟨by rw [← r.length]; exact z, ?_⟩)
  have hf : H1 s1.heap.objs.size = none := I1.hok.fresh (Nat.le_refl _)
  refine ⟨.ref s1.heap.objs.size, upd H1 s1.heap.objs.size (.lst xs), I1.laid (t' := s1.toks) (fun b u e => Heap.get?_push_of_some _ e) (Nat.le_refl _) ?_, rfl, q _ hf (Ne.symm (Nat.ne_of_lt I1.big))⟩
  exact ⟨z, us, 0, r, Heap.get?_push_size _ rfl⟩
end
end XT
/-! draws within comprehensions; the lots that the law draws -/
namespace XT
open PySem PySem.Spec PyProof.Rows L2
/-- the stream's time goes on, all else stays -/
structure Step (S : Sm) (H : Hp) (t : Int) (H' : Hp) (t' : Int) (n : Nat) : Prop where
  keep : Keep S H H'
  st : Strm S H' t'
  lo : t ≤ t'
  hi : t' ≤ t + n
def spDrawN : Sp := fun vs H Q _ => ∃ (S : Sm) (t : Int) (m : Nat), vs = [.ref S.s, .int (m : Int)] ∧ Strm S H t ∧ 0 < m ∧ m ≤ 1000 ∧ t < 100000000 ∧
  ∀ (H' : Hp) (r : Nat) (t' : Int), Step S H t H' t' 1 → r < m → Q (.int (r : Int)) H'
theorem drawN {P : Program} {w : World} {K : PySem.W.Frag} {mg : Str → Option Value} {base : Heap} {k : Nat} {x : Str} (D : DefR P w K mg base k x spDraw) : DefR P w K mg base k x spDrawN := by
  obtain ⟨f, F, h1, h2⟩ := D
  refine ⟨f, F.imp fun vs H Q E ⟨S, t, m, ev, st, m0, m1, t1, q⟩ => ⟨S, t, m, ev, st, by omega, by omega, by omega, fun H' r t' k s a b r0 r1 => ?_⟩, h1, h2⟩
  obtain ⟨n, rfl⟩ := Int.eq_ofNat_of_zero_le r0
  exact q H' n t' ⟨k, s, a, b⟩ (by omega)
theorem Step.refl {S : Sm} {H : Hp} {t : Int} (h : Strm S H t) : Step S H t H t 0 := ⟨Keep.refl S H, h, Int.le_refl _, by omega⟩
theorem Step.trans {S : Sm} {H H1 H2 : Hp} {t t1 t2 : Int} {n m : Nat} (a : Step S H t H1 t1 n) (b : Step S H1 t1 H2 t2 m) : Step S H t H2 t2 (n + m) := ⟨a.keep.trans b.keep, b.st, Int.le_trans a.lo b.lo, by have := a.hi; have := b.hi; omega⟩
theorem Step.same {S : Sm} {H H1 H2 : Hp} {t t1 : Int} {n : Nat} (a : Step S H t H1 t1 n) (b : Same H1 H2) : Step S H t H2 t1 n := ⟨a.keep.trans (Keep.of b), a.st.same b, a.lo, a.hi⟩
theorem Step.mono {S : Sm} {H H1 : Hp} {t t1 : Int} {n m : Nat} (a : Step S H t H1 t1 n) (h : n ≤ m) : Step S H t H1 t1 m := ⟨a.keep, a.st, a.lo, by have := a.hi; omega⟩
section
variable {K : PySem.W.Frag} {a : Addr} {g : TG} {tt : TT} {te : TE} {vs : List Nat} {σ : L2.St} {H1 : Hp} {D : Addr} {Qd : Hp → Prop} {S : Sm} {t0 : Int} {c : Nat}
/-- what one turn must do: the stream is drawn from at most d times, and what is kept is a number below c -/
def TurnS (S : Sm) (c d : Nat) (g : TG) (tt : TT) (te : TE) (vs : List Nat) (σ : L2.St) (x : V) (H : Hp) (t : Int) : Prop :=
  ∀ (R1 : Hp → Prop) (R2 : V → Hp → Prop), (∀ H3 t3, Step S H t H3 t3 d → R1 H3) → (∀ (k : Nat) H4 t4, Step S H t H4 t4 d → k < c → R2 (.int (k : Int)) H4) →
    g x (wipe σ vs) H fun σ2 H2 => wipe σ2 vs = wipe σ vs ∧ tt σ2 H2 fun b H3 => if b = true then te σ2 H3 R2 else R1 H3
def PvS (S : Sm) (c d : Nat) (H1 : Hp) (t0 : Int) (D : Addr) (i : Nat) (H : Hp) : Prop := ∃ (ks : List Nat) (t : Int), Step S H1 t0 H t (d * i) ∧ H D = some (.lst (vm ks)) ∧ (∀ k ∈ ks, k < c) ∧ ks.length ≤ i
theorem pvs_start (st : Strm S H1 t0) (nD : H1 D = none) (d : Nat) : PvS S c d H1 t0 D 0 (upd H1 D (.lst [])) := ⟨[], t0, ((Step.refl st).same (same_new nD)).mono (Nat.zero_le _), upd_same, by simp, by simp⟩
theorem pvs_turn {d i : Nat} {x : V} {H : Hp} (st0 : Strm S H1 t0) (nD : H1 D = none) (hi : i ≤ 1000) (h : PvS S c d H1 t0 D i H) (ht : ∀ t, Step S H1 t0 H t (d * i) → TurnS S c d g tt te vs σ x H t) :
    g x (wipe σ vs) H fun σ2 H2 => wipe σ2 vs = wipe σ vs ∧ tt σ2 H2 fun b H3 =>
      if b = true then te σ2 H3 fun y H4 => ∃ acc, H4 D = some (.lst acc) ∧ acc.length < sizeLine ∧ PvS S c d H1 t0 D (i + 1) (upd H4 D (.lst (acc ++ [y]))) else PvS S c d H1 t0 D (i + 1) H3 := by
  obtain ⟨ks, t, stp, hD, hk, hl⟩ := h
  refine ht t stp _ _ (fun H3 t3 s3 => ?_) (fun k H4 t4 s4 hkc => ?_)
  · exact ⟨ks, t3, (stp.trans s3).mono (by rw [Nat.mul_succ]; exact Nat.le_refl _), s3.keep.mine st0 nD hD, hk, by omega⟩
  · have hD4 := s4.keep.mine st0 nD hD
    refine ⟨_, hD4, small64 (by rw [vm_len]; omega), ks ++ [k], t4, ?_, ?_, ?_, ?_⟩
    · have z := stp.trans s4
      have nDs : D ≠ S.s := fun e => by obtain ⟨_, h⟩ := st0; rw [e, h.hs] at nD; cases nD
      have nDp : D ≠ S.p := fun e => by obtain ⟨_, h⟩ := st0; rw [e, h.hp] at nD; cases nD
      have nDq : D ≠ S.q := fun e => by obtain ⟨_, h⟩ := st0; rw [e, h.hq] at nD; cases nD
      refine ⟨fun b o n1 n2 e => ?_, ?_, z.lo, by have := z.hi; rw [Nat.mul_succ]; exact this⟩
      · rw [upd_ne (ne_of_none e nD)]
        exact z.keep b o n1 n2 e
      · obtain ⟨big, hb⟩ := z.st
        refine ⟨big, ?_, ?_, ?_, hb.sp, hb.sq, hb.pq, hb.ne, hb.t0⟩
        · rw [upd_ne nDs.symm]; exact hb.hs
        · rw [upd_ne nDp.symm]; exact hb.hp
        · rw [upd_ne nDq.symm]; exact hb.hq
    · rw [upd_same]; unfold vm; rw [List.map_append]; rfl
    · intro j hj
      rcases List.mem_append.mp hj with hj | hj
      · exact hk j hj
      · rw [List.mem_singleton.mp hj]; exact hkc
    · rw [List.length_append]; simp; exact hl
theorem lcs_range {n d : Nat} (st0 : Strm S H1 t0) (nD : H1 D = none) (hn : n ≤ 1000) (ht : ∀ (i : Nat) H t, i < n → Step S H1 t0 H t (d * i) → TurnS S c d g tt te vs σ (.int (0 + (i : Int))) H t) (hd : ∀ H, PvS S c d H1 t0 D n H → Qd H) :
    ∃ W : Nat → Nat → Hp → Prop, (∃ m, W 0 m (upd H1 D (.lst []))) ∧ ∀ i m H, W i m H →
      ((Itr 0 n).stop i H ∧ Qd H) ∨ ((Itr 0 n).go i H ∧ ∃ Nx : Hp → Prop, (∀ H', Nx H' → ∃ m', m' < m ∧ W (i + 1) m' H') ∧ ∀ x H', (Itr 0 n).yld i H x H' → g x (wipe σ vs) H' fun σ2 H2 => wipe σ2 vs = wipe σ vs ∧ tt σ2 H2 fun b H3 =>
        if b = true then te σ2 H3 fun y H4 => ∃ acc, H4 D = some (.lst acc) ∧ acc.length < sizeLine ∧ Nx (upd H4 D (.lst (acc ++ [y]))) else Nx H3) :=
  lc_range (lo := 0) (n := n) (fun i H => PvS S c d H1 t0 D i H) (pvs_start st0 nD d) (fun i H hi h => pvs_turn st0 nD (by omega) h fun t s => ht i H t hi s) hd
theorem lcs_list {ms : List Nat} {d : Nat} (st0 : Strm S H1 t0) (nD : H1 D = none) (hA : H1 a = some (.lst (vm ms))) (as : a ≠ S.s) (ap : a ≠ S.p) (hn : ms.length ≤ 1000)
    (ht : ∀ (i : Nat) (m : Nat) H t, ms[i]? = some m → Step S H1 t0 H t (d * i) → TurnS S c d g tt te vs σ (.int (m : Int)) H t) (hd : ∀ H, PvS S c d H1 t0 D ms.length H → Qd H) :
    ∃ W : Nat → Nat → Hp → Prop, (∃ m, W 0 m (upd H1 D (.lst []))) ∧ ∀ i m H, W i m H →
      ((Itl K a).stop i H ∧ Qd H) ∨ ((Itl K a).go i H ∧ ∃ Nx : Hp → Prop, (∀ H', Nx H' → ∃ m', m' < m ∧ W (i + 1) m' H') ∧ ∀ x H', (Itl K a).yld i H x H' → g x (wipe σ vs) H' fun σ2 H2 => wipe σ2 vs = wipe σ vs ∧ tt σ2 H2 fun b H3 =>
        if b = true then te σ2 H3 fun y H4 => ∃ acc, H4 D = some (.lst acc) ∧ acc.length < sizeLine ∧ Nx (upd H4 D (.lst (acc ++ [y]))) else Nx H3) := by
  refine lc_list (xs := vm ms) (fun i H => PvS S c d H1 t0 D i H) (pvs_start st0 nD d) (fun i H _ h => ?_) (fun i x H hx h => ?_) (fun H h => ?_)
  · obtain ⟨_, _, s, _⟩ := h
    exact SqL.of (s.keep a _ as ap hA)
  · obtain ⟨m, hm, rfl⟩ := mem_vm hx
    have hi : i < ms.length := (List.getElem?_eq_some_iff.mp hm).1
    exact pvs_turn st0 nD (by omega) h fun t s => ht i m H t hm s
  · rw [vm_len] at h
    exact hd H h
end
end XT
/-! how long data are when shown -/
namespace XT
open PySem PySem.Spec PyProof.Rows L2
structure Shw (d : PyData) (n k : Nat) : Prop where
  lay : PyData.canLay0 d = true
  dep : PyData.depth d ≤ k
  shw : PyData.showable d = true
  len : (PyData.shown d).length ≤ n
structure ShwAll (ds : List PyData) (n k : Nat) : Prop where
  lay : PyData.canLayAll0 ds = true
  dep : PyData.depthAll ds ≤ k
  shw : PyData.showableAll ds = true
  len : ((PyData.shownAll ds).map (·.length)).sum + 2 * (PyData.shownAll ds).length ≤ n
theorem ShwAll.nil {k : Nat} : ShwAll [] 0 k := ⟨rfl, Nat.zero_le _, rfl, Nat.le_refl _⟩
theorem ShwAll.cons {d : PyData} {ds : List PyData} {n m k : Nat} (h : Shw d n k) (t : ShwAll ds m k) : ShwAll (d :: ds) (n + 2 + m) k := by
  refine ⟨?_, ?_, ?_, ?_⟩
  · simp only [PyData.canLayAll0, h.lay, t.lay, Bool.and_self]
  · simp only [PyData.depthAll]
    exact Nat.max_le.mpr ⟨h.dep, t.dep⟩
  · simp only [PyData.showableAll, h.shw, t.shw, Bool.and_self]
  · have h1 := h.len
    have h2 := t.len
    simp only [PyData.shownAll, List.map_cons, List.sum_cons, List.length_cons]
    omega
theorem Shw.mono {d : PyData} {n m k j : Nat} (h : Shw d n k) (a : n ≤ m) (b : k ≤ j) : Shw d m j := ⟨h.lay, Nat.le_trans h.dep b, h.shw, Nat.le_trans h.len a⟩
theorem ShwAll.mono {d : List PyData} {n m k j : Nat} (h : ShwAll d n k) (a : n ≤ m) (b : k ≤ j) : ShwAll d m j := ⟨h.lay, Nat.le_trans h.dep b, h.shw, Nat.le_trans h.len a⟩
theorem ShwAll.list {ds : List PyData} {n k : Nat} (h : ShwAll ds n k) : Shw (.list ds) (n + 3) (k + 1) := by
  refine ⟨by simpa only [PyData.canLay0] using h.lay, ?_, by simpa only [PyData.showable] using h.shw, ?_⟩
  · simp only [PyData.depth]
    have := h.dep
    omega
  · simp only [PyData.shown]
    have := listText_len_le (PyData.shownAll ds)
    have := h.len
    omega
theorem ShwAll.tuple {ds : List PyData} {n k : Nat} (h : ShwAll ds n k) : Shw (.tuple ds) (n + 3) (k + 1) := by
  refine ⟨by simpa only [PyData.canLay0] using h.lay, ?_, by simpa only [PyData.showable] using h.shw, ?_⟩
  · simp only [PyData.depth]
    have := h.dep
    omega
  · simp only [PyData.shown]
    have := tupleText_len_le (PyData.shownAll ds)
    have := h.len
    omega
theorem shw_nat {m : Nat} (h : m < 1000000) : Shw (.int (m : Int)) 13 0 := by
  refine ⟨rfl, Nat.le_refl _, ?_, PyData.shown_int_le (by omega)⟩
  show decide ((m : Int).natAbs.log2 < 1920) = true
  rw [decide_eq_true_iff, Int.natAbs_natCast]
  by_cases h0 : m = 0
  · subst h0; decide
  · exact Nat.lt_of_lt_of_le ((Nat.log2_lt h0).mpr (show m < 2 ^ 20 by omega)) (by decide)
theorem shw_nats : ∀ {ms : List Nat}, (∀ m ∈ ms, m < 1000000) → ShwAll (ms.map fun (m : Nat) => PyData.int (m : Int)) (15 * ms.length) 0
  | [], _ => ShwAll.nil
  | m :: ms, h => by
    have := ShwAll.cons (shw_nat (h m List.mem_cons_self)) (shw_nats (ms := ms) fun x hx => h x (List.mem_cons_of_mem _ hx))
    exact this.mono (by rw [List.length_cons]; omega) (Nat.le_refl _)
theorem shw_lot {n : Nat} (hn : n ≤ 6) (p : Nat → Bool) : Shw (dLot n p) 1000 2 := by
  have h6 := pow6 (w := n) hn
  have hl := lot_len hn p
  have h := (shw_nats (ms := lotOf n p) fun m hm => by have := (mem_lot.mp hm).1; omega).tuple
  have := (ShwAll.cons ((shw_nat (m := n) (by omega)).mono (Nat.le_refl _) (Nat.zero_le 1)) (ShwAll.cons (h.mono (Nat.le_refl _) (by omega)) ShwAll.nil)).tuple
  exact this.mono (by omega) (by omega)
theorem shw_width (i : Nat) (h : i < 1000000) : Shw (.list [.str "width", .int (i : Int)]) 1000 2 := by
  have hs : Shw (.str "width") 10 0 := ⟨by decide +kernel, Nat.le_refl _, rfl, by decide +kernel⟩
  exact (ShwAll.cons hs (ShwAll.cons (shw_nat h) ShwAll.nil)).list.mono (by omega) (by omega)
theorem shw_two {a b : PyData} {n m k : Nat} (ha : Shw a n k) (hb : Shw b m k) : Shw (.list [a, b]) (n + m + 7) (k + 1) := (ShwAll.cons ha (ShwAll.cons hb ShwAll.nil)).list.mono (by omega) (by omega)
theorem Shw.shaped {d : PyData} {n k : Nat} (hs : Shw d n k) (hk : k ≤ 64) : SeqAt.shaped d = true := by
  unfold SeqAt.shaped
  rw [hs.lay, decide_eq_true (Nat.le_trans hs.dep hk)]
  rfl
theorem Shw.sz {d : PyData} {n k : Nat} (hs : Shw d n k) (hn : n ≤ 10000000) : d.shown.length ≤ sizeLine := by
  rw [sizeLine_eq]
  have := hs.len
  omega
end XT
/-! lots with their widths; a comprehension of drawn lots; when two lots are equal -/
namespace XT
open PySem PySem.Spec PyProof.Rows L2
abbrev rXor : R2 := rI0 fun i j => .int (Builtin.bitXor i j)
/-- f(..) by its promise, as pe_def reads it -/
abbrev tDf (sp : Sp) (t : TA) : TE := fun σ H Q => t σ H fun vs H1 => sp vs H1 Q E0
structure Lt where
  v : V
  n : Nat
  p : Nat → Bool
def LtAt (H : Hp) (l : Lt) : Prop := LotAt H l.v l.n l.p ∧ 1 ≤ l.n ∧ l.n ≤ 6
theorem LtAt.same {H H' : Hp} {l : Lt} (h : LtAt H l) (e : Same H H') : LtAt H' l := ⟨h.1.same e, h.2⟩
theorem lt_keep {S : Sm} {H H' : Hp} {t : Int} {l : Lt} (h : LtAt H l) (k : Keep S H H') (st : Strm S H t) : LtAt H' l := ⟨h.1.keep k st, h.2⟩
theorem at_ne' {H : Hp} {a b : Addr} {x y : HO} (h1 : H a = some x) (h2 : H b = some y) (n : x ≠ y) : b ≠ a := fun e => by
  rw [e, h1] at h2
  exact n (Option.some.inj h2)
theorem lot_upd {H : Hp} {R : Addr} {xs ys : List V} {v : V} {n : Nat} {p : Nat → Bool} (hR : H R = some (.lst xs)) (h : LotAt H v n p) : LotAt (upd H R (.lst ys)) v n p := by
  obtain ⟨x, y, rfl, hx, hy⟩ := h
  exact ⟨x, y, rfl, by rw [upd_ne (at_ne' hR hx (by simp))]; exact hx, by rw [upd_ne (at_ne' hR hy (by simp))]; exact hy⟩
theorem strm_upd {S : Sm} {H : Hp} {t : Int} {R : Addr} {o : HO} (h : Strm S H t) (n1 : R ≠ S.s) (n2 : R ≠ S.p) (n3 : R ≠ S.q) : Strm S (upd H R o) t := by
  obtain ⟨big, s⟩ := h
  exact ⟨big, by rw [upd_ne (Ne.symm n1)]; exact s.hs, by rw [upd_ne (Ne.symm n2)]; exact s.hp, by rw [upd_ne (Ne.symm n3)]; exact s.hq, s.sp, s.sq, s.pq, s.ne, s.t0⟩
theorem strm_ne {S : Sm} {H : Hp} {t : Int} {R : Addr} (h : Strm S H t) (n : H R = none) : R ≠ S.s ∧ R ≠ S.p ∧ R ≠ S.q := by
  obtain ⟨big, s⟩ := h
  exact ⟨(ne_of_none s.hs n).symm, (ne_of_none s.hp n).symm, (ne_of_none s.hq n).symm⟩
mutual
theorem Dp_same {K : PySem.W.Frag} {H H' : Hp} (e : Same H H') : ∀ {v : V} {d : PyData}, Dp K H v d → Dp K H' v d
  | _, _, .non => .non
  | _, _, .bl b => .bl b
  | _, _, .int i => .int i
  | _, _, .str x => .str x
  | _, _, .lst h a => .lst (e.seq h) (DpAll_same e a)
  | _, _, .tup h a => .tup (Same.sqT e h) (DpAll_same e a)
theorem DpAll_same {K : PySem.W.Frag} {H H' : Hp} (e : Same H H') : ∀ {vs : List V} {ds : List PyData}, DpAll K H vs ds → DpAll K H' vs ds
  | _, _, .nil => .nil
  | _, _, .cons h a => .cons (Dp_same e h) (DpAll_same e a)
end
/-! a list of one's own is changed: what was there before it is still there -/
theorem same_upd {H0 H : Hp} {R : Addr} {o : HO} (h : Same H0 H) (n : H0 R = none) : Same H0 (upd H R o) := fun b x e => by
  rw [upd_ne (ne_of_none e n)]
  exact h b x e
/-! tuples of masks -/
def TupAt (H : Hp) (v : V) (ms : List Nat) : Prop := ∃ q, v = .ref q ∧ H q = some (.tup (vm ms))
theorem TupAt.same {H H' : Hp} {v : V} {ms : List Nat} (h : TupAt H v ms) (e : Same H H') : TupAt H' v ms := by
  obtain ⟨q, rfl, h⟩ := h
  exact ⟨q, rfl, e _ _ h⟩
theorem TupAt.dp {K : PySem.W.Frag} {H : Hp} {v : V} {ms : List Nat} (h : TupAt H v ms) : Dp K H v (.tuple (ms.map fun (m : Nat) => .int (m : Int))) := by
  obtain ⟨q, rfl, h⟩ := h
  exact .tup (SqT.of h) (dpVm _)
theorem shw_tup {n : Nat} (hn : n ≤ 6) (p : Nat → Bool) : Shw (.tuple ((lotOf n p).map fun (m : Nat) => PyData.int (m : Int))) 1000 1 := by
  have h6 := pow6 (w := n) hn
  have hl := lot_len hn p
  have h := (shw_nats (ms := lotOf n p) fun m hm => by have := (mem_lot.mp hm).1; omega).tuple
  exact h.mono (by omega) (by omega)
/-! when two lists of numbers, two lots are equal -/
theorem eqv_nats : ∀ ms ks : List Nat, PyData.eqvAll (ms.map fun (m : Nat) => PyData.int (m : Int)) (ks.map fun (m : Nat) => PyData.int (m : Int)) = decide (ms = ks)
  | [], [] => rfl
  | [], k :: ks => by simp [PyData.eqvAll]
  | m :: ms, [] => by simp [PyData.eqvAll]
  | m :: ms, k :: ks => by
    have h := eqv_nats ms ks
    simp only [List.map_cons, PyData.eqvAll, PyData.eqv, h]
    rw [Bool.eq_iff_iff]
    simp only [Bool.and_eq_true, decide_eq_true_iff, beq_iff_eq, List.cons.injEq]
    constructor
    · rintro ⟨a, b⟩
      exact ⟨by omega, b⟩
    · rintro ⟨a, b⟩
      exact ⟨by omega, b⟩
theorem lot_eq_iff {n : Nat} {p r : Nat → Bool} : lotOf n p = lotOf n r ↔ ∀ m, m < 2 ^ n → p m = r m := by
  refine ⟨fun h m hm => ?_, lot_congr⟩
  have h2 : m ∈ lotOf n p ↔ m ∈ lotOf n r := by rw [h]
  rw [mem_lot, mem_lot] at h2
  rw [Bool.eq_iff_iff]
  exact ⟨fun z => (h2.mp ⟨hm, z⟩).2, fun z => (h2.mpr ⟨hm, z⟩).2⟩
theorem eqv_lots (n : Nat) (p r : Nat → Bool) : PyData.eqv (dLot n p) (dLot n r) = decide (∀ m, m < 2 ^ n → p m = r m) := by
  simp only [dLot, PyData.eqv, PyData.eqvAll, eqv_nats]
  rw [Bool.eq_iff_iff]
  simp [lot_eq_iff]
/-- what one turn must do: the stream is drawn from at most d times, and what is kept is a lot -/
def TurnL (S : Sm) (d : Nat) (g : TG) (tt : TT) (te : TE) (vs : List Nat) (σ : L2.St) (x : V) (H : Hp) (t : Int) : Prop :=
  ∀ (R1 : Hp → Prop) (R2 : V → Hp → Prop), (∀ (l : Lt) H4 t4, Step S H t H4 t4 d → LtAt H4 l → R2 l.v H4) →
    g x (wipe σ vs) H fun σ2 H2 => wipe σ2 vs = wipe σ vs ∧ tt σ2 H2 fun b H3 => if b = true then te σ2 H3 R2 else R1 H3
def PvL (S : Sm) (d : Nat) (H1 : Hp) (t0 : Int) (D : Addr) (i : Nat) (H : Hp) : Prop := ∃ (ls : List Lt) (t : Int), Step S H1 t0 H t (d * i) ∧ H D = some (.lst (ls.map (·.v))) ∧ (∀ l ∈ ls, LtAt H l) ∧ ls.length = i
theorem lcl_range {g : TG} {tt : TT} {te : TE} {vs : List Nat} {σ : L2.St} {H1 : Hp} {D : Addr} {Qd : Hp → Prop} {S : Sm} {t0 : Int} {n d : Nat} (st0 : Strm S H1 t0) (nD : H1 D = none) (hn : n ≤ 1000)
    (ht : ∀ (i : Nat) H t, i < n → Step S H1 t0 H t (d * i) → TurnL S d g tt te vs σ (.int (0 + (i : Int))) H t) (hd : ∀ H, PvL S d H1 t0 D n H → Qd H) :
    ∃ W : Nat → Nat → Hp → Prop, (∃ m, W 0 m (upd H1 D (.lst []))) ∧ ∀ i m H, W i m H →
      ((Itr 0 n).stop i H ∧ Qd H) ∨ ((Itr 0 n).go i H ∧ ∃ Nx : Hp → Prop, (∀ H', Nx H' → ∃ m', m' < m ∧ W (i + 1) m' H') ∧ ∀ x H', (Itr 0 n).yld i H x H' → g x (wipe σ vs) H' fun σ2 H2 => wipe σ2 vs = wipe σ vs ∧ tt σ2 H2 fun b H3 =>
        if b = true then te σ2 H3 fun y H4 => ∃ acc, H4 D = some (.lst acc) ∧ acc.length < sizeLine ∧ Nx (upd H4 D (.lst (acc ++ [y]))) else Nx H3) := by
  refine lc_range (lo := 0) (n := n) (fun i H => PvL S d H1 t0 D i H) ⟨[], t0, ((Step.refl st0).same (same_new nD)).mono (Nat.zero_le _), upd_same, by simp, rfl⟩ (fun i H hi h => ?_) hd
  obtain ⟨ls, t, stp, hD, hall, hl⟩ := h
  refine ht i H t hi stp _ _ (fun l H4 t4 s4 hl4 => ?_)
  have hD4 := s4.keep.mine st0 nD hD
  refine ⟨_, hD4, small64 (by rw [List.length_map]; omega), ls ++ [l], t4, ?_, ?_, ?_, ?_⟩
  · have z := stp.trans s4
    obtain ⟨nDs, nDp, nDq⟩ := strm_ne st0 nD
    refine ⟨fun b o n1 n2 e => ?_, strm_upd z.st nDs nDp nDq, z.lo, by have := z.hi; rw [Nat.mul_succ]; exact this⟩
    rw [upd_ne (ne_of_none e nD)]
    exact z.keep b o n1 n2 e
  · rw [upd_same, List.map_append]; rfl
  · intro j hj
    have h6 : LtAt H4 j := by
      rcases List.mem_append.mp hj with hj | hj
      · exact lt_keep (hall j hj) s4.keep stp.st
      · rw [List.mem_singleton.mp hj]; exact hl4
    exact ⟨lot_upd hD4 h6.1, h6.2⟩
  · rw [List.length_append, hl]; rfl
end XT
/-! kinds of data -/
namespace XT
open PySem PySem.Spec PyProof.Rows L2
def tyD : PyData → String
  | .none => "NoneType" | .bool _ => "bool" | .int _ => "int" | .str _ => "str" | .list _ => "list" | .tuple _ => "tuple" | .dict _ => "dict"
theorem Dz.ty {K : PySem.W.Frag} {H : Hp} {v : V} {d : PyData} (h : Dz K H v d) : TyX K H v (.type (tyD d)) := by
  cases h with
  | non => exact .base .non
  | bl b => exact .base (.bl b)
  | int i => exact .base (.int i)
  | str x => exact .base (.str x)
  | lst h n a =>
    rcases h with (h | ⟨o, h⟩) | ⟨o, its, n, h, c, _⟩
    · exact .base (.lst h)
    · exact .base (.frz h)
    · exact .kList h c
  | tup h a =>
    rcases h with (h | ⟨o, h⟩) | ⟨o, its, n, h, c, _⟩
    · exact .base (.tup h)
    · exact .fTuple h
    · exact .kTuple h c
  | dct kvs h => exact .base (.dK h)
def isIt : PyData → Bool
  | .int _ => true | .bool _ => true | _ => false
def isBl : PyData → Bool
  | .bool _ => true | _ => false
def isN : PyData → Bool
  | .int _ => true | _ => false
theorem kitI {K : PySem.W.Frag} : ∀ d : PyData, PySem.W.kitOne K (.type (tyD d)) (.type "int") = some (isIt d)
  | .none => kit_ty (a := "NoneType") (b := "int") (r := false) (by decide +kernel)
  | .bool _ => kit_ty (a := "bool") (b := "int") (r := true) (by decide +kernel)
  | .int _ => kit_ty (a := "int") (b := "int") (r := true) (by decide +kernel)
  | .str _ => kit_ty (a := "str") (b := "int") (r := false) (by decide +kernel)
  | .list _ => kit_ty (a := "list") (b := "int") (r := false) (by decide +kernel)
  | .tuple _ => kit_ty (a := "tuple") (b := "int") (r := false) (by decide +kernel)
  | .dict _ => kit_ty (a := "dict") (b := "int") (r := false) (by decide +kernel)
theorem kitB' {K : PySem.W.Frag} : ∀ d : PyData, PySem.W.kitOne K (.type (tyD d)) (.type "bool") = some (isBl d)
  | .none => kit_ty (a := "NoneType") (b := "bool") (r := false) (by decide +kernel)
  | .bool _ => kit_ty (a := "bool") (b := "bool") (r := true) (by decide +kernel)
  | .int _ => kit_ty (a := "int") (b := "bool") (r := false) (by decide +kernel)
  | .str _ => kit_ty (a := "str") (b := "bool") (r := false) (by decide +kernel)
  | .list _ => kit_ty (a := "list") (b := "bool") (r := false) (by decide +kernel)
  | .tuple _ => kit_ty (a := "tuple") (b := "bool") (r := false) (by decide +kernel)
  | .dict _ => kit_ty (a := "dict") (b := "bool") (r := false) (by decide +kernel)
def isM (n : Nat) : PyData → Bool
  | .int i => decide (0 ≤ i) && decide (i < ((2 ^ n : Nat) : Int))
  | _ => false
theorem DzAll.at {K : PySem.W.Frag} {H : Hp} : ∀ {vs : List V} {ds : List PyData}, DzAll K H vs ds → ∀ {i : Nat} {v : V}, vs[i]? = some v → ∃ d, ds[i]? = some d ∧ Dz K H v d
  | _, _, .nil, i, v, h => by simp at h
  | _, _, .cons (d := d) h a, 0, v, e => by
    cases e
    exact ⟨d, rfl, h⟩
  | _, _, .cons h a, i + 1, v, e => DzAll.at a (i := i) e
theorem DzAll.len {K : PySem.W.Frag} {H : Hp} : ∀ {vs : List V} {ds : List PyData}, DzAll K H vs ds → vs.length = ds.length
  | _, _, .nil => rfl
  | _, _, .cons h a => by rw [List.length_cons, List.length_cons, DzAll.len a]
def oddD : List PyData := [.none, .bool true, .bool false, .int (-1), .int 0, .int 1, .int 2, .int 3, .int 6, .int 7, .int 63, .int 64, .int (10 ^ 39), .str "", .str "0", .str "lot", .tuple [], .list [], .dict [], .tuple [.int 0], .list [.int 0], .tuple [.bool true],
  .tuple [.int 2, .tuple [.int 0]], .tuple [.int 0, .int 1], .dict [(.str "a", .int 1)], .str "01"]
end XT
/-! sizes of data -/
namespace XT
open PySem PySem.Spec PyProof.Rows L2
/-! texts -/
def TxOk (x : Str) : Prop := ∀ c ∈ x.cps.toList, c < 16 ^ 8
theorem shifted_lt {B : Nat} : ∀ {l : List (Nat × Nat × Nat)}, l.all (fun p => decide (p.2.2 + (p.2.1 - p.1) < B)) = true → ∀ {c x : Nat}, Unicode.shifted l c = some x → x < B
  | [], _, c, x, h => by simp [Unicode.shifted] at h
  | (a, b, t) :: l, ha, c, x, h => by
    rw [List.all_cons, Bool.and_eq_true] at ha
    have h1 : t + (b - a) < B := of_decide_eq_true ha.1
    unfold Unicode.shifted at h
    by_cases hc : c < a
    · rw [if_pos hc] at h; cases h
    · rw [if_neg hc] at h
      by_cases hb : c ≤ b
      · rw [if_pos hb] at h
        cases h
        omega
      · rw [if_neg hb] at h
        exact shifted_lt ha.2 h
theorem lookup_mem {β : Type} : ∀ {l : List (Nat × β)} {a : Nat} {b : β}, l.lookup a = some b → (a, b) ∈ l
  | [], a, b, h => by simp at h
  | (k, v) :: l, a, b, h => by
    rw [List.lookup_cons] at h
    cases e : a == k with
    | true =>
      rw [e] at h
      cases h
      rw [eq_of_beq e]
      exact List.mem_cons_self
    | false =>
      rw [e] at h
      exact List.mem_cons_of_mem _ (lookup_mem h)
theorem tabOne : UnicodeData.oneUpper.all (fun p => decide (p.2.2 + (p.2.1 - p.1) < 16 ^ 8)) = true := by decide +kernel
theorem tabSev : UnicodeData.severalUpper.all (fun p => p.2.all fun x => decide (x < 16 ^ 8)) = true := by decide +kernel
theorem upperOf_lt {c : Nat} (h : c < 16 ^ 8) : ∀ x ∈ Unicode.upperOf c, x < 16 ^ 8 := by
  intro x hx
  unfold Unicode.upperOf Unicode.image at hx
  cases e : UnicodeData.severalUpper.lookup c with
  | some cs =>
    rw [e] at hx
    have := List.all_eq_true.mp tabSev _ (lookup_mem e)
    exact of_decide_eq_true (List.all_eq_true.mp this x hx)
  | none =>
    rw [e] at hx
    rw [List.mem_singleton.mp hx]
    cases e2 : Unicode.shifted UnicodeData.oneUpper c with
    | none => exact h
    | some y => exact shifted_lt tabOne e2
theorem TxOk.upper {x : Str} (h : TxOk x) : TxOk (Txt.upper x) := by
  intro c hc
  unfold Txt.upper placed at hc
  have hc := Array.mem_toList_iff.mp hc
  obtain ⟨ys, h1, h2⟩ := Array.mem_flatten.mp hc
  obtain ⟨i, hi, e⟩ := Array.mem_mapIdx.mp h1
  subst e
  have h3 : c ∈ Unicode.upperOf x.cps[i] := by simpa using h2
  exact upperOf_lt (h _ (Array.mem_toList_iff.mpr (Array.getElem_mem hi))) c h3
theorem TxOk.app {x y : Str} (h : TxOk x) (k : TxOk y) : TxOk (x ++ y) := by
  intro c hc
  have e : (x ++ y).cps.toList = x.cps.toList ++ y.cps.toList := by
    show (x.cps ++ y.cps).toList = _
    simp
  rw [e] at hc
  exact (List.mem_append.mp hc).elim (h c) (k c)
theorem TxOk.cut {x : Str} (h : TxOk x) (lo hi : Option Int) : TxOk (cutS x lo hi) := by
  intro c hc
  have hc : c ∈ (((x.cps.toList.drop (HT.sIx x.length 0 lo)).take (HT.sIx x.length x.length hi - HT.sIx x.length 0 lo)).toArray).toList := hc
  rw [List.toList_toArray] at hc
  exact h c (List.mem_of_mem_drop (List.mem_of_mem_take hc))
theorem TxOk.of (s : String) : TxOk (Str.ofString s) := by
  intro c hc
  rw [Str.ofString_eq_toList] at hc
  have hc : c ∈ s.toList.map Char.toNat := by simpa using hc
  obtain ⟨d, _, rfl⟩ := List.mem_map.mp hc
  have := d.valid
  have h2 : d.toNat < 0x110000 := by
    rcases this with h | h
    · exact Nat.lt_trans h (by decide)
    · exact h.2
  exact Nat.lt_trans h2 (by decide)
theorem str_app_len (x y : Str) : (x ++ y).length = x.length + y.length := strLen_append x y

/-! size -/
mutual
def zs : PyData → Nat
  | .none => 10
  | .bool _ => 10
  | .int _ => 60
  | .str x => 10 * x.length + 2
  | .list ds => zsAll ds + 4
  | .tuple ds => zsAll ds + 4
  | .dict _ => 50
def zsAll : List PyData → Nat
  | [] => 0
  | d :: ds => zs d + 2 + zsAll ds
end
mutual
def fz (M : Nat) : PyData → Prop
  | .none => True
  | .bool _ => True
  | .int i => i.natAbs ≤ M
  | .str x => TxOk x
  | .list ds => fzAll M ds
  | .tuple ds => fzAll M ds
  | .dict kvs => (PyData.showable (.dict kvs) = true) ∧ (PyData.shown (.dict kvs)).length ≤ 50
def fzAll (M : Nat) : List PyData → Prop
  | [] => True
  | d :: ds => fz M d ∧ fzAll M ds
end
mutual
theorem fz_mono {M N : Nat} (h : M ≤ N) : ∀ d : PyData, fz M d → fz N d
  | .none, a => a
  | .bool _, a => a
  | .int _, a => Nat.le_trans a h
  | .str _, a => a
  | .list ds, a => fzAll_mono h ds a
  | .tuple ds, a => fzAll_mono h ds a
  | .dict _, a => a
theorem fzAll_mono {M N : Nat} (h : M ≤ N) : ∀ ds : List PyData, fzAll M ds → fzAll N ds
  | [], a => a
  | d :: ds, a => ⟨fz_mono h d a.1, fzAll_mono h ds a.2⟩
end
theorem fzAll_iff {M : Nat} : ∀ {ds : List PyData}, fzAll M ds ↔ ∀ d ∈ ds, fz M d
  | [] => ⟨fun _ d h => by simp at h, fun _ => trivial⟩
  | d :: ds => by
    constructor
    · intro h e he
      rcases List.mem_cons.mp he with rfl | he
      · exact h.1
      · exact fzAll_iff.mp h.2 e he
    · intro h
      exact ⟨h d List.mem_cons_self, fzAll_iff.mpr fun e he => h e (List.mem_cons_of_mem _ he)⟩
theorem depthAll_iff {k : Nat} : ∀ {ds : List PyData}, PyData.depthAll ds ≤ k ↔ ∀ d ∈ ds, PyData.depth d ≤ k
  | [] => ⟨fun _ d h => by simp at h, fun _ => Nat.zero_le _⟩
  | d :: ds => by
    simp only [PyData.depthAll]
    constructor
    · intro h e he
      have h := Nat.max_le.mp h
      rcases List.mem_cons.mp he with rfl | he
      · exact h.1
      · exact depthAll_iff.mp h.2 e he
    · intro h
      exact Nat.max_le.mpr ⟨h d List.mem_cons_self, depthAll_iff.mpr fun e he => h e (List.mem_cons_of_mem _ he)⟩
theorem zsAll_app : ∀ a b : List PyData, zsAll (a ++ b) = zsAll a + zsAll b
  | [], b => by simp [zsAll]
  | d :: a, b => by
    show zs d + 2 + zsAll (a ++ b) = zs d + 2 + zsAll a + zsAll b
    rw [zsAll_app a b]
    omega
theorem zsAll_take (n : Nat) (ds : List PyData) : zsAll (ds.take n) ≤ zsAll ds := by
  have := zsAll_app (ds.take n) (ds.drop n)
  rw [List.take_append_drop] at this
  omega
theorem zsAll_drop (n : Nat) (ds : List PyData) : zsAll (ds.drop n) ≤ zsAll ds := by
  have := zsAll_app (ds.take n) (ds.drop n)
  rw [List.take_append_drop] at this
  omega
theorem zsAll_rev : ∀ ds : List PyData, zsAll ds.reverse = zsAll ds
  | [] => rfl
  | d :: ds => by
    rw [List.reverse_cons, zsAll_app, zsAll_rev ds]
    show zsAll ds + (zs d + 2 + 0) = zs d + 2 + zsAll ds
    omega
theorem zs_mem : ∀ {ds : List PyData} {d : PyData}, d ∈ ds → zs d + 2 ≤ zsAll ds
  | e :: ds, d, h => by
    show zs d + 2 ≤ zs e + 2 + zsAll ds
    rcases List.mem_cons.mp h with rfl | h
    · omega
    · have := zs_mem h
      omega
theorem zsAll_len : ∀ ds : List PyData, ds.length ≤ zsAll ds
  | [] => Nat.zero_le _
  | d :: ds => by
    have := zsAll_len ds
    show ds.length + 1 ≤ zs d + 2 + zsAll ds
    omega
/-- what the data are: their numbers, their size, their depth -/
structure Gd (M n k : Nat) (d : PyData) : Prop where
  f : fz M d
  z : zs d ≤ n
  p : PyData.depth d ≤ k
structure GdAll (M n k : Nat) (ds : List PyData) : Prop where
  f : fzAll M ds
  z : zsAll ds ≤ n
  p : PyData.depthAll ds ≤ k
theorem Gd.mono {M N n m k j : Nat} {d : PyData} (h : Gd M n k d) (a : M ≤ N) (b : n ≤ m) (c : k ≤ j) : Gd N m j d := ⟨fz_mono a d h.f, Nat.le_trans h.z b, Nat.le_trans h.p c⟩
theorem GdAll.mono {M N n m k j : Nat} {d : List PyData} (h : GdAll M n k d) (a : M ≤ N) (b : n ≤ m) (c : k ≤ j) : GdAll N m j d := ⟨fzAll_mono a d h.f, Nat.le_trans h.z b, Nat.le_trans h.p c⟩
theorem Gd.all {M n k : Nat} {ds : List PyData} (h : Gd M n k (.tuple ds)) : GdAll M (n - 4) (k - 1) ds ∧ 4 ≤ n ∧ 1 ≤ k := by
  have h2 : zsAll ds + 4 ≤ n := h.z
  have h3 : PyData.depthAll ds + 1 ≤ k := by
    have := h.p
    simp only [PyData.depth] at this
    exact this
  exact ⟨⟨h.f, by omega, by omega⟩, by omega, by omega⟩
theorem GdAll.tuple {M n k : Nat} {ds : List PyData} (h : GdAll M n k ds) : Gd M (n + 4) (k + 1) (.tuple ds) := by
  refine ⟨h.f, Nat.add_le_add_right h.z 4, ?_⟩
  simp only [PyData.depth]
  exact Nat.add_le_add_right h.p 1
theorem GdAll.list {M n k : Nat} {ds : List PyData} (h : GdAll M n k ds) : Gd M (n + 4) (k + 1) (.list ds) := by
  refine ⟨h.f, Nat.add_le_add_right h.z 4, ?_⟩
  simp only [PyData.depth]
  exact Nat.add_le_add_right h.p 1
theorem GdAll.nil {M k : Nat} : GdAll M 0 k [] := ⟨trivial, Nat.le_refl _, Nat.zero_le _⟩
theorem GdAll.cons {M n m k : Nat} {d : PyData} {ds : List PyData} (h : Gd M n k d) (t : GdAll M m k ds) : GdAll M (n + 2 + m) k (d :: ds) := by
  refine ⟨⟨h.f, t.f⟩, ?_, ?_⟩
  · have := h.z
    have := t.z
    show zs d + 2 + zsAll ds ≤ _
    omega
  · simp only [PyData.depthAll]
    exact Nat.max_le.mpr ⟨h.p, t.p⟩
theorem GdAll.app {M n m k : Nat} {ds es : List PyData} (h : GdAll M n k ds) (t : GdAll M m k es) : GdAll M (n + m) k (ds ++ es) := by
  refine ⟨fzAll_iff.mpr fun d hd => (List.mem_append.mp hd).elim (fzAll_iff.mp h.f d) (fzAll_iff.mp t.f d), ?_, depthAll_iff.mpr fun d hd => (List.mem_append.mp hd).elim (depthAll_iff.mp h.p d) (depthAll_iff.mp t.p d)⟩
  rw [zsAll_app]
  exact Nat.add_le_add h.z t.z
theorem GdAll.sub {M n k : Nat} {ds es : List PyData} (h : GdAll M n k ds) (s : ∀ d ∈ es, d ∈ ds) (z : zsAll es ≤ zsAll ds) : GdAll M n k es :=
  ⟨fzAll_iff.mpr fun d hd => fzAll_iff.mp h.f d (s d hd), Nat.le_trans z h.z, depthAll_iff.mpr fun d hd => depthAll_iff.mp h.p d (s d hd)⟩
theorem GdAll.take {M n k : Nat} {ds : List PyData} (i : Nat) (h : GdAll M n k ds) : GdAll M n k (ds.take i) := h.sub (fun _ hd => List.mem_of_mem_take hd) (zsAll_take i ds)
theorem GdAll.drop {M n k : Nat} {ds : List PyData} (i : Nat) (h : GdAll M n k ds) : GdAll M n k (ds.drop i) := h.sub (fun _ hd => List.mem_of_mem_drop hd) (zsAll_drop i ds)
theorem GdAll.rev {M n k : Nat} {ds : List PyData} (h : GdAll M n k ds) : GdAll M n k ds.reverse := h.sub (fun _ hd => List.mem_reverse.mp hd) (Nat.le_of_eq (zsAll_rev ds))
theorem GdAll.at {M n k : Nat} {ds : List PyData} {d : PyData} (h : GdAll M n k ds) (m : d ∈ ds) : Gd M n k d :=
  ⟨fzAll_iff.mp h.f d m, by have := zs_mem m; have := h.z; omega, depthAll_iff.mp h.p d m⟩
/-- shown -/
theorem shown_int {M : Nat} {i : Int} (hM : M < 10 ^ 40) (h : i.natAbs ≤ M) : (PyData.shown (.int i)).length ≤ 60 := by
  have e := int_text_length_le10 (a := i) (k := 40) (by decide) (by omega)
  show (Str.ofString (toString i)).length ≤ 60
  rw [PySem.ofString_length]
  omega
theorem log_int {M : Nat} {i : Int} (hM : M < 10 ^ 40) (h : i.natAbs ≤ M) : i.natAbs.log2 < 1920 := by
  by_cases h0 : i.natAbs = 0
  · rw [h0]; decide
  · exact Nat.lt_of_lt_of_le ((Nat.log2_lt h0).mpr (show i.natAbs < 2 ^ 140 from Nat.lt_of_lt_of_le (show i.natAbs < 10 ^ 40 by omega) (by decide))) (by decide)
mutual
theorem shown_le {M : Nat} (hM : M < 10 ^ 40) : ∀ d : PyData, fz M d → PyData.showable d = true ∧ (PyData.shown d).length ≤ zs d
  | .none, _ => ⟨rfl, by decide⟩
  | .bool b, _ => ⟨rfl, by cases b <;> decide⟩
  | .int i, h => ⟨decide_eq_true (log_int hM h), shown_int hM h⟩
  | .str x, h => ⟨rfl, by
    show (reprText x).length ≤ 10 * x.length + 2
    exact StrLaws.reprText_len x h⟩
  | .list ds, h => by
    obtain ⟨h1, h2⟩ := shownAll_le hM ds h
    refine ⟨by simpa only [PyData.showable] using h1, ?_⟩
    simp only [PyData.shown, zs]
    have := listText_len_le (PyData.shownAll ds)
    omega
  | .tuple ds, h => by
    obtain ⟨h1, h2⟩ := shownAll_le hM ds h
    refine ⟨by simpa only [PyData.showable] using h1, ?_⟩
    simp only [PyData.shown, zs]
    have := tupleText_len_le (PyData.shownAll ds)
    omega
  | .dict kvs, h => h
theorem shownAll_le {M : Nat} (hM : M < 10 ^ 40) : ∀ ds : List PyData, fzAll M ds → PyData.showableAll ds = true ∧ ((PyData.shownAll ds).map (·.length)).sum + 2 * (PyData.shownAll ds).length ≤ zsAll ds
  | [], _ => ⟨rfl, Nat.le_refl _⟩
  | d :: ds, h => by
    obtain ⟨h1, h2⟩ := shown_le hM d h.1
    obtain ⟨h3, h4⟩ := shownAll_le hM ds h.2
    refine ⟨by simp only [PyData.showableAll, h1, h3, Bool.and_self], ?_⟩
    simp only [PyData.shownAll, List.map_cons, List.sum_cons, List.length_cons, zsAll]
    omega
end
end XT
/-! repr of any data -/
namespace XT
open PySem PySem.Spec PyProof.Rows L2
section
variable {X : Cx}
/-- repr of any data -/
def rReprA (K : PySem.W.Frag) : List V → Hp → VK → Prop := fun xs H Q => ∃ (x : V) (d : PyData), xs = [x] ∧ Dz K H x d ∧ d.depth ≤ 64 ∧ d.showable = true ∧ d.shown.length ≤ sizeLine ∧ Q (.str d.shown) H
theorem cr_reprA (hg : X.A.guards = some []) (hu : X.A.units + 128 < cLine) : CallR X (.builtin "repr") (rReprA X.K) := by
  intro pins s σ H xs us Q I r h
  obtain ⟨x, d, rfl, hd, dp, hw, hz, q⟩ := h
  obtain ⟨u, rfl, ru⟩ := vals1 r
  cases hd with
  | non => cases ru; exact PySem.P.repr_of_none ⟨.str _, H, I.tok _, ⟨_, rfl⟩, q⟩
  | bl b => cases ru; exact PySem.P.repr_of_bool ⟨.str (if b then "True" else "False"), H, I.tok _, ⟨_, by cases b <;> rfl⟩, by cases b <;> exact q⟩
  | int i =>
    obtain ⟨t, rfl⟩ := ru
    exact PySem.P.repr_of_int (of_decide_eq_true hw) ⟨.str _, H, I.tok _, ⟨_, rfl⟩, q⟩
  | str y =>
    obtain ⟨t, rfl⟩ := ru
    exact PySem.P.repr_of_str ⟨.str _, H, I.tok _, ⟨_, rfl⟩, q⟩ (hsz := hz)
  | lst a b c => cases ru; exact cr_reprZ hg hu pins s σ H _ _ Q I r ⟨_, _, rfl, .lst a b c, dp, hw, hz, q⟩
  | tup a b => cases ru; exact cr_reprZ hg hu pins s σ H _ _ Q I r ⟨_, _, rfl, .tup a b, dp, hw, hz, q⟩
  | dct kvs a => cases ru; exact cr_reprZ hg hu pins s σ H _ _ Q I r ⟨_, _, rfl, .dct kvs a, dp, hw, hz, q⟩
/-- list(t): not at the place of sys.modules -/
theorem call_listB : CallR X (.type "list") (fun xs H Q => ∃ p ys, xs = [.ref p] ∧ SqT X.K H p ys ∧ ∀ l, H l = none → l ≠ sysModules → Q (.ref l) (upd H l (.lst ys))) := by
  intro pins s σ H xs us Q I r h
  obtain ⟨p, ys, rfl, hq, q⟩ := h
  obtain ⟨u, rfl, rx⟩ := vals1 r
  cases rx
  have fin : ∀ (its : List Value), Vals ys its → ys.length ≤ sizeLine → ∀ (h' : Heap) (c' : Nat), (∀ b o', s.heap.get? b = some o' → h'.get? b = some o') →
      h'.get? s.heap.objs.size = some { cls := .type "list", dict := none, data := .seq its.toArray c', slots := #[] } → EP X pins σ Q (.ref s.heap.objs.size) { s with heap := h' } := fun its r' hz h' c' kp e =>
    ⟨.ref s.heap.objs.size, _, I.laid (t' := s.toks) kp (Nat.le_refl _) (show ObjOk X.prog X.w _ h' _ (.lst ys) from ⟨hz, its, c', r', e⟩), rfl, q _ (I.hok.fresh (Nat.le_refl _)) (Ne.symm (Nat.ne_of_lt I.big))⟩
  obtain ⟨its, r', pl, hz⟩ := I.tuple hq
  have hlen := r'.length
  obtain ⟨o, ho, hc, n, hd⟩ := pl
  exact call_list_seq p (.inr rfl) ho hc hd (fun h' c' kp e => fin its r' hz h' c' kp e) (by simp only [List.size_toArray] <;> omega)
/-- t != () -/
theorem op_neE (hu : X.A.units < cLine) : OpR X (compareOp .NotEq) (fun x y H Q => ∃ (a b : Addr) (xs : List V), x = .ref a ∧ y = .ref b ∧ SqT X.K H a xs ∧ SqT X.K H b [] ∧ Q (.bl (!xs.isEmpty)) H) := by
  intro pins s σ H x y v u Q I rx ry h
  obtain ⟨a, b, xs, rfl, rfl, ha, hb, q⟩ := h
  cases rx
  cases ry
  obtain ⟨its, r1, p1, _⟩ := I.tuple ha
  obtain ⟨its2, r2, p2, _⟩ := I.tuple hb
  cases r2
  refine SeqAt.RcNeAt.tuples (e := fun _ => true) p1 p2 hu (fun j h1 h2 => absurd h2 (Nat.not_lt_zero _)) X.prog X.w _ _ ⟨.bl (!xs.isEmpty), H, I, ?_, q⟩
  show Value.bool _ = Value.bool _
  congr 1
  cases r1 with
  | nil => rfl
  | cons _ _ => simp
/-- True + 1 -/
theorem op_add_bi : OpR X (binaryOp .Add) (fun x y H Q => ∃ k i, x = .bl k ∧ y = .int i ∧ Q (.int ((if k = true then (1 : Int) else 0) + i)) H) := by
  intro pins s σ H x y v u Q I rx ry h
  obtain ⟨k, i, rfl, rfl, q⟩ := h
  obtain ⟨t, rfl⟩ := ry
  cases rx
  exact PySem.IntBool.add_bool_int ⟨.int _, H, I.tok _, ⟨_, rfl⟩, q⟩
theorem op_sub_bi : OpR X (binaryOp .Sub) (fun x y H Q => ∃ k i, x = .bl k ∧ y = .int i ∧ Q (.int ((if k = true then (1 : Int) else 0) - i)) H) := by
  intro pins s σ H x y v u Q I rx ry h
  obtain ⟨k, i, rfl, rfl, q⟩ := h
  obtain ⟨t, rfl⟩ := ry
  cases rx
  exact PySem.IntBool.sub_bool_int ⟨.int _, H, I.tok _, ⟨_, rfl⟩, q⟩
theorem op_eq_bi : OpR X (compareOp .Eq) (fun x y H Q => ∃ k i, x = .bl k ∧ y = .int i ∧ Q (.bl ((if k then 1 else 0) == i)) H) := by
  intro pins s σ H x y v u Q I rx ry h
  obtain ⟨k, i, rfl, rfl, q⟩ := h
  obtain ⟨t, rfl⟩ := ry
  cases rx
  exact PySem.EqBoolInt.eq_bool_int ⟨.bl _, H, I, rfl, q⟩
theorem call_str_bool : CallR X (.type "str") (fun xs H Q => ∃ b, xs = [.bl b] ∧ Q (.str (Str.ofString (if b then "True" else "False"))) H) := by
  intro pins s σ H xs us Q I r h
  obtain ⟨b, rfl, q⟩ := h
  obtain ⟨u, rfl, ru⟩ := vals1 r
  cases ru
  exact PySem.P.str_of_bool ⟨.str _, H, I.tok _, ⟨_, by cases b <;> rfl⟩, q⟩
/-- two rules for one operator -/
theorem OpR.or {f : Value → Value → Sem Value} {r r' : R2} (h : OpR X f r) (h' : OpR X f r') : OpR X f (fun x y H Q => r x y H Q ∨ r' x y H Q) := by
  intro pins s σ H x y v u Q I rx ry q
  rcases q with q | q
  · exact h pins s σ H x y v u Q I rx ry q
  · exact h' pins s σ H x y v u Q I rx ry q
theorem CallR.or {f : Value} {r r' : List V → Hp → VK → Prop} (h : CallR X f r) (h' : CallR X f r') : CallR X f (fun xs H Q => r xs H Q ∨ r' xs H Q) := by
  intro pins s σ H xs us Q I rx q
  rcases q with q | q
  · exact h pins s σ H xs us Q I rx q
  · exact h' pins s σ H xs us Q I rx q
end
/-! t[::-1] -/
section
variable {prog : Program} {w : World} {A : Around} {E : Value → Shared → Prop} {s : Shared}
theorem adjust_rev (n : Nat) : Builtin.Slice.sliceAdjust none none (-1) (n : Int) = ((n : Int) - 1, -1) := rfl
theorem places_rev (n : Nat) : Builtin.Slice.slicePlaces ((n : Int) - 1) (-1) (-1) = n := by
  unfold Builtin.Slice.slicePlaces
  have h1 : ¬ ((-1 : Int) > 0) := by decide
  rw [if_neg h1]
  by_cases h : (n : Int) - 1 > -1
  · rw [if_pos h, show (- -1 : Int) = 1 by decide, Int.ediv_one]
    omega
  · rw [if_neg h]
    omega
theorem pick_rev (xs : Array Value) : ((List.range xs.size).filterMap fun (m : Nat) => xs[((xs.size : Int) - 1 + (m : Int) * (-1)).toNat]?).toArray = xs.toList.reverse.toArray := by
  have e : (List.range xs.size).filterMap (fun (m : Nat) => xs[((xs.size : Int) - 1 + (m : Int) * (-1)).toNat]?) = ((List.range xs.size).map fun k => xs.size - 1 - k).filterMap (xs[·]?) := by
    rw [List.filterMap_map]
    have g : ∀ l : List Nat, (∀ m ∈ l, m < xs.size) → l.filterMap (fun (m : Nat) => xs[((xs.size : Int) - 1 + (m : Int) * (-1)).toNat]?) = l.filterMap ((fun x => xs[x]?) ∘ fun k => xs.size - 1 - k) := by
      intro l
      induction l with
      | nil => intro _; rfl
      | cons m l ih =>
        intro hm
        have h1 := hm m List.mem_cons_self
        have e2 : ((xs.size : Int) - 1 + (m : Int) * (-1)).toNat = xs.size - 1 - m := by omega
        rw [List.filterMap_cons, List.filterMap_cons, ih fun x hx => hm x (List.mem_cons_of_mem _ hx)]
        rw [e2]
        rfl
    exact g _ fun m hm => List.mem_range.mp hm
  rw [e, PySem.W.krv_range, List.filterMap_reverse, PySem.W.krv_all]
theorem sliceApplied_rev {sl : Addr} {tk : Tok} {n : Nat} {Q : Int × Int × Nat → Shared → Prop} (hs : s.heap.IsSliceOf sl .none .none (.int (-1) tk))
    (h : Q ((n : Int) - 1, -1, n) s) : wpAny (model prog w) A (Builtin.Slice.sliceApplied (.ref sl) (pure (n : Int))) Q E s := by
  obtain ⟨os, hos, hcs, hds⟩ := id hs
  unfold Builtin.Slice.sliceApplied Builtin.Slice.sliceFields
  refine wpAny_bind (wpAny_bind (wpAny_field hos hds (x := .none) rfl (wpAny_bind (wpAny_field hos hds (x := .none) rfl (wpAny_bind (wpAny_field hos hds (x := .int (-1) tk) rfl (wpAny_pure ?_)))))))
  refine wpAny_bind (HT.slicePart_ (.int (-1) tk) ?_)
  show wpAny _ _ (if ((-1 : Int) == 0) = true then _ else _) _ _ s
  rw [if_neg (by decide)]
  refine wpAny_bind (HT.slicePart_ .none (wpAny_bind (HT.slicePart_ .none (wpAny_bind (wpAny_pure ?_)))))
  show wpAny _ _ (match Builtin.Slice.sliceAdjust none none (-1) (n : Int) with | (lo, hi) => pure (lo, (-1 : Int), Builtin.Slice.slicePlaces lo hi (-1))) _ _ s
  rw [adjust_rev n]
  show wpAny _ _ (pure ((n : Int) - 1, (-1 : Int), Builtin.Slice.slicePlaces ((n : Int) - 1) (-1) (-1))) _ _ s
  rw [places_rev]
  exact wpAny_pure h
theorem getItem_tuple_rev {t sl : Addr} {items : Array Value} {tk : Tok} {Q : Value → Shared → Prop} (ht : IsTup s.heap t items) (hs : s.heap.IsSliceOf sl .none .none (.int (-1) tk))
    (h : Q (.ref s.heap.objs.size) { s with heap := s.heap.push { cls := .type "tuple", data := .seq items.toList.reverse.toArray } })
    (hsz : items.size ≤ sizeLine) : wpAny (model prog w) A (getItem (.ref t) (.ref sl)) Q E s := by
  have htake : sizeOk (.seq items.toList.reverse.toArray) := by
    show items.toList.reverse.toArray.size ≤ sizeLine
    rw [List.size_toArray, List.length_reverse, Array.length_toList]
    exact hsz
  obtain ⟨os, hos, hcs, hds⟩ := id hs
  have hTs : s.TypeIs (.ref sl) "slice" := ⟨os, hos, hcs⟩
  unfold getItem
  try with_reducible refine wpAny_holding ?_
  first | refine wpAny_bind (wpAny_pure ?_) | skip
  refine wpAny_bind (wpAny_sequenceKey ht.typeIs (by decide) ?_)
  refine wpAny_bind (wpAny_callSpecial?_slot (name := Str.ofString "__getitem__") ht.typeIs PyProof.Rows.slot_tuple_getitem
    (wpAny_call_entry PyProof.Rows.slot_tuple_getitem ht.typeIs entry_tuple_getitem ?_ (args_tuple_getitem _ _)))
  show wpAny _ _ (Builtin.Tuple.tupleItemsOf (.ref t) >>= _) _ _ s
  refine wpAny_bind (tupleItemsOf_ ht ?_)
  refine wpAny_bind (wpAny_typeOf hTs ?_)
  rw [if_pos (by decide)]
  refine wpAny_bind (sliceApplied_rev hs ?_)
  have hno : ¬ ((((items.size : Int) - 1) == 0 && (-1 : Int) == 1 && items.size == items.size) = true) := by
    intro q
    rw [Bool.and_eq_true, Bool.and_eq_true] at q
    exact absurd q.1.2 (by decide)
  show wpAny _ _ (if ((((items.size : Int) - 1) == 0 && (-1 : Int) == 1 && items.size == items.size) = true) then _ else _) _ _ s
  rw [if_neg hno, pick_rev]
  first
    | exact wpAny_bind (m := Builtin.Tuple.tupleExact _) (wpAny_newObj_type (wpAny_pure ⟨_, rfl, wpAny_pure h⟩) htake)
    | exact wpAny_bind (m := Builtin.Tuple.tupleExact _) (wpAny_newObj_type (wpAny_bind (wpAny_pure (wpAny_pure ⟨_, rfl, wpAny_pure h⟩))) htake)
    | exact wpAny_bind (wpAny_bind (m := Builtin.Tuple.tupleExact _) (wpAny_newObj_type (wpAny_pure (wpAny_pure ⟨_, rfl, wpAny_pure h⟩)) htake))
    | exact wpAny_bind (wpAny_bind (m := Builtin.Tuple.tupleExact _) (wpAny_newObj_type (wpAny_pure ⟨_, rfl, wpAny_pure h⟩) htake))
end
section
variable {X : Cx} {e st : Expr} {te ts : TE} {pos p2 : Pos}
def tRevT (K : PySem.W.Frag) (te ts : TE) : TE := fun σ H Q => te σ H fun x H1 => ts σ H1 fun y H2 => ∃ a xs, x = .ref a ∧ y = .int (-1) ∧ SqT K H2 a xs ∧ ∀ p, H2 p = none → Q (.ref p) (upd H2 p (.tup xs.reverse))
/-- t[::-1] -/
theorem pe_revT (he : PE X e te) (hs : PE X st ts) : PE X (.Subscript e (.Slice none none (some st) p2) pos) (tRevT X.K te ts) := by
  refine ⟨fun pins s σ H Q I h => ?_⟩
  refine Subscript_ (thn (he.run pins s σ H _ I h) fun v s1 ⟨x, H1, I1, r1, q1⟩ => ?_)
  refine wpAny_Slice ?_
  rw [evalPart_none]
  refine wpAny_pure ?_
  refine wpAny_pure ?_
  rw [evalPart_some]
  refine thn (hs.run pins s1 σ H1 _ I1 q1) fun u s3 ⟨y, H3, I3, r3, q3⟩ => ?_
  obtain ⟨a, xs, rfl, rfl, hx, q⟩ := q3
  obtain ⟨tk, rfl⟩ := r3
  cases r1
  have I4 : Inv X pins σ H3 { s3 with heap := s3.heap.push { cls := .type "slice", data := .fields #[.none, .none, .int (-1) tk] } } := I3.kept (t' := s3.toks) fun b ob q => Heap.get?_push_of_some _ q
  obtain ⟨its, r, ht, hz⟩ := I4.tuple hx
  have hlen : its.toArray.size = xs.length := by rw [List.size_toArray]; exact r.length.symm
  show wpAny (model X.prog X.w) X.A (subscriptTail e (.Slice none none (some st) p2) (.ref a) (.ref s3.heap.objs.size)) (EP X pins σ Q) X.xe { s3 with heap := s3.heap.push { cls := .type "slice", data := .fields #[.none, .none, .int (-1) tk] } }
  refine tail_any (ops := [.ref a, .ref s3.heap.objs.size]) ht.typeIs PyProof.Rows.slot_tuple_getitem.lookup ?_ (by with_unfolding_all rfl)
  refine getItem_tuple_rev ht (Heap.IsSliceOf.new ..) ?_ (by rw [hlen]; exact hz)
  refine ⟨.ref (s3.heap.push { cls := .type "slice", data := .fields #[.none, .none, .int (-1) tk] }).objs.size, _, I4.laid (t' := s3.toks) (o := .tup xs.reverse) (fun b ob q => Heap.get?_push_of_some _ q) (Nat.le_refl _) ?_, rfl, q _ (I4.hok.fresh (Nat.le_refl _))⟩
  exact ⟨by rw [List.length_reverse]; exact hz, _, r.reverse, IsTup.new _ _⟩
end
end XT
/-! data that avoid the stream -/
namespace XT
open PySem PySem.Spec PyProof.Rows L2
mutual
inductive Dv (K : PySem.W.Frag) (N : Addr → Prop) (H : Hp) : V → PyData → Prop
  | non : Dv K N H .non .none
  | bl (b : Bool) : Dv K N H (.bl b) (.bool b)
  | int (i : Int) : Dv K N H (.int i) (.int i)
  | str (x : Str) : Dv K N H (.str x) (.str x)
  | lst {a : Addr} {xs : List V} {ds : List PyData} : SqL K H a xs → a ≠ sysModules → N a → DvAll K N H xs ds → Dv K N H (.ref a) (.list ds)
  | tup {a : Addr} {xs : List V} {ds : List PyData} : SqT K H a xs → DvAll K N H xs ds → Dv K N H (.ref a) (.tuple ds)
  | dct {a : Addr} (kvs : List (Str × Int)) : H a = some (.dK (dkV kvs)) → Dv K N H (.ref a) (dkD kvs)
inductive DvAll (K : PySem.W.Frag) (N : Addr → Prop) (H : Hp) : List V → List PyData → Prop
  | nil : DvAll K N H [] []
  | cons {v : V} {vs : List V} {d : PyData} {ds : List PyData} : Dv K N H v d → DvAll K N H vs ds → DvAll K N H (v :: vs) (d :: ds)
end
/-- not of the stream -/
abbrev Nof (S : Sm) : Addr → Prop := fun a => a ≠ S.s ∧ a ≠ S.p
abbrev Ds (K : PySem.W.Frag) (S : Sm) (H : Hp) : V → PyData → Prop := Dv K (Nof S) H
abbrev DsAll (K : PySem.W.Frag) (S : Sm) (H : Hp) : List V → List PyData → Prop := DvAll K (Nof S) H
mutual
theorem Dv.dz {K : PySem.W.Frag} {N : Addr → Prop} {H : Hp} : ∀ {v : V} {d : PyData}, Dv K N H v d → Dz K H v d
  | _, _, .non => .non
  | _, _, .bl b => .bl b
  | _, _, .int i => .int i
  | _, _, .str x => .str x
  | _, _, .lst h n _ a => .lst h n (DvAll.dz a)
  | _, _, .tup h a => .tup h (DvAll.dz a)
  | _, _, .dct kvs h => .dct kvs h
theorem DvAll.dz {K : PySem.W.Frag} {N : Addr → Prop} {H : Hp} : ∀ {vs : List V} {ds : List PyData}, DvAll K N H vs ds → DzAll K H vs ds
  | _, _, .nil => .nil
  | _, _, .cons h a => .cons (Dv.dz h) (DvAll.dz a)
end
mutual
/-- all that the data stand on is kept -/
theorem Dv.map {K : PySem.W.Frag} {N N' : Addr → Prop} {H H' : Hp} (kt : ∀ b xs, SqT K H b xs → SqT K H' b xs) (kl : ∀ b xs, N b → SqL K H b xs → SqL K H' b xs) (kd : ∀ b kvs, H b = some (.dK kvs) → H' b = some (.dK kvs)) (kn : ∀ b, N b → N' b) :
    ∀ {v : V} {d : PyData}, Dv K N H v d → Dv K N' H' v d
  | _, _, .non => .non
  | _, _, .bl b => .bl b
  | _, _, .int i => .int i
  | _, _, .str x => .str x
  | _, _, .lst h n m a => .lst (kl _ _ m h) n (kn _ m) (DvAll.map kt kl kd kn a)
  | _, _, .tup h a => .tup (kt _ _ h) (DvAll.map kt kl kd kn a)
  | _, _, .dct kvs h => .dct kvs (kd _ _ h)
theorem DvAll.map {K : PySem.W.Frag} {N N' : Addr → Prop} {H H' : Hp} (kt : ∀ b xs, SqT K H b xs → SqT K H' b xs) (kl : ∀ b xs, N b → SqL K H b xs → SqL K H' b xs) (kd : ∀ b kvs, H b = some (.dK kvs) → H' b = some (.dK kvs)) (kn : ∀ b, N b → N' b) :
    ∀ {vs : List V} {ds : List PyData}, DvAll K N H vs ds → DvAll K N' H' vs ds
  | _, _, .nil => .nil
  | _, _, .cons h a => .cons (Dv.map kt kl kd kn h) (DvAll.map kt kl kd kn a)
end
theorem Dv.same {K : PySem.W.Frag} {N : Addr → Prop} {H H' : Hp} (e : Same H H') {v : V} {d : PyData} (h : Dv K N H v d) : Dv K N H' v d := h.map (fun _ _ q => Same.sqT e q) (fun _ _ _ q => e.seq q) (fun _ _ q => e _ _ q) (fun _ q => q)
theorem DvAll.same {K : PySem.W.Frag} {N : Addr → Prop} {H H' : Hp} (e : Same H H') {v : List V} {d : List PyData} (h : DvAll K N H v d) : DvAll K N H' v d := h.map (fun _ _ q => Same.sqT e q) (fun _ _ _ q => e.seq q) (fun _ _ q => e _ _ q) (fun _ q => q)
theorem Dv.imp {K : PySem.W.Frag} {N N' : Addr → Prop} {H : Hp} {v : V} {d : PyData} (h : Dv K N H v d) (k : ∀ b, N b → N' b) : Dv K N' H v d := h.map (fun _ _ q => q) (fun _ _ _ q => q) (fun _ _ q => q) k
theorem DvAll.imp {K : PySem.W.Frag} {N N' : Addr → Prop} {H : Hp} {v : List V} {d : List PyData} (h : DvAll K N H v d) (k : ∀ b, N b → N' b) : DvAll K N' H v d := h.map (fun _ _ q => q) (fun _ _ _ q => q) (fun _ _ q => q) k
theorem Strm.ks {S : Sm} {H : Hp} {t : Int} {b : Addr} {o : HO} (h : Strm S H t) (e : H b = some o) (ne : ∀ xs, o ≠ .lst xs) : b ≠ S.s ∧ b ≠ S.p := by
  obtain ⟨_, h⟩ := h
  refine ⟨fun z => ?_, fun z => ?_⟩
  · rw [z, h.hs] at e
    exact ne _ (Option.some.inj e).symm
  · rw [z, h.hp] at e
    exact ne _ (Option.some.inj e).symm
theorem Keep.ko {S : Sm} {H H' : Hp} {t : Int} {b : Addr} {o : HO} (k : Keep S H H') (h : Strm S H t) (e : H b = some o) (ne : ∀ xs, o ≠ .lst xs) : H' b = some o := k b o (h.ks e ne).1 (h.ks e ne).2 e
theorem Keep.sqT {K : PySem.W.Frag} {S : Sm} {H H' : Hp} {t : Int} {b : Addr} {xs : List V} (k : Keep S H H') (h : Strm S H t) (e : SqT K H b xs) : SqT K H' b xs := by
  rcases e with (e | ⟨o, e⟩) | e
  · exact .inl (.inl (k.ko h e (fun _ z => nomatch z)))
  · exact .inl (.inr ⟨o, k.ko h e (fun _ z => nomatch z)⟩)
  · exact .inr e
theorem Keep.sqL {K : PySem.W.Frag} {S : Sm} {H H' : Hp} {b : Addr} {xs : List V} (k : Keep S H H') (n1 : b ≠ S.s) (n2 : b ≠ S.p) (e : SqL K H b xs) : SqL K H' b xs := by
  rcases e with (e | ⟨o, e⟩) | e
  · exact .inl (.inl (k b _ n1 n2 e))
  · exact .inl (.inr ⟨o, k b _ n1 n2 e⟩)
  · exact .inr e
theorem Dv.keep {K : PySem.W.Frag} {S : Sm} {H H' : Hp} {t : Int} {v : V} {d : PyData} (h : Ds K S H v d) (k : Keep S H H') (st : Strm S H t) : Ds K S H' v d := h.map (fun _ _ q => k.sqT st q) (fun _ _ n q => k.sqL n.1 n.2 q) (fun _ _ q => k.ko st q (fun _ z => nomatch z)) (fun _ q => q)
theorem DvAll.keep {K : PySem.W.Frag} {S : Sm} {H H' : Hp} {t : Int} {v : List V} {d : List PyData} (h : DsAll K S H v d) (k : Keep S H H') (st : Strm S H t) : DsAll K S H' v d := h.map (fun _ _ q => k.sqT st q) (fun _ _ n q => k.sqL n.1 n.2 q) (fun _ _ q => k.ko st q (fun _ z => nomatch z)) (fun _ q => q)
/-- a list of one's own is changed -/
theorem Dv.put {K : PySem.W.Frag} {N : Addr → Prop} {H : Hp} {L : Addr} {xs ys : List V} {v : V} {d : PyData} (h : Dv K N H v d) (hL : H L = some (.lst xs)) (hN : ∀ b, N b → b ≠ L) : Dv K N (upd H L (.lst ys)) v d := by
  refine h.map (fun b zs q => ?_) (fun b zs n q => ?_) (fun b kvs q => ?_) (fun _ q => q)
  · rcases q with (q | ⟨o, q⟩) | q
    · exact .inl (.inl (by rw [upd_ne (ne_of q hL (by intro z; cases z))]; exact q))
    · exact .inl (.inr ⟨o, by rw [upd_ne (ne_of q hL (by intro z; cases z))]; exact q⟩)
    · exact .inr q
  · rcases q with (q | ⟨o, q⟩) | q
    · exact .inl (.inl (by rw [upd_ne (hN b n)]; exact q))
    · exact .inl (.inr ⟨o, by rw [upd_ne (hN b n)]; exact q⟩)
    · exact .inr q
  · rw [upd_ne (ne_of q hL (by intro z; cases z))]
    exact q
theorem DvAll.put {K : PySem.W.Frag} {N : Addr → Prop} {H : Hp} {L : Addr} {xs ys : List V} (hL : H L = some (.lst xs)) (hN : ∀ b, N b → b ≠ L) : ∀ {vs : List V} {ds : List PyData}, DvAll K N H vs ds → DvAll K N (upd H L (.lst ys)) vs ds
  | _, _, .nil => .nil
  | _, _, .cons h a => .cons (h.put hL hN) (DvAll.put hL hN a)
theorem DvAll.at {K : PySem.W.Frag} {N : Addr → Prop} {H : Hp} : ∀ {vs : List V} {ds : List PyData}, DvAll K N H vs ds → ∀ {i : Nat} {v : V}, vs[i]? = some v → ∃ d, ds[i]? = some d ∧ Dv K N H v d
  | _, _, .nil, i, v, h => by simp at h
  | _, _, .cons (d := d) h a, 0, v, e => by
    cases e
    exact ⟨d, rfl, h⟩
  | _, _, .cons h a, i + 1, v, e => DvAll.at a (i := i) e
theorem DvAll.len {K : PySem.W.Frag} {N : Addr → Prop} {H : Hp} : ∀ {vs : List V} {ds : List PyData}, DvAll K N H vs ds → vs.length = ds.length
  | _, _, .nil => rfl
  | _, _, .cons h a => by rw [List.length_cons, List.length_cons, DvAll.len a]
theorem DvAll.app {K : PySem.W.Frag} {N : Addr → Prop} {H : Hp} : ∀ {vs us : List V} {ds es : List PyData}, DvAll K N H vs ds → DvAll K N H us es → DvAll K N H (vs ++ us) (ds ++ es)
  | _, _, _, _, .nil, b => b
  | _, _, _, _, .cons h a, b => .cons h (DvAll.app a b)
theorem DvAll.take {K : PySem.W.Frag} {N : Addr → Prop} {H : Hp} : ∀ {vs : List V} {ds : List PyData} (n : Nat), DvAll K N H vs ds → DvAll K N H (vs.take n) (ds.take n)
  | _, _, 0, _ => by rw [List.take_zero, List.take_zero]; exact .nil
  | _, _, n + 1, .nil => .nil
  | _, _, n + 1, .cons h a => .cons h (DvAll.take n a)
theorem DvAll.drop {K : PySem.W.Frag} {N : Addr → Prop} {H : Hp} : ∀ {vs : List V} {ds : List PyData} (n : Nat), DvAll K N H vs ds → DvAll K N H (vs.drop n) (ds.drop n)
  | _, _, 0, a => a
  | _, _, n + 1, .nil => .nil
  | _, _, n + 1, .cons h a => DvAll.drop n a
theorem DvAll.rev {K : PySem.W.Frag} {N : Addr → Prop} {H : Hp} : ∀ {vs : List V} {ds : List PyData}, DvAll K N H vs ds → DvAll K N H vs.reverse ds.reverse
  | _, _, .nil => .nil
  | _, _, .cons h a => by
    rw [List.reverse_cons, List.reverse_cons]
    exact (DvAll.rev a).app (.cons h .nil)
/-- the data of a cut -/
def cutD (ds : List PyData) (lo hi : Option Int) : List PyData := (ds.drop (HT.sIx ds.length 0 lo)).take (HT.sIx ds.length ds.length hi - HT.sIx ds.length 0 lo)
theorem DvAll.cut {K : PySem.W.Frag} {N : Addr → Prop} {H : Hp} {vs : List V} {ds : List PyData} (h : DvAll K N H vs ds) (lo hi : Option Int) : DvAll K N H (cutV vs lo hi) (cutD ds lo hi) := by
  unfold cutV cutD
  rw [h.len]
  exact (h.drop _).take _
end XT
/-! kinds of data for lots -/
namespace XT
open PySem PySem.Spec PyProof.Rows L2
def isTp : PyData → Bool
  | .tuple _ => true | _ => false
def isSt : PyData → Bool
  | .str _ => true | _ => false
theorem kitT {K : PySem.W.Frag} : ∀ d : PyData, PySem.W.kitOne K (.type (tyD d)) (.type "tuple") = some (isTp d)
  | .none => kit_ty (a := "NoneType") (b := "tuple") (r := false) (by decide +kernel)
  | .bool _ => kit_ty (a := "bool") (b := "tuple") (r := false) (by decide +kernel)
  | .int _ => kit_ty (a := "int") (b := "tuple") (r := false) (by decide +kernel)
  | .str _ => kit_ty (a := "str") (b := "tuple") (r := false) (by decide +kernel)
  | .list _ => kit_ty (a := "list") (b := "tuple") (r := false) (by decide +kernel)
  | .tuple _ => kit_ty (a := "tuple") (b := "tuple") (r := true) (by decide +kernel)
  | .dict _ => kit_ty (a := "dict") (b := "tuple") (r := false) (by decide +kernel)
theorem kitS {K : PySem.W.Frag} : ∀ d : PyData, PySem.W.kitOne K (.type (tyD d)) (.type "str") = some (isSt d)
  | .none => kit_ty (a := "NoneType") (b := "str") (r := false) (by decide +kernel)
  | .bool _ => kit_ty (a := "bool") (b := "str") (r := false) (by decide +kernel)
  | .int _ => kit_ty (a := "int") (b := "str") (r := false) (by decide +kernel)
  | .str _ => kit_ty (a := "str") (b := "str") (r := true) (by decide +kernel)
  | .list _ => kit_ty (a := "list") (b := "str") (r := false) (by decide +kernel)
  | .tuple _ => kit_ty (a := "tuple") (b := "str") (r := false) (by decide +kernel)
  | .dict _ => kit_ty (a := "dict") (b := "str") (r := false) (by decide +kernel)
def isW : PyData → Bool
  | .int i => decide (1 ≤ i) && decide (i ≤ 6)
  | _ => false
def iv : PyData → Int
  | .int i => i
  | _ => 0
def okM (n : Nat) (least : Int) (d : PyData) : Bool := isM n d && decide (least ≤ iv d)
def errM (n : Nat) : Nat → Int → List PyData → PyData
  | _, _, [] => .none
  | i, least, d :: ds => if okM n least d = true then errM n (i + 1) (iv d + 1) ds else .tuple [.int (i : Nat), .str "mask"]
def eT (x : Str) : PyData := .tuple [.none, .str x]
def mskErr (n : Nat) : PyData → PyData
  | .tuple ms => errM n 0 0 ms
  | _ => eT "masks"
def lotErr : PyData → PyData
  | .tuple [a, b] => if isW a = true then mskErr (iv a).toNat b else eT "width"
  | _ => eT "lot"
theorem isW_nat {d : PyData} (h : isW d = true) : ∃ n : Nat, d = .int (n : Int) ∧ 1 ≤ n ∧ n ≤ 6 := by
  cases d with
  | int i =>
    have h : (decide (1 ≤ i) && decide (i ≤ 6)) = true := h
    rw [Bool.and_eq_true, decide_eq_true_iff, decide_eq_true_iff] at h
    obtain ⟨n, rfl⟩ := Int.eq_ofNat_of_zero_le (show 0 ≤ i by omega)
    exact ⟨n, rfl, by omega, by omega⟩
  | _ => exact absurd h (by simp [isW])
theorem isM_int {n : Nat} {d : PyData} (h : isM n d = true) : ∃ a : Nat, d = .int (a : Int) ∧ a < 2 ^ n := by
  cases d with
  | int i =>
    have h : (decide (0 ≤ i) && decide (i < ((2 ^ n : Nat) : Int))) = true := h
    rw [Bool.and_eq_true, decide_eq_true_iff, decide_eq_true_iff] at h
    obtain ⟨a, rfl⟩ := Int.eq_ofNat_of_zero_le h.1
    exact ⟨a, rfl, by omega⟩
  | _ => exact absurd h (by simp [isM])
theorem Dz.cast {K : PySem.W.Frag} {H : Hp} {v : V} {d e : PyData} (h : Dz K H v d) (q : d = e) : Dz K H v e := q ▸ h
theorem dz2 {K : PySem.W.Frag} {H : Hp} {p : Addr} {a b : V} {d e : PyData} (h : H p = some (.tup [a, b])) (x : Dz K H a d) (y : Dz K H b e) : Dz K H (.ref p) (.tuple [d, e]) := .tup (SqT.of h) (.cons x (.cons y .nil))
end XT
/-! more of lots, of lists and tuples of masks -/
namespace XT
open PySem PySem.Spec PyProof.Rows L2
theorem bList : bootBuiltins "list" = some (.type "list") := by decide +kernel
theorem bSum : bootBuiltins "sum" = some (.builtin "sum") := by decide +kernel
theorem bMin : bootBuiltins "min" = some (.builtin "min") := by decide +kernel
theorem bMax : bootBuiltins "max" = some (.builtin "max") := by decide +kernel
theorem lot_none (n : Nat) : lotOf n (fun _ => false) = [] := by
  unfold lotOf
  rw [List.filter_eq_nil_iff]
  intro m _
  decide
theorem lot_nil_iff {n : Nat} {p : Nat → Bool} : lotOf n p = [] ↔ ∀ m, m < 2 ^ n → p m = false := by
  unfold lotOf
  rw [List.filter_eq_nil_iff]
  simp
theorem range_lot (n : Nat) : rgV 0 ((2 ^ n : Nat) : Int) = vm (lotOf n fun _ => true) := by
  unfold rgV vm lotOf
  rw [List.filter_eq_self.mpr (fun _ _ => rfl), Int.sub_zero]
  show List.map (fun (i : Nat) => V.int (0 + (i : Int))) (List.range (2 ^ n)) = _
  exact List.map_congr_left fun m _ => by rw [Int.zero_add]
theorem lot_take {n : Nat} {p : Nat → Bool} {i : Nat} (hi : i < 2 ^ n) : ((List.range (2 ^ n)).take (i + 1)).filter p = ((List.range (2 ^ n)).take i).filter p ++ (if p i = true then [i] else []) := by
  have h := take_one (id : Nat → Nat) p (xs := List.range (2 ^ n)) (i := i) (x := i) (List.getElem?_range hi)
  simpa using h
theorem nats_shaped (ns : List Nat) : SeqAt.shaped (.list (ns.map fun (m : Nat) => PyData.int (m : Int))) = true := by
  have h := ke_shaped (ns.map fun (m : Nat) => (m : Int))
  rw [List.map_map] at h
  exact h
theorem tupN_shaped (ms : List Nat) : SeqAt.shaped (.tuple (ms.map fun (m : Nat) => PyData.int (m : Int))) = true := by
  have h1 : PyData.canLay0 (.tuple (ms.map fun (m : Nat) => PyData.int (m : Int))) = true := by
    have h := ints_lay ms
    simp [PyData.canLay0, h]
  have h2 : PyData.depth (.tuple (ms.map fun (m : Nat) => PyData.int (m : Int))) ≤ 64 := by
    have h := ints_depth ms
    simp only [PyData.depth]
    omega
  unfold SeqAt.shaped
  rw [h1, decide_eq_true h2]
  rfl
theorem eqv_lstN (ms ks : List Nat) : PyData.eqv (.list (ms.map fun (m : Nat) => PyData.int (m : Int))) (.list (ks.map fun (m : Nat) => PyData.int (m : Int))) = decide (ms = ks) := by
  have h := eqv_nats ms ks
  simpa [PyData.eqv] using h
theorem eqv_tupN (ms ks : List Nat) : PyData.eqv (.tuple (ms.map fun (m : Nat) => PyData.int (m : Int))) (.tuple (ks.map fun (m : Nat) => PyData.int (m : Int))) = decide (ms = ks) := by
  have h := eqv_nats ms ks
  simpa [PyData.eqv] using h
theorem eqv_nilN (ms : List Nat) : PyData.eqv (.list (ms.map fun (m : Nat) => PyData.int (m : Int))) (.list []) = decide (ms = []) := eqv_lstN ms []
/-- a list of masks -/
def LsN (H : Hp) (v : V) (ms : List Nat) : Prop := ∃ q, v = .ref q ∧ H q = some (.lst (vm ms))
theorem LsN.same {H H' : Hp} {v : V} {ms : List Nat} (h : LsN H v ms) (e : Same H H') : LsN H' v ms := by
  obtain ⟨q, rfl, h⟩ := h
  exact ⟨q, rfl, e _ _ h⟩
theorem LsN.dp {K : PySem.W.Frag} {H : Hp} {v : V} {ms : List Nat} (h : LsN H v ms) : Dp K H v (.list (ms.map fun (m : Nat) => .int (m : Int))) := by
  obtain ⟨q, rfl, h⟩ := h
  exact .lst (SqL.of h) (dpVm _)
/-- a != b of tuples, of lists of masks -/
theorem ne_tupN {K : PySem.W.Frag} {H : Hp} {x y : V} {ms ks : List Nat} {Q : VK} (hx : TupAt H x ms) (hy : TupAt H y ks) (q : Q (.bl (!decide (ms = ks))) H) : rNeD K x y H Q := by
  refine ⟨_, _, hx.dp, hy.dp, tupN_shaped _, tupN_shaped _, ?_⟩
  rw [eqv_tupN]
  exact q
theorem eq_tupN {K : PySem.W.Frag} {H : Hp} {x y : V} {ms ks : List Nat} {Q : VK} (hx : TupAt H x ms) (hy : TupAt H y ks) (q : Q (.bl (decide (ms = ks))) H) : rEqD K x y H Q := by
  refine ⟨_, _, hx.dp, hy.dp, tupN_shaped _, tupN_shaped _, ?_⟩
  rw [eqv_tupN]
  exact q
theorem ne_lstN {K : PySem.W.Frag} {H : Hp} {x y : V} {ms ks : List Nat} {Q : VK} (hx : LsN H x ms) (hy : LsN H y ks) (q : Q (.bl (!decide (ms = ks))) H) : rNeD K x y H Q := by
  refine ⟨_, _, hx.dp, hy.dp, nats_shaped _, nats_shaped _, ?_⟩
  rw [eqv_lstN]
  exact q
theorem eq_lstN {K : PySem.W.Frag} {H : Hp} {x y : V} {ms ks : List Nat} {Q : VK} (hx : LsN H x ms) (hy : LsN H y ks) (q : Q (.bl (decide (ms = ks))) H) : rEqD K x y H Q := by
  refine ⟨_, _, hx.dp, hy.dp, nats_shaped _, nats_shaped _, ?_⟩
  rw [eqv_lstN]
  exact q
theorem ne_lots {K : PySem.W.Frag} {H : Hp} {x y : V} {w : Nat} {P P' : Nat → Bool} {Q : VK} (hx : LotAt H x w P) (hy : LotAt H y w P') (q : Q (.bl (!decide (∀ m, m < 2 ^ w → P m = P' m))) H) : rNeD K x y H Q := by
  refine ⟨_, _, hx.dp, hy.dp, dLot_shaped _ _, dLot_shaped _ _, ?_⟩
  rw [eqv_lots]
  exact q
theorem eq_lots {K : PySem.W.Frag} {H : Hp} {x y : V} {w : Nat} {P P' : Nat → Bool} {Q : VK} (hx : LotAt H x w P) (hy : LotAt H y w P') (q : Q (.bl (decide (∀ m, m < 2 ^ w → P m = P' m))) H) : rEqD K x y H Q := by
  refine ⟨_, _, hx.dp, hy.dp, dLot_shaped _ _, dLot_shaped _ _, ?_⟩
  rw [eqv_lots]
  exact q
theorem nodup_lot (n : Nat) (p : Nat → Bool) : (lotOf n p).Nodup := by
  unfold lotOf
  exact List.Pairwise.filter _ (List.nodup_range)
theorem nodup_xor (a : Nat) {l : List Nat} (h : l.Nodup) : (l.map fun (m : Nat) => ((m ^^^ a : Nat) : Int)).Nodup := by
  unfold List.Nodup at h ⊢
  rw [List.pairwise_map]
  refine h.imp fun {x y} hxy e => hxy ?_
  have e2 : x ^^^ a = y ^^^ a := by omega
  have e3 := congrArg (· ^^^ a) e2
  simpa [Nat.xor_assoc] using e3
theorem xor_back (m a : Nat) : m ^^^ a ^^^ a = m := by rw [Nat.xor_assoc, Nat.xor_self, Nat.xor_zero]
/-- sorted([x ^ a for x in lot]) -/
theorem sort_xor {n a : Nat} {p : Nat → Bool} {ns : List Int} (ha : a < 2 ^ n) (perm : ns.Perm ((lotOf n p).map fun (m : Nat) => ((m ^^^ a : Nat) : Int))) (asc : ns.Pairwise (· ≤ ·)) : ns.map V.int = vm (lotOf n fun m => p (m ^^^ a)) := by
  have nd : ns.Nodup := by
    rw [perm.nodup_iff]
    exact nodup_xor a (nodup_lot n p)
  refine rising_lot (lt_of_le_nodup ns asc nd) fun k => ?_
  rw [perm.mem_iff, List.mem_map]
  constructor
  · rintro ⟨m, hm, rfl⟩
    obtain ⟨h1, h2⟩ := mem_lot.mp hm
    exact ⟨m ^^^ a, rfl, xor_lt h1 ha, by rw [xor_back]; exact h2⟩
  · rintro ⟨m, rfl, h1, h2⟩
    exact ⟨m ^^^ a, mem_lot.mpr ⟨xor_lt h1 ha, h2⟩, by rw [xor_back]⟩
theorem iteNT {A B : Prop} {b : Bool} (h : b = false) (x : B) : if b = true then A else B := by rw [h]; exact x
end XT
/-! any data == a text -/
namespace XT
open PySem PySem.Spec PyProof.Rows L2
def isS (s : Str) : PyData → Bool
  | .str x => decide (x = s)
  | _ => false
theorem dict_eq_no_str (l : Addr) (es : Array DictEntry) (ep : Nat) (dd : Option Addr) (sl : Array (Option Value)) (b : Str) (u : Tok) :
    Meets (Builtin.«dict.__eq__» ⟨[.ref l, .str b u], []⟩) (fun _ R s => s.heap.get? l = some { cls := .type "dict", dict := dd, data := .dict es ep, slots := sl } ∧ R (.ok (.ret .notImplemented)) s) :=
  .of_wp fun prog w A R s h => by
    obtain ⟨hp, g, d, tk, os⟩ := s
    obtain ⟨hl, h⟩ := h
    have f1 := F.sub_str_dict
    wp_walk using wpAny_loadPart' hl
    exact ⟨_, rfl, h⟩
theorem str_eq_no_dict (b : Str) (u : Tok) (l : Addr) (es : Array DictEntry) (ep : Nat) (dd : Option Addr) (sl : Array (Option Value)) :
    Meets (Builtin.«str.__eq__» ⟨[.str b u, .ref l], []⟩) (fun _ R s => s.heap.get? l = some { cls := .type "dict", dict := dd, data := .dict es ep, slots := sl } ∧ R (.ok (.ret .notImplemented)) s) :=
  .of_wp fun prog w A R s h => by
    obtain ⟨hp, g, d, tk, os⟩ := s
    obtain ⟨hl, h⟩ := h
    wp_walk using wpAny_loadPart' hl, wpAny_load hl
    exact ⟨_, rfl, h⟩
theorem rc_dict_str {A : Around} {s : Shared} {l : Addr} {o : Obj} {es : Array DictEntry} {ep : Nat} (b : Str) (u : Tok) (ho : s.heap.get? l = some o) (hc : o.cls = .type "dict") (hd : o.data = .dict es ep) (hu : A.units < cLine) : SeqAt.RcAt A s (.ref l) (.str b u) false := fun prog w E Q h => by
  obtain ⟨cls, dd, data, sl⟩ := o
  simp only at hc hd
  subst hc hd
  exact SeqAt.rc_eq_decline_or (k := false) ⟨_, ho, rfl⟩ (typeIs_str s b u) (by decide) F.sub_str_dict F.slot_dict_eq F.slot_str_eq_refl
    (fun _ hq => call_meets F.slot_dict_eq ⟨_, ho, rfl⟩ F.entry_dict_eq (F.args_dict_eq_2 _ _) (dict_eq_no_str l es ep dd sl b u) ⟨ho, hq⟩)
    (fun _ hq => call_meets F.slot_str_eq_refl (typeIs_str s b u) F.entry_str_eq (F.args_str_eq_2 _ _) (str_eq_no_dict b u l es ep dd sl) ⟨ho, hq⟩)
    (fun _ hq => wpAny_of_eq (rfl : isSame (.ref l) (.str b u) = pure false) hq) (.inr hu) h
section
variable {X : Cx}
def rEqS (K : PySem.W.Frag) : R2 := fun x y H Q => ∃ (d : PyData) (b : Str), y = .str b ∧ Dz K H x d ∧ Q (.bl (isS b d)) H
theorem op_eqS (hu : X.A.units < cLine) : OpR X (compareOp .Eq) (rEqS X.K) := by
  intro pins s σ H x y v u Q I rx ry h
  obtain ⟨d, b, rfl, hd, q⟩ := h
  cases hd with
  | non => exact op_eq pins s σ H _ _ v u Q I rx ry ⟨rfl, q⟩
  | bl k => exact op_eq pins s σ H _ _ v u Q I rx ry ⟨rfl, q⟩
  | int i => exact op_eq pins s σ H _ _ v u Q I rx ry ⟨rfl, q⟩
  | str z =>
    refine op_eq pins s σ H _ _ v u Q I rx ry ⟨rfl, ?_⟩
    have e : decide (V.str z = V.str b) = isS b (.str z) := decide_eq_decide.mpr ⟨fun e => by cases e; rfl, fun e => by rw [e]⟩
    rw [e]
    exact q
  | lst hs ne ha =>
    cases rx
    obtain ⟨t, rfl⟩ := ry
    obtain ⟨its, rv, pl, _⟩ := I.list hs
    exact SeqAt.RcAt.list_str b t pl.isList hu X.prog X.w _ _ ⟨.bl false, H, I, rfl, q⟩
  | tup hs ha =>
    cases rx
    obtain ⟨t, rfl⟩ := ry
    obtain ⟨its, rv, pl, _⟩ := I.tuple hs
    exact SeqAt.RcAt.tuple_str b t pl hu X.prog X.w _ _ ⟨.bl false, H, I, rfl, q⟩
  | dct kvs h =>
    cases rx
    obtain ⟨t, rfl⟩ := ry
    have hx : ObjOk X.prog X.w H s.heap _ (.dK (dkV kvs)) := I.hok _ _ h
    obtain ⟨_, hm, vs, rk, o, es, ep, ho, hex, hd, _, hp, _⟩ := hx
    exact rc_dict_str b t ho hex.1 hd hu X.prog X.w _ _ ⟨.bl false, H, I, rfl, q⟩
end
end XT
/-! what judge_holds answers, at any data -/
namespace XT
open PySem PySem.Spec PyProof.Rows L2
/-- the row (mask, x) -/
def rowB (n : Nat) (p r : Nat → Bool) (m : Nat) : PyData → Bool
  | .tuple [.int a, .int x] => decide (a = (m : Int)) && (inV (.int x) (vm (lotOf n p)) && !inV (.int (Builtin.bitXor x (m : Int))) (vm (lotOf n r)))
  | _ => false
def sizB (n : Nat) (p r : Nat → Bool) : PyData → PyData → Bool
  | .int a, .int b => decide (a = ((lotOf n p).length : Int)) && (decide (b = ((lotOf n r).length : Int)) && decide (a ≠ b))
  | _, _ => false
def blkB (n : Nat) (p r : Nat → Bool) (ms : List Nat) : PyData → Bool
  | .tuple ds => decide (lotOf n p ≠ []) && decide (lotOf n r ≠ []) && (decide (ds.length = (lotOf n r).length) && (ms.zip ds).all fun z => rowB n p r z.1 z.2)
  | _ => false
def trnB (n : Nat) (p r : Nat → Bool) : PyData → Bool
  | .int i => isM n (.int i) && decide (∀ m, m < 2 ^ n → p (m ^^^ i.toNat) = r m)
  | _ => false
/-- a tuple of so many items, the name first -/
def clmB (s : Str) (k : Nat) : PyData → Bool
  | .tuple (x :: ds) => decide (ds.length + 1 = k) && isS s x
  | _ => false
def prt (d : PyData) (i : Nat) : PyData := match d with | .tuple ds => ds.getD i .none | _ => .none
def jhB (n : Nat) (p r : Nat → Bool) (ms : List Nat) (d : PyData) : Bool :=
  if clmB "turn" 2 d = true then trnB n p r (prt d 1) else if clmB "sizes" 3 d = true then sizB n p r (prt d 1) (prt d 2) else if clmB "blocks" 2 d = true then blkB n p r ms (prt d 1) else false
def nV : V → Bool
  | .int _ => true
  | _ => false
theorem dz_nV {K : PySem.W.Frag} {H : Hp} {v : V} {d : PyData} (h : Dz K H v d) : isN d = nV v := by cases h <;> rfl
theorem clm_tup {K : PySem.W.Frag} {H : Hp} {v : V} {d : PyData} {s : Str} {k : Nat} (h : clmB s k d = true) (hd : Dz K H v d) : ∃ a xs ds, v = .ref a ∧ d = .tuple ds ∧ SqT K H a xs ∧ DzAll K H xs ds ∧ ds.length = k := by
  cases hd with
  | @tup a xs ds hx all =>
    match ds, h, all with
    | x :: ds, h, all =>
      have h : (decide (ds.length + 1 = k) && isS s x) = true := h
      rw [Bool.and_eq_true, decide_eq_true_eq] at h
      exact ⟨a, xs, _, rfl, rfl, hx, all, h.1⟩
  | _ => cases h
theorem jhB1 {n : Nat} {p r : Nat → Bool} {ms : List Nat} {d : PyData} (c : clmB "turn" 2 d = true) : jhB n p r ms d = trnB n p r (prt d 1) := by
  unfold jhB
  rw [if_pos c]
theorem jhB2 {n : Nat} {p r : Nat → Bool} {ms : List Nat} {d : PyData} (c1 : ¬ clmB "turn" 2 d = true) (c : clmB "sizes" 3 d = true) : jhB n p r ms d = sizB n p r (prt d 1) (prt d 2) := by
  unfold jhB
  rw [if_neg c1, if_pos c]
theorem jhB3 {n : Nat} {p r : Nat → Bool} {ms : List Nat} {d : PyData} (c1 : ¬ clmB "turn" 2 d = true) (c2 : ¬ clmB "sizes" 3 d = true) (c : clmB "blocks" 2 d = true) : jhB n p r ms d = blkB n p r ms (prt d 1) := by
  unfold jhB
  rw [if_neg c1, if_neg c2, if_pos c]
theorem jhB4 {n : Nat} {p r : Nat → Bool} {ms : List Nat} {d : PyData} (c1 : ¬ clmB "turn" 2 d = true) (c2 : ¬ clmB "sizes" 3 d = true) (c : ¬ clmB "blocks" 2 d = true) : jhB n p r ms d = false := by
  unfold jhB
  rw [if_neg c1, if_neg c2, if_neg c]
theorem dz_two {K : PySem.W.Frag} {H : Hp} {xs : List V} {ds : List PyData} (h : DzAll K H xs ds) (hl : ds.length = 2) : ∃ x y a b, xs = [x, y] ∧ ds = [a, b] ∧ Dz K H x a ∧ Dz K H y b := by
  cases h with
  | nil => cases hl
  | cons h0 h =>
    cases h with
    | nil => cases hl
    | cons h1 h =>
      cases h with
      | nil => exact ⟨_, _, _, _, rfl, rfl, h0, h1⟩
      | cons _ _ => simp at hl
theorem dz_three {K : PySem.W.Frag} {H : Hp} {xs : List V} {ds : List PyData} (h : DzAll K H xs ds) (hl : ds.length = 3) : ∃ x y z a b c, xs = [x, y, z] ∧ ds = [a, b, c] ∧ Dz K H x a ∧ Dz K H y b ∧ Dz K H z c := by
  cases h with
  | nil => cases hl
  | cons h0 h =>
    obtain ⟨y, z, b, c, rfl, rfl, h1, h2⟩ := dz_two h (by simpa using hl)
    exact ⟨_, _, _, _, _, _, rfl, rfl, h0, h1, h2⟩
theorem iteNB {A B : Prop} {b : Bool} (h : ¬ b = true) (x : B) : if b = true then A else B := by rw [if_neg h]; exact x
end XT
/-! comprehensions whose turns lay new things, of which something is known -/
namespace XT
open PySem PySem.Spec PyProof.Rows L2
section
variable {K : PySem.W.Frag} {a : Addr} {g : TG} {tt : TT} {te : TE} {vs : List Nat} {σ : L2.St} {H1 : Hp} {D : Addr} {Qd : Hp → Prop} {G : Nat → V → Hp → Prop}
/-- what is known stays when new things are laid, and when a list is changed -/
structure Stay (G : Nat → V → Hp → Prop) : Prop where
  same : ∀ {j y H H'}, G j y H → Same H H' → G j y H'
  put : ∀ {j y H D xs ys}, G j y H → H D = some (.lst xs) → G j y (upd H D (.lst ys))
def TurnG (G : Nat → V → Hp → Prop) (g : TG) (tt : TT) (te : TE) (vs : List Nat) (σ : L2.St) (i : Nat) (x : V) (H : Hp) : Prop :=
  ∀ (R1 : Hp → Prop) (R2 : V → Hp → Prop), (∀ y H4, Same H H4 → G i y H4 → R2 y H4) →
    g x (wipe σ vs) H fun σ2 H2 => wipe σ2 vs = wipe σ vs ∧ tt σ2 H2 fun b H3 => if b = true then te σ2 H3 R2 else R1 H3
def PvG (H1 : Hp) (D : Addr) (G : Nat → V → Hp → Prop) (i : Nat) (H : Hp) : Prop := Same H1 H ∧ ∃ ys, H D = some (.lst ys) ∧ ys.length = i ∧ ∀ j y, ys[j]? = some y → G j y H
theorem pvg_turn {i : Nat} {x : V} {H : Hp} (hG : Stay G) (nD : H1 D = none) (hi : i ≤ 1000) (h : PvG H1 D G i H) (ht : TurnG G g tt te vs σ i x H) :
    g x (wipe σ vs) H fun σ2 H2 => wipe σ2 vs = wipe σ vs ∧ tt σ2 H2 fun b H3 =>
      if b = true then te σ2 H3 fun y H4 => ∃ acc, H4 D = some (.lst acc) ∧ acc.length < sizeLine ∧ PvG H1 D G (i + 1) (upd H4 D (.lst (acc ++ [y]))) else PvG H1 D G (i + 1) H3 := by
  obtain ⟨sm, ys, hD, hl, hall⟩ := h
  refine ht _ _ fun y H4 s4 gy => ⟨ys, s4 _ _ hD, small64 (by omega), same_upd (sm.trans s4) nD, ys ++ [y], upd_same, by rw [List.length_append, hl]; rfl, fun j z hz => hG.put ?_ (s4 _ _ hD)⟩
  rcases Nat.lt_or_ge j ys.length with lt | ge
  · rw [List.getElem?_append_left lt] at hz
    exact hG.same (hall j z hz) s4
  · rw [List.getElem?_append_right ge] at hz
    obtain ⟨h1, h2⟩ := List.getElem?_eq_some_iff.mp hz
    have e : j = i := by simp at h1; omega
    subst e
    have e2 : y = z := by simpa using h2
    rw [← e2]
    exact gy
theorem lcg_tup {xs : List V} (hG : Stay G) (nD : H1 D = none) (hA : SqT K H1 a xs) (hz : xs.length ≤ 1000) (ht : ∀ (i : Nat) x H, xs[i]? = some x → Same H1 H → TurnG G g tt te vs σ i x H) (hd : ∀ H, PvG H1 D G xs.length H → Qd H) :
    ∃ W : Nat → Nat → Hp → Prop, (∃ m, W 0 m (upd H1 D (.lst []))) ∧ ∀ i m H, W i m H →
      ((Itt K a).stop i H ∧ Qd H) ∨ ((Itt K a).go i H ∧ ∃ Nx : Hp → Prop, (∀ H', Nx H' → ∃ m', m' < m ∧ W (i + 1) m' H') ∧ ∀ x H', (Itt K a).yld i H x H' → g x (wipe σ vs) H' fun σ2 H2 => wipe σ2 vs = wipe σ vs ∧ tt σ2 H2 fun b H3 =>
        if b = true then te σ2 H3 fun y H4 => ∃ acc, H4 D = some (.lst acc) ∧ acc.length < sizeLine ∧ Nx (upd H4 D (.lst (acc ++ [y]))) else Nx H3) :=
  lc_tup (xs := xs) (fun i H => PvG H1 D G i H) ⟨same_new nD, [], upd_same, rfl, fun j y h => by simp at h⟩ (fun i H _ h => Same.sqT h.1 hA) (fun i x H hx h => pvg_turn hG nD (by have := (List.getElem?_eq_some_iff.mp hx).1; omega) h (ht i x H hx h.1)) hd
theorem lcg_list {xs : List V} (hG : Stay G) (nD : H1 D = none) (hA : SqL K H1 a xs) (hz : xs.length ≤ 1000) (ht : ∀ (i : Nat) x H, xs[i]? = some x → Same H1 H → TurnG G g tt te vs σ i x H) (hd : ∀ H, PvG H1 D G xs.length H → Qd H) :
    ∃ W : Nat → Nat → Hp → Prop, (∃ m, W 0 m (upd H1 D (.lst []))) ∧ ∀ i m H, W i m H →
      ((Itl K a).stop i H ∧ Qd H) ∨ ((Itl K a).go i H ∧ ∃ Nx : Hp → Prop, (∀ H', Nx H' → ∃ m', m' < m ∧ W (i + 1) m' H') ∧ ∀ x H', (Itl K a).yld i H x H' → g x (wipe σ vs) H' fun σ2 H2 => wipe σ2 vs = wipe σ vs ∧ tt σ2 H2 fun b H3 =>
        if b = true then te σ2 H3 fun y H4 => ∃ acc, H4 D = some (.lst acc) ∧ acc.length < sizeLine ∧ Nx (upd H4 D (.lst (acc ++ [y]))) else Nx H3) :=
  lc_list (xs := xs) (fun i H => PvG H1 D G i H) ⟨same_new nD, [], upd_same, rfl, fun j y h => by simp at h⟩ (fun i H _ h => h.1.seq hA) (fun i x H hx h => pvg_turn hG nD (by have := (List.getElem?_eq_some_iff.mp hx).1; omega) h (ht i x H hx h.1)) hd
theorem lcg_range {n : Nat} (hG : Stay G) (nD : H1 D = none) (hz : n ≤ 1000) (ht : ∀ (i : Nat) H, i < n → Same H1 H → TurnG G g tt te vs σ i (.int (0 + (i : Int))) H) (hd : ∀ H, PvG H1 D G n H → Qd H) :
    ∃ W : Nat → Nat → Hp → Prop, (∃ m, W 0 m (upd H1 D (.lst []))) ∧ ∀ i m H, W i m H →
      ((Itr 0 n).stop i H ∧ Qd H) ∨ ((Itr 0 n).go i H ∧ ∃ Nx : Hp → Prop, (∀ H', Nx H' → ∃ m', m' < m ∧ W (i + 1) m' H') ∧ ∀ x H', (Itr 0 n).yld i H x H' → g x (wipe σ vs) H' fun σ2 H2 => wipe σ2 vs = wipe σ vs ∧ tt σ2 H2 fun b H3 =>
        if b = true then te σ2 H3 fun y H4 => ∃ acc, H4 D = some (.lst acc) ∧ acc.length < sizeLine ∧ Nx (upd H4 D (.lst (acc ++ [y]))) else Nx H3) :=
  lc_range (lo := 0) (n := n) (fun i H => PvG H1 D G i H) ⟨same_new nD, [], upd_same, rfl, fun j y h => by simp at h⟩ (fun i H hi h => pvg_turn hG nD (by omega) h (ht i H hi h.1)) hd
end
theorem stay_lot (n : Nat) (p : Nat → Nat → Bool) : Stay (fun j y H => LotAt H y n (p j)) := ⟨fun h e => h.same e, fun h e => lot_upd e h⟩
end XT
/-! zip of a list and a tuple -/
namespace XT
open PySem PySem.Spec PyProof.Rows L2
/-- a list and a tuple side by side -/
def ItzLT (K : PySem.W.Frag) (a b : Addr) : It :=
  ⟨fun i H => ∃ (xs ys : List V) (x y : V), SqL K H a xs ∧ SqT K H b ys ∧ xs[i]? = some x ∧ ys[i]? = some y,
    fun i H v H' => ∃ T x y, v = .ref T ∧ H T = none ∧ H' = upd H T (.tup [x, y]) ∧ (∀ xs, SqL K H a xs → xs[i]? = some x) ∧ ∀ ys, SqT K H b ys → ys[i]? = some y,
    fun i H => ∃ xs ys : List V, SqL K H a xs ∧ SqT K H b ys ∧ i ≤ xs.length ∧ i ≤ ys.length ∧ (i = xs.length ∨ i = ys.length)⟩
theorem turn_zipLT {P : Program} {w : World} {K : PySem.W.Frag} {elts : List Expr} {kk : Nat} {tpos : Pos} {a b z TI TO i1 i2 : Addr} (na : a ≠ i1) (nb : b ≠ i2) (S : ZipSep2 z TI TO i1 i2 [i1, a] [i2, b]) :
    Turn P w K (.Tuple elts kk tpos) (ItzLT K a b) [z, TI, TO, i1, i2] z (fun i h => IsZip h z TI TO .none ∧ IsTupOf2 h TI (.ref i1) (.ref i2) ∧ (∃ a1 a2, IsTupOf2 h TO a1 a2) ∧ h.IsListIter i1 a i ∧ h.IsTupleIter i2 b i) where
  mem := by simp
  obj := fun i h st c hc => by
    obtain ⟨hz, hTI, ⟨x, y, hTO⟩, ⟨o1, e1, _, d1⟩, ⟨o2, e2, _, d2⟩⟩ := st
    have e' : c = z ∨ c = TI ∨ c = TO ∨ c = i1 ∨ c = i2 := by simpa using hc
    rcases e' with q | q | q | q | q
    · rw [q]; exact ⟨_, hz, fun v q => nomatch q⟩
    · rw [q]; exact ⟨_, hTI, fun v q => nomatch q⟩
    · rw [q]; exact ⟨_, hTO, fun v q => nomatch q⟩
    · rw [q]; exact ⟨o1, e1, fun v q => by rw [d1] at q; cases q⟩
    · rw [q]; exact ⟨o2, e2, fun v q => by rw [d2] at q; cases q⟩
  keep := fun i h h' st k => by
    obtain ⟨hz, hTI, ⟨x, y, hTO⟩, h1, h2⟩ := st
    exact ⟨k z (by simp) _ hz, k TI (by simp) _ hTI, ⟨x, y, k TO (by simp) _ hTO⟩, h1.at fun o q => k i1 (by simp) o q, h2.at fun o q => k i2 (by simp) o q⟩
  item := by
    intro X hP hw hK hc i pins s σ H E I hf st hg
    subst hP hw hK
    obtain ⟨hz, hTI, ⟨x0, y0, hTO⟩, h1, h2⟩ := st
    obtain ⟨xs, ys, x, y, hqx, hqy, hx, hy⟩ := hg
    obtain ⟨its, rv, p, _⟩ := I.list hqx
    obtain ⟨its2, rv2, p2, _⟩ := I.tuple hqy
    obtain ⟨u, hu, ru⟩ := rv.get hx
    obtain ⟨u2, hu2, ru2⟩ := rv2.get hy
    have hzl : z < s.heap.objs.size := Heap.lt_size hz
    have hA : X.A.in1.handled = none := I.ok.hd hc
    have l1 : i < its.toArray.size := by
      have := (List.getElem?_eq_some_iff.mp hu).1
      simpa using this
    have l2 : i < its2.toArray.size := by
      have := (List.getElem?_eq_some_iff.mp hu2).1
      simpa using this
    refine wpAny_pyNext_zipD2_item S (Draws.list hA i1 a na its.toArray) (Draws.tuple hA i2 b nb its2.toArray) hz hTI hTO ⟨h1, p.isList⟩ ⟨h2, p2⟩ l1 l2 fun v1 v2 h' tk q1 q2 z' TO' h1' h2' hT hsz hk => ?_
    have hT : h'.get? s.heap.objs.size = some { cls := .type "tuple", data := .seq #[u, u2] } := by
      have e1 : v1 = u := by
        have q1 : its.toArray[i]? = some v1 := q1
        simp [hu] at q1
        exact q1.symm
      have e2 : v2 = u2 := by
        have q2 : its2.toArray[i]? = some v2 := q2
        simp [hu2] at q2
        exact q2.symm
      rw [← e1, ← e2]
      exact hT
    refine ⟨_, rfl, wpAny_letOwnedTupleGo_zip (s := { s with heap := h', toks := tk }) z' fun h'' z'' sb => ?_⟩
    have hT2 : h''.get? s.heap.objs.size = some { cls := .type "tuple", data := .seq #[u, u2] } := (sb.2 _ (Nat.ne_of_gt hzl)).trans hT
    have new : ObjOk X.prog X.w (upd H s.heap.objs.size (.tup [x, y])) h'' s.heap.objs.size (.tup [x, y]) :=
      ⟨by show 2 ≤ sizeLine; decide, [u, u2], .cons ru (.cons ru2 .nil), ⟨_, hT2, rfl, _, rfl⟩⟩
    have I1 : Inv X pins σ (upd H s.heap.objs.size (.tup [x, y])) { s with heap := h'', toks := tk } :=
      I.turnedNew (t' := tk) (ch := [z, TI, TO, i1, i2]) (fun c o hb q => (sb.2 c (fun q' => hb (by simp [q']))).trans (hk c o (fun q' => hb (by simp [q'])) (fun q' => hb (by simp [q'])) (fun q' => hb (by simp [q'])) (fun q' => hb (by simp [q'])) q)) hf (Nat.le_refl _) new
    refine ⟨.ref s.heap.objs.size, _, I1, rfl, ⟨_, x, y, rfl, I.hok.fresh (Nat.le_refl _), rfl, fun l hl => by rw [I.list_inj hl hqx]; exact hx, fun l hl => by rw [I.tuple_inj hl hqy]; exact hy⟩, ⟨z'', ?_, ⟨v1, v2, ?_⟩, ?_, ?_⟩, fun c hcm => ?_⟩
    · exact (sb.2 _ S.TIz).trans (hk _ _ S.TIz S.TITO S.TIi1 S.TIi2 hTI)
    · exact (sb.2 _ S.TOz).trans TO'
    · exact h1'.1.at fun o q => (sb.2 _ S.zi1.symm).trans q
    · exact h2'.1.at fun o q => (sb.2 _ S.zi2.symm).trans q
    · have hlt : c < s.heap.objs.size := by
        have e' : c = z ∨ c = TI ∨ c = TO ∨ c = i1 ∨ c = i2 := by simpa using hcm
        rcases e' with q | q | q | q | q
        · rw [q]; exact hzl
        · rw [q]; exact Heap.lt_size hTI
        · rw [q]; exact Heap.lt_size hTO
        · rw [q]; obtain ⟨_, e1, _⟩ := h1; exact Heap.lt_size e1
        · rw [q]; obtain ⟨_, e2, _⟩ := h2; exact Heap.lt_size e2
      rw [upd_ne (Nat.ne_of_lt hlt)]
      exact (hf c hcm).1
  done := by
    intro X hP hw hK hc i pins s σ H E I hf st hg
    subst hP hw hK
    obtain ⟨hz, hTI, ⟨x0, y0, hTO⟩, h1, h2⟩ := st
    obtain ⟨xs, ys, hqx, hqy, le1, le2, hend⟩ := hg
    obtain ⟨its, rv, p, _⟩ := I.list hqx
    obtain ⟨its2, rv2, p2, _⟩ := I.tuple hqy
    have l1 := rv.length
    have l2 := rv2.length
    have hA : X.A.in1.handled = none := I.ok.hd hc
    exact wpAny_pyNext_zipD2_end S (Draws.list hA i1 a na its.toArray) (Draws.tuple hA i2 b nb its2.toArray) hz hTI hTO ⟨h1, p.isList⟩ ⟨h2, p2⟩ (by simp; omega) (by simp; omega) (by simp; omega) fun h' tk hk => ⟨rfl, I.turnedL (t' := tk) (ch := [z, TI, TO, i1, i2]) (fun c o hb q =>
      hk c o (fun q' => hb (by simp [q'])) (fun q' => hb (by simp [q'])) (fun q' => hb (by simp [q'])) (fun q' => hb (by simp [q'])) q) hf⟩
  self := fun A i s Q E st h => wpAny_pyIter_zip st.1 h
def iZipLT (K : PySem.W.Frag) (ta : TA) : TI := fun σ H R => ta σ H fun vs H1 => ∃ a b xs ys, vs = [.ref a, .ref b] ∧ SqL K H1 a xs ∧ SqT K H1 b ys ∧ R (ItzLT K a b) H1
theorem pi_zipLT {X : Cx} {e e2 : Expr} {ta : TA} {p pos tpos : Pos} {elts : List Expr} {kk : Nat} (hg : Gl X "zip") (hm : X.mg "zip" = none) (ha : PA X [e, e2] ta)
    (hs : starEach [e, e2] X.env = (false, eval e X.env) :: starEach [e2] X.env := by rfl) (hpl : (backTo pos (starEach [e2] X.env)).any (·.1) = false := by rfl) :
    PI X (.Tuple elts kk tpos) (.Call (.Name "zip" p) [e, e2] [] pos) (iZipLT X.K ta) := by
  refine ⟨fun pins s σ H R I h => ?_⟩
  refine Call_ (ld_blt I hg hm PyProof.Rows.boot_zip (PyProof.Rows.callWith_type1 (thn (ha.run pos pins s σ H _ I h) fun us s1 ⟨vs, H1, I1, r1, q1⟩ => ?_) hs hpl))
  obtain ⟨a, b, xs, ys, ex, hqx, hqy, q1⟩ := q1
  subst ex
  cases r1 with
  | cons r rr =>
    cases rr with
    | cons r' rr =>
      cases rr
      cases r
      cases r'
      obtain ⟨its, rv, p1, _⟩ := I1.list hqx
      obtain ⟨its2, rv2, p2, _⟩ := I1.tuple hqy
      have la : a < s1.heap.objs.size := p1.lt
      have lb : b < s1.heap.objs.size := by
        obtain ⟨o, e, _⟩ := p2
        exact Heap.lt_size e
      have fresh5 : ∀ c, c ∈ [s1.heap.objs.size + 4, s1.heap.objs.size + 2, s1.heap.objs.size + 3, s1.heap.objs.size, s1.heap.objs.size + 1] → FpOk X pins H1 c := fun c hcm => by
        have e' : c = s1.heap.objs.size + 4 ∨ c = s1.heap.objs.size + 2 ∨ c = s1.heap.objs.size + 3 ∨ c = s1.heap.objs.size ∨ c = s1.heap.objs.size + 1 := by simpa using hcm
        have hle : s1.heap.objs.size ≤ c := by
          rcases e' with z | z | z | z | z
          · rw [z]; exact Nat.le_add_right _ _
          · rw [z]; exact Nat.le_add_right _ _
          · rw [z]; exact Nat.le_add_right _ _
          · rw [z]; exact Nat.le_refl _
          · rw [z]; exact Nat.le_add_right _ _
        exact I1.fpOk hle (I1.hok.fresh hle)
      refine zip_begins2 (begins_list a its.toArray) (begins_tuple b its2.toArray) p1.isList p2 fun h' hz hTI hTO h1 h2 hsz hk => wpAny_pyIter_zip hz ?_
      have I2 : Inv X pins σ H1 { s1 with heap := h' } := I1.kept (t' := s1.toks) hk
      exact ⟨s1.heap.objs.size + 4, [s1.heap.objs.size + 4, s1.heap.objs.size + 2, s1.heap.objs.size + 3, s1.heap.objs.size, s1.heap.objs.size + 1], _, _, H1, rfl, I2, turn_zipLT (Nat.ne_of_lt la) (Nat.ne_of_lt (Nat.lt_succ_of_lt lb)) (zip_sep2 (fp1 := [a]) (fp2 := [b]) (fun c hc => by rw [List.mem_singleton.mp hc]; exact la) (fun c hc => by rw [List.mem_singleton.mp hc]; exact lb)), ⟨hz, hTI, ⟨_, _, hTO⟩, ⟨_, h1, rfl, rfl⟩, ⟨_, h2, rfl, rfl⟩⟩, fresh5, q1⟩
theorem lc_zipLT {K : PySem.W.Frag} {a b : Addr} {xs ys : List V} {g : TG} {tt : TT} {te : TE} {vs : List Nat} {σ : L2.St} {H1 : Hp} {D : Addr} {Qd : Hp → Prop} (hl : xs.length = ys.length) (Pv : Nat → Hp → Prop) (h0 : Pv 0 (upd H1 D (.lst []))) (hq : ∀ i H, Pv i H → SqL K H a xs ∧ SqT K H b ys)
    (hs : ∀ i x y T H, xs[i]? = some x → ys[i]? = some y → Pv i H → H T = none → g (.ref T) (wipe σ vs) (upd H T (.tup [x, y])) fun σ2 H2 => wipe σ2 vs = wipe σ vs ∧ tt σ2 H2 fun c H3 =>
      if c = true then te σ2 H3 fun y H4 => ∃ acc, H4 D = some (.lst acc) ∧ acc.length < sizeLine ∧ Pv (i + 1) (upd H4 D (.lst (acc ++ [y]))) else Pv (i + 1) H3) (hd : ∀ H, Pv xs.length H → Qd H) :
    ∃ W : Nat → Nat → Hp → Prop, (∃ m, W 0 m (upd H1 D (.lst []))) ∧ ∀ i m H, W i m H →
      ((ItzLT K a b).stop i H ∧ Qd H) ∨ ((ItzLT K a b).go i H ∧ ∃ Nx : Hp → Prop, (∀ H', Nx H' → ∃ m', m' < m ∧ W (i + 1) m' H') ∧ ∀ x H', (ItzLT K a b).yld i H x H' → g x (wipe σ vs) H' fun σ2 H2 => wipe σ2 vs = wipe σ vs ∧ tt σ2 H2 fun c H3 =>
        if c = true then te σ2 H3 fun y H4 => ∃ acc, H4 D = some (.lst acc) ∧ acc.length < sizeLine ∧ Nx (upd H4 D (.lst (acc ++ [y]))) else Nx H3) := by
  refine ⟨fun i m H => m = xs.length - i ∧ i ≤ xs.length ∧ Pv i H, ⟨xs.length, rfl, Nat.zero_le _, h0⟩, ?_⟩
  rintro i m H ⟨rfl, hi, p⟩
  obtain ⟨qx, qy⟩ := hq i H p
  rcases Nat.lt_or_ge i xs.length with lt | ge
  · have hx : xs[i]? = some xs[i] := List.getElem?_eq_getElem lt
    have hy : ys[i]? = some (ys[i]'(by omega)) := List.getElem?_eq_getElem (by omega)
    refine .inr ⟨⟨xs, ys, _, _, qx, qy, hx, hy⟩, Pv (i + 1), fun H' p' => ⟨xs.length - (i + 1), by omega, rfl, lt, p'⟩, fun v H' z => ?_⟩
    obtain ⟨T, x', y', rfl, hT, rfl, f1, f2⟩ := z
    exact hs i x' y' T H (f1 xs qx) (f2 ys qy) p hT
  · have e : i = xs.length := by omega
    subst e
    exact .inl ⟨⟨xs, ys, qx, qy, Nat.le_refl _, by omega, Or.inl rfl⟩, hd H p⟩
/-- turns that only lay new things, whose values are given one by one -/
theorem lcn_zipLT {K : PySem.W.Frag} {a b : Addr} {xs ys : List V} {g : TG} {tt : TT} {te : TE} {vs : List Nat} {σ : L2.St} {H1 : Hp} {D : Addr} {Qd : Hp → Prop} (f : Nat → V) (hl : xs.length = ys.length) (nD : H1 D = none) (hx : SqL K H1 a xs) (hy : SqT K H1 b ys) (hz : xs.length < sizeLine)
    (ht : ∀ i x y T H, xs[i]? = some x → ys[i]? = some y → Same H1 H → H T = none → ∀ (R1 : Hp → Prop) (R2 : V → Hp → Prop), (∀ H4, Same H H4 → R2 (f i) H4) → g (.ref T) (wipe σ vs) (upd H T (.tup [x, y])) fun σ2 H2 => wipe σ2 vs = wipe σ vs ∧ tt σ2 H2 fun b H3 => if b = true then te σ2 H3 R2 else R1 H3)
    (hd : ∀ H, Same H1 H → H D = some (.lst ((List.range xs.length).map f)) → Qd H) :
    ∃ W : Nat → Nat → Hp → Prop, (∃ m, W 0 m (upd H1 D (.lst []))) ∧ ∀ i m H, W i m H →
      ((ItzLT K a b).stop i H ∧ Qd H) ∨ ((ItzLT K a b).go i H ∧ ∃ Nx : Hp → Prop, (∀ H', Nx H' → ∃ m', m' < m ∧ W (i + 1) m' H') ∧ ∀ x H', (ItzLT K a b).yld i H x H' → g x (wipe σ vs) H' fun σ2 H2 => wipe σ2 vs = wipe σ vs ∧ tt σ2 H2 fun c H3 =>
        if c = true then te σ2 H3 fun y H4 => ∃ acc, H4 D = some (.lst acc) ∧ acc.length < sizeLine ∧ Nx (upd H4 D (.lst (acc ++ [y]))) else Nx H3) := by
  refine lc_zipLT hl (fun i H => Same H1 H ∧ H D = some (.lst ((List.range i).map f))) ⟨same_new nD, upd_same⟩ (fun i H h => ⟨h.1.seq hx, Same.sqT h.1 hy⟩) (fun i x y T H hxi hyi h nT => ?_) (fun H h => hd H h.1 h.2)
  have hi : i < xs.length := (List.getElem?_eq_some_iff.mp hxi).1
  refine ht i x y T H hxi hyi h.1 nT _ _ fun H4 s4 => ⟨_, s4 _ _ h.2, by rw [List.length_map, List.length_range]; omega, fun c o e => ?_, ?_⟩
  · rw [upd_ne (ne_of_none e nD)]
    exact s4 _ _ (h.1 _ _ e)
  · rw [upd_same, List.range_succ, List.map_append]
    rfl
end XT
namespace XT
open PySem PySem.Spec PyProof.Rows L2

def topS (i : Nat) : Stmt := PySem.Challenge.pw_xorturns_k21_whole_one_answer_for_two_lo.main.body.getD i (.Pass ⟨0, 0, 0, 0⟩)
abbrev sIsClaim : Stmt := topS 1
def sOW : Stmt := match topS 5 with | .ClassDef _ _ _ (s :: _) .. => s | _ => topS 5
abbrev sNum : Stmt := topS 8
abbrev sMask : Stmt := topS 9
abbrev sTurned : Stmt := topS 10
abbrev sWidth : Stmt := topS 11
abbrev sTurnsBetween : Stmt := topS 13
abbrev sJudge : Stmt := topS 14
abbrev sPossibleTurns : Stmt := topS 15
abbrev sLeastBlocked : Stmt := topS 16
abbrev sJudgeHolds : Stmt := topS 17
abbrev sSizesHold : Stmt := topS 18
abbrev sBlocksHold : Stmt := topS 19
abbrev sIsBlock : Stmt := topS 20
abbrev sLeastTurned : Stmt := topS 21
abbrev sTurnedLots : Stmt := topS 22
abbrev sStream : Stmt := topS 24
abbrev sDraw : Stmt := topS 25
abbrev sDrawn : Stmt := topS 26
abbrev sLike : Stmt := topS 27
abbrev sLRight : Stmt := topS 28
abbrev sLaw : Stmt := topS 29

theorem scD : FnScope ["_law_stream_here", "_law_many", "_law_rest", "_law_turn", "_law_cell", "_law_mixed"] ["_law_stream_here", "_law_many"] (defScope sDraw) := ⟨rfl, rfl, rfl, by decide +kernel, rfl, by decide +kernel, by decide +kernel⟩
section
variable {P : Program} {w : World} {K : PySem.W.Frag} {mg : Str → Option Value} {base : Heap}
theorem ok_draw {f : Addr} {fd : FuncData} {k : Nat} (F : Fun K "_law_draw" "_law_draw" sDraw f fd) (ml : mg "len" = none) : FnOk P w K mg base CX0 (k + 1) f fd ["_law_stream_here", "_law_many"] spDraw := by
  refine F.ok scD (fun vs H Q E h => ?_) (fun cdv A outer s H vs Q E hr h => ?_)
  · obtain ⟨S, t, m, rfl, _⟩ := h
    rfl
  · obtain ⟨S, t, m, rfl, ⟨big0, hS0⟩, m0, m1, t1, q⟩ := h
    refine ⟨_, pss_cons (ps_while PassesOwn.never
        (pt_cmpR (op_neD hr.units) (pe_ix ix_list (pv 0) pe_int (fun _ _ => rfl)) (pe_lst pa_nil) (nomark _))
        (pss_cons (ps_set (i := 2) scD.nd rfl (.inl rfl) (pe_ix ix_list (pe_ix ix_list (pv 0) pe_int (fun _ _ => rfl)) pe_int (fun _ _ => rfl)))
        (pss_cons (ps_if (pt_cmpR op_gt (pv 2) pe_int (nomark _))
          (pss_cons (ps_asg (pe_op op_fdiv (pv 2) (pv 1)) (pg_sub (pe_ix ix_list (pv 0) pe_int (fun _ _ => rfl)) pe_int set_list))
          (pss_one (ps_ret (pe_op op_mod (pv 2) (pv 1))))) pss_nil)
        (pss_one (ps_expr (pe_bm PySem.F.plainAttrs_list PySem.F.slot_list_pop PySem.F.type_list_pop mt_popAt (pe_ix ix_list (pv 0) pe_int (fun _ _ => rfl)) (pa_cons pe_int pa_nil)))))))
      (pss_cons (ps_set (i := 3) scD.nd rfl (.inl rfl) (pe_op op_add (pe_ix ix_list (pv 0) pe_int (fun _ _ => rfl)) pe_int))
      (pss_cons (ps_asg (pv 3) (pg_sub (pv 0) pe_int set_list))
      (pss_cons (ps_set (i := 4) scD.nd rfl (.inl rfl) (pe_op op_mod (pe_ix ix_list (pe_ix ix_list (pv 0) pe_int (fun _ _ => rfl)) (pe_op op_mod (pv 3) (pe_callB call_len_seq (by rfl) ml PySem.boot_len (pa_cons (pe_ix ix_list (pv 0) pe_int (fun _ _ => rfl)) pa_nil))) (fun _ _ => rfl)) pe_int))
      (pss_cons (ps_set (i := 5) scD.nd rfl (.inl rfl) (pe_op op_mod (pe_op op_add (pe_op op_add (pe_op op_mul (pv 4) (pe_op op_add pe_int (pe_op op_mul pe_int (pv 3)))) (pe_op op_mul (pe_op op_mul pe_int (pv 3)) (pv 3))) pe_int) pe_int))
      (pss_one (ps_ret (pe_op op_mod (pe_op op_fdiv (pe_op op_mod (pe_op op_mul (pv 5) (pv 5)) pe_int) pe_int) (pv 1)))))))), ?_⟩
    refine ⟨fun n σ H1 => ∃ big y2, σ = [some (.ref S.s), some (.int m), y2, none, none, none] ∧ n = big.length ∧ StrmB S H1 t big ∧ Keep S H H1,
      ⟨big0.length, big0, none, rfl, rfl, hS0, Keep.refl S H⟩, ?_⟩
    rintro n σ H1 ⟨big, y2, rfl, rfl, hS, hk⟩
    -- while stream[0] != []
    refine ⟨.ref S.s, rfl, S.s, _, 0, .ref S.p, rfl, rfl, SqL.of hS.hs, rfl, Nat.zero_le _, fun z nz => ?_⟩
    have sm : Same H1 (upd H1 z (.lst [])) := same_new nz
    have hz : (upd H1 z (.lst [])) z = some (.lst []) := upd_same
    have hS' := hS.same sm
    have hk' : Keep S H (upd H1 z (.lst [])) := hk.trans (Keep.of sm)
    generalize upd H1 z (.lst []) = H2 at *
    clear hS hk sm nz
    refine ⟨_, _, .lst (SqL.of hS'.hp) (dpInts big), .lst (SqL.of hz) .nil, ke_shaped big, rfl, _, rfl, ?_⟩
    cases big with
    | cons x rest =>
      have e : (!PyData.eqv (.list ((x :: rest).map PyData.int)) (.list [])) = true := rfl
      rw [e]
      refine iteT ?_
      refine ⟨fun σ' H' => ∃ y2, σ' = [some (.ref S.s), some (.int m), y2, none, none, none] ∧ StrmB S H' t rest ∧ Keep S H H', ?_, ?_⟩
      · rintro σ' H' ⟨y, rfl, h1, h2⟩
        exact ⟨rest.length, Nat.lt_succ_self _, rest, y, rfl, rfl, h1, h2⟩
      · refine ⟨.ref S.s, rfl, S.s, _, 0, .ref S.p, rfl, rfl, SqL.of hS'.hs, rfl, S.p, _, 0, .int x, rfl, rfl, SqL.of hS'.hp, atI_nat (j := 0) rfl, ?_⟩
        refine ⟨.int x, rfl, x, 0, rfl, rfl, _, rfl, ite2 (fun hx => ?_) (fun hx => ?_)⟩
        · refine ⟨.int x, rfl, .int m, rfl, x, m, rfl, rfl, ⟨m0, m1⟩, ?_⟩
          refine ⟨.ref S.s, rfl, S.s, _, 0, .ref S.p, rfl, rfl, SqL.of hS'.hs, rfl, S.p, _, 0, 0, rfl, rfl, hS'.hp, ix0 (Nat.succ_pos _), ?_⟩
          refine ⟨.int x, rfl, .int m, rfl, x, m, rfl, rfl, m0, ?_⟩
          refine q _ _ t (fun b o n1 n2 eb => ?_) ⟨(x / m) :: rest, ?_⟩ (Int.le_refl _) (by omega) (Int.emod_nonneg _ (by omega)) (Int.emod_lt_of_pos _ m0)
          · rw [upd_ne n2]; exact hk' b o n1 n2 eb
          · refine ⟨?_, upd_same, ?_, hS'.sp, hS'.sq, hS'.pq, hS'.ne, hS'.t0⟩
            · rw [upd_ne hS'.sp]; exact hS'.hs
            · rw [upd_ne hS'.pq.symm]; exact hS'.hq
        · refine ⟨.ref S.s, rfl, S.s, _, 0, .ref S.p, rfl, rfl, SqL.of hS'.hs, rfl, .inl ⟨rfl, _, SqL.of hS'.hp⟩, S.p, _, 0, 0, .int x, rfl, rfl, hS'.hp, by decide, by decide, sq0 (Nat.succ_pos _), rfl, ?_⟩
          refine ⟨_, rfl, ⟨?_, upd_same, ?_, hS'.sp, hS'.sq, hS'.pq, hS'.ne, hS'.t0⟩, fun b o n1 n2 eb => ?_⟩
          · rw [upd_ne hS'.sp]; exact hS'.hs
          · rw [upd_ne hS'.pq.symm]; exact hS'.hq
          · rw [upd_ne n2]; exact hk' b o n1 n2 eb
    | nil =>
      have e : (!PyData.eqv (.list (([] : List Int).map PyData.int)) (.list [])) = false := rfl
      rw [e]
      refine iteF ?_
      have t0 := hS'.t0
      -- turn = stream[2] + 1; stream[2] = turn
      refine ⟨.ref S.s, rfl, S.s, _, 2, .int t, rfl, rfl, SqL.of hS'.hs, rfl, t, 1, rfl, rfl, ?_⟩
      refine ⟨.int (t + 1), rfl, .ref S.s, rfl, S.s, _, 2, 2, rfl, rfl, hS'.hs, rfl, ?_⟩
      generalize hH3 : upd H2 S.s (.lst ([V.ref S.p, .ref S.q, .int t].set 2 (.int (t + 1)))) = H3
      have hS3 : StrmB S H3 (t + 1) [] := by
        subst hH3
        refine ⟨upd_same, ?_, ?_, hS'.sp, hS'.sq, hS'.pq, hS'.ne, by omega⟩
        · rw [upd_ne hS'.sp.symm]; exact hS'.hp
        · rw [upd_ne hS'.sq.symm]; exact hS'.hq
      have hk3 : Keep S H H3 := fun b o n1 n2 eb => by
        subst hH3
        rw [upd_ne n1]; exact hk' b o n1 n2 eb
      clear hH3
      -- cell
      have hl : (0 : Int) < ((S.cs.map V.int).length : Nat) := by rw [List.length_map]; have := hS'.ne; omega
      have hm1 : (t + 1) % ((S.cs.map V.int).length : Nat) < ((S.cs.map V.int).length : Nat) := Int.emod_lt_of_pos _ hl
      have hm0 : 0 ≤ (t + 1) % ((S.cs.map V.int).length : Nat) := Int.emod_nonneg _ (by omega)
      obtain ⟨j, hj⟩ : ∃ j : Nat, (t + 1) % ((S.cs.map V.int).length : Nat) = j := ⟨_, (Int.toNat_of_nonneg hm0).symm⟩
      have hjl : j < S.cs.length := by rw [List.length_map] at hm1 hj; omega
      have hat : atI (S.cs.map V.int) ((t + 1) % ((S.cs.map V.int).length : Nat)) = some (.int S.cs[j]) := by
        rw [hj]
        refine atI_nat ?_
        rw [List.getElem?_map, List.getElem?_eq_getElem hjl]
        rfl
      refine ⟨.ref S.s, rfl, S.s, _, 1, .ref S.q, rfl, rfl, SqL.of hS3.hs, rfl, .int (t + 1), rfl, .ref S.s, rfl, S.s, _, 1, .ref S.q, rfl, rfl, SqL.of hS3.hs, rfl, S.q, _, rfl, .inl (SqL.of hS3.hq), _, _, rfl, rfl, hl, ?_⟩
      have k87 : (0 : Int) < 2147483587 := by decide
      have k47 : (0 : Int) < 2147483647 := by decide
      have k29 : (0 : Int) < 2147483629 := by decide
      refine ⟨S.q, _, _, .int S.cs[j], rfl, rfl, SqL.of hS3.hq, hat, S.cs[j], _, rfl, rfl, k87, ?_⟩
      obtain ⟨c1, c0⟩ := pm87 (x := S.cs[j])
      obtain ⟨c, hc⟩ : ∃ c, S.cs[j] % 2147483587 = c := ⟨_, rfl⟩
      rw [hc] at c1 c0
      -- mixed
      refine ⟨.int c, congrArg (fun x => some (some (V.int x))) hc, .int (t + 1), rfl, 40692, t + 1, rfl, rfl, .inl ⟨by decide, by decide⟩, 69621, 40692 * (t + 1), rfl, rfl, c, 69621 + 40692 * (t + 1), rfl, rfl, .inl ⟨by omega, by omega⟩, ?_⟩
      refine ⟨.int (t + 1), rfl, 48271, t + 1, rfl, rfl, .inl ⟨by decide, by decide⟩, .int (t + 1), rfl, 48271 * (t + 1), t + 1, rfl, rfl, .inr ⟨by omega, by omega⟩, c * (69621 + 40692 * (t + 1)), 48271 * (t + 1) * (t + 1), rfl, rfl, _, 47, rfl, rfl, c * (69621 + 40692 * (t + 1)) + 48271 * (t + 1) * (t + 1) + 47, 2147483647, rfl, rfl, k47, ?_⟩
      obtain ⟨d1, d0⟩ := pm31 (x := c * (69621 + 40692 * (t + 1)) + 48271 * (t + 1) * (t + 1) + 47)
      obtain ⟨d, hd⟩ : ∃ d, (c * (69621 + 40692 * (t + 1)) + 48271 * (t + 1) * (t + 1) + 47) % 2147483647 = d := ⟨_, rfl⟩
      rw [hd] at d1 d0
      have ed : some (some (V.int ((c * (69621 + 40692 * (t + 1)) + 48271 * (t + 1) * (t + 1) + 47) % 2147483647))) = some (some (V.int d)) := congrArg (fun x => some (some (V.int x))) hd
      refine ⟨.int d, ed, .int d, ed, d, d, rfl, rfl, .inl ⟨by omega, by omega⟩, d * d, 2147483629, rfl, rfl, k29, d * d % 2147483629, 16, rfl, rfl, ⟨by decide, by decide⟩, .int m, rfl, _, m, rfl, rfl, m0, ?_⟩
      exact q _ _ (t + 1) hk3 ⟨_, hS3⟩ (by omega) (Int.le_refl _) (Int.emod_nonneg _ (by omega)) (Int.emod_lt_of_pos _ m0)
end
end XT
/-! is_number at any data; _law_is_int -/
namespace XT
open PySem PySem.Spec PyProof.Rows L2
section
variable {P : Program} {w : World} {K : PySem.W.Frag} {mg : Str → Option Value} {base : Heap}
theorem scNumZ : FnScope ["value"] ["value"] (defScope sNum) := ⟨rfl, rfl, rfl, by decide +kernel, rfl, by decide +kernel, by decide +kernel⟩
def spNumZ (K : PySem.W.Frag) : Sp := fun vs H Q _ => ∃ v d, vs = [v] ∧ Dz K H v d ∧ Q (.bl (isN d)) H
theorem ok_numZ {f : Addr} {fd : FuncData} {k : Nat} (B : Bl mg) (F : Fun K "is_number" "is_number" sNum f fd) : FnOk P w K mg base CX0 (k + 1) f fd ["value"] (spNumZ K) := by
  refine F.ok scNumZ (fun vs H Q E h => ?_) (fun cdv A outer s H vs Q E hr h => ?_)
  · obtain ⟨v, d, rfl, _⟩ := h
    rfl
  · obtain ⟨v, d, rfl, hd, q⟩ := h
    refine ⟨_, pss_one (ps_ret (pe_and (pe_callB call_isi (by rfl) B.isinstance bI (pa_cons (pv 0) (pa_cons (pe_bltn (v := .ty "int") (by rfl) B.int bInt rfl) pa_nil)))
      (pe_one (pe_not (pe_callB call_isi (by rfl) B.isinstance bI (pa_cons (pv 0) (pa_cons (pe_bltn (v := .ty "bool") (by rfl) B.bool bBool rfl) pa_nil))))))), ?_⟩
    refine ⟨v, rfl, v, .ty "int", _, _, isIt d, rfl, .ty _, hd.ty, kitI d, isIt d, rfl, ?_⟩
    cases hi : isIt d with
    | false =>
      refine iteF ?_
      have e : isN d = false := by cases d <;> first | rfl | simp [isIt] at hi
      rw [e] at q
      exact q
    | true =>
      refine iteT ⟨v, rfl, v, .ty "bool", _, _, isBl d, rfl, .ty _, hd.ty, kitB' d, isBl d, rfl, ?_⟩
      have e : (!isBl d) = isN d := by cases d <;> first | rfl | simp [isIt] at hi
      rw [e]
      exact q
end
end XT
/-! is_mask at any data -/
namespace XT
open PySem PySem.Spec PyProof.Rows L2
section
variable {P : Program} {w : World} {K : PySem.W.Frag} {mg : Str → Option Value} {base : Heap}
theorem scMaskZ0 : FnScope ["value", "width"] ["value", "width"] (defScope sMask) := ⟨rfl, rfl, rfl, by decide +kernel, rfl, by decide +kernel, by decide +kernel⟩
def spMaskZ (K : PySem.W.Frag) : Sp := fun vs H Q _ => ∃ (v : V) (d : PyData) (n : Nat), vs = [v, .int (n : Int)] ∧ Dz K H v d ∧ n ≤ 6 ∧ Q (.bl (isM n d)) H
theorem ok_maskZ {f : Addr} {fd : FuncData} {k : Nat} (F : Fun K "is_mask" "is_mask" sMask f fd) (dN : DefR P w K mg base 1 "is_number" (spNumZ K)) : FnOk P w K mg base CX0 (k + 2) f fd ["value", "width"] (spMaskZ K) := by
  refine F.ok scMaskZ0 (fun vs H Q E h => ?_) (fun cdv A outer s H vs Q E hr h => ?_)
  · obtain ⟨v, d, n, rfl, _⟩ := h
    rfl
  · obtain ⟨v, d, n, rfl, hd, hn, q⟩ := h
    refine ⟨_, pss_one (ps_ret (pe_and (pe_def dN (hr.mono (by omega)) (by rfl) (pa_cons (pv 0) pa_nil)) (pe_one (pe_chain op_le op_lt pe_int (pv 0) (pe_op op_shl pe_int (pv 1)))))), ?_⟩
    refine ⟨v, rfl, v, d, rfl, hd, isN d, rfl, ?_⟩
    cases hd with
    | int i =>
      refine iteT ⟨.int i, rfl, 0, i, rfl, rfl, _, rfl, ?_⟩
      by_cases h0 : (0 : Int) ≤ i
      · rw [decide_eq_true h0]
        refine iteT ⟨.int n, rfl, 1, n, rfl, rfl, cpow hn, i, _, rfl, rfl, ?_⟩
        show Q (V.bl (decide (i < 1 * 2 ^ ((n : Int).toNat)))) H
        rw [shl1]
        have e : isM n (.int i) = decide (i < ((2 ^ n : Nat) : Int)) := by
          show (decide (0 ≤ i) && decide (i < ((2 ^ n : Nat) : Int))) = _
          rw [decide_eq_true h0, Bool.true_and]
        rw [e] at q
        exact q
      · rw [decide_eq_false h0]
        refine iteF ?_
        have e : isM n (.int i) = false := by
          show (decide (0 ≤ i) && decide (i < ((2 ^ n : Nat) : Int))) = _
          rw [decide_eq_false h0, Bool.false_and]
        rw [e] at q
        exact q
    | non => exact iteF q
    | bl b => exact iteF q
    | str x => exact iteF q
    | lst _ _ _ => exact iteF q
    | tup _ _ => exact iteF q
    | dct kvs _ => exact iteF q
end
end XT
/-! a caught error with a dict: isinstance; handed to a def -/
namespace XT
open PySem PySem.Spec PyProof.Rows L2
/-- what the class D of an error must say for isinstance -/
structure IsC (K : PySem.W.Frag) (D : Addr) : Prop where
  cl : (PySem.W.clsIn K D).isSome = true
  ga : PySem.W.findIn K (.ref D) "__getattribute__" = some (some (.builtin "BaseException.__getattribute__"))
  gg : PySem.W.findIn K (.ref D) "__getattr__" = some none
  sb : PySem.W.subIn K (.ref D) (.type "BaseException") = some true
  ha : PySem.W.findIn K (.ref D) "__class__" = some (some (.builtin "object.__class__"))
  hn : PySem.W.specialIn K (.builtin "object.__class__") "__get__" = some (some (.builtin "getset_descriptor.__get__"))
  ht : PySem.W.takesIn K (.builtin "object.__class__") = some true
  hm : PySem.W.mroIn K D (.type "object") = some true
section
variable {X : Cx} {a D : Addr} {oe : Obj} {cls : Value} {d : Option Addr} {pn : List (Addr × Obj)}
theorem inst_of {pins : List (Addr × Obj)} {σ : L2.St} {H : Hp} {s : Shared} {dd : Addr} {fs : List (Str × V)} (I : Inv (X.suite a ((a, oe) :: pn)) pins σ H s) (hz : Zc cls d oe) (hf : ∃ vs, oe.data = .fields vs) (ec : cls = .ref D) (ed : d = some dd) (hd : H dd = some (.xd fs)) :
    ∃ od, PySem.W.InstAt s.heap a oe D (some od) := by
  subst ec ed
  obtain ⟨ha, _⟩ := I.pin (a, oe) (List.mem_append_left _ List.mem_cons_self)
  obtain ⟨vs, hv⟩ := hf
  have hx : ObjOk X.prog X.w H s.heap dd (.xd fs) := I.hok dd _ hd
  obtain ⟨mA, hns, _⟩ := hx
  obtain ⟨od, ho, _⟩ := lookIn_ns hns
  exact ⟨od, ha, hz.1, by unfold PySem.W.notCls; rw [hv] <;> rfl, by rw [hz.2]; exact ho⟩
/-- isinstance(e, c) -/
def rIsD (K : PySem.W.Frag) (D a : Addr) (cls : Value) (d : Option Addr) : List V → Hp → VK → Prop := fun xs H Q => ∃ (c : V) (cv : Value) (b : Bool) (dd : Addr) (fs : List (Str × V)), xs = [.ref a, c] ∧ ClsV c cv ∧ cls = .ref D ∧ d = some dd ∧ H dd = some (.xd fs) ∧ PySem.W.kitOne K (.ref D) cv = some b ∧ Q (.bl b) H
theorem call_isD (C : IsC X.K D) (hz : Zc cls d oe) (hf : ∃ vs, oe.data = .fields vs) : CallR (X.suite a ((a, oe) :: pn)) (.builtin "isinstance") (rIsD X.K D a cls d) := by
  intro pins s σ H xs us Q I r h
  obtain ⟨c, cv, b, dd, fs, rfl, kc, ec, ed, hd, e, q⟩ := h
  obtain ⟨u1, u2, rfl, r1, r2⟩ := vals2 r
  cases (show u1 = Value.ref a from r1)
  have e2 := kc.eq r2
  subst e2
  obtain ⟨od, J⟩ := inst_of I hz hf ec ed hd
  exact PySem.W.kia_one (PySem.W.kitx_exc C.cl C.ga C.gg C.sb C.ha C.hn C.ht C.hm) I.kIn J e (fun z => nomatch z) fun tk => ⟨.bl b, H, I.tok tk, rfl, q⟩
/-- isinstance(e, (c1, c2, ..)) -/
def rIsDT (K : PySem.W.Frag) (D a : Addr) (cls : Value) (d : Option Addr) : List V → Hp → VK → Prop := fun xs H Q => ∃ (tp : Addr) (cs : List V) (ws : List Value) (b : Bool) (dd : Addr) (fs : List (Str × V)), xs = [.ref a, .ref tp] ∧ H tp = some (.tup cs) ∧ Paired ClsV cs ws ∧ cls = .ref D ∧ d = some dd ∧ H dd = some (.xd fs) ∧ PySem.W.kitAny K (.ref D) ws = some b ∧ Q (.bl b) H
theorem call_isDT (C : IsC X.K D) (hz : Zc cls d oe) (hf : ∃ vs, oe.data = .fields vs) : CallR (X.suite a ((a, oe) :: pn)) (.builtin "isinstance") (rIsDT X.K D a cls d) := by
  intro pins s σ H xs us Q I r h
  obtain ⟨tp, cs, ws, b, dd, fs, rfl, hT, kc, ec, ed, hd, e, q⟩ := h
  obtain ⟨u1, u2, rfl, r1, r2⟩ := vals2 r
  cases (show u1 = Value.ref a from r1)
  cases (show u2 = Value.ref tp from r2)
  obtain ⟨od, J⟩ := inst_of I hz hf ec ed hd
  have hx : ObjOk X.prog X.w H s.heap tp (.tup cs) := I.hok tp _ hT
  obtain ⟨_, its, rv, o, h1, h2, n, h3⟩ := hx
  have e3 := ClsV.all kc rv
  subst e3
  obtain ⟨oc, od2, dt, sl⟩ := o
  simp only at h2 h3
  subst h2 h3
  exact PySem.W.kia_tup (PySem.W.kitx_exc C.cl C.ga C.gg C.sb C.ha C.hn C.ht C.hm) I.kIn J h1 e (fun z => nomatch z) fun tk => ⟨.bl b, H, I.tok tk, rfl, q⟩
/-- f(e), e the error that is handled, by f's body -/
theorem pe_err {x par : Str} {st : Stmt} {f : Addr} {fd : FuncData} {N : List Str} {sp : Hp → VK → Prop} {e : Expr} {te : TE} {p pos : Pos} (F : Fun X.K x x st f fd) (S : FnScope N [par] (defScope st))
    (hb : ∀ (kV doc pm : Value) (an : Option Addr) (cdv ct u : Value), bindArgs (PySem.W.fnOf x x (defArgs st) (defBody st) (defScope st) .none kV doc pm an cdv ct) ⟨[u], []⟩ = pure [(par, u)])
    (hg : Gl X x) (hm : X.mg x = some (.ref f)) (hr : X.A.depth < recursionLimit)
    (hbody : ∀ (cdv : Value) (outer : List Env) (s : Shared) (H : Hp) (Q : VK), sp H Q → ∃ t, PSs ((cxOf CX0 X.prog X.w X.K X.mg X.base N x (defScope st) f cdv X.A outer s H E0).nox.suite a [(a, oe)]) (defBody st) t ∧ t { nx := fun _ H' => Q .non H', rt := Q } (start N [.ref a]) H)
    (he : PE (X.suite a ((a, oe) :: pn)) e te) (hdb : (x == ("__debug__" : Str)) = false := by decide) (hst : starEach [e] X.env = (false, eval e X.env) :: starEach [] X.env := by rfl) :
    PE (X.suite a ((a, oe) :: pn)) (.Call (.Name x p) [e] [] pos) (fun σ H Q => te σ H fun v H1 => v = .ref a ∧ sp H1 Q) := by
  have kp := F.kp
  obtain ⟨oc, od, kV, doc, pm, an, cdv, ct, osl, rfl, lk, hcd⟩ := F.ex
  refine ⟨fun pins s σ H Q I h => wpAny_Call_Name_kw (ld_glob I hg hm ?_ hdb)⟩
  refine PySem.W.callWith_K (h₀ := X.base) I.ok.mod.kin kp ?_ hst (by rfl)
  rw [hst]
  show wpAny _ _ (spliced ((false, eval e X.env) :: backTo pos (starEach [] X.env))) _ _ s
  refine Calls.spliced_cons (thn (he.run pins s σ H _ I h) fun u s1 ⟨v, H1, I1, r1, ev, hsp⟩ => ?_)
  subst ev
  cases (show u = Value.ref a from r1)
  refine Calls.spliced_nil ⟨I1.kIn, ?_⟩
  show wpAny _ _ (call (.ref f) [.ref a]) _ _ _
  have P1 := I1.pin (a, oe) (List.mem_append_left _ List.mem_cons_self)
  have hpin : L2H.PinOk X.stack H1 s1 (a, oe) := ⟨P1.1, P1.2.1, fun hmm => (List.mem_cons.mp (I1.stkSub a hmm)).elim P1.2.2.1 P1.2.2.2.1, P1.2.2.2.2⟩
  have e0 := I1.env0
  have KX : X.K.In s1.heap := I1.kIn
  have lim : s1.heap.NoLimit := I1.nolimit
  refine wpAny_call (codeAny_mono (R := CR CX0 X.stack X.prog X.w H1 s1 Q E0) ?_ fun r s2 z => ?_)
  · refine codeAny_call_function hr (KX _ _ lk) rfl S.co S.gen rfl (PySem.W.codeRec_of KX hcd) ?_
    rw [hb kV doc pm an cdv ct (.ref a)]
    refine wpAny_pure ?_
    have hkind : ∀ y ∈ [par].zip [Value.ref a], (defScope st).names.lookup y.1 = some .local ∨ ((defScope st).names.lookup y.1 = some .cell ∧ ((cellsFrom (s1.heap.objs.size + 1) (defScope st).names []).lookup y.1).isSome = true) := fun y hy => by
      rcases S.par y.1 (List.of_mem_zip hy).1 with q | q
      · exact .inl q
      · exact .inr ⟨q, PySem.W.cellsFrom_some _ _ _ (.inl q)⟩
    refine wpAny_newFunctionEnv_cells (s := s1) S.kind hkind fun env henv s3 x3 => ?_
    subst henv
    refine ⟨lim.keeps x3.toInCall.keep, codeAny_func ?_⟩
    obtain ⟨t, ht, hq⟩ := hbody cdv X.stack s1 H1 Q hsp
    have J := L2H.inv_startH (CX := CX0) (E := E0) S hpin e0 (vs := [.ref a]) rfl (.cons rfl .nil) x3
    have ht2 : PSs (L2H.cxH CX0 X.prog X.w X.K X.mg X.base N x (defScope st) f cdv (X.A.mark (some (.ref a))) X.stack s1 H1 E0 (a, oe)) (defBody st) t := PSs.nox ht
    refine wpAny_mono (ht2.run [] s3 _ H1 _ J hq) (fun fl s4 hs => ?_) fun e4 s4 hs => hs
    match fl, hs with
    | .ret u, ⟨v, σ4, H4, J4, rv, q⟩ => exact ⟨v, H4, J4.os, J4.bare, J4.base, J4.hok, rv, q⟩
    | .next, ⟨σ4, H4, J4, q⟩ => exact ⟨.non, H4, J4.os, J4.bare, J4.base, J4.hok, rfl, q⟩
    | .brk, ⟨_, _, _, q⟩ => exact q.elim
    | .cont, ⟨_, _, _, q⟩ => exact q.elim
  · match r, z with
    | .error e4, z => exact z.elim
    | .ok .next, z => exact z.elim
    | .ok .brk, z => exact z.elim
    | .ok .cont, z => exact z.elim
    | .ok (.ret u), z => exact I1.after z
end
end XT
/-! own errors: made with one field or with none, and raised by common_width -/
namespace XT
open PySem PySem.Spec PyProof.Rows L2
theorem PMk.imp {X : Cx} {e : Expr} {t t' : L2.St → Hp → XK → Prop} (h : PMk X e t) (i : ∀ σ H Q, t' σ H Q → t σ H Q) : PMk X e t' := fun pins s σ H Q I q => h pins s σ H Q I (i _ _ _ q)
/-- self.f = y in a class's __init__ -/
def spInit (K : PySem.W.Frag) (C : Addr) (f : Str) : Sp := fun vs H Q _ => ∃ (a : Addr) (y : V), vs = [.ref a, y] ∧ H a = some (exo a C none) ∧ ∀ dx, H dx = none → dx ≠ a → Q .non (upd (upd H dx (exd dx [(f, y)])) a (exo a C (some dx)))
/-- an own error class over ValueError with one field -/
structure ErrC (P : Program) (w : World) (K : PySem.W.Frag) (mg : Str → Option Value) (base : Heap) (x f : Str) (C : Addr) : Prop where
  T : OexC K C
  no : PySem.W.findIn K (.ref C) f = some none
  ini : ∃ (fI : Addr) (fd : FuncData) (ps : List Str), PySem.W.findIn K (.ref C) "__init__" = some (some (.ref fI)) ∧ PySem.W.typeIn K (.ref fI) = some (.type "function") ∧ FnOk P w K mg base CX0 1 fI fd ps (spInit K C f) ∧ Binds K fd ps []
  hm : mg x = some (.ref C)
theorem same_xd {H : Hp} {a dx C : Addr} {o o' : HO} {fs : List (Str × V)} (n : H a = none) (m : H dx = none) (ne : dx ≠ a) : Same H (upd (del (upd (upd (upd H a o) dx o') a (exo a C (some dx))) a) dx (.xd fs)) := fun b x e => by
  have h1 : b ≠ dx := ne_of_none e m
  have h2 : b ≠ a := ne_of_none e n
  rw [upd_ne h1, del_ne h2, upd_ne h2, upd_ne h1, upd_ne h2]
  exact e
section
variable {X : Cx} {C : Addr} {x f : Str} {e : Expr} {ta : TA} {p pos : Pos}
/-- C(e) -/
theorem pmk_err (R : ErrC X.prog X.w X.K X.mg X.base x f C) (hr : Room 2 X.A) (hg : Gl X x) (ha : PA X [e] ta)
    (hdb : (x == ("__debug__" : Str)) = false := by decide) (he : starEach [e] X.env = (false, eval e X.env) :: starEach [] X.env := by rfl) (hpl : (backTo pos (starEach [] X.env)).any (·.1) = false := by rfl) :
    PMk X (.Call (.Name x p) [e] [] pos) (tMkO C (spInit X.K C f) [] ta) := by
  obtain ⟨fI, fd, ps, hi, ht, F, hb⟩ := R.ini
  exact pmk_oex (CX := CX0) (k := 1) (dvs := []) (ds := []) R.T hi ht F hr hb .nil pass0 hg R.hm ha hdb he hpl
theorem mko_in {K : PySem.W.Frag} {H1 : Hp} {Q : XK} {y : V} (h : ∀ H' d, Same H1 H' → H' d = some (.xd [(f, y)]) → Q (.ref C) (some d) H') :
    [y].length ≤ 1000 ∧ ∀ a, H1 a = none → spInit K C f (.ref a :: ([y] ++ [])) (upd H1 a (exo a C none))
      (fun v H2 => v = .non ∧ ∃ (d : Addr) (fs : List (Str × V)), H2 a = some (exo a C (some d)) ∧ H2 d = some (exd d fs) ∧ H1 d = none ∧ Q (.ref C) (some d) (upd (del H2 a) d (.xd fs))) (fun _ _ _ => False) := by
  refine ⟨by simp, fun a n => ⟨a, y, rfl, upd_same, fun dx nd ne => ⟨rfl, dx, [(f, y)], upd_same, ?_, ?_, ?_⟩⟩⟩
  · exact (upd_ne ne).trans upd_same
  · rw [upd_ne ne] at nd
    exact nd
  · rw [upd_ne ne] at nd
    exact h _ dx (same_xd n nd ne) upd_same
/-- C(), no own __init__ -/
theorem pmk_none {bmB : List Value} {B newId initId : String} (F : ExcBaseFacts B newId initId bmB) (q : PySem.W.excIn X.K C bmB newId = true) (gC : X.mg x = some (.ref C)) (kC : PySem.W.keepIn X.K (.ref C) = true) (r : Raises X (.ref C)) (hg : Gl X x)
    (hdb : (x == ("__debug__" : Str)) = false := by decide) : PMk X (.Call (.Name x p) [] [] pos) (fun _ H Q => Q (.ref C) none H) := by
  intro pins s σ H Q I h
  refine wpAny_Call_Name_kw (ld_glob I hg gC ?_ hdb)
  refine PySem.W.callWith_K0 I.kIn kC ?_
  obtain ⟨bm, N, nm, qn, bs, hdct, sn, sub, ab, col, dd, k0, k1, k2, k3, k5, mN, hC, hN, hni, T⟩ := exc_obj I.kIn q
  obtain ⟨hp, g, dr, tk, os⟩ := s
  refine wpAny_call_exc_subT F T hC hN hni (fun h' e hm => ?_) (by show 0 ≤ sizeLine; omega)
  exact mk_of I hm r h (I.hok.gone hm.new)
end
end XT
namespace XT
open PySem PySem.Spec PyProof.Rows L2
/-- what the own error without fields needs -/
structure ErrN (K : PySem.W.Frag) (mg : Str → Option Value) (x : Str) (C : Addr) : Prop where
  ex : ∃ (bmB : List Value) (B newId initId : String), ExcBaseFacts B newId initId bmB ∧ PySem.W.excIn K C bmB newId = true
  exC : PySem.W.subIn K (.ref C) (.type "BaseException") = some true
  tyC : PySem.W.typeIn K (.ref C) = some (.type "type")
  kC : PySem.W.keepIn K (.ref C) = true
  hm : mg x = some (.ref C)
end XT
namespace XT
open PySem PySem.Spec PyProof.Rows L2
def DefX (P : Program) (w : World) (K : PySem.W.Frag) (mg : Str → Option Value) (base : Heap) (k : Nat) (x : Str) (sp : Sp) : Prop :=
  ∃ f fd ps, FnOk P w K mg base (L2.CX P w) k f fd ps sp ∧ Binds K fd ps [] ∧ mg x = some (.ref f) ∧ PySem.W.keepIn K (.ref f) = true
theorem DefX.of {P : Program} {w : World} {K : PySem.W.Frag} {mg : Str → Option Value} {base : Heap} {k : Nat} {x : Str} {sp : Sp} {f : Addr} {fd : FuncData} {ps : List Str}
    (F : FnOk P w K mg base (L2.CX P w) k f fd ps sp) (b : Binds K fd ps []) (hm : mg x = some (.ref f)) (hk : PySem.W.keepIn K (.ref f) = true) : DefX P w K mg base k x sp := ⟨f, fd, ps, F, b, hm, hk⟩
section
variable {X : Cx}
/-- f(e, ..), f may raise -/
theorem pe_defX {j : Nat} {x : Str} {sp : Sp} {W : WX} {e : Expr} {es : List Expr} {t : TA} {p pos : Pos} (D : DefX X.prog X.w X.K X.mg X.base j x sp) (hr : Room j X.A) (hg : Gl X x) (tk : Takes X W) (ha : PA X (e :: es) t)
    (hdb : (x == ("__debug__" : Str)) = false := by decide) (he : starEach (e :: es) X.env = (false, eval e X.env) :: starEach es X.env := by rfl) (hpl : (backTo pos (starEach es X.env)).any (·.1) = false := by rfl) :
    PE X (.Call (.Name x p) (e :: es) [] pos) (tCallS sp (WE W) t) := by
  obtain ⟨f, fd, ps, F, b, hm, hk⟩ := D
  exact pe_callS F hr hg hm hk b (fun σ => passAt tk σ) ha hdb he hpl
end
end XT
namespace XT
open PySem PySem.Spec PyProof.Rows L2
section
variable {P : Program} {w : World} {K : PySem.W.Frag} {mg : Str → Option Value} {base : Heap}
theorem scOW : FnScope ["self", "index"] ["self", "index"] (defScope sOW) := ⟨rfl, rfl, rfl, by decide +kernel, rfl, by decide +kernel, by decide +kernel⟩
theorem ok_ow {q : Str} {f C : Addr} {fd : FuncData} {k : Nat} (T : OexC K C) (no : PySem.W.findIn K (.ref C) "index" = some none) (F : Fun K "__init__" q sOW f fd) : FnOk P w K mg base CX0 (k + 1) f fd ["self", "index"] (spInit K C "index") := by
  refine F.ok scOW (fun vs H Q E h => ?_) (fun cdv A outer s H vs Q E hr h => ?_)
  · obtain ⟨a, y, rfl, _⟩ := h
    rfl
  · obtain ⟨a, y, rfl, ha, q⟩ := h
    refine ⟨_, pss_one (ps_ost (pv 0) (pv 1)), ?_⟩
    exact ⟨y, rfl, .ref a, rfl, a, C, rfl, T, no, .inl ⟨ha, q⟩⟩
/-- the i-th lot is the first one of another width -/
def Odd (ls : List Lt) (n : Nat) (i : Nat) : Prop := (∃ l, ls[i]? = some l ∧ l.n ≠ n) ∧ ∀ j l, j < i → ls[j]? = some l → l.n = n
def spWd (K : PySem.W.Frag) (CN CW : Addr) : Sp := fun vs H Q E => ∃ (t : Addr) (ls : List Lt), vs = [.ref t] ∧ SqT K H t (ls.map (·.v)) ∧ (∀ l ∈ ls, LtAt H l) ∧ (ls = [] → E (.ref CN) none H) ∧
  ∀ l0 r, ls = l0 :: r → ((∀ l ∈ ls, l.n = l0.n) → ∀ H', Same H H' → Q (.int (l0.n : Int)) H') ∧ ∀ i, Odd ls l0.n i → ∀ H' d, Same H H' → H' d = some (.xd [("index", .int (i : Nat))]) → E (.ref CW) (some d) H'
theorem scWd : FnScope ["lots", "width", "index", "lot"] ["lots"] (defScope sWidth) := ⟨rfl, rfl, rfl, by decide +kernel, rfl, by decide +kernel, by decide +kernel⟩
theorem ok_wd {f CN CW : Addr} {fd : FuncData} {k : Nat} (B : Bl mg) (F : Fun K "common_width" "common_width" sWidth f fd) (RN : ErrN K mg "NoLots" CN) (R : ErrC P w K mg base "OtherWidth" "index" CW) : FnOk P w K mg base (L2.CX P w) (k + 3) f fd ["lots"] (spWd K CN CW) := by
  refine F.okX scWd (fun vs H Q E h => ?_) (fun cdv A outer s H vs Q E hr h => ?_)
  · obtain ⟨t, ls, rfl, _⟩ := h
    rfl
  · obtain ⟨t, ls, rfl, ht, hL, h0, h1⟩ := h
    obtain ⟨bmB, Bn, newId, initId, eF, eq⟩ := RN.ex
    refine ⟨_, pss_cons (ps_if (pt_cmpR op_eq (pe_callB call_len_seq (by rfl) B.len PySem.boot_len (pa_cons (pv 0) pa_nil)) pe_int (nomark _)) (pss_one (ps_raise rfl (takes_of rfl rfl rfl rfl) (pmk_none eF eq RN.hm RN.kC (raises_own RN.exC RN.tyC) (by rfl)))) pss_nil)
      (pss_cons (ps_set (i := 1) scWd.nd rfl (.inl rfl) (pe_ix ix_tup (pe_ix ix_tup (pv 0) pe_int (fun _ _ => rfl)) pe_int (fun _ _ => rfl)))
      (pss_cons (ps_for (passes_of rfl) rfl (pi_enumT (by rfl) B.enumerate (pa_cons (pv 0) pa_nil)) (pg_tup rfl (pgs_cons (pg_name (i := 2) scWd.nd rfl (.inl rfl)) (pgs_cons (pg_name (i := 3) scWd.nd rfl (.inl rfl)) pgs_nil)))
        (pss_one (ps_if (pt_cmpR op_ne (pe_ix ix_tup (pv 3) pe_int (fun _ _ => rfl)) (pv 1) (nomark _)) (pss_one (ps_raise rfl (takes_of rfl rfl rfl rfl) (pmk_err R (hr.mono (by omega)) (by rfl) (pa_cons (pv 2) pa_nil)))) pss_nil)))
      (pss_one (ps_ret (pv 1))))), ?_⟩
    refine ⟨.ref t, rfl, t, _, rfl, .inr ht, rfl, _, rfl, ?_⟩
    cases ls with
    | nil => exact iteT (h0 rfl)
    | cons l0 ls' =>
      have e0 : decide (V.int (((l0 :: ls').map (·.v)).length : Nat) = V.int 0) = false := by
        rw [decide_eq_false]
        intro z
        have z2 := V.int.inj z
        rw [List.map_cons, List.length_cons] at z2
        omega
      rw [e0]
      refine iteF ?_
      obtain ⟨hs, hi⟩ := h1 l0 ls' rfl
      obtain ⟨⟨x0, y0, e1, hx0, hy0⟩, hn0⟩ := hL l0 List.mem_cons_self
      refine ⟨.ref t, rfl, t, _, 0, l0.v, rfl, rfl, ht, atI_nat (j := 0) rfl, x0, _, 0, .int l0.n, e1, rfl, SqT.of hx0, rfl, ?_⟩
      refine ⟨.ref t, rfl, t, _, rfl, ht, for_enumT (K := K) (xs := (l0 :: ls').map (·.v)) (fun i σ H' => Same H H' ∧ (∃ a b, σ = [some (.ref t), some (.int (l0.n : Int)), a, b]) ∧ ∀ j l, j < i → (l0 :: ls')[j]? = some l → l.n = l0.n) ⟨Same.refl H, ⟨none, none, rfl⟩, fun j l z => absurd z (Nat.not_lt_zero _)⟩ (fun i σ H' _ h => Same.sqT h.1 ht) (fun i v σ H' T hv h nT => ?_) (fun σ H' h => ?_)⟩
      · obtain ⟨sm, ⟨a, b, rfl⟩, hj⟩ := h
        have sT := same_new (o := .tup [.int (i : Nat), v]) nT
        rw [List.getElem?_map] at hv
        obtain ⟨l, hl, rfl⟩ := Option.map_eq_some_iff.mp hv
        obtain ⟨⟨x, y, ev, hx, hy⟩, hn⟩ := hL l (List.mem_of_getElem? hl)
        refine ⟨T, _, rfl, SqT.of upd_same, rfl, _, _, rfl, _, _, rfl, rfl, ?_⟩
        refine ⟨l.v, rfl, x, _, 0, .int l.n, ev, rfl, SqT.of (sT _ _ (sm _ _ hx)), rfl, .int l0.n, rfl, rfl, _, rfl, ?_⟩
        by_cases hne : l.n = l0.n
        · rw [hne]
          refine iteNS rfl ?_
          refine ⟨sm.trans sT, ⟨_, _, rfl⟩, fun j l2 hlt e => ?_⟩
          rcases Nat.lt_succ_iff_lt_or_eq.mp hlt with z | z
          · exact hj j l2 z e
          · rw [z, hl] at e
            cases e
            exact hne
        · have e2 : (!decide (V.int (l.n : Int) = V.int (l0.n : Int))) = true := by
            rw [decide_eq_false (fun z => hne (by have := V.int.inj z; omega))]
            rfl
          rw [e2]
          exact iteT ⟨.int i, rfl, mko_in fun H2 d sm2 hd => hi i ⟨⟨l, hl, hne⟩, hj⟩ H2 d ((sm.trans sT).trans sm2) hd⟩
      · obtain ⟨sm, ⟨a, b, rfl⟩, hj⟩ := h
        refine ⟨.int l0.n, rfl, hs (fun l hl => ?_) H' sm⟩
        obtain ⟨j, hj1, hj2⟩ := List.getElem_of_mem hl
        exact hj j l (by rw [List.length_map]; exact hj1) (by rw [List.getElem?_eq_getElem hj1, hj2])
end
end XT
/-! defs of two lots that raise OtherWidth(1) -/
namespace XT
open PySem PySem.Spec PyProof.Rows L2
abbrev Gd2 := Nat → (Nat → Bool) → (Nat → Bool) → Hp → V → Prop
def spFn (CW : Addr) (G : Gd2) : Sp := fun vs H Q E => ∃ a b : Lt, vs = [a.v, b.v] ∧ LtAt H a ∧ LtAt H b ∧ (a.n = b.n → ∀ H' z, Same H H' → G a.n a.p b.p H' z → Q z H') ∧ (a.n ≠ b.n → ∀ H' d, Same H H' → H' d = some (.xd [("index", .int 1)]) → E (.ref CW) (some d) H')
def DueG (G : Gd2) (H : Hp) (z : V) (a b : Lt) : Prop := (a.n = b.n ∧ G a.n a.p b.p H z) ∨ (a.n ≠ b.n ∧ ∃ L, z = .ref L ∧ H L = some (.lst [.str "width", .int 1]))
def spTold (G : Gd2) : Sp := fun vs H Q _ => ∃ a b : Lt, vs = [a.v, b.v] ∧ LtAt H a ∧ LtAt H b ∧ ∀ H' z, Same H H' → DueG G H' z a b → Q z H'
section
variable {P : Program} {w : World} {K : PySem.W.Frag} {mg : Str → Option Value} {base : Heap}
/-- width = common_width((one, other)), and what follows -/
theorem wd_two {CN CW : Addr} {v u : V} {n n' : Nat} {p r : Nat → Bool} {H : Hp} {T : Addr} {Q : VK} {E : XK} (hT : H T = some (.tup [v, u])) (hv : LtAt H ⟨v, n, p⟩) (hu : LtAt H ⟨u, n', r⟩)
    (q : n = n' → ∀ H', Same H H' → Q (.int (n : Int)) H') (qe : n ≠ n' → ∀ H' d, Same H H' → H' d = some (.xd [("index", .int 1)]) → E (.ref CW) (some d) H') : spWd K CN CW [.ref T] H Q E := by
  refine ⟨T, [⟨v, n, p⟩, ⟨u, n', r⟩], rfl, SqT.of hT, fun l hl => ?_, (fun z => nomatch z), fun l0 rr e0 => ?_⟩
  · rcases List.mem_cons.mp hl with rfl | hl
    · exact hv
    · rw [List.mem_singleton.mp hl]; exact hu
  cases e0
  refine ⟨fun hall H2 s2 => ?_, fun i hi H' d sm hd => ?_⟩
  · have en : n' = n := hall ⟨u, n', r⟩ (List.mem_cons_of_mem _ List.mem_cons_self)
    exact q en.symm H2 s2
  · obtain ⟨⟨l, hl, hne⟩, hj⟩ := hi
    match i, hl, hj, hd with
    | 0, hl, hj, hd => cases hl; exact absurd rfl hne
    | 1, hl, hj, hd => cases hl; exact qe (fun z => hne z.symm) H' d sm hd
    | i + 2, hl, hj, hd => cases hl
end
theorem dp_width {K : PySem.W.Frag} {H : Hp} {L : Addr} (h : H L = some (.lst [.str "width", .int 1])) : Dp K H (.ref L) (.list [.str "width", .int 1]) := .lst (SqL.of h) (.cons (.str _) (.cons (.int _) .nil))
end XT
namespace XT
open PySem PySem.Spec PyProof.Rows L2
section
variable {P : Program} {w : World} {K : PySem.W.Frag} {mg : Str → Option Value} {base : Heap}
theorem scNum : FnScope ["value"] ["value"] (defScope sNum) := ⟨rfl, rfl, rfl, by decide +kernel, rfl, by decide +kernel, by decide +kernel⟩
def spNum : Sp := fun vs H Q _ => ∃ i, vs = [.int i] ∧ Q (.bl true) H
theorem ok_num {f : Addr} {fd : FuncData} {k : Nat} (B : Bl mg) (F : Fun K "is_number" "is_number" sNum f fd) : FnOk P w K mg base CX0 (k + 1) f fd ["value"] spNum := by
  refine F.ok scNum (fun vs H Q E h => ?_) (fun cdv A outer s H vs Q E hr h => ?_)
  · obtain ⟨i, rfl, _⟩ := h
    rfl
  · obtain ⟨i, rfl, q⟩ := h
    refine ⟨_, pss_one (ps_ret (pe_and (pe_callB call_isi (by rfl) B.isinstance bI (pa_cons (pv 0) (pa_cons (pe_bltn (v := .ty "int") (by rfl) B.int bInt rfl) pa_nil)))
      (pe_one (pe_not (pe_callB call_isi (by rfl) B.isinstance bI (pa_cons (pv 0) (pa_cons (pe_bltn (v := .ty "bool") (by rfl) B.bool bBool rfl) pa_nil))))))), ?_⟩
    refine ⟨.int i, rfl, .int i, .ty "int", _, _, true, rfl, .ty _, .base (.int i), kit_ty (by decide +kernel), true, rfl, iteT ?_⟩
    refine ⟨.int i, rfl, .int i, .ty "bool", _, _, false, rfl, .ty _, .base (.int i), kit_ty (by decide +kernel), false, rfl, ?_⟩
    exact q
end
end XT
namespace XT
open PySem PySem.Spec PyProof.Rows L2
section
variable {P : Program} {w : World} {K : PySem.W.Frag} {mg : Str → Option Value} {base : Heap}
theorem scMask : FnScope ["value", "width"] ["value", "width"] (defScope sMask) := ⟨rfl, rfl, rfl, by decide +kernel, rfl, by decide +kernel, by decide +kernel⟩
def spMask : Sp := fun vs H Q _ => ∃ (a n : Nat), vs = [.int (a : Int), .int (n : Int)] ∧ n ≤ 6 ∧ a < 2 ^ n ∧ Q (.bl true) H
theorem ok_mask {f : Addr} {fd : FuncData} {k : Nat} (F : Fun K "is_mask" "is_mask" sMask f fd) (dN : DefR P w K mg base 1 "is_number" spNum) : FnOk P w K mg base CX0 (k + 2) f fd ["value", "width"] spMask := by
  refine F.ok scMask (fun vs H Q E h => ?_) (fun cdv A outer s H vs Q E hr h => ?_)
  · obtain ⟨a, n, rfl, _⟩ := h
    rfl
  · obtain ⟨a, n, rfl, hn, ha, q⟩ := h
    refine ⟨_, pss_one (ps_ret (pe_and (pe_def dN (hr.mono (by omega)) (by rfl) (pa_cons (pv 0) pa_nil)) (pe_one (pe_chain op_le op_lt pe_int (pv 0) (pe_op op_shl pe_int (pv 1)))))), ?_⟩
    refine ⟨.int a, rfl, a, rfl, true, rfl, iteT ?_⟩
    refine ⟨.int a, rfl, 0, a, rfl, rfl, true, ?_, iteT ?_⟩
    · exact congrArg V.bl (decide_eq_true (by omega))
    · refine ⟨.int n, rfl, 1, n, rfl, rfl, cpow hn, a, _, rfl, rfl, ?_⟩
      have e : decide ((a : Int) < 1 * 2 ^ ((n : Int).toNat)) = true := decide_eq_true (by rw [shl1]; omega)
      show Q (V.bl (decide ((a : Int) < 1 * 2 ^ ((n : Int).toNat)))) H
      rw [e]
      exact q
end
end XT
namespace XT
open PySem PySem.Spec PyProof.Rows L2
section
variable {P : Program} {w : World} {K : PySem.W.Frag} {mg : Str → Option Value} {base : Heap}
theorem scTurned : FnScope ["lot", "mask", "width", "masks", "x"] ["lot", "mask"] (defScope sTurned) := ⟨rfl, rfl, rfl, by decide +kernel, rfl, by decide +kernel, by decide +kernel⟩
def spTurned : Sp := fun vs H Q _ => ∃ (v : V) (n a : Nat) (p : Nat → Bool), vs = [v, .int (a : Int)] ∧ LotAt H v n p ∧ n ≤ 6 ∧ a < 2 ^ n ∧
  ∀ H' r, Same H H' → LotAt H' r n (fun m => p (m ^^^ a)) → (lotOf n fun m => p (m ^^^ a)).length = (lotOf n p).length → Q r H'
theorem lot_nodup (n : Nat) (p : Nat → Bool) : (lotOf n p).Nodup := by
  unfold lotOf
  exact List.Pairwise.filter _ (List.nodup_range)
theorem xor_nodup (a : Nat) {l : List Nat} (h : l.Nodup) : (l.map fun (m : Nat) => ((m ^^^ a : Nat) : Int)).Nodup := by
  unfold List.Nodup at h ⊢
  rw [List.pairwise_map]
  refine h.imp fun {x y} hxy e => hxy ?_
  have e2 : x ^^^ a = y ^^^ a := by omega
  have e3 := congrArg (· ^^^ a) e2
  simpa [Nat.xor_assoc] using e3
theorem ok_turned {f : Addr} {fd : FuncData} {k : Nat} (B : Bl mg) (F : Fun K "turned" "turned" sTurned f fd) (dM : DefR P w K mg base 2 "is_mask" spMask) : FnOk P w K mg base CX0 (k + 3) f fd ["lot", "mask"] spTurned := by
  refine F.ok scTurned (fun vs H Q E h => ?_) (fun cdv A outer s H vs Q E hr h => ?_)
  · obtain ⟨v, n, a, p, rfl, _⟩ := h
    rfl
  · obtain ⟨v, n, a, p, rfl, ⟨x, y, rfl, hx, hy⟩, hn, ha, q⟩ := h
    refine ⟨_, pss_cons (ps_asg (pv 0) (pg_tup rfl (pgs_cons (pg_name (i := 2) scTurned.nd rfl (.inl rfl)) (pgs_cons (pg_name (i := 3) scTurned.nd rfl (.inl rfl)) pgs_nil))))
      (pss_cons (ps_if (pt_not (pt_val (pe_def dM (hr.mono (by omega)) (by rfl) (pa_cons (pv 1) (pa_cons (pv 2) pa_nil))))) pss_never pss_nil)
      (pss_one (ps_ret (pe_tup (pa_cons (pv 2) (pa_cons (pe_callTy call_tuple_of (by rfl) B.tuple bT (pa_cons (pe_callB cr_sortedI (by rfl) B.sorted bS (pa_cons
        (pe_lc (own := [("x", 4)]) (g := gName 4) (tt := tYes) rfl scTurned.nd (pi_tup (pv 3)) (blkOk_by (own := [("x", 4)]) (N := ["lot", "mask", "width", "masks", "x"]) (sc := defScope sTurned) (by decide +kernel))
          (fun _ _ _ _ _ => pg_name (i := 4) scTurned.nd rfl (Or.inl rfl)) (fun _ _ _ _ _ => pts_nil) (fun _ _ _ _ _ => pe_op op_xor (pv 4) (pv 1))) pa_nil)) pa_nil)) pa_nil)))))), ?_⟩
    refine ⟨.ref x, rfl, x, _, rfl, SqT.of hx, rfl, _, _, rfl, _, _, rfl, rfl, ?_⟩
    refine ⟨.int a, rfl, .int n, rfl, a, n, rfl, hn, ha, true, rfl, iteF ?_⟩
    have hl := lot_len hn p
    refine ⟨.int n, rfl, .ref y, rfl, y, rfl, ⟨_, SqT.of hy⟩, fun D nD => lcp_tup (p := fun _ => true) (f := fun v => match v with | .int i => .int (Builtin.bitXor i a) | v => v) nD (SqT.of hy) (small64 (by rw [vm_len]; omega)) (fun i z H3 hz sm => ?_) (fun H3 sm hD => ?_)⟩
    · intro R1 R2 h1 h2
      unfold vm at hz
      rw [List.getElem?_map] at hz
      obtain ⟨m, -, rfl⟩ := Option.map_eq_some_iff.mp hz
      exact ⟨rfl, iteT (B := R1 H3) ⟨_, rfl, .int a, rfl, m, a, rfl, rfl, h2 rfl _ (Same.refl _)⟩⟩
    · have e : (((vm (lotOf n p)).filter fun _ => true).map fun v => match v with | .int i => V.int (Builtin.bitXor i a) | v => v) = ((lotOf n p).map fun (m : Nat) => ((m ^^^ a : Nat) : Int)).map V.int := by
        rw [List.filter_eq_self.mpr (fun _ _ => rfl), List.map_map]
        unfold vm
        rw [List.map_map]
        refine List.map_congr_left fun m _ => ?_
        show V.int (Builtin.bitXor (m : Int) (a : Int)) = V.int ((m ^^^ a : Nat) : Int)
        rw [bx]
      rw [e] at hD
      refine ⟨D, _, rfl, SqL.of hD, fun ns L perm asc nL => ?_⟩
      have s4 : Same H3 (upd H3 L (.lst (ns.map V.int))) := same_new nL
      refine ⟨L, _, rfl, .inl ⟨SqL.of upd_same, fun T nT => ?_⟩⟩
      have s5 := same_new (o := .tup (ns.map V.int)) nT
      refine ⟨sz (n := 2) (by decide), fun U nU => ?_⟩
      have s6 := same_new (o := .tup [.int (n : Int), .ref T]) nU
      -- the masks
      have nd : ns.Nodup := by
        rw [perm.nodup_iff]
        exact xor_nodup a (lot_nodup n p)
      have hm : ns.map V.int = vm (lotOf n fun m => p (m ^^^ a)) := by
        refine rising_lot (lt_of_le_nodup ns asc nd) fun k => ?_
        rw [perm.mem_iff, List.mem_map]
        constructor
        · rintro ⟨m, hm, rfl⟩
          obtain ⟨h1, h2⟩ := mem_lot.mp hm
          exact ⟨m ^^^ a, rfl, xor_lt h1 ha, by rw [Nat.xor_assoc, Nat.xor_self, Nat.xor_zero]; exact h2⟩
        · rintro ⟨m, rfl, h1, h2⟩
          exact ⟨m ^^^ a, mem_lot.mpr ⟨xor_lt h1 ha, h2⟩, by rw [Nat.xor_assoc, Nat.xor_self, Nat.xor_zero]⟩
      refine q _ _ (((sm.trans s4).trans s5).trans s6) ⟨U, T, rfl, upd_same, ?_⟩ ?_
      · rw [upd_ne (ne_of_none upd_same nU), upd_same, hm]
      · have h1 := congrArg List.length hm
        rw [vm_len, List.length_map, perm.length_eq, List.length_map] at h1
        exact h1.symm
end
end XT
/-! common_width, at lots of one width -/
namespace XT
open PySem PySem.Spec PyProof.Rows L2
section
variable {P : Program} {w : World} {K : PySem.W.Frag} {mg : Str → Option Value} {base : Heap}
theorem scWidth : FnScope ["lots", "width", "index", "lot"] ["lots"] (defScope sWidth) := ⟨rfl, rfl, rfl, by decide +kernel, rfl, by decide +kernel, by decide +kernel⟩
abbrev Lots := List (V × (Nat → Bool))
def LotsAt (H : Hp) (ls : Lots) (n : Nat) : Prop := ls ≠ [] ∧ ls.length ≤ 8 ∧ n ≤ 6 ∧ ∀ l ∈ ls, LotAt H l.1 n l.2
theorem LotsAt.same {H H' : Hp} {ls : Lots} {n : Nat} (h : LotsAt H ls n) (e : Same H H') : LotsAt H' ls n := ⟨h.1, h.2.1, h.2.2.1, fun l hl => (h.2.2.2 l hl).same e⟩
def spWidth (K : PySem.W.Frag) : Sp := fun vs H Q _ => ∃ (t : Addr) (ls : Lots) (n : Nat), vs = [.ref t] ∧ SqT K H t (ls.map (·.1)) ∧ LotsAt H ls n ∧ ∀ H', Same H H' → Q (.int (n : Int)) H'
theorem ok_width {f : Addr} {fd : FuncData} {k : Nat} (B : Bl mg) (F : Fun K "common_width" "common_width" sWidth f fd) : FnOk P w K mg base CX0 (k + 1) f fd ["lots"] (spWidth K) := by
  refine F.ok scWidth (fun vs H Q E h => ?_) (fun cdv A outer s H vs Q E hr h => ?_)
  · obtain ⟨t, ls, n, rfl, _⟩ := h
    rfl
  · obtain ⟨t, ls, n, rfl, ht, hL, q⟩ := h
    refine ⟨_, pss_cons (ps_if (pt_cmpR op_eq (pe_callB call_len_seq (by rfl) B.len PySem.boot_len (pa_cons (pv 0) pa_nil)) pe_int (nomark _)) pss_never pss_nil)
      (pss_cons (ps_set (i := 1) scWidth.nd rfl (.inl rfl) (pe_ix ix_tup (pe_ix ix_tup (pv 0) pe_int (fun _ _ => rfl)) pe_int (fun _ _ => rfl)))
      (pss_cons (ps_for PassesOwn.never rfl (pi_enumT (by rfl) B.enumerate (pa_cons (pv 0) pa_nil)) (pg_tup rfl (pgs_cons (pg_name (i := 2) scWidth.nd rfl (.inl rfl)) (pgs_cons (pg_name (i := 3) scWidth.nd rfl (.inl rfl)) pgs_nil)))
        (pss_one (ps_if (pt_cmpR op_ne (pe_ix ix_tup (pv 3) pe_int (fun _ _ => rfl)) (pv 1) (nomark _)) pss_never pss_nil)))
      (pss_one (ps_ret (pv 1))))), ?_⟩
    obtain ⟨hne, hlen, hn, hall⟩ := hL
    obtain ⟨l0, ls', rfl⟩ : ∃ l0 ls', ls = l0 :: ls' := by
      cases ls with
      | nil => exact absurd rfl hne
      | cons a b => exact ⟨a, b, rfl⟩
    refine ⟨.ref t, rfl, t, _, rfl, .inr ht, rfl, _, rfl, ?_⟩
    have e0 : decide (V.int (((l0 :: ls').map (·.1)).length : Nat) = V.int 0) = false := by
      rw [decide_eq_false]
      intro z
      have z2 := V.int.inj z
      rw [List.map_cons, List.length_cons] at z2
      omega
    rw [e0]
    refine iteF ?_
    obtain ⟨x0, y0, e1, hx0, hy0⟩ := hall l0 List.mem_cons_self
    refine ⟨.ref t, rfl, t, _, 0, l0.1, rfl, rfl, ht, atI_nat (j := 0) rfl, x0, _, 0, .int n, e1, rfl, SqT.of hx0, rfl, ?_⟩
    refine ⟨.ref t, rfl, t, _, rfl, ht, for_enumT (K := K) (xs := (l0 :: ls').map (·.1)) (fun i σ H' => Same H H' ∧ ∃ a b, σ = [some (.ref t), some (.int (n : Int)), a, b]) ⟨Same.refl H, none, none, rfl⟩ (fun i σ H' _ h => Same.sqT h.1 ht) (fun i v σ H' T hv h nT => ?_) (fun σ H' h => ?_)⟩
    · obtain ⟨sm, a, b, rfl⟩ := h
      have sT := same_new (o := .tup [.int (i : Nat), v]) nT
      rw [List.getElem?_map] at hv
      obtain ⟨l, hl, rfl⟩ := Option.map_eq_some_iff.mp hv
      obtain ⟨x, y, ev, hx, hy⟩ := hall l (List.mem_of_getElem? hl)
      refine ⟨T, _, rfl, SqT.of upd_same, rfl, _, _, rfl, _, _, rfl, rfl, ?_⟩
      refine ⟨l.1, rfl, x, _, 0, .int n, ev, rfl, SqT.of (sT _ _ (sm _ _ hx)), rfl, .int n, rfl, rfl, _, rfl, iteNS rfl ?_⟩
      exact ⟨sm.trans sT, _, _, rfl⟩
    · obtain ⟨sm, a, b, rfl⟩ := h
      exact ⟨.int n, rfl, q H' sm⟩
theorem lots2 {H : Hp} {u v : V} {n : Nat} {p r : Nat → Bool} (hu : LotAt H u n p) (hv : LotAt H v n r) (hn : n ≤ 6) : LotsAt H [(u, p), (v, r)] n :=
  ⟨by simp, (by decide : 2 ≤ 8), hn, fun l hl => by
    rcases List.mem_cons.mp hl with rfl | hl
    · exact hu
    · rw [List.mem_singleton.mp hl]; exact hv⟩
end
end XT
namespace XT
open PySem PySem.Spec PyProof.Rows L2

theorem scSt : FnScope ["_law_script", "_law_cells", "_law_cell"] ["_law_script"] (defScope sStream) := ⟨rfl, rfl, rfl, by decide +kernel, rfl, by decide +kernel, by decide +kernel⟩
section
variable {P : Program} {w : World} {K : PySem.W.Frag} {mg : Str → Option Value} {base : Heap}
theorem ok_stream {f : Addr} {fd : FuncData} {k : Nat} (F : Fun K "_law_stream" "_law_stream" sStream f fd) (ml : mg "len" = none) (ma : mg "abs" = none) : FnOk P w K mg base CX0 (k + 1) f fd ["_law_script"] (spStream K) := by
  refine F.ok scSt (fun vs H Q E h => ?_) (fun cdv A outer s H vs Q E hr h => ?_)
  · obtain ⟨a, ns, rfl, _⟩ := h
    rfl
  · obtain ⟨a, ns, rfl, hA, hlen, q⟩ := h
    refine ⟨_, pss_cons (ps_setLc (i := 1) (own := [("_law_cell", 2)]) (g := gName 2) (tt := tYes) rfl scSt.nd rfl rfl (sw_true rfl rfl rfl (by decide +kernel)) (pi_list (pv 0)) (blkOk_by (own := [("_law_cell", 2)]) (N := ["_law_script", "_law_cells", "_law_cell"]) (sc := defScope sStream) (by decide +kernel))
          (fun _ _ _ _ _ => pg_name (i := 2) scSt.nd rfl (Or.inl rfl)) (fun _ _ _ _ _ => pts_nil) (fun _ _ _ _ _ => pe_callB call_abs (by rfl) ma (by decide +kernel) (pa_cons (pv 2) pa_nil)))
        (pss_one (ps_ret (pe_lst (pa_cons
          (pe_lc (own := [("_law_cell", 2)]) (g := gName 2) rfl scSt.nd (pi_list (pv 1)) (blkOk_by (own := [("_law_cell", 2)]) (N := ["_law_script", "_law_cells", "_law_cell"]) (sc := defScope sStream) (by decide +kernel))
            (fun _ _ _ _ _ => pg_name (i := 2) scSt.nd rfl (Or.inl rfl)) (fun _ _ _ _ _ => pts_one (pt_cmpR op_ge (pv 2) (pe_op op_pow pe_int pe_int) (nomark _))) (fun _ _ _ _ _ => pv 2))
          (pa_cons (pe_op op_cat (pv 1) (pe_lst (pa_cons (pe_op op_add (pe_callB call_len_seq (by rfl) ml PySem.boot_len (pa_cons (pv 1) pa_nil)) pe_int) pa_nil)))
          (pa_cons pe_int pa_nil)))))), ?_⟩
    have hml : (ns.map V.int).length ≤ 63 := by rw [List.length_map]; exact hlen
    refine ⟨.ref a, rfl, a, rfl, ⟨_, hA⟩, fun D nD => lcp_list (p := fun _ => true) (f := fun v => match v with | .int i => .int (ab i) | v => v) nD hA (small64 (by omega)) (fun i x H3 hx sm => ?_) (fun H3 sm hD => ?_)⟩
    · intro R1 R2 h1 h2
      rw [List.getElem?_map] at hx
      obtain ⟨n, -, rfl⟩ := Option.map_eq_some_iff.mp hx
      exact ⟨rfl, iteT (B := R1 H3) ⟨_, rfl, n, rfl, h2 rfl _ (Same.refl _)⟩⟩
    · -- cells
      obtain ⟨cs, hcs, hcl⟩ : ∃ cs : List Int, (((ns.map V.int).filter fun _ => true).map fun v => match v with | .int i => V.int (ab i) | v => v) = cs.map V.int ∧ cs.length = ns.length := by
        refine ⟨ns.map ab, ?_, List.length_map _⟩
        rw [List.filter_eq_self.mpr (fun _ _ => rfl), List.map_map, List.map_map]
        rfl
      rw [hcs] at hD
      have hDl : (cs.map V.int).length ≤ 63 := by rw [List.length_map]; omega
      refine ⟨.ref D, rfl, D, rfl, ⟨_, SqL.of hD⟩, fun B nB => lcp_list (p := fun v => match v with | .int i => decide (10 ^ 18 ≤ i) | _ => false) (f := id) nB (SqL.of hD) (small64 (by omega)) (fun i x H4 hx sm4 => ?_) (fun H4 sm4 hB => ?_)⟩
      · intro R1 R2 h1 h2
        rw [List.getElem?_map] at hx
        obtain ⟨n, -, rfl⟩ := Option.map_eq_some_iff.mp hx
        refine ⟨rfl, _, rfl, 10, 18, rfl, rfl, ⟨by decide, by decide, by decide⟩, n, _, rfl, rfl, _, rfl, ite2 (fun e => ?_) (fun e => ?_)⟩
        · exact ⟨_, rfl, h2 e _ (Same.refl _)⟩
        · exact h1 (by simpa using e) _ (Same.refl _)
      · have hD4 := sm4 _ _ hD
        obtain ⟨big, hbig⟩ : ∃ big : List Int, (((cs.map V.int).filter fun v => match v with | .int i => decide (10 ^ 18 ≤ i) | _ => false).map id) = big.map V.int := by
          refine ⟨cs.filter fun i => decide (10 ^ 18 ≤ i), ?_⟩
          rw [List.map_id, List.filter_map]
          rfl
        rw [hbig] at hB
        refine ⟨.ref D, rfl, .ref D, rfl, D, _, rfl, .inl (SqL.of hD4), _, _, rfl, rfl, sz (n := 1) (by decide), fun L nL => ?_⟩
        have s5 : Same H4 (upd H4 L (.lst [.int (((cs.map V.int).length : Nat) + 37)])) := same_new nL
        refine ⟨D, L, _, _, rfl, rfl, s5 _ _ hD4, upd_same, ?_, fun C nC => ?_⟩
        · rw [sizeLine_eq]; simp only [List.length_map, List.length_cons, List.length_nil]; omega
        · have s6 := same_new (o := .lst (cs.map V.int ++ [.int (((cs.map V.int).length : Nat) + 37)])) nC
          refine ⟨sz (n := 3) (by decide), fun G nG => ?_⟩
          have s7 := same_new (o := .lst [V.ref B, .ref C, .int 0]) nG
          have hBC : B ≠ C := ne_of_none (s5 _ _ hB) nC
          refine q _ ⟨G, B, C, cs ++ [(((cs.map V.int).length : Nat) : Int) + 37]⟩ (((sm.trans sm4).trans (s5.trans s6)).trans s7) ⟨big, upd_same, s7 _ _ (s6 _ _ (s5 _ _ hB)), s7 _ _ ?_, ?_, ?_, hBC, ?_, Int.le_refl _⟩
          · rw [upd_same, List.map_append]; rfl
          · exact (ne_of_none (s6 _ _ (s5 _ _ hB)) nG).symm
          · exact (ne_of_none (show (upd _ C _) C = some _ from upd_same) nG).symm
          · show 0 < (cs ++ _).length
            rw [List.length_append]; exact Nat.succ_pos _
end
end XT
/-! turns_between, keepers, at lots of one width -/
namespace XT
open PySem PySem.Spec PyProof.Rows L2
section
variable {P : Program} {w : World} {K : PySem.W.Frag} {mg : Str → Option Value} {base : Heap}
/-- a is a turn from p to r -/
def kpB (n : Nat) (p r : Nat → Bool) (a : Nat) : Bool := decide (∀ m, m < 2 ^ n → p (m ^^^ a) = r m)
theorem scTB : FnScope ["one", "other", "width", "mask"] ["one", "other"] (defScope sTurnsBetween) := ⟨rfl, rfl, rfl, by decide +kernel, rfl, by decide +kernel, by decide +kernel⟩
def spTB : Sp := fun vs H Q _ => ∃ (v u : V) (n : Nat) (p r : Nat → Bool), vs = [v, u] ∧ LotAt H v n p ∧ LotAt H u n r ∧ n ≤ 6 ∧ ∀ H' z, Same H H' → TupAt H' z (lotOf n (kpB n p r)) → Q z H'
theorem ok_tb {f : Addr} {fd : FuncData} {k : Nat} (B : Bl mg) (F : Fun K "turns_between" "turns_between" sTurnsBetween f fd) (dW : DefR P w K mg base 1 "common_width" (spWidth K)) (dT : DefR P w K mg base 3 "turned" spTurned) : FnOk P w K mg base CX0 (k + 4) f fd ["one", "other"] spTB := by
  refine F.ok scTB (fun vs H Q E h => ?_) (fun cdv A outer s H vs Q E hr h => ?_)
  · obtain ⟨v, u, n, p, r, rfl, _⟩ := h
    rfl
  · obtain ⟨v, u, n, p, r, rfl, hv, hu, hn, q⟩ := h
    have hr3 : Room 3 (A.deeper (envOfC "turns_between" (defScope sTurnsBetween) s.heap.objs.size f cdv)) := hr.mono (by omega)
    refine ⟨_, pss_cons (ps_set (i := 2) scTB.nd rfl (.inl rfl) (pe_def dW (hr.mono (by omega)) (by rfl) (pa_cons (pe_tup (pa_cons (pv 0) (pa_cons (pv 1) pa_nil))) pa_nil)))
      (pss_one (ps_ret (pe_callTy call_tuple_of (by rfl) B.tuple bT (pa_cons
        (pe_lc (own := [("mask", 3)]) (g := gName 3) (te := tVar 3) (tt := tTest (tOp (rEqD K) (tDf spTurned (tCons (tVar 0) (tCons (tVar 3) tNil))) (tVar 1))) rfl scTB.nd (pi_range1 (by rfl) B.range (pa_cons (pe_op op_shl pe_int (pv 2)) pa_nil)) (blkOk_by (own := [("mask", 3)]) (N := ["one", "other", "width", "mask"]) (sc := defScope sTurnsBetween) (by decide +kernel))
          (fun _ _ _ _ _ => pg_name (i := 3) scTB.nd rfl (Or.inl rfl)) (fun _ _ _ _ _ => pts_one (pt_cmpR (op_eqD hr.units) (pe_def dT hr3 (by rfl) (pa_cons (pv 0) (pa_cons (pv 3) pa_nil))) (pv 1) (nomark _))) (fun _ _ _ _ _ => pv 3)) pa_nil)))), ?_⟩
    refine ⟨v, rfl, u, rfl, sz (n := 2) (by decide), fun T nT => ?_⟩
    have sT := same_new (o := .tup [v, u]) nT
    refine ⟨T, [(v, p), (u, r)], n, rfl, SqT.of upd_same, lots2 (hv.same sT) (hu.same sT) hn, fun H2 s2 => ?_⟩
    have hv2 := (hv.same sT).same s2
    have hu2 := (hu.same sT).same s2
    refine ⟨.int n, rfl, 1, n, rfl, rfl, cpow hn, ((2 ^ n : Nat) : Int), congrArg (fun z => [V.int z]) (shl1 n), l62, r62 hn, fun D nD => ?_⟩
    have h6 := pow6 hn
    refine lcp_range (n := 2 ^ n) (p := kpB n p r) (f := fun m => .int (m : Int)) nD (small64 (by omega)) (fun i H3 hi sm => ?_) (fun H3 sm hD => ?_)
    · intro R1 R2 h1 h2
      refine ⟨rfl, v, rfl, .int (i : Int), congrArg (fun z => some (some (V.int z))) (Int.zero_add _), v, n, i, p, rfl, hv2.same sm, hn, hi, fun H4 z s4 hz _ => ?_⟩
      refine ⟨u, rfl, _, _, hz.dp, ((hu2.same sm).same s4).dp, dLot_shaped _ _, dLot_shaped _ _, _, rfl, ?_⟩
      rw [eqv_lots]
      show if kpB n p r i = true then _ else _
      refine ite2 (fun e => ?_) (fun e => ?_)
      · refine ⟨.int (0 + (i : Int)), rfl, ?_⟩
        rw [Int.zero_add]
        exact h2 e _ s4
      · exact h1 (by simpa using e) _ s4
    · refine ⟨D, _, rfl, .inl ⟨SqL.of hD, fun L nL => ?_⟩⟩
      refine q _ _ (((sT.trans s2).trans sm).trans (same_new nL)) ⟨L, rfl, ?_⟩
      rw [upd_same]
      rfl
/-- the masks that lead outside are none just where a keeps the lot -/
theorem kp_out (n : Nat) (p : Nat → Bool) (a : Nat) (ha : a < 2 ^ n) : ((lotOf n p).filter (fun x => !p (x ^^^ a)) = []) ↔ kpB n p p a = true := by
  unfold kpB
  rw [decide_eq_true_iff, List.filter_eq_nil_iff]
  constructor
  · intro h m hm
    rw [Bool.eq_iff_iff]
    constructor
    · intro z
      have h2 := h (m ^^^ a) (mem_lot.mpr ⟨xor_lt hm ha, z⟩)
      rw [Nat.xor_assoc, Nat.xor_self, Nat.xor_zero] at h2
      simpa using h2
    · intro z
      have h2 := h m (mem_lot.mpr ⟨hm, z⟩)
      simpa using h2
  · intro h x hx
    obtain ⟨h1, h2⟩ := mem_lot.mp hx
    rw [h x h1, h2]
    decide
end
end XT
/-! turns and keepers, as numbers -/
namespace XT
theorem kp_iff {n : Nat} {p r : Nat → Bool} {a : Nat} : kpB n p r a = true ↔ ∀ m, m < 2 ^ n → p (m ^^^ a) = r m := by
  unfold kpB
  rw [decide_eq_true_iff]
theorem xor_swap (m a b : Nat) : m ^^^ a ^^^ b = m ^^^ b ^^^ a := by rw [Nat.xor_assoc, Nat.xor_comm a b, ← Nat.xor_assoc]
/-- the same turns in the other direction -/
theorem kp_symm {n : Nat} {p r : Nat → Bool} {a : Nat} (ha : a < 2 ^ n) : kpB n r p a = kpB n p r a := by
  have go : ∀ {p r : Nat → Bool}, kpB n p r a = true → kpB n r p a = true := fun {p r} h => kp_iff.mpr fun m hm => by
    have h1 := kp_iff.mp h (m ^^^ a) (xor_lt hm ha)
    rw [xor_back] at h1
    exact h1.symm
  rw [Bool.eq_iff_iff]
  exact ⟨go, go⟩
/-- all turns are one of them, combined with the keepers -/
theorem kp_coset {n : Nat} {p r : Nat → Bool} {w m : Nat} (hw : w < 2 ^ n) (h : kpB n p r w = true) (hm : m < 2 ^ n) : kpB n p r m = kpB n p p (m ^^^ w) := by
  have h := kp_iff.mp h
  rw [Bool.eq_iff_iff, kp_iff, kp_iff]
  constructor
  · intro h1 x hx
    have h2 := h1 (x ^^^ w) (xor_lt hx hw)
    have h3 := h (x ^^^ w) (xor_lt hx hw)
    rw [xor_back] at h3
    rw [← Nat.xor_assoc, xor_swap, h2, h3]
  · intro h1 x hx
    have h2 := h1 (x ^^^ w) (xor_lt hx hw)
    rw [← Nat.xor_assoc, xor_swap x w m, xor_back] at h2
    rw [h2, h x hx]
/-- turns to a turned lot -/
theorem kp_turn {n : Nat} {p r : Nat → Bool} {a m : Nat} (ha : a < 2 ^ n) : kpB n p (fun x => r (x ^^^ a)) m = kpB n p r (m ^^^ a) := by
  rw [Bool.eq_iff_iff, kp_iff, kp_iff]
  constructor
  · intro h x hx
    have h2 := h (x ^^^ a) (xor_lt hx ha)
    rw [xor_back] at h2
    rw [← Nat.xor_assoc, xor_swap]
    exact h2
  · intro h x hx
    have h2 := h (x ^^^ a) (xor_lt hx ha)
    rw [← Nat.xor_assoc, xor_swap x a m, xor_back] at h2
    exact h2
/-- a turned lot has the same keepers -/
theorem kp_same {n : Nat} {p r : Nat → Bool} {w m : Nat} (hw : w < 2 ^ n) (hm : m < 2 ^ n) (h : kpB n p r w = true) : kpB n r r m = kpB n p p m := by
  have h := kp_iff.mp h
  rw [Bool.eq_iff_iff, kp_iff, kp_iff]
  constructor
  · intro h1 x hx
    have h2 := h1 (x ^^^ w) (xor_lt hx hw)
    rw [← h _ (xor_lt (xor_lt hx hw) hm), ← h _ (xor_lt hx hw), xor_swap x w m, xor_back, xor_back] at h2
    exact h2
  · intro h1 x hx
    rw [← h _ (xor_lt hx hm), ← h _ hx, xor_swap]
    exact h1 _ (xor_lt hx hw)
theorem kp_zero (n : Nat) (p : Nat → Bool) : kpB n p p 0 = true := kp_iff.mpr fun m _ => by rw [Nat.xor_zero]
theorem kp_self {n : Nat} {p : Nat → Bool} {a : Nat} : kpB n p (fun x => p (x ^^^ a)) a = true := kp_iff.mpr fun _ _ => rfl
end XT
/-! turns_between that may raise -/
namespace XT
open PySem PySem.Spec PyProof.Rows L2
section
variable {P : Program} {w : World} {K : PySem.W.Frag} {mg : Str → Option Value} {base : Heap}
def gTb : Gd2 := fun n p r H z => TupAt H z (lotOf n (kpB n p r))
theorem ok_tbx {f CN CW : Addr} {fd : FuncData} {k : Nat} (B : Bl mg) (F : Fun K "turns_between" "turns_between" sTurnsBetween f fd) (dW : DefX P w K mg base 3 "common_width" (spWd K CN CW)) (dT : DefR P w K mg base 3 "turned" spTurned) : FnOk P w K mg base (L2.CX P w) (k + 4) f fd ["one", "other"] (spFn CW gTb) := by
  refine F.okX scTB (fun vs H Q E h => ?_) (fun cdv A outer s H vs Q E hr h => ?_)
  · obtain ⟨a, b, rfl, _⟩ := h
    rfl
  · obtain ⟨⟨v, n, p⟩, ⟨u, n', r⟩, rfl, hv, hu, q, qe⟩ := h
    dsimp only at q qe ⊢
    have hr3 : Room 3 (A.deeper (envOfC "turns_between" (defScope sTurnsBetween) s.heap.objs.size f cdv)) := hr.mono (by omega)
    refine ⟨_, pss_cons (ps_set (i := 2) scTB.nd rfl (.inl rfl) (pe_defX dW hr3 (by rfl) (takes_of rfl rfl rfl rfl) (pa_cons (pe_tup (pa_cons (pv 0) (pa_cons (pv 1) pa_nil))) pa_nil)))
      (PSs.nox (pss_one (ps_ret (pe_callTy call_tuple_of (by rfl) B.tuple bT (pa_cons
        (pe_lc (own := [("mask", 3)]) (g := gName 3) (te := tVar 3) (tt := tTest (tOp (rEqD K) (tDf spTurned (tCons (tVar 0) (tCons (tVar 3) tNil))) (tVar 1))) rfl scTB.nd (pi_range1 (by rfl) B.range (pa_cons (pe_op op_shl pe_int (pv 2)) pa_nil)) (blkOk_by (own := [("mask", 3)]) (N := ["one", "other", "width", "mask"]) (sc := defScope sTurnsBetween) (by decide +kernel))
          (fun _ _ _ _ _ => pg_name (i := 3) scTB.nd rfl (Or.inl rfl)) (fun _ _ _ _ _ => pts_one (pt_cmpR (op_eqD hr.units) (pe_def dT hr3 (by rfl) (pa_cons (pv 0) (pa_cons (pv 3) pa_nil))) (pv 1) (nomark _))) (fun _ _ _ _ _ => pv 3)) pa_nil))))), ?_⟩
    refine ⟨v, rfl, u, rfl, sz (n := 2) (by decide), fun T nT => ?_⟩
    have sT := same_new (o := .tup [v, u]) nT
    refine ⟨T, [⟨v, n, p⟩, ⟨u, n', r⟩], rfl, SqT.of upd_same, fun l hl => ?_, (fun z => nomatch z), fun l0 rr e0 => ?_⟩
    · rcases List.mem_cons.mp hl with rfl | hl
      · exact hv.same sT
      · rw [List.mem_singleton.mp hl]; exact hu.same sT
    cases e0
    refine ⟨fun hall H2 s2 => ?_, fun i hi H' d sm hd => ?_⟩
    rotate_left
    · obtain ⟨⟨l, hl, hne⟩, hj⟩ := hi
      match i, hl, hj, hd with
      | 0, hl, hj, hd => cases hl; exact absurd rfl hne
      | 1, hl, hj, hd => cases hl; exact qe (fun z => hne z.symm) H' d (sT.trans sm) hd
      | i + 2, hl, hj, hd => cases hl
    have en : n = n' := (hall ⟨u, n', r⟩ (List.mem_cons_of_mem _ List.mem_cons_self)).symm
    subst en
    have hn := hv.2.2
    have hv2 := (hv.1.same sT).same s2
    have hu2 := (hu.1.same sT).same s2
    dsimp only at hn hv2 hu2
    refine ⟨.int n, rfl, 1, n, rfl, rfl, cpow hn, ((2 ^ n : Nat) : Int), congrArg (fun z => [V.int z]) (shl1 n), l62, r62 hn, fun D nD => ?_⟩
    have h6 := pow6 hn
    refine lcp_range (n := 2 ^ n) (p := kpB n p r) (f := fun m => .int (m : Int)) nD (small64 (by omega)) (fun i H3 hi sm => ?_) (fun H3 sm hD => ?_)
    · intro R1 R2 h1 h2
      refine ⟨rfl, v, rfl, .int (i : Int), congrArg (fun z => some (some (V.int z))) (Int.zero_add _), v, n, i, p, rfl, hv2.same sm, hn, hi, fun H4 z s4 hz _ => ?_⟩
      refine ⟨u, rfl, _, _, hz.dp, ((hu2.same sm).same s4).dp, dLot_shaped _ _, dLot_shaped _ _, _, rfl, ?_⟩
      rw [eqv_lots]
      show if kpB n p r i = true then _ else _
      refine ite2 (fun e => ?_) (fun e => ?_)
      · refine ⟨.int (0 + (i : Int)), rfl, ?_⟩
        rw [Int.zero_add]
        exact h2 e _ s4
      · exact h1 (by simpa using e) _ s4
    · refine ⟨D, _, rfl, .inl ⟨SqL.of hD, fun L nL => ?_⟩⟩
      refine q rfl _ _ (((sT.trans s2).trans sm).trans (same_new nL)) ⟨L, rfl, ?_⟩
      rw [upd_same]
      rfl
theorem iteT' {A B : Prop} {b : Bool} (h : b = true) (x : A) : if b = true then A else B := by rw [h]; exact x
end
end XT
/-! sums of lots as numbers -/
namespace XT
open PySem PySem.Spec PyProof.Rows L2
/-- how many numbers below N the set has -/
def cnt (N : Nat) (S : Int → Bool) : Nat := ((List.range N).filter fun (m : Nat) => S (m : Int)).length
theorem cnt_le (N : Nat) (S : Int → Bool) : cnt N S ≤ N := by
  unfold cnt
  refine Nat.le_trans (List.length_filter_le _ _) ?_
  rw [List.length_range]
  exact Nat.le_refl _
theorem cnt_succ (N : Nat) (S : Int → Bool) : cnt (N + 1) S = cnt N S + if S (N : Int) = true then 1 else 0 := by
  unfold cnt
  rw [List.range_succ, List.filter_append, List.length_append]
  by_cases h : S (N : Int) = true
  · simp [h]
  · simp [h]
theorem cnt_old {N m : Nat} (S : Int → Bool) (h : N ≤ m) : cnt N (fun j => S j || decide (j = (m : Int))) = cnt N S := by
  unfold cnt
  congr 1
  refine List.filter_congr fun x hx => ?_
  have h2 := List.mem_range.mp hx
  show (S (x : Int) || decide ((x : Int) = (m : Int))) = S (x : Int)
  rw [decide_eq_false (by omega), Bool.or_false]
theorem cnt_add {m : Nat} (S : Int → Bool) : ∀ {N : Nat}, m < N → cnt N (fun j => S j || decide (j = (m : Int))) = if S (m : Int) = true then cnt N S else cnt N S + 1
  | 0, h => absurd h (Nat.not_lt_zero _)
  | N + 1, h => by
    rw [cnt_succ, cnt_succ]
    by_cases e : m = N
    · subst e
      rw [cnt_old S (Nat.le_refl _)]
      by_cases hS : S (m : Int) = true
      · simp [hS]
      · simp [hS]
    · rw [cnt_add S (show m < N by omega), decide_eq_false (show ¬((N : Int) = (m : Int)) by omega), Bool.or_false]
      by_cases hS : S (m : Int) = true
      · simp [hS]
      · simp [hS]; omega
/-- the sum of two lots -/
def addB (n : Nat) (p r : Nat → Bool) (m : Nat) : Bool := (List.range (2 ^ n)).any fun x => p x && r (x ^^^ m)
theorem add_iff {n : Nat} {p r : Nat → Bool} {m : Nat} : addB n p r m = true ↔ ∃ x, x < 2 ^ n ∧ p x = true ∧ r (x ^^^ m) = true := by
  unfold addB
  rw [List.any_eq_true]
  constructor
  · rintro ⟨x, h1, h2⟩
    rw [Bool.and_eq_true] at h2
    exact ⟨x, List.mem_range.mp h1, h2.1, h2.2⟩
  · rintro ⟨x, h1, h2, h3⟩
    exact ⟨x, List.mem_range.mpr h1, by rw [h2, h3]; rfl⟩
def zeroB (m : Nat) : Bool := decide (m = 0)
def sumB (n : Nat) (ps : List (Nat → Bool)) : Nat → Bool := ps.foldl (addB n) zeroB
theorem lot_zero (n : Nat) : lotOf n zeroB = [0] := by
  have h : ∀ N, 0 < N → (List.range N).filter zeroB = [0] := by
    intro N hN
    obtain ⟨k, rfl⟩ : ∃ k, N = k + 1 := ⟨N - 1, by omega⟩
    rw [List.range_succ_eq_map, List.filter_cons]
    have e : (List.filter zeroB (List.map Nat.succ (List.range k))) = [] := by
      rw [List.filter_eq_nil_iff]
      intro a ha
      obtain ⟨b, _, rfl⟩ := List.mem_map.mp ha
      simp [zeroB]
    rw [e]
    rfl
  exact h _ (pow0 n)
theorem sum_take {n : Nat} {ps : List (Nat → Bool)} {i : Nat} {p : Nat → Bool} (h : ps[i]? = some p) : sumB n (ps.take (i + 1)) = addB n (sumB n (ps.take i)) p := by
  unfold sumB
  rw [List.take_add_one, h, List.foldl_append]
  rfl
theorem add_congr {n : Nat} {p p' r r' : Nat → Bool} {m : Nat} (hm : m < 2 ^ n) (h1 : ∀ x, x < 2 ^ n → p x = p' x) (h2 : ∀ x, x < 2 ^ n → r x = r' x) : addB n p r m = addB n p' r' m := by
  rw [Bool.eq_iff_iff, add_iff, add_iff]
  constructor
  · rintro ⟨x, a, b, c⟩
    exact ⟨x, a, by rw [← h1 x a]; exact b, by rw [← h2 _ (xor_lt a hm)]; exact c⟩
  · rintro ⟨x, a, b, c⟩
    exact ⟨x, a, by rw [h1 x a]; exact b, by rw [h2 _ (xor_lt a hm)]; exact c⟩
theorem add_zero' {n : Nat} {p : Nat → Bool} {m : Nat} (hm : m < 2 ^ n) : addB n zeroB p m = p m := by
  rw [Bool.eq_iff_iff, add_iff]
  constructor
  · rintro ⟨x, a, b, c⟩
    have : x = 0 := of_decide_eq_true b
    subst this
    rwa [Nat.zero_xor] at c
  · intro h
    exact ⟨0, pow0 n, rfl, by rw [Nat.zero_xor]; exact h⟩
theorem add_comm' {n : Nat} {p r : Nat → Bool} {m : Nat} (hm : m < 2 ^ n) : addB n p r m = addB n r p m := by
  have go : ∀ {p r : Nat → Bool}, addB n p r m = true → addB n r p m = true := fun {p r} h => by
    obtain ⟨x, a, b, c⟩ := add_iff.mp h
    exact add_iff.mpr ⟨x ^^^ m, xor_lt a hm, c, by rw [xor_back]; exact b⟩
  rw [Bool.eq_iff_iff]
  exact ⟨go, go⟩
theorem add_assoc' {n : Nat} {p r o : Nat → Bool} {m : Nat} (hm : m < 2 ^ n) : addB n (addB n p r) o m = addB n p (addB n r o) m := by
  rw [Bool.eq_iff_iff, add_iff, add_iff]
  constructor
  · rintro ⟨x, a, b, c⟩
    obtain ⟨y, a2, b2, c2⟩ := add_iff.mp b
    refine ⟨y, a2, b2, add_iff.mpr ⟨y ^^^ x, xor_lt a2 a, c2, ?_⟩⟩
    have e : y ^^^ x ^^^ (y ^^^ m) = x ^^^ m := by rw [Nat.xor_comm y x, Nat.xor_assoc, ← Nat.xor_assoc y y m, Nat.xor_self, Nat.zero_xor]
    rw [e]
    exact c
  · rintro ⟨y, a2, b2, c⟩
    obtain ⟨z, a, c2, c3⟩ := add_iff.mp c
    refine ⟨y ^^^ z, xor_lt a2 a, add_iff.mpr ⟨y, a2, b2, ?_⟩, ?_⟩
    · have e : y ^^^ (y ^^^ z) = z := by rw [← Nat.xor_assoc, Nat.xor_self, Nat.zero_xor]
      rw [e]
      exact c2
    · have e : y ^^^ z ^^^ m = z ^^^ (y ^^^ m) := by rw [Nat.xor_comm y z, Nat.xor_assoc]
      rw [e]
      exact c3
/-- the greatest addend of p for r -/
def gaB (n : Nat) (p r : Nat → Bool) (m : Nat) : Bool := (lotOf n p).all fun x => r (x ^^^ m)
theorem ga_iff {n : Nat} {p r : Nat → Bool} {m : Nat} : gaB n p r m = true ↔ ∀ x, x < 2 ^ n → p x = true → r (x ^^^ m) = true := by
  unfold gaB
  rw [List.all_eq_true]
  exact ⟨fun h x a b => h x (mem_lot.mpr ⟨a, b⟩), fun h x hx => h x (mem_lot.mp hx).1 (mem_lot.mp hx).2⟩
/-! sums as numbers -/
theorem sum1 {n : Nat} {p : Nat → Bool} {m : Nat} (hm : m < 2 ^ n) : sumB n [p] m = p m := add_zero' hm
theorem sum2 {n : Nat} {p r : Nat → Bool} {m : Nat} (hm : m < 2 ^ n) : sumB n [p, r] m = addB n p r m := add_congr hm (fun _ h => add_zero' h) fun _ _ => rfl
theorem sum3 {n : Nat} {p r o : Nat → Bool} {m : Nat} (hm : m < 2 ^ n) : sumB n [p, r, o] m = addB n (addB n p r) o m := add_congr hm (fun _ h => sum2 h) fun _ _ => rfl
theorem add_or {n : Nat} {p r o : Nat → Bool} {m : Nat} : addB n p (fun x => r x || o x) m = (addB n p r m || addB n p o m) := by
  rw [Bool.eq_iff_iff, Bool.or_eq_true, add_iff, add_iff, add_iff]
  constructor
  · rintro ⟨x, a, b, c⟩
    rcases Bool.or_eq_true_iff.mp c with c | c
    · exact .inl ⟨x, a, b, c⟩
    · exact .inr ⟨x, a, b, c⟩
  · rintro (⟨x, a, b, c⟩ | ⟨x, a, b, c⟩)
    · exact ⟨x, a, b, by rw [c]; rfl⟩
    · exact ⟨x, a, b, by rw [c, Bool.or_true]⟩
def oneB (a m : Nat) : Bool := decide (m = a)
theorem lot_one {n a : Nat} (ha : a < 2 ^ n) : vm (lotOf n (oneB a)) = [.int (a : Int)] := by
  refine (rising_lot (ns := [(a : Int)]) (by simp) fun k => ?_).symm
  constructor
  · intro h
    have : k = (a : Int) := by simpa using h
    exact ⟨a, this, ha, decide_eq_true rfl⟩
  · rintro ⟨m, h1, h2, h3⟩
    have : m = a := of_decide_eq_true h3
    rw [h1, this]
    exact List.mem_singleton.mpr rfl
theorem add_one {n a : Nat} {p : Nat → Bool} {m : Nat} (ha : a < 2 ^ n) (hm : m < 2 ^ n) : addB n (oneB a) p m = p (m ^^^ a) := by
  rw [Bool.eq_iff_iff, add_iff]
  constructor
  · rintro ⟨x, a', b, c⟩
    have : x = a := of_decide_eq_true b
    subst this
    rwa [Nat.xor_comm] at c
  · intro h
    exact ⟨a, ha, decide_eq_true rfl, by rw [Nat.xor_comm]; exact h⟩
theorem lot_mono {n : Nat} {p r : Nat → Bool} (h : ∀ m, m < 2 ^ n → p m = true → r m = true) : (lotOf n p).length ≤ (lotOf n r).length := by
  unfold lotOf
  rw [← List.countP_eq_length_filter, ← List.countP_eq_length_filter]
  exact List.countP_mono_left fun m hm => h m (List.mem_range.mp hm)
theorem nodup_le : ∀ {l m : List Nat}, l.Nodup → l ⊆ m → l.length ≤ m.length
  | [], _, _, _ => Nat.zero_le _
  | x :: l, m, h, s => by
    obtain ⟨h1, h2⟩ := List.nodup_cons.mp h
    have hx : x ∈ m := s List.mem_cons_self
    have h3 := nodup_le (l := l) (m := m.erase x) h2 fun y hy => (List.mem_erase_of_ne (fun e => h1 (by rw [← e]; exact hy))).mpr (s (List.mem_cons_of_mem _ hy))
    rw [List.length_erase_of_mem hx] at h3
    have h4 : 0 < m.length := List.length_pos_of_mem hx
    rw [List.length_cons]
    omega
theorem lot_len_xor {n a : Nat} {p : Nat → Bool} (ha : a < 2 ^ n) : (lotOf n fun m => p (m ^^^ a)).length = (lotOf n p).length := by
  have sub : ∀ {p : Nat → Bool}, (lotOf n p).length ≤ (lotOf n fun m => p (m ^^^ a)).length := fun {p} => by
    have h1 : ((lotOf n p).map fun (m : Nat) => m ^^^ a).Nodup := by
      have h := nodup_lot n p
      unfold List.Nodup at h ⊢
      rw [List.pairwise_map]
      refine h.imp fun {x y} hxy e => hxy ?_
      have e3 := congrArg (· ^^^ a) e
      simpa [Nat.xor_assoc] using e3
    have h2 : ((lotOf n p).map fun (m : Nat) => m ^^^ a) ⊆ (lotOf n fun m => p (m ^^^ a)) := by
      intro z hz
      obtain ⟨m, hm, rfl⟩ := List.mem_map.mp hz
      obtain ⟨h3, h4⟩ := mem_lot.mp hm
      exact mem_lot.mpr ⟨xor_lt h3 ha, by rw [xor_back]; exact h4⟩
    have h3 := nodup_le h1 h2
    rw [List.length_map] at h3
    exact h3
  refine Nat.le_antisymm ?_ sub
  have h := sub (p := fun m => p (m ^^^ a))
  have e : (lotOf n fun m => p (m ^^^ a ^^^ a)) = lotOf n p := lot_congr fun m _ => by rw [xor_back]
  rw [e] at h
  exact h
end XT
/-! possible_turns, least_blocked, judge -/
namespace XT
open PySem PySem.Spec PyProof.Rows L2
/-- the least mask that goes outside -/
def blk (n : Nat) (p r : Nat → Bool) (m : Nat) : List Nat := (lotOf n p).filter fun x => !r (x ^^^ m)
def lbN (n : Nat) (p r : Nat → Bool) (m : Nat) : Nat := (blk n p r m).headD 0
def fstN (n : Nat) (p : Nat → Bool) : Nat := (lotOf n p).headD 0
def posT (n : Nat) (p r : Nat → Bool) : List Nat := lotOf n fun m => r (m ^^^ fstN n p)
def dRow (n : Nat) (p r : Nat → Bool) (m : Nat) : PyData := .tuple [.int (m : Int), .int (lbN n p r m : Int)]
def dVer (n : Nat) (p r : Nat → Bool) : PyData :=
  match lotOf n (kpB n p r) with
  | w :: _ => .tuple [.str "turn", .int (w : Int)]
  | [] => if (lotOf n p).length = (lotOf n r).length then .tuple [.str "blocks", .tuple ((posT n p r).map (dRow n p r))] else .tuple [.str "sizes", .int ((lotOf n p).length : Int), .int ((lotOf n r).length : Int)]
def gVer (K : PySem.W.Frag) : Gd2 := fun n p r H z => (∃ a, z = .ref a) ∧ Dp K H z (dVer n p r)
theorem no_turn {n : Nat} {p r : Nat → Bool} (h : lotOf n (kpB n p r) = []) (hl : (lotOf n p).length = (lotOf n r).length) : lotOf n p ≠ [] := by
  intro e
  have h2 := lot_nil_iff.mp h 0 (pow0 n)
  have hz := lot_nil_iff.mp e
  have e2 : lotOf n r = [] := by
    rw [e] at hl
    exact List.eq_nil_of_length_eq_zero hl.symm
  have hz2 := lot_nil_iff.mp e2
  have : kpB n p r 0 = true := by
    unfold kpB
    rw [decide_eq_true_iff]
    intro m hm
    rw [Nat.xor_zero, hz m hm, hz2 m hm]
  rw [this] at h2
  cases h2
/-- where there is no turn, some mask goes outside -/
theorem blk_ne {n m : Nat} {p r : Nat → Bool} (h : lotOf n (kpB n p r) = []) (hl : (lotOf n p).length = (lotOf n r).length) (hm : m < 2 ^ n) : blk n p r m ≠ [] := by
  intro e
  unfold blk at e
  rw [List.filter_eq_nil_iff] at e
  have h1 : ∀ x, x < 2 ^ n → p x = true → r (x ^^^ m) = true := fun x hx hp => by
    have := e x (mem_lot.mpr ⟨hx, hp⟩)
    simpa using this
  have le1 : (lotOf n fun x => p (x ^^^ m)) ⊆ lotOf n r := fun x hx => by
    obtain ⟨a, b⟩ := mem_lot.mp hx
    have := h1 _ (xor_lt a hm) b
    rw [xor_back] at this
    exact mem_lot.mpr ⟨a, this⟩
  have hlen := lot_len_xor (n := n) (a := m) (p := p) hm
  have all : ∀ x, x < 2 ^ n → p (x ^^^ m) = r x := fun x hx => by
    rw [Bool.eq_iff_iff]
    constructor
    · intro z
      exact (mem_lot.mp (le1 (mem_lot.mpr ⟨hx, z⟩))).2
    · intro z
      by_cases c : p (x ^^^ m) = true
      · exact c
      · have h3 : (x :: lotOf n fun x => p (x ^^^ m)).length ≤ (lotOf n r).length := by
          refine nodup_le (List.nodup_cons.mpr ⟨fun q => c (mem_lot.mp q).2, nodup_lot _ _⟩) fun y hy => ?_
          rcases List.mem_cons.mp hy with rfl | hy
          · exact mem_lot.mpr ⟨hx, z⟩
          · exact le1 hy
        rw [List.length_cons] at h3
        omega
  have h4 := lot_nil_iff.mp h m hm
  have : kpB n p r m = true := by
    unfold kpB
    rw [decide_eq_true_iff]
    exact all
  rw [this] at h4
  cases h4
section
variable {P : Program} {w : World} {K : PySem.W.Frag} {mg : Str → Option Value} {base : Heap}
theorem scPT : FnScope ["one", "other", "first", "y"] ["one", "other"] (defScope sPossibleTurns) := ⟨rfl, rfl, rfl, by decide +kernel, rfl, by decide +kernel, by decide +kernel⟩
def spPT : Sp := fun vs H Q _ => ∃ (v u : V) (n : Nat) (p r : Nat → Bool), vs = [v, u] ∧ LotAt H v n p ∧ LotAt H u n r ∧ n ≤ 6 ∧ lotOf n p ≠ [] ∧ ∀ H' z, Same H H' → LsN H' z (posT n p r) → Q z H'
theorem head_of {ms : List Nat} (h : ms ≠ []) : ∃ t, ms = ms.headD 0 :: t := by
  cases ms with
  | nil => exact absurd rfl h
  | cons a t => exact ⟨t, rfl⟩
theorem ok_pt {f : Addr} {fd : FuncData} {k : Nat} (B : Bl mg) (F : Fun K "possible_turns" "possible_turns" sPossibleTurns f fd) : FnOk P w K mg base CX0 (k + 1) f fd ["one", "other"] spPT := by
  refine F.ok scPT (fun vs H Q E h => ?_) (fun cdv A outer s H vs Q E hr h => ?_)
  · obtain ⟨v, u, n, p, r, rfl, _⟩ := h
    rfl
  · obtain ⟨v, u, n, p, r, rfl, ⟨x, y, rfl, hx, hy⟩, ⟨x', y', rfl, hx', hy'⟩, hn, hne, q⟩ := h
    refine ⟨_, pss_cons (ps_set (i := 2) scPT.nd rfl (by first | exact Or.inl rfl | exact Or.inr rfl) (pe_ix ix_tup (pe_ix ix_tup (pv 0) pe_int (fun _ _ => rfl)) pe_int (fun _ _ => rfl)))
      (pss_one (ps_ret (pe_callB cr_sortedI (by rfl) B.sorted bS (pa_cons
        (pe_lc (own := [("y", 3)]) (g := gName 3) (tt := tYes) (te := tOp rXor (tVar 2) (tVar 3)) rfl scPT.nd (pi_tup (pe_ix ix_tup (pv 1) pe_int (fun _ _ => rfl))) (blkOk_by (own := [("y", 3)]) (N := ["one", "other", "first", "y"]) (sc := defScope sPossibleTurns) (by decide +kernel))
          (fun _ _ _ _ _ => pg_name (i := 3) scPT.nd rfl (Or.inl rfl)) (fun _ _ _ _ _ => pts_nil) (fun _ _ _ _ _ => pe_op op_xor (pv 2) (pv 3))) pa_nil)))), ?_⟩
    obtain ⟨t, et⟩ := head_of hne
    have ha : fstN n p < 2 ^ n := (mem_lot.mp (show fstN n p ∈ lotOf n p by rw [et]; exact List.mem_cons_self)).1
    have hat : atI (vm (lotOf n p)) 0 = some (.int (fstN n p : Int)) := by
      rw [et]
      exact atI_nat (j := 0) rfl
    have hl := lot_len hn r
    refine ⟨.ref x, rfl, x, _, 1, .ref y, rfl, rfl, SqT.of hx, rfl, y, _, 0, .int (fstN n p : Int), rfl, rfl, SqT.of hy, hat, ?_⟩
    refine ⟨.ref x', rfl, x', _, 1, .ref y', rfl, rfl, SqT.of hx', rfl, y', rfl, ⟨_, SqT.of hy'⟩, fun D nD => lcp_tup (p := fun _ => true) (f := fun v => match v with | .int j => .int (Builtin.bitXor (fstN n p : Int) j) | v => v) nD (SqT.of hy') (small64 (by rw [vm_len]; omega)) (fun j z H3 hz s3 => ?_) (fun H3 s3 hD => ?_)⟩
    · intro R1 R2 h1 h2
      obtain ⟨m, hm, rfl⟩ := mem_vm hz
      exact ⟨rfl, iteT (B := R1 H3) ⟨_, rfl, _, rfl, (fstN n p : Int), (m : Int), rfl, rfl, h2 rfl _ (Same.refl _)⟩⟩
    · have e : (((vm (lotOf n r)).filter fun _ => true).map fun v => match v with | .int j => V.int (Builtin.bitXor (fstN n p : Int) j) | v => v) = ((lotOf n r).map fun (m : Nat) => ((m ^^^ fstN n p : Nat) : Int)).map V.int := by
        rw [List.filter_eq_self.mpr (fun _ _ => rfl), List.map_map]
        unfold vm
        rw [List.map_map]
        refine List.map_congr_left fun m _ => ?_
        show V.int (Builtin.bitXor (fstN n p : Int) (m : Int)) = V.int ((m ^^^ fstN n p : Nat) : Int)
        rw [bx, Nat.xor_comm]
      rw [e] at hD
      refine ⟨D, _, rfl, SqL.of hD, fun ns L perm asc nL => q _ _ (s3.trans (same_new nL)) ⟨L, rfl, ?_⟩⟩
      rw [upd_same, sort_xor ha perm asc]
      rfl
theorem scLb : FnScope ["one", "other", "mask", "x"] ["one", "other", "mask"] (defScope sLeastBlocked) := ⟨rfl, rfl, rfl, by decide +kernel, rfl, by decide +kernel, by decide +kernel⟩
def spLb : Sp := fun vs H Q _ => ∃ (v u : V) (n m : Nat) (p r : Nat → Bool), vs = [v, u, .int (m : Int)] ∧ LotAt H v n p ∧ LotAt H u n r ∧ n ≤ 6 ∧ m < 2 ^ n ∧ blk n p r m ≠ [] ∧ ∀ H', Same H H' → Q (.int (lbN n p r m : Int)) H'
theorem ok_lb {f : Addr} {fd : FuncData} {k : Nat} (mMn : mg "min" = none) (F : Fun K "least_blocked" "least_blocked" sLeastBlocked f fd) : FnOk P w K mg base CX0 (k + 1) f fd ["one", "other", "mask"] spLb := by
  refine F.ok scLb (fun vs H Q E h => ?_) (fun cdv A outer s H vs Q E hr h => ?_)
  · obtain ⟨v, u, n, m, p, r, rfl, _⟩ := h
    rfl
  · obtain ⟨v, u, n, m, p, r, rfl, ⟨x, y, rfl, hx, hy⟩, ⟨x', y', rfl, hx', hy'⟩, hn, hm, hne, q⟩ := h
    refine ⟨_, pss_one (ps_ret (pe_callB (cr_min rfl) (by rfl) mMn bMin (pa_cons
        (pe_lc (own := [("x", 3)]) (g := gName 3) (te := tVar 3) (tt := tTest (tOp (rIn K true) (tOp rXor (tVar 3) (tVar 2)) (tOp (rIxT K) (tVar 1) (tC (.int 1))))) rfl scLb.nd (pi_tup (pe_ix ix_tup (pv 0) pe_int (fun _ _ => rfl))) (blkOk_by (own := [("x", 3)]) (N := ["one", "other", "mask", "x"]) (sc := defScope sLeastBlocked) (by decide +kernel))
          (fun _ _ _ _ _ => pg_name (i := 3) scLb.nd rfl (Or.inl rfl)) (fun _ _ _ _ _ => pts_one (pt_cmpR op_notIn_seq (pe_op op_xor (pv 3) (pv 2)) (pe_ix ix_tup (pv 1) pe_int (fun _ _ => rfl)) (by rfl))) (fun _ _ _ _ _ => pv 3)) pa_nil))), ?_⟩
    have hl := lot_len hn p
    refine ⟨.ref x, rfl, x, _, 1, .ref y, rfl, rfl, SqT.of hx, rfl, y, rfl, ⟨_, SqT.of hy⟩, fun D nD => lcp_tup (p := fun v => match v with | .int k => !r (k.toNat ^^^ m) | _ => false) (f := id) nD (SqT.of hy) (small64 (by rw [vm_len]; omega)) (fun j z H3 hz s3 => ?_) (fun H3 s3 hD => ?_)⟩
    · intro R1 R2 h1 h2
      obtain ⟨m', hm', rfl⟩ := mem_vm hz
      have hm2 := (mem_lot.mp (List.mem_of_getElem? hm')).1
      refine ⟨rfl, _, rfl, .int (m : Int), rfl, (m' : Int), (m : Int), rfl, rfl, .ref x', rfl, x', _, 1, .ref y', rfl, rfl, SqT.of (s3 _ _ hx'), rfl, y', _, rfl, .inr (SqT.of (s3 _ _ hy')), rfl, vm_flat _, _, rfl, ?_⟩
      have e : inV (.int (Builtin.bitXor (m' : Int) (m : Int))) (vm (lotOf n r)) = r (m' ^^^ m) := by rw [bx, in_lot (xor_lt hm2 hm)]
      show if (!inV (.int (Builtin.bitXor (m' : Int) (m : Int))) (vm (lotOf n r))) = true then _ else _
      rw [e]
      refine ite2 (fun z => ?_) (fun z => ?_)
      · exact ⟨_, rfl, h2 z _ (Same.refl _)⟩
      · exact h1 (by simpa using z) _ (Same.refl _)
    · rw [vm_filter (lotOf n p) (fun x => !r (x ^^^ m)) _ fun m hm => rfl] at hD
      have hD : H3 D = some (.lst (((blk n p r m).map fun (k : Nat) => (k : Int)).map V.int)) := by rw [hD, ← vm_ints]; rfl
      obtain ⟨t, et⟩ := head_of hne
      refine ⟨D, _, rfl, SqL.of hD, by rw [List.length_map]; exact List.length_pos_iff.mpr hne, fun mn h1 h2 => ?_⟩
      have er : ((blk n p r m).map fun (k : Nat) => (k : Int)).Pairwise (· < ·) := by
        have h := List.pairwise_map.mp (lot_rising n p)
        rw [List.pairwise_map]
        exact List.Pairwise.filter _ h
      have e : mn = (lbN n p r m : Int) := by
        have hh : blk n p r m = lbN n p r m :: t := et
        rw [hh, List.map_cons] at h1 h2 er
        have h3 := h2 _ List.mem_cons_self
        rcases List.mem_cons.mp h1 with z | z
        · exact z
        · have h4 := (List.pairwise_cons.mp er).1 _ z
          omega
      rw [e]
      exact q _ s3
abbrev nJd : List Str := ["one", "other", "turns", "many", "more", "mask"]
theorem scJd : FnScope nJd ["one", "other"] (defScope sJudge) := ⟨rfl, rfl, rfl, by decide +kernel, rfl, by decide +kernel, by decide +kernel⟩
/-- a row -/
def RwAt (H : Hp) (v : V) (m x : Nat) : Prop := ∃ q, v = .ref q ∧ H q = some (.tup [.int (m : Int), .int (x : Int)])
theorem stay_rw (n : Nat) (p r : Nat → Bool) (ms : List Nat) : Stay (fun j y H => ∃ m, ms[j]? = some m ∧ RwAt H y m (lbN n p r m)) :=
  ⟨fun ⟨m, e, q, h1, h2⟩ s => ⟨m, e, q, h1, s _ _ h2⟩, fun ⟨m, e, q, h1, h2⟩ s => ⟨m, e, q, h1, by rw [upd_ne (at_ne' s h2 (by simp))]; exact h2⟩⟩
theorem dp_rows {H : Hp} {n : Nat} {p r : Nat → Bool} : ∀ {ys : List V} {ms : List Nat}, ys.length = ms.length → (∀ (j : Nat) y, ys[j]? = some y → ∃ m, ms[j]? = some m ∧ RwAt H y m (lbN n p r m)) → DpAll K H ys (ms.map (dRow n p r))
  | [], [], _, _ => .nil
  | [], _ :: _, h, _ => by simp at h
  | _ :: _, [], h, _ => by simp at h
  | y :: ys, m :: ms, h, hall => by
    obtain ⟨m', e, q, rfl, hq⟩ := hall 0 y rfl
    cases e
    exact .cons (.tup (SqT.of hq) (.cons (.int _) (.cons (.int _) .nil))) (dp_rows (by simpa using h) fun j z hz => hall (j + 1) z hz)
theorem ok_jd {f CW : Addr} {fd : FuncData} {k : Nat} (B : Bl mg) (F : Fun K "judge" "judge" sJudge f fd) (dTB : DefX P w K mg base 4 "turns_between" (spFn CW gTb)) (dP : DefR P w K mg base 1 "possible_turns" spPT) (dL : DefR P w K mg base 1 "least_blocked" spLb) : FnOk P w K mg base (L2.CX P w) (k + 5) f fd ["one", "other"] (spFn CW (gVer K)) := by
  refine F.okX scJd (fun vs H Q E h => ?_) (fun cdv A outer s H vs Q E hr h => ?_)
  · obtain ⟨a, b, rfl, _⟩ := h
    rfl
  · obtain ⟨⟨v, n, p⟩, ⟨u, n', r⟩, rfl, hv, hu, q, qe⟩ := h
    dsimp only at q qe ⊢
    have hr1 : Room 1 (A.deeper (envOfC "judge" (defScope sJudge) s.heap.objs.size f cdv)) := hr.mono (by omega)
    refine ⟨_, pss_cons (ps_set (i := 2) scJd.nd rfl (by first | exact Or.inl rfl | exact Or.inr rfl) (pe_defX dTB (hr.mono (by omega)) (by rfl) (takes_of rfl rfl rfl rfl) (pa_cons (pv 0) (pa_cons (pv 1) pa_nil))))
      (PSs.nox (pss_cons (ps_if (pt_cmpR op_gt (pe_callB call_len_seq (by rfl) B.len PySem.boot_len (pa_cons (pv 2) pa_nil)) pe_int (nomark _)) (pss_one (ps_ret (pe_tup (pa_cons pe_str (pa_cons (pe_ix ix_tup (pv 2) pe_int (fun _ _ => rfl)) pa_nil))))) pss_nil)
      (pss_cons (ps_par (i := 3) (j := 4) (by rfl) scJd.nd rfl rfl (by decide) rfl rfl (pa_cons (pe_callB call_len_seq (by rfl) B.len PySem.boot_len (pa_cons (pe_ix ix_tup (pv 0) pe_int (fun _ _ => rfl)) pa_nil)) (pa_cons (pe_callB call_len_seq (by rfl) B.len PySem.boot_len (pa_cons (pe_ix ix_tup (pv 1) pe_int (fun _ _ => rfl)) pa_nil)) pa_nil)) (by rfl))
      (pss_cons (ps_if (pt_cmpR op_ne (pv 3) (pv 4) (nomark _)) (pss_one (ps_ret (pe_tup (pa_cons pe_str (pa_cons (pv 3) (pa_cons (pv 4) pa_nil)))))) pss_nil)
      (pss_one (ps_ret (pe_tup (pa_cons pe_str (pa_cons (pe_callTy call_tuple_of (by rfl) B.tuple bT (pa_cons
        (pe_lc (own := [("mask", 5)]) (g := gName 5) (tt := tYes) (te := tTup (tCons (tVar 5) (tCons (tDf spLb (tCons (tVar 0) (tCons (tVar 1) (tCons (tVar 5) tNil)))) tNil))) rfl scJd.nd (pi_list (pe_def dP hr1 (by rfl) (pa_cons (pv 0) (pa_cons (pv 1) pa_nil)))) (blkOk_by (own := [("mask", 5)]) (N := nJd) (sc := defScope sJudge) (by decide +kernel))
          (fun _ _ _ _ _ => pg_name (i := 5) scJd.nd rfl (Or.inl rfl)) (fun _ _ _ _ _ => pts_nil) (fun _ _ _ _ _ => pe_tup (pa_cons (pv 5) (pa_cons (pe_def dL hr1 (by rfl) (pa_cons (pv 0) (pa_cons (pv 1) (pa_cons (pv 5) pa_nil)))) pa_nil)))) pa_nil)) pa_nil))))))))), ?_⟩
    refine ⟨v, rfl, u, rfl, ⟨v, n, p⟩, ⟨u, n', r⟩, rfl, hv, hu, fun en H2 z s2 gz => ?_, fun ne H' d sm hd => qe ne H' d sm hd⟩
    dsimp only at en gz
    subst en
    have hn := hv.2.2
    dsimp only at hn
    obtain ⟨qz, rfl, hz⟩ := gz
    have hq := q rfl
    have kl := lot_len hn (kpB n p r)
    have hv2 := hv.1.same s2
    have hu2 := hu.1.same s2
    dsimp only at hv2 hu2
    refine ⟨.ref qz, rfl, qz, _, rfl, .inr (SqT.of hz), _, 0, rfl, rfl, _, rfl, ?_⟩
    cases hW : lotOf n (kpB n p r) with
    | cons w0 wt =>
      rw [hW] at hz
      refine ite2 (fun _ => ?_) (fun e => absurd (decide_eq_true (by rw [vm_len]; simp)) e)
      refine ⟨.ref qz, rfl, qz, _, 0, .int (w0 : Int), rfl, rfl, SqT.of hz, atI_nat (j := 0) rfl, sz (n := 2) (by decide), fun T nT => hq _ _ (s2.trans (same_new nT)) ⟨⟨T, rfl⟩, ?_⟩⟩
      unfold dVer
      rw [hW]
      exact .tup (SqT.of upd_same) (.cons (.str _) (.cons (.int _) .nil))
    | nil =>
      refine ite2 (fun e => absurd (of_decide_eq_true e) (by simp [vm])) (fun _ => ?_)
      obtain ⟨x, y, ev, hx, hy⟩ := id hv2
      obtain ⟨x', y', eu, hx', hy'⟩ := id hu2
      refine ⟨v, rfl, x, _, 1, .ref y, ev, rfl, SqT.of hx, rfl, y, _, rfl, .inr (SqT.of hy), u, rfl, x', _, 1, .ref y', eu, rfl, SqT.of hx', rfl, y', _, rfl, .inr (SqT.of hy'), _, _, rfl, ?_⟩
      refine ⟨_, rfl, _, rfl, rfl, _, rfl, ?_⟩
      rw [vm_len, vm_len]
      by_cases hl : (lotOf n p).length = (lotOf n r).length
      · refine iteNT (by rw [hl]; exact congrArg not (decide_eq_true rfl)) ?_
        have hne := no_turn hW hl
        have pl : (posT n p r).length ≤ 64 := lot_len hn _
        refine ⟨v, rfl, u, rfl, v, u, n, p, r, rfl, hv2, hu2, hn, hne, fun H3 z3 s3 g3 => ?_⟩
        obtain ⟨q3, rfl, h3⟩ := g3
        refine ⟨q3, rfl, ⟨_, SqL.of h3⟩, fun D nD => lcg_list (stay_rw n p r (posT n p r)) nD (SqL.of h3) (by rw [vm_len]; omega) (fun j zz H4 hzz s4 => ?_) (fun H4 pv => ?_)⟩
        · intro R1 R2 h2
          obtain ⟨m, hm, rfl⟩ := mem_vm hzz
          have hm2 : m < 2 ^ n := (mem_lot.mp (List.mem_of_getElem? hm)).1
          refine ⟨rfl, iteT (B := R1 H4) ⟨_, rfl, v, rfl, u, rfl, _, rfl, v, u, n, m, p, r, rfl, (hv2.same s3).same s4, (hu2.same s3).same s4, hn, hm2, blk_ne hW hl hm2, fun H5 s5 => ⟨sz (n := 2) (by decide), fun T nT => h2 _ _ (s5.trans (same_new nT)) ⟨m, hm, T, rfl, upd_same⟩⟩⟩⟩
        · obtain ⟨s4, ys, hD, hyl, hys⟩ := pv
          rw [vm_len] at hyl
          refine ⟨D, _, rfl, .inl ⟨SqL.of hD, fun T nT => ⟨sz (n := 2) (by decide), fun U nU => hq _ _ ((((s2.trans s3).trans s4).trans (same_new nT)).trans (same_new nU)) ⟨⟨U, rfl⟩, ?_⟩⟩⟩⟩
          unfold dVer
          rw [hW]
          dsimp only
          rw [if_pos hl]
          refine .tup (SqT.of upd_same) (.cons (.str _) (.cons (.tup (SqT.of (same_new nU _ _ upd_same)) (DpAll_same (same_new nU) (DpAll_same (same_new nT) (dp_rows hyl hys)))) .nil))
      · refine iteT' (by rw [decide_eq_false]; · rfl
                         · intro z; exact hl (by have := V.int.inj z; omega)) ?_
        refine ⟨_, rfl, _, rfl, sz (n := 3) (by decide), fun T nT => hq _ _ (s2.trans (same_new nT)) ⟨⟨T, rfl⟩, ?_⟩⟩
        unfold dVer
        rw [hW]
        dsimp only
        rw [if_neg hl]
        exact .tup (SqT.of upd_same) (.cons (.str _) (.cons (.int _) (.cons (.int _) .nil)))
end
end XT
/-! is_claim, sizes_hold, is_block, blocks_hold, judge_holds at any data -/
namespace XT
open PySem PySem.Spec PyProof.Rows L2
section
variable {P : Program} {w : World} {K : PySem.W.Frag} {mg : Str → Option Value} {base : Heap}
abbrev nCl : List Str := ["value", "name", "many"]
theorem scCl : FnScope nCl ["value", "name", "many"] (defScope sIsClaim) := ⟨rfl, rfl, rfl, by decide +kernel, rfl, by decide +kernel, by decide +kernel⟩
def spCl (K : PySem.W.Frag) : Sp := fun vs H Q _ => ∃ (v : V) (d : PyData) (s : Str) (k : Nat), vs = [v, .str s, .int (k : Int)] ∧ Dz K H v d ∧ 0 < k ∧ Q (.bl (clmB s k d)) H
theorem ok_cl {f : Addr} {fd : FuncData} {k : Nat} (B : Bl mg) (F : Fun K "is_claim" "is_claim" sIsClaim f fd) : FnOk P w K mg base CX0 (k + 1) f fd ["value", "name", "many"] (spCl K) := by
  refine F.ok scCl (fun vs H Q E h => ?_) (fun cdv A outer s H vs Q E hr h => ?_)
  · obtain ⟨v, d, s, k, rfl, _⟩ := h
    rfl
  · obtain ⟨v, d, s, m, rfl, hd, hm, q⟩ := h
    refine ⟨_, pss_one (ps_ret (pe_and (pe_callB call_isi (by rfl) B.isinstance bI (pa_cons (pv 0) (pa_cons (pe_bltn (v := .ty "tuple") (by rfl) B.tuple bT rfl) pa_nil))) (pe_and (pe_cmpR op_eq (pe_callB call_len_seq (by rfl) B.len PySem.boot_len (pa_cons (pv 0) pa_nil)) (pv 2) (nomark _)) (pe_one (pe_cmpR (op_eqS hr.units0) (pe_ix ix_tup (pv 0) pe_int (fun _ _ => rfl)) (pv 1) (nomark _)))))), ?_⟩
    refine ⟨v, rfl, v, .ty "tuple", _, _, isTp d, rfl, .ty _, hd.ty, kitT d, isTp d, rfl, ?_⟩
    cases hd with
    | non => exact iteF q
    | bl b => exact iteF q
    | int i => exact iteF q
    | str x => exact iteF q
    | lst _ _ _ => exact iteF q
    | dct kvs _ => exact iteF q
    | @tup a xs ds hx all =>
      have hl := all.len
      refine iteT ⟨.ref a, rfl, a, xs, rfl, .inr hx, .int (m : Int), rfl, rfl, _, rfl, ?_⟩
      by_cases h : xs.length = m
      · rw [show decide (V.int (xs.length : Int) = V.int (m : Int)) = true by rw [h]; exact decide_eq_true rfl]
        match ds, xs, all, hl, h, hx, q with
        | [], [], _, _, h, _, _ => exact absurd h (by simp; omega)
        | d0 :: ds, x0 :: xs, .cons h0 hs, hl, h, hx, q =>
          refine iteT ⟨.ref a, rfl, a, _, 0, x0, rfl, rfl, hx, atI_nat (j := 0) rfl, .str s, rfl, d0, s, rfl, h0, ?_⟩
          have e : clmB s m (.tuple (d0 :: ds)) = isS s d0 := by
            show (decide (ds.length + 1 = m) && isS s d0) = _
            rw [decide_eq_true (show ds.length + 1 = m by simp at hl h; omega), Bool.true_and]
          rw [e] at q
          exact q
      · rw [show decide (V.int (xs.length : Int) = V.int (m : Int)) = false by exact decide_eq_false fun e => h (by have := V.int.inj e; omega)]
        refine iteF ?_
        have e : clmB s m (.tuple ds) = false := by
          match ds, hl with
          | [], _ => rfl
          | d0 :: ds, hl =>
            show (decide (ds.length + 1 = m) && isS s d0) = _
            rw [decide_eq_false (show ¬ ds.length + 1 = m by simp at hl; omega), Bool.false_and]
        rw [e] at q
        exact q
abbrev nSh : List Str := ["one", "other", "many", "more"]
theorem scSh : FnScope nSh ["one", "other", "many", "more"] (defScope sSizesHold) := ⟨rfl, rfl, rfl, by decide +kernel, rfl, by decide +kernel, by decide +kernel⟩
def spSh (K : PySem.W.Frag) : Sp := fun vs H Q _ => ∃ (v u x y : V) (n : Nat) (p r : Nat → Bool) (d e : PyData), vs = [v, u, x, y] ∧ LotAt H v n p ∧ LotAt H u n r ∧ Dz K H x d ∧ Dz K H y e ∧ Q (.bl (sizB n p r d e)) H
theorem ok_sh {f : Addr} {fd : FuncData} {k : Nat} (B : Bl mg) (F : Fun K "sizes_hold" "sizes_hold" sSizesHold f fd) (dN : DefR P w K mg base 1 "is_number" (spNumZ K)) : FnOk P w K mg base CX0 (k + 2) f fd ["one", "other", "many", "more"] (spSh K) := by
  refine F.ok scSh (fun vs H Q E h => ?_) (fun cdv A outer s H vs Q E hr h => ?_)
  · obtain ⟨v, u, x, y, n, p, r, d, e, rfl, _⟩ := h
    rfl
  · obtain ⟨v, u, x, y, n, p, r, d, e, rfl, ⟨a, b, rfl, ha, hb⟩, ⟨a', b', rfl, ha', hb'⟩, hx, hy, q⟩ := h
    have hr1 : Room 1 (A.deeper (envOfC "sizes_hold" (defScope sSizesHold) s.heap.objs.size f cdv)) := hr.mono (by omega)
    refine ⟨_, pss_cons (ps_if (PW.pt (pw_or (pt_not (pt_val (pe_def dN hr1 (by rfl) (pa_cons (pv 2) pa_nil)))) (pw_or1 (pt_not (pt_val (pe_def dN hr1 (by rfl) (pa_cons (pv 3) pa_nil))))))) (pss_one (ps_ret pe_bl)) pss_nil)
      (pss_one (ps_ret (pe_and (pe_cmpR op_eq (pv 2) (pe_callB call_len_seq (by rfl) B.len PySem.boot_len (pa_cons (pe_ix ix_tup (pv 0) pe_int (fun _ _ => rfl)) pa_nil)) (nomark _)) (pe_and (pe_cmpR op_eq (pv 3) (pe_callB call_len_seq (by rfl) B.len PySem.boot_len (pa_cons (pe_ix ix_tup (pv 1) pe_int (fun _ _ => rfl)) pa_nil)) (nomark _)) (pe_one (pe_cmpR op_ne (pv 2) (pv 3) (nomark _))))))), ?_⟩
    refine ⟨x, rfl, x, d, rfl, hx, isN d, rfl, ?_⟩
    cases h1 : isN d with
    | false =>
      refine iteT ?_
      have : sizB n p r d e = false := by cases d <;> first | rfl | cases h1
      rw [this] at q
      exact q
    | true =>
    obtain ⟨i, rfl⟩ : ∃ i, d = .int i := by cases d <;> first | exact ⟨_, rfl⟩ | cases h1
    refine iteF ⟨y, rfl, y, e, rfl, hy, isN e, rfl, ?_⟩
    cases h2 : isN e with
    | false =>
      refine iteT ?_
      have : sizB n p r (.int i) e = false := by cases e <;> first | rfl | cases h2
      rw [this] at q
      exact q
    | true =>
    obtain ⟨j, rfl⟩ : ∃ i, e = .int i := by cases e <;> first | exact ⟨_, rfl⟩ | cases h2
    cases hx
    cases hy
    have vi : ∀ a b : Int, decide (V.int a = V.int b) = decide (a = b) := fun a b => decide_eq_decide.mpr ⟨fun e => by cases e; rfl, fun e => by rw [e]⟩
    refine iteF ⟨.int i, rfl, .ref a, rfl, a, _, 1, .ref b, rfl, rfl, SqT.of ha, rfl, b, _, rfl, .inr (SqT.of hb), rfl, _, rfl, ?_⟩
    rw [vm_len, vi]
    have q : Q (.bl (decide (i = ((lotOf n p).length : Int)) && (decide (j = ((lotOf n r).length : Int)) && decide (i ≠ j)))) H := q
    cases c1 : decide (i = ((lotOf n p).length : Int)) with
    | false =>
      rw [c1, Bool.false_and] at q
      exact iteF q
    | true =>
    rw [c1, Bool.true_and] at q
    refine iteT ⟨.int j, rfl, .ref a', rfl, a', _, 1, .ref b', rfl, rfl, SqT.of ha', rfl, b', _, rfl, .inr (SqT.of hb'), rfl, _, rfl, ?_⟩
    rw [vm_len, vi]
    cases c2 : decide (j = ((lotOf n r).length : Int)) with
    | false =>
      rw [c2, Bool.false_and] at q
      exact iteF q
    | true =>
    rw [c2, Bool.true_and] at q
    refine iteT ⟨.int i, rfl, .int j, rfl, rfl, ?_⟩
    rw [vi]
    have : decide (i ≠ j) = !decide (i = j) := by simp
    rw [this] at q
    exact q
abbrev nIb : List Str := ["one", "other", "mask", "row", "item"]
theorem scIb : FnScope nIb ["one", "other", "mask", "row"] (defScope sIsBlock) := ⟨rfl, rfl, rfl, by decide +kernel, rfl, by decide +kernel, by decide +kernel⟩
def spIb (K : PySem.W.Frag) : Sp := fun vs H Q _ => ∃ (v u x : V) (n m : Nat) (p r : Nat → Bool) (d : PyData), vs = [v, u, .int (m : Int), x] ∧ LotAt H v n p ∧ LotAt H u n r ∧ Dz K H x d ∧ ∀ H', Same H H' → Q (.bl (rowB n p r m d)) H'
theorem rowB_len {n m : Nat} {p r : Nat → Bool} {ds : List PyData} (h : ds.length ≠ 2) : rowB n p r m (.tuple ds) = false := by
  match ds, h with
  | [], _ => rfl
  | [x], _ => cases x <;> rfl
  | [_, _], h => exact absurd rfl h
  | x :: y :: _ :: _, _ => cases x <;> first | rfl | (cases y <;> rfl)
theorem ok_ib {f : Addr} {fd : FuncData} {k : Nat} (B : Bl mg) (F : Fun K "is_block" "is_block" sIsBlock f fd) (dN : DefR P w K mg base 1 "is_number" (spNumZ K)) : FnOk P w K mg base CX0 (k + 2) f fd ["one", "other", "mask", "row"] (spIb K) := by
  refine F.ok scIb (fun vs H Q E h => ?_) (fun cdv A outer s H vs Q E hr h => ?_)
  · obtain ⟨v, u, x, n, m, p, r, d, rfl, _⟩ := h
    rfl
  · obtain ⟨v, u, x, n, m, p, r, d, rfl, ⟨a, b, rfl, ha, hb⟩, ⟨a', b', rfl, ha', hb'⟩, hx, q⟩ := h
    have hr1 : Room 1 (A.deeper (envOfC "is_block" (defScope sIsBlock) s.heap.objs.size f cdv)) := hr.mono (by omega)
    refine ⟨_, pss_cons (ps_if (PW.pt (pw_or (pt_not (pt_val (pe_callB call_isi (by rfl) B.isinstance bI (pa_cons (pv 3) (pa_cons (pe_bltn (v := .ty "tuple") (by rfl) B.tuple bT rfl) pa_nil))))) (pw_or (pt_cmpR op_ne (pe_callB call_len_seq (by rfl) B.len PySem.boot_len (pa_cons (pv 3) pa_nil)) pe_int (nomark _)) (pw_or1 (pt_not (pt_val (pe_callB (cr_all rfl) (by rfl) B.all bAll (pa_cons (pe_lc (own := [("item", 4)]) (g := (gName 4)) (tt := tYes) (te := (tDf (spNumZ K) (tCons (tVar 4) tNil))) rfl scIb.nd (pi_tup (pv 3)) (blkOk_by (own := [("item", 4)]) (N := nIb) (sc := defScope sIsBlock) (by decide +kernel))
          (fun _ _ _ _ _ => (pg_name (i := 4) scIb.nd rfl (Or.inl rfl))) (fun _ _ _ _ _ => pts_nil) (fun _ _ _ _ _ => pe_def dN hr1 (by rfl) (pa_cons (pv 4) pa_nil))) pa_nil)))))))) (pss_one (ps_ret pe_bl)) pss_nil)
      (pss_one (ps_ret (pe_and (pe_cmpR op_eq (pe_ix ix_tup (pv 3) pe_int (fun _ _ => rfl)) (pv 2) (nomark _)) (pe_and (pe_cmpR op_in_seq (pe_ix ix_tup (pv 3) pe_int (fun _ _ => rfl)) (pe_ix ix_tup (pv 0) pe_int (fun _ _ => rfl)) (by rfl)) (pe_one (pe_cmpR op_notIn_seq (pe_op op_xor (pe_ix ix_tup (pv 3) pe_int (fun _ _ => rfl)) (pv 2)) (pe_ix ix_tup (pv 1) pe_int (fun _ _ => rfl)) (by rfl))))))), ?_⟩
    have bad : rowB n p r m d = false → ∀ H', Same H H' → Q (.bl false) H' := fun e H' s' => by
      have := q H' s'
      rw [e] at this
      exact this
    refine ⟨x, rfl, x, .ty "tuple", _, _, isTp d, rfl, .ty _, hx.ty, kitT d, isTp d, rfl, ?_⟩
    cases hx with
    | non => exact iteT (bad rfl _ (Same.refl _))
    | bl b => exact iteT (bad rfl _ (Same.refl _))
    | int i => exact iteT (bad rfl _ (Same.refl _))
    | str x => exact iteT (bad rfl _ (Same.refl _))
    | lst _ _ _ => exact iteT (bad rfl _ (Same.refl _))
    | dct kvs _ => exact iteT (bad rfl _ (Same.refl _))
    | @tup c xs ds hc all =>
      have hl := all.len
      refine iteF ⟨.ref c, rfl, c, xs, rfl, .inr hc, rfl, _, rfl, ?_⟩
      by_cases h2 : ds.length = 2
      rotate_left
      · have e : (!decide (V.int (xs.length : Int) = V.int 2)) = true := by
          rw [decide_eq_false fun e => h2 (by have := V.int.inj e; omega)]
          rfl
        rw [e]
        exact iteT (bad (rowB_len h2) _ (Same.refl _))
      match ds, h2 with
      | [d1, d2], _ =>
      cases all with
      | @cons v1 _ _ _ hz1 all2 =>
      cases all2 with
      | @cons v2 _ _ _ hz2 all3 =>
      cases all3
      have all0 : DzAll K H [v1, v2] [d1, d2] := .cons hz1 (.cons hz2 .nil)
      refine iteNS rfl ⟨.ref c, rfl, c, rfl, ⟨_, hc⟩, fun D nD => lcp_tup (p := fun _ => true) (f := fun v => .bl (nV v)) nD hc (small64 (show 2 ≤ 1000 by decide)) (fun j z H3 hz s3 => ?_) (fun H3 s3 hD => ?_)⟩
      · intro R1 R2 h1 h2
        obtain ⟨dz, _, hdz⟩ := all0.at hz
        refine ⟨rfl, iteT (B := R1 H3) ⟨z, rfl, z, dz, rfl, hdz.same s3, ?_⟩⟩
        rw [dz_nV hdz]
        exact h2 rfl _ (Same.refl _)
      refine ⟨D, [nV v1, nV v2], rfl, SqL.of hD, _, rfl, ?_⟩
      have h1 := dz_nV hz1
      have h2 := dz_nV hz2
      have hc3 := Same.sqT s3 hc
      have ha3 := s3 _ _ ha
      have hb3 := s3 _ _ hb
      have ha3' := s3 _ _ ha'
      have hb3' := s3 _ _ hb'
      cases e1 : nV v1 with
      | false =>
        refine iteT (bad ?_ _ s3)
        rw [e1] at h1
        cases d1 <;> first | rfl | cases h1
      | true =>
      obtain ⟨i, rfl⟩ : ∃ i, d1 = .int i := by rw [e1] at h1; cases d1 <;> first | exact ⟨_, rfl⟩ | cases h1
      cases e2 : nV v2 with
      | false =>
        refine iteT (bad ?_ _ s3)
        rw [e2] at h2
        cases d2 <;> first | rfl | cases h2
      | true =>
      obtain ⟨j, rfl⟩ : ∃ i, d2 = .int i := by rw [e2] at h2; cases d2 <;> first | exact ⟨_, rfl⟩ | cases h2
      cases hz1
      cases hz2
      have vi : ∀ a b : Int, decide (V.int a = V.int b) = decide (a = b) := fun a b => decide_eq_decide.mpr ⟨fun e => by cases e; rfl, fun e => by rw [e]⟩
      have q : ∀ H', Same H H' → Q (.bl (decide (i = (m : Int)) && (inV (.int j) (vm (lotOf n p)) && !inV (.int (Builtin.bitXor j (m : Int))) (vm (lotOf n r))))) H' := q
      refine iteF ⟨.ref c, rfl, c, _, 0, .int i, rfl, rfl, hc3, atI_nat (j := 0) rfl, .int (m : Int), rfl, rfl, _, rfl, ?_⟩
      rw [vi]
      cases c1 : decide (i = (m : Int)) with
      | false =>
        rw [c1, Bool.false_and] at q
        exact iteF (q _ s3)
      | true =>
      rw [c1, Bool.true_and] at q
      refine iteT ⟨.ref c, rfl, c, _, 1, .int j, rfl, rfl, hc3, atI_nat (j := 1) rfl, .ref a, rfl, a, _, 1, .ref b, rfl, rfl, SqT.of ha3, rfl, b, _, rfl, .inr (SqT.of hb3), rfl, vm_flat _, _, rfl, ?_⟩
      show if inV (.int j) (vm (lotOf n p)) = true then _ else _
      cases c2 : inV (.int j) (vm (lotOf n p)) with
      | false =>
        rw [c2, Bool.false_and] at q
        exact iteF (q _ s3)
      | true =>
      rw [c2, Bool.true_and] at q
      exact iteT ⟨.ref c, rfl, c, _, 1, .int j, rfl, rfl, hc3, atI_nat (j := 1) rfl, .int (m : Int), rfl, j, (m : Int), rfl, rfl, .ref a', rfl, a', _, 1, .ref b', rfl, rfl, SqT.of ha3', rfl, b', _, rfl, .inr (SqT.of hb3'), rfl, vm_flat _, q _ s3⟩
abbrev nBh : List Str := ["one", "other", "rows", "mask", "row"]
theorem scBh : FnScope nBh ["one", "other", "rows"] (defScope sBlocksHold) := ⟨rfl, rfl, rfl, by decide +kernel, rfl, by decide +kernel, by decide +kernel⟩
def spBh (K : PySem.W.Frag) : Sp := fun vs H Q _ => ∃ (v u x : V) (n : Nat) (p r : Nat → Bool) (d : PyData), vs = [v, u, x] ∧ LotAt H v n p ∧ LotAt H u n r ∧ n ≤ 6 ∧ Dz K H x d ∧ ∀ H', Same H H' → Q (.bl (blkB n p r (posT n p r) d)) H'
theorem posT_len {n : Nat} {p r : Nat → Bool} (h : lotOf n p ≠ []) : (posT n p r).length = (lotOf n r).length := by
  obtain ⟨t, et⟩ := head_of h
  have ha : fstN n p < 2 ^ n := (mem_lot.mp (show fstN n p ∈ lotOf n p by rw [et]; exact List.mem_cons_self)).1
  exact lot_len_xor ha
theorem all_zip {f : Nat → PyData → Bool} : ∀ {ms : List Nat} {ds : List PyData}, ms.length = ds.length → ((List.range ms.length).map fun i => f (ms.getD i 0) (ds.getD i .none)).all id = (ms.zip ds).all fun z => f z.1 z.2
  | [], [], _ => rfl
  | m :: ms, d :: ds, h => by
    have ih := all_zip (f := f) (ms := ms) (ds := ds) (Nat.succ.inj h)
    rw [List.length_cons, List.range_succ_eq_map, List.map_cons, List.map_map, List.all_cons, List.zip_cons_cons, List.all_cons, ← ih]
    rfl
theorem ok_bh {f : Addr} {fd : FuncData} {k : Nat} (B : Bl mg) (mZ : mg "zip" = none) (F : Fun K "blocks_hold" "blocks_hold" sBlocksHold f fd) (dP : DefR P w K mg base 1 "possible_turns" spPT) (dI : DefR P w K mg base 2 "is_block" (spIb K)) : FnOk P w K mg base CX0 (k + 3) f fd ["one", "other", "rows"] (spBh K) := by
  refine F.ok scBh (fun vs H Q E h => ?_) (fun cdv A outer s H vs Q E hr h => ?_)
  · obtain ⟨v, u, x, n, p, r, d, rfl, _⟩ := h
    rfl
  · obtain ⟨v, u, x, n, p, r, d, rfl, hv, hu, hn, hx, q⟩ := h
    have hr1 : Room 1 (A.deeper (envOfC "blocks_hold" (defScope sBlocksHold) s.heap.objs.size f cdv)) := hr.mono (by omega)
    have hr2 : Room 2 (A.deeper (envOfC "blocks_hold" (defScope sBlocksHold) s.heap.objs.size f cdv)) := hr.mono (by omega)
    refine ⟨_, pss_cons (ps_if (PW.pt (pw_or (pt_cmpR op_eq (pe_callB call_len_seq (by rfl) B.len PySem.boot_len (pa_cons (pe_ix ix_tup (pv 0) pe_int (fun _ _ => rfl)) pa_nil)) pe_int (nomark _)) (pw_or1 (pt_cmpR op_eq (pe_callB call_len_seq (by rfl) B.len PySem.boot_len (pa_cons (pe_ix ix_tup (pv 1) pe_int (fun _ _ => rfl)) pa_nil)) pe_int (nomark _))))) (pss_one (ps_ret pe_bl)) pss_nil)
      (pss_cons (ps_if (PW.pt (pw_or (pt_not (pt_val (pe_callB call_isi (by rfl) B.isinstance bI (pa_cons (pv 2) (pa_cons (pe_bltn (v := .ty "tuple") (by rfl) B.tuple bT rfl) pa_nil))))) (pw_or1 (pt_cmpR op_ne (pe_callB call_len_seq (by rfl) B.len PySem.boot_len (pa_cons (pv 2) pa_nil)) (pe_callB call_len_seq (by rfl) B.len PySem.boot_len (pa_cons (pe_ix ix_tup (pv 1) pe_int (fun _ _ => rfl)) pa_nil)) (nomark _))))) (pss_one (ps_ret pe_bl)) pss_nil)
      (pss_one (ps_ret (pe_callB (cr_all rfl) (by rfl) B.all bAll (pa_cons (pe_lc (own := [("mask", 3), ("row", 4)]) (g := (gTup K 2 (gCons (gName 3) (gCons (gName 4) gNil)))) (tt := tYes) (te := (tDf (spIb K) (tCons (tVar 0) (tCons (tVar 1) (tCons (tVar 3) (tCons (tVar 4) tNil)))))) rfl scBh.nd (pi_zipLT (by rfl) mZ (pa_cons (pe_def dP hr1 (by rfl) (pa_cons (pv 0) (pa_cons (pv 1) pa_nil))) (pa_cons (pv 2) pa_nil))) (blkOk_by (own := [("mask", 3), ("row", 4)]) (N := nBh) (sc := defScope sBlocksHold) (by decide +kernel))
          (fun _ _ _ _ _ => (pg_tup rfl (pgs_cons (pg_name (i := 3) scBh.nd rfl (Or.inl rfl)) (pgs_cons (pg_name (i := 4) scBh.nd rfl (Or.inl rfl)) pgs_nil)))) (fun _ _ _ _ _ => pts_nil) (fun _ _ _ _ _ => pe_def dI hr2 (by rfl) (pa_cons (pv 0) (pa_cons (pv 1) (pa_cons (pv 3) (pa_cons (pv 4) pa_nil)))))) pa_nil))))), ?_⟩
    have bad : blkB n p r (posT n p r) d = false → ∀ H', Same H H' → Q (.bl false) H' := fun e H' s' => by
      have := q H' s'
      rw [e] at this
      exact this
    obtain ⟨a, b, ev, ha, hb⟩ := id hv
    obtain ⟨a', b', eu, ha', hb'⟩ := id hu
    have z0 : ∀ l : List Nat, decide (V.int ((vm l).length : Nat) = V.int 0) = decide (l = []) := fun l => decide_eq_decide.mpr ⟨fun e => by
      have e := V.int.inj e
      rw [vm_len] at e
      exact List.eq_nil_of_length_eq_zero (by omega), fun e => by rw [e]; rfl⟩
    refine ⟨v, rfl, a, _, 1, .ref b, ev, rfl, SqT.of ha, rfl, b, _, rfl, .inr (SqT.of hb), rfl, _, rfl, ?_⟩
    rw [z0]
    by_cases hp : lotOf n p = []
    · rw [decide_eq_true hp]
      exact iteT (bad (by cases d <;> first | rfl | simp [blkB, hp]) _ (Same.refl _))
    rw [decide_eq_false hp]
    refine iteF ⟨u, rfl, a', _, 1, .ref b', eu, rfl, SqT.of ha', rfl, b', _, rfl, .inr (SqT.of hb'), rfl, _, rfl, ?_⟩
    rw [z0]
    by_cases hr' : lotOf n r = []
    · rw [decide_eq_true hr']
      exact iteT (bad (by cases d <;> first | rfl | simp [blkB, hr']) _ (Same.refl _))
    rw [decide_eq_false hr']
    refine iteF ⟨x, rfl, x, .ty "tuple", _, _, isTp d, rfl, .ty _, hx.ty, kitT d, isTp d, rfl, ?_⟩
    cases hx with
    | non => exact iteT (bad rfl _ (Same.refl _))
    | bl b => exact iteT (bad rfl _ (Same.refl _))
    | int i => exact iteT (bad rfl _ (Same.refl _))
    | str x => exact iteT (bad rfl _ (Same.refl _))
    | lst _ _ _ => exact iteT (bad rfl _ (Same.refl _))
    | dct kvs _ => exact iteT (bad rfl _ (Same.refl _))
    | @tup c xs ds hc all =>
      have hl := all.len
      refine iteF ⟨.ref c, rfl, c, xs, rfl, .inr hc, u, rfl, a', _, 1, .ref b', eu, rfl, SqT.of ha', rfl, b', _, rfl, .inr (SqT.of hb'), rfl, _, rfl, ?_⟩
      have eB : blkB n p r (posT n p r) (.tuple ds) = (decide (ds.length = (lotOf n r).length) && ((posT n p r).zip ds).all fun z => rowB n p r z.1 z.2) := by
        show (decide (lotOf n p ≠ []) && decide (lotOf n r ≠ []) && _) = _
        rw [decide_eq_true hp, decide_eq_true hr', Bool.true_and, Bool.true_and]
      by_cases h2 : ds.length = (lotOf n r).length
      rotate_left
      · have e : (!decide (V.int (xs.length : Int) = V.int ((vm (lotOf n r)).length : Nat))) = true := by
          rw [decide_eq_false fun e => h2 (by have := V.int.inj e; rw [vm_len] at this; omega)]
          rfl
        rw [e]
        refine iteT (bad ?_ _ (Same.refl _))
        rw [eB, decide_eq_false h2, Bool.false_and]
      have e : (!decide (V.int (xs.length : Int) = V.int ((vm (lotOf n r)).length : Nat))) = false := by
        rw [vm_len, decide_eq_true (show V.int (xs.length : Int) = V.int ((lotOf n r).length : Nat) by rw [hl, h2])]
        rfl
      rw [e]
      rw [decide_eq_true h2, Bool.true_and] at eB
      refine iteF ⟨v, rfl, u, rfl, v, u, n, p, r, rfl, hv, hu, hn, hp, fun H2 z s2 hz => ?_⟩
      obtain ⟨L, rfl, hL⟩ := hz
      have pl := posT_len (r := r) hp
      have rl := lot_len hn r
      refine ⟨.ref c, rfl, L, c, _, _, rfl, SqL.of hL, Same.sqT s2 hc, fun D nD => ?_⟩
      refine lcn_zipLT (f := fun i => .bl (rowB n p r ((posT n p r).getD i 0) (ds.getD i .none))) (by rw [vm_len]; omega) nD (SqL.of hL) (Same.sqT s2 hc) (small64 (by rw [vm_len]; omega)) (fun i x y T H3 hx hy s3 nT R1 R2 h2' => ?_) (fun H3 s3 hD => ?_)
      · obtain ⟨mm, hm, rfl⟩ := mem_vm hx
        obtain ⟨dy, hdy, hzy⟩ := all.at hy
        refine ⟨T, _, rfl, SqT.of upd_same, rfl, _, _, rfl, _, _, rfl, rfl, rfl, iteT (B := R1 (upd H3 T (.tup [.int (mm : Int), y]))) ⟨v, rfl, u, rfl, .int (mm : Int), rfl, y, rfl, v, u, y, n, mm, p, r, dy, rfl, ((hv.same s2).same s3).same (same_new nT), ((hu.same s2).same s3).same (same_new nT), ((hzy.same s2).same s3).same (same_new nT), fun H4 s4 => ?_⟩⟩
        have e1 : (posT n p r).getD i 0 = mm := by rw [List.getD_eq_getElem?_getD, hm]; rfl
        have e2 : ds.getD i .none = dy := by rw [List.getD_eq_getElem?_getD, hdy]; rfl
        have := h2' H4 ((same_new nT).trans s4)
        rw [e1, e2] at this
        exact this
      · refine ⟨D, (List.range (posT n p r).length).map fun i => rowB n p r ((posT n p r).getD i 0) (ds.getD i .none), rfl, SqL.of ?_, ?_⟩
        · rw [hD, vm_len, List.map_map]
          rfl
        have e3 : ((List.range (posT n p r).length).map fun i => rowB n p r ((posT n p r).getD i 0) (ds.getD i .none)).all id = ((posT n p r).zip ds).all fun z => rowB n p r z.1 z.2 := all_zip (by omega)
        rw [e3, ← eB]
        exact q _ (s2.trans s3)
theorem trn_no {n : Nat} {p r : Nat → Bool} {d : PyData} (h : ¬ isM n d = true) : trnB n p r d = false := by
  cases d with
  | int i =>
    show (isM n (.int i) && decide (∀ m, m < 2 ^ n → p (m ^^^ i.toNat) = r m)) = false
    rw [eq_false_of_ne_true h, Bool.false_and]
  | _ => rfl
theorem trn_yes {n i : Nat} {p r : Nat → Bool} (h : isM n (.int (i : Int)) = true) : trnB n p r (.int (i : Int)) = decide (∀ m, m < 2 ^ n → p (m ^^^ i) = r m) := by
  show (isM n (.int (i : Int)) && decide (∀ m, m < 2 ^ n → p (m ^^^ i) = r m)) = _
  rw [h, Bool.true_and]
abbrev nJh : List Str := ["one", "other", "value", "width"]
theorem scJh : FnScope nJh ["one", "other", "value"] (defScope sJudgeHolds) := ⟨rfl, rfl, rfl, by decide +kernel, rfl, by decide +kernel, by decide +kernel⟩
def spJh (K : PySem.W.Frag) (CW : Addr) : Sp := fun vs H Q E => ∃ (a b : Lt) (x : V) (d : PyData), vs = [a.v, b.v, x] ∧ LtAt H a ∧ LtAt H b ∧ Dz K H x d ∧ (a.n = b.n → ∀ H', Same H H' → Q (.bl (jhB a.n a.p b.p (posT a.n a.p b.p) d)) H') ∧
  (a.n ≠ b.n → ∀ H' dd, Same H H' → H' dd = some (.xd [("index", .int 1)]) → E (.ref CW) (some dd) H')
theorem ok_jh {f CN CW : Addr} {fd : FuncData} {k : Nat} (B : Bl mg) (F : Fun K "judge_holds" "judge_holds" sJudgeHolds f fd) (dW : DefX P w K mg base 3 "common_width" (spWd K CN CW)) (dC : DefR P w K mg base 1 "is_claim" (spCl K)) (dM : DefR P w K mg base 2 "is_mask" (spMaskZ K)) (dT : DefR P w K mg base 3 "turned" spTurned)
    (dS : DefR P w K mg base 2 "sizes_hold" (spSh K)) (dB : DefR P w K mg base 3 "blocks_hold" (spBh K)) : FnOk P w K mg base (L2.CX P w) (k + 4) f fd ["one", "other", "value"] (spJh K CW) := by
  refine F.okX scJh (fun vs H Q E h => ?_) (fun cdv A outer s H vs Q E hr h => ?_)
  · obtain ⟨a, b, x, d, rfl, _⟩ := h
    rfl
  · obtain ⟨⟨v, n, p⟩, ⟨u, n', r⟩, x, d, rfl, hv, hu, hx, q, qe⟩ := h
    dsimp only at q qe ⊢
    have hr1 : Room 1 (A.deeper (envOfC "judge_holds" (defScope sJudgeHolds) s.heap.objs.size f cdv)) := hr.mono (by omega)
    have hr2 : Room 2 (A.deeper (envOfC "judge_holds" (defScope sJudgeHolds) s.heap.objs.size f cdv)) := hr.mono (by omega)
    have hr3 : Room 3 (A.deeper (envOfC "judge_holds" (defScope sJudgeHolds) s.heap.objs.size f cdv)) := hr.mono (by omega)
    refine ⟨_, pss_cons (ps_set (i := 3) scJh.nd rfl (by first | exact Or.inl rfl | exact Or.inr rfl) (pe_defX dW hr3 (by rfl) (takes_of rfl rfl rfl rfl) (pa_cons (pe_tup (pa_cons (pv 0) (pa_cons (pv 1) pa_nil))) pa_nil)))
      (PSs.nox (pss_cons (ps_if (pt_val (pe_def dC hr1 (by rfl) (pa_cons (pv 2) (pa_cons pe_str (pa_cons pe_int pa_nil))))) (pss_one (ps_ret (pe_and (pe_def dM hr2 (by rfl) (pa_cons (pe_ix ix_tup (pv 2) pe_int (fun _ _ => rfl)) (pa_cons (pv 3) pa_nil))) (pe_one (pe_cmpR (op_eqD hr.units) (pe_def dT hr3 (by rfl) (pa_cons (pv 0) (pa_cons (pe_ix ix_tup (pv 2) pe_int (fun _ _ => rfl)) pa_nil))) (pv 1) (nomark _)))))) pss_nil)
      (pss_cons (ps_if (pt_val (pe_def dC hr1 (by rfl) (pa_cons (pv 2) (pa_cons pe_str (pa_cons pe_int pa_nil))))) (pss_one (ps_ret (pe_def dS hr2 (by rfl) (pa_cons (pv 0) (pa_cons (pv 1) (pa_cons (pe_ix ix_tup (pv 2) pe_int (fun _ _ => rfl)) (pa_cons (pe_ix ix_tup (pv 2) pe_int (fun _ _ => rfl)) pa_nil))))))) pss_nil)
      (pss_cons (ps_if (pt_val (pe_def dC hr1 (by rfl) (pa_cons (pv 2) (pa_cons pe_str (pa_cons pe_int pa_nil))))) (pss_one (ps_ret (pe_def dB hr3 (by rfl) (pa_cons (pv 0) (pa_cons (pv 1) (pa_cons (pe_ix ix_tup (pv 2) pe_int (fun _ _ => rfl)) pa_nil)))))) pss_nil)
      (pss_one (ps_ret pe_bl)))))), ?_⟩
    refine ⟨v, rfl, u, rfl, sz (n := 2) (by decide), fun T nT => ?_⟩
    have sT := same_new (o := .tup [v, u]) nT
    refine ⟨T, [⟨v, n, p⟩, ⟨u, n', r⟩], rfl, SqT.of upd_same, fun l hl => ?_, (fun z => nomatch z), fun l0 rr e0 => ?_⟩
    · rcases List.mem_cons.mp hl with rfl | hl
      · exact hv.same sT
      · rw [List.mem_singleton.mp hl]; exact hu.same sT
    cases e0
    refine ⟨fun hall H2 s2 => ?_, fun i hi H' d sm hd => ?_⟩
    rotate_left
    · obtain ⟨⟨l, hl, hne⟩, hj⟩ := hi
      match i, hl, hj, hd with
      | 0, hl, hj, hd => cases hl; exact absurd rfl hne
      | 1, hl, hj, hd => cases hl; exact qe (fun z => hne z.symm) H' d (sT.trans sm) hd
      | i + 2, hl, hj, hd => cases hl
    have en : n = n' := (hall ⟨u, n', r⟩ (List.mem_cons_of_mem _ List.mem_cons_self)).symm
    subst en
    have hn := hv.2.2
    have hv2 := (hv.1.same sT).same s2
    have hu2 := (hu.1.same sT).same s2
    have hx2 := (hx.same sT).same s2
    have q := q rfl
    dsimp only at hn hv2 hu2
    have s02 := sT.trans s2
    refine ⟨x, rfl, x, d, "turn", 2, rfl, hx2, by decide, _, rfl, ?_⟩
    by_cases c1 : clmB "turn" 2 d = true
    · rw [jhB1 c1] at q
      refine iteT' c1 ?_
      obtain ⟨c, xs, ds, rfl, rfl, hc, all, hl⟩ := clm_tup c1 hx2
      obtain ⟨x0, x1, d0, d1, rfl, rfl, h0, h1⟩ := dz_two all hl
      refine ⟨.ref c, rfl, c, _, 1, x1, rfl, rfl, hc, atI_nat (j := 1) rfl, .int (n : Int), rfl, x1, d1, n, rfl, h1, hn, _, rfl, ?_⟩
      have q : ∀ H', Same H H' → Q (.bl (trnB n p r d1)) H' := q
      cases hm : isM n d1 with
      | false =>
        have := q _ s02
        rw [trn_no (by rw [hm]; decide)] at this
        exact iteF this
      | true =>
        obtain ⟨i, rfl, hi⟩ := isM_int hm
        cases h1
        refine iteT ⟨v, rfl, .ref c, rfl, c, _, 1, .int (i : Int), rfl, rfl, hc, atI_nat (j := 1) rfl, v, n, i, p, rfl, hv2, hn, hi, fun H3 z s3 hz _ => ⟨u, rfl, eq_lots hz (hu2.same s3) ?_⟩⟩
        have := q _ (s02.trans s3)
        rw [trn_yes hm] at this
        exact this
    refine iteNB c1 ⟨x, rfl, x, d, "sizes", 3, rfl, hx2, by decide, _, rfl, ?_⟩
    by_cases c2 : clmB "sizes" 3 d = true
    · rw [jhB2 c1 c2] at q
      refine iteT' c2 ?_
      obtain ⟨c, xs, ds, rfl, rfl, hc, all, hl⟩ := clm_tup c2 hx2
      obtain ⟨x0, x1, x2, d0, d1, d2, rfl, rfl, h0, h1, h2⟩ := dz_three all hl
      exact ⟨v, rfl, u, rfl, .ref c, rfl, c, _, 1, x1, rfl, rfl, hc, atI_nat (j := 1) rfl, .ref c, rfl, c, _, 2, x2, rfl, rfl, hc, atI_nat (j := 2) rfl, v, u, x1, x2, n, p, r, d1, d2, rfl, hv2, hu2, h1, h2, q _ s02⟩
    refine iteNB c2 ⟨x, rfl, x, d, "blocks", 2, rfl, hx2, by decide, _, rfl, ?_⟩
    by_cases c3 : clmB "blocks" 2 d = true
    · rw [jhB3 c1 c2 c3] at q
      refine iteT' c3 ?_
      obtain ⟨c, xs, ds, rfl, rfl, hc, all, hl⟩ := clm_tup c3 hx2
      obtain ⟨x0, x1, d0, d1, rfl, rfl, h0, h1⟩ := dz_two all hl
      exact ⟨v, rfl, u, rfl, .ref c, rfl, c, _, 1, x1, rfl, rfl, hc, atI_nat (j := 1) rfl, v, u, x1, n, p, r, d1, rfl, hv2, hu2, hn, h1, fun H3 s3 => q _ (s02.trans s3)⟩
    rw [jhB4 c1 c2 c3] at q
    exact iteNB c3 (q _ s02)
end
end XT
/-! operators, len, in, truth, subscript and call by an own class's methods -/
namespace XT
open PySem PySem.Spec PyProof.Rows L2
/-- the class C has the method at f -/
structure Has (K : PySem.W.Frag) (C : Addr) (nm : Str) (f : Addr) : Prop where
  at_ : PySem.W.findIn K (.ref C) nm = some (some (.ref f))
  fn : PySem.W.isFn K (.ref f) = true
/-- a def, called by values -/
abbrev Met (P : Program) (w : World) (K : PySem.W.Frag) (mg : Str → Option Value) (base : Heap) (k : Nat) (f : Addr) (sp : Sp) : Prop := FnR P w K mg base CX0 k f sp
theorem Met.of {P : Program} {w : World} {K : PySem.W.Frag} {mg : Str → Option Value} {base : Heap} {k : Nat} {sp : Sp} {f : Addr} {fd : FuncData} {ps : List Str} (F : FnOk P w K mg base CX0 k f fd ps sp) (b : Binds K fd ps []) : Met P w K mg base k f sp :=
  (FnOk.raw F b .nil).imp fun vs H Q E h => by rw [List.append_nil]; exact h
/-- an instance of C with these fields -/
def InsAt (H : Hp) (C : Addr) (v : V) (fs : List (Str × V)) : Prop := ∃ a dx, v = .ref a ∧ H a = some (.ins C dx fs)
theorem InsAt.same {H H' : Hp} {C : Addr} {v : V} {fs : List (Str × V)} (h : InsAt H C v fs) (e : Same H H') : InsAt H' C v fs := by
  obtain ⟨a, dx, rfl, h⟩ := h
  exact ⟨a, dx, rfl, e _ _ h⟩
section
variable {X : Cx} {pins : List (Addr × Obj)} {σ : L2.St} {H : Hp} {s : Shared} {j : Nat} {f C : Addr} {sp : Sp} {us : List Value} {vs : List V} {Q : VK}
theorem run_met (F : Met X.prog X.w X.K X.mg X.base j f sp) (hr : Room j X.A) (I : Inv X pins σ H s) (r : Vals vs us) (q : sp vs H Q E0) : wpAny (model X.prog X.w) X.A (call (.ref f) us) (EP X pins σ Q) X.xe s := by
  refine wpAny_call (codeAny_mono (run_fnR F hr pass0 I r q) fun r s2 z => ?_)
  match r, z with
  | .ok (.ret v), z => exact z
  | .ok .next, z => exact z.elim
  | .ok .brk, z => exact z.elim
  | .ok .cont, z => exact z.elim
  | .error e, z => exact z
theorem run_met1 (F : Met X.prog X.w X.K X.mg X.base j f sp) (hr : Room (j + 1) X.A) (I : Inv X pins σ H s) (r : Vals vs us) (q : sp vs H Q E0) : wpAny (model X.prog X.w) X.A.in1 (call (.ref f) us) (EP X pins σ Q) X.xe s := by
  refine wpAny_call (codeAny_mono (F X.A.in1 X.stack s H us vs Q E0 hr.in1 I.env0.in1 r q) fun r s2 hq => ?_)
  match r, hq with
  | .ok (.ret v), hq => exact I.after hq
  | .ok .next, hq => exact False.elim hq
  | .ok .brk, hq => exact False.elim hq
  | .ok .cont, hq => exact False.elim hq
  | .error e, hq => exact pass0 pins σ H s e s2 I hq
theorem inst_at (I : Inv X pins σ H s) {a dx : Addr} {fs : List (Str × V)} (h : H a = some (.ins C dx fs)) : ∃ od, PySem.W.InstAt s.heap a (PySem.W.instObj C dx) C (some od) := by
  obtain ⟨mA, O, _⟩ := ins_get I.hok h
  obtain ⟨od, J, _⟩ := O.look
  exact ⟨od, J⟩
theorem back_ok {u : Value} {s' : Shared} (h : EP X pins σ Q u s') : PySem.W.CmpBack (EP X pins σ Q) u s' := by
  obtain ⟨v, H', I, r, q⟩ := id h
  cases v with
  | non => cases r; exact h
  | bl b => cases r; exact h
  | int i => obtain ⟨t, rfl⟩ := r; exact h
  | str x => obtain ⟨t, rfl⟩ := r; exact h
  | byt x => obtain ⟨t, rfl⟩ := r; exact h
  | flt x => obtain ⟨t, rfl⟩ := r; exact h
  | ref a => cases r; exact h
  | ty n => cases r; exact h
/-- a op b, both of the class C -/
def rOwn (C : Addr) (sp : Sp) : R2 := fun x y H Q => (∃ fs, InsAt H C x fs) ∧ (∃ fs, InsAt H C y fs) ∧ sp [x, y] H Q E0
theorem op_own {op : Operator} (F : Met X.prog X.w X.K X.mg X.base j f sp) (hr : Room j X.A) (hc : PySem.W.selfFirst X.K C = true) (h : Has X.K C (PySem.dunder op.info.2) f) : OpR X (binaryOp op) (rOwn C sp) := by
  intro pins s σ H x y v u Q I rx ry ⟨⟨fs, a, dx, ex, ha⟩, ⟨fs', b, dx', ey, hb⟩, q⟩
  subst ex ey
  cases rx
  cases ry
  obtain ⟨od, J⟩ := inst_at I ha
  obtain ⟨od', J'⟩ := inst_at I hb
  obtain ⟨m, fr⟩ := I.fr
  exact PySem.W.binop_K fr I.ok.mod.kin J J'.type hc h.at_ h.fn (wpAny_mono (run_met (vs := [.ref a, .ref b]) F hr I (.cons rfl (.cons rfl .nil)) q) (fun _ _ z => back_ok z) fun _ _ z => z)
/-- a op i, an int -/
def rOwnI (C : Addr) (sp : Sp) : R2 := fun x y H Q => (∃ fs, InsAt H C x fs) ∧ (∃ i : Int, y = .int i) ∧ sp [x, y] H Q E0
theorem op_ownI {op : Operator} {fo ro : Option Value} (F : Met X.prog X.w X.K X.mg X.base j f sp) (hr : Room j X.A) (hc : PySem.W.selfFirst X.K C = true) (h : Has X.K C (PySem.dunder op.info.2) f) (hn : PySem.W.findIn X.K (.ref C) (dunderR op.info.2) = some none)
    (h1 : PySem.W.findIn X.K (.type "int") (PySem.dunder op.info.2) = some fo) (h2 : PySem.W.findIn X.K (.type "int") (dunderR op.info.2) = some ro) (hs : PySem.W.subIn X.K (.type "int") (.ref C) = some false) : OpR X (binaryOp op) (rOwnI C sp) := by
  intro pins s σ H x y v u Q I rx ry ⟨⟨fs, a, dx, ex, ha⟩, ⟨i, ey⟩, q⟩
  subst ex ey
  cases rx
  obtain ⟨t, rfl⟩ := id ry
  obtain ⟨od, J⟩ := inst_at I ha
  obtain ⟨m, fr⟩ := I.fr
  exact PySem.W.ksp_binT (T := "int") fr I.ok.mod.kin J rfl hc h.at_ h.fn hn (.inl rfl) h1 h2 hs (wpAny_mono (run_met (vs := [.ref a, .int i]) F hr I (.cons rfl (.cons ry .nil)) q) (fun _ _ z => back_ok z) fun _ _ z => z)
/-- ~a -/
def rOwn1 (C : Addr) (sp : Sp) : V → Hp → VK → Prop := fun x H Q => (∃ fs, InsAt H C x fs) ∧ sp [x] H Q E0
theorem un_inv (F : Met X.prog X.w X.K X.mg X.base j f sp) (hr : Room j X.A) (h : Has X.K C "__invert__" f) : UnR X (unaryOp .Invert) (rOwn1 C sp) := by
  intro pins s σ H x v Q I rx ⟨⟨fs, a, dx, ex, ha⟩, q⟩
  subst ex
  cases rx
  obtain ⟨od, J⟩ := inst_at I ha
  obtain ⟨m, fr⟩ := I.fr
  exact PySem.W.ksp_inv fr I.ok.mod.kin J h.at_ h.fn (run_met (vs := [.ref a]) F hr I (.cons rfl .nil) q)
/-- len(a) -/
def rOwnLen (C : Addr) (sp : Sp) : List V → Hp → VK → Prop := fun xs H Q => ∃ x, xs = [x] ∧ (∃ fs, InsAt H C x fs) ∧ sp [x] H (fun v H' => ∃ n : Nat, v = .int (n : Int) ∧ n < 1000000 ∧ Q (.int (n : Int)) H') E0
theorem cr_ownLen (F : Met X.prog X.w X.K X.mg X.base j f sp) (hr : Room (j + 1) X.A) (h : Has X.K C "__len__" f) : CallR X (.builtin "len") (rOwnLen C sp) := by
  intro pins s σ H xs us Q I r ⟨x, exs, ⟨fs, a, dx, ex, ha⟩, q⟩
  subst exs ex
  rw [Vals.ref1 r]
  obtain ⟨od, J⟩ := inst_at I ha
  obtain ⟨m, fr⟩ := I.fr
  refine PySem.W.len_K fr I.ok.mod.kin J h.at_ h.fn (wpAny_mono (run_met1 (vs := [.ref a]) F hr I (.cons rfl .nil) q) (fun u s' z => ?_) fun _ _ z => z)
  obtain ⟨v, H', I', rv, n, ev, hn, q'⟩ := z
  subst ev
  obtain ⟨t, rfl⟩ := rv
  refine ⟨⟨by omega, by omega⟩, ?_⟩
  exact ⟨.int (n : Int), H', I'.tok _, ⟨_, rfl⟩, q'⟩
/-- v in a -/
def rOwnIn (C : Addr) (sp : Sp) (neg : Bool) : R2 := fun x y H Q => (∃ fs, InsAt H C y fs) ∧ sp [y, x] H (fun v H' => ∃ b : Bool, v = .bl b ∧ Q (.bl (if neg then !b else b)) H') E0
theorem op_ownIn (F : Met X.prog X.w X.K X.mg X.base j f sp) (hr : Room j X.A) (h : Has X.K C "__contains__" f) : OpR X (compareOp .In) (rOwnIn C sp false) := by
  intro pins s σ H x y v u Q I rx ry ⟨⟨fs, a, dx, ey, ha⟩, q⟩
  subst ey
  cases ry
  obtain ⟨od, J⟩ := inst_at I ha
  obtain ⟨m, fr⟩ := I.fr
  refine PySem.W.in_K fr I.ok.mod.kin J h.at_ h.fn (wpAny_mono (run_met (vs := [.ref a, x]) F hr I (.cons rfl (.cons rx .nil)) q) (fun w s' z => ?_) fun _ _ z => z)
  obtain ⟨v', H', I', rv, b, ev, q'⟩ := z
  subst ev
  cases rv
  exact wpAny_truthy_bool ⟨.bl _, H', I', rfl, q'⟩
theorem op_ownNotIn (F : Met X.prog X.w X.K X.mg X.base j f sp) (hr : Room j X.A) (h : Has X.K C "__contains__" f) : OpR X (compareOp .NotIn) (rOwnIn C sp true) := by
  intro pins s σ H x y v u Q I rx ry ⟨⟨fs, a, dx, ey, ha⟩, q⟩
  subst ey
  cases ry
  obtain ⟨od, J⟩ := inst_at I ha
  obtain ⟨m, fr⟩ := I.fr
  refine PySem.W.notIn_K fr I.ok.mod.kin J h.at_ h.fn (wpAny_mono (run_met (vs := [.ref a, x]) F hr I (.cons rfl (.cons rx .nil)) q) (fun w s' z => ?_) fun _ _ z => z)
  obtain ⟨v', H', I', rv, b, ev, q'⟩ := z
  subst ev
  cases rv
  exact wpAny_truthy_bool ⟨.bl _, H', I', rfl, q'⟩
/-- if a -/
theorem tr_own (F : Met X.prog X.w X.K X.mg X.base j f sp) (hr : Room j X.A) (h : Has X.K C "__bool__" f) : TruR X (fun x H Q => (∃ fs, InsAt H C x fs) ∧ sp [x] H (fun v H' => ∃ b : Bool, v = .bl b ∧ Q b H') E0) := by
  intro pins s σ H x v Q I rx ⟨⟨fs, a, dx, ex, ha⟩, q⟩
  subst ex
  cases rx
  obtain ⟨od, J⟩ := inst_at I ha
  obtain ⟨m, fr⟩ := I.fr
  refine PySem.W.truthy_K fr I.ok.mod.kin J h.at_ h.fn (wpAny_mono (run_met (vs := [.ref a]) F hr I (.cons rfl .nil) q) (fun w s' z => ?_) fun _ _ z => z)
  obtain ⟨v', H', I', rv, b, ev, q'⟩ := z
  subst ev
  cases rv
  exact ⟨H', I', q'⟩
end
end XT
/-! sets of masks as objects -/
namespace XT
open PySem PySem.Spec PyProof.Rows L2
/-- tuple(xs), by a reading with a name -/
def rTupO (K : PySem.W.Frag) : List V → Hp → VK → Prop := fun xs H Q => ∃ p ys, xs = [.ref p] ∧ ((SqL K H p ys ∧ ∀ l, H l = none → Q (.ref l) (upd H l (.tup ys))) ∨ (SqT K H p ys ∧ Q (.ref p) H))
theorem cr_tupO {X : Cx} : CallR X (.type "tuple") (rTupO X.K) := call_tuple_of
/-- the set with the lot v -/
def MsAt (C : Addr) (H : Hp) (z v : V) (n : Nat) (p : Nat → Bool) : Prop := InsAt H C z [("held", v)] ∧ LotAt H v n p
theorem MsAt.same {C : Addr} {H H' : Hp} {z v : V} {n : Nat} {p : Nat → Bool} (h : MsAt C H z v n p) (e : Same H H') : MsAt C H' z v n p := ⟨h.1.same e, h.2.same e⟩
theorem MsAt.congr {C : Addr} {H : Hp} {z v : V} {n : Nat} {p p' : Nat → Bool} (h : MsAt C H z v n p) (e : ∀ m, m < 2 ^ n → p m = p' m) : MsAt C H z v n p' := ⟨h.1, h.2.congr e⟩
theorem MsAt.ins {C : Addr} {H : Hp} {z v : V} {n : Nat} {p : Nat → Bool} (h : MsAt C H z v n p) : ∃ fs, InsAt H C z fs := ⟨_, h.1⟩
/-- a property by its getter -/
def PropR (P : Program) (w : World) (K : PySem.W.Frag) (mg : Str → Option Value) (base : Heap) (k : Nat) (C : Addr) (f : Str) (sp : Sp) : Prop := ∃ (p g : Addr) (fd : FuncData) (ps : List Str), Cls K C ∧ PropOf K C f p g ∧ FnOk P w K mg base CX0 k g fd ps sp ∧ Binds K fd ps []
theorem pe_propR {X : Cx} {k : Nat} {C : Addr} {f : Str} {sp : Sp} {e : Expr} {pos : Pos} {ta : TE} (he : PE X e ta) (D : PropR X.prog X.w X.K X.mg X.base k C f sp) (hr : Room (k + 1) X.A) (hab : attributeBase e f X.env (eval e X.env) = eval e X.env := by rfl) : PE X (.Attribute e f pos) (tProp C sp [] E0 ta) := by
  obtain ⟨p, g, fd, ps, c, hp, F, b⟩ := D
  exact pe_prop he c hp F hr b .nil pass0 hab
/-- C(..) by its __init__ -/
def MakeR (P : Program) (w : World) (K : PySem.W.Frag) (mg : Str → Option Value) (base : Heap) (k : Nat) (C : Addr) (x : Str) (sp : Sp) : Prop := ∃ (f : Addr) (fd : FuncData) (ps : List Str), Mk K C f ∧ FnOk P w K mg base CX0 k f fd ps sp ∧ Binds K fd ps [] ∧ mg x = some (.ref C)
theorem pe_mkR {X : Cx} {k : Nat} {C : Addr} {x : Str} {sp : Sp} {e : Expr} {es : List Expr} {t : TA} {p pos : Pos} (D : MakeR X.prog X.w X.K X.mg X.base k C x sp) (hr : Room (k + 1) X.A) (hg : Gl X x) (ha : PA X (e :: es) t)
    (hdb : (x == ("__debug__" : Str)) = false := by decide) (he : starEach (e :: es) X.env = (false, eval e X.env) :: starEach es X.env := by rfl) (hpl : (backTo pos (starEach es X.env)).any (·.1) = false := by rfl) : PE X (.Call (.Name x p) (e :: es) [] pos) (tMake C sp [] E0 t) := by
  obtain ⟨f, fd, ps, M, F, b, hm⟩ := D
  exact pe_make M F hr hg hm b .nil pass0 ha hdb he hpl
/-- a method called by its name -/
def MethR (P : Program) (w : World) (K : PySem.W.Frag) (mg : Str → Option Value) (base : Heap) (k : Nat) (C : Addr) (m : Str) (sp : Sp) : Prop := ∃ (f : Addr) (fd : FuncData) (ps : List Str), Cls K C ∧ Meth K C m f ∧ FnOk P w K mg base CX0 k f fd ps sp ∧ Binds K fd ps []
/-- an operator's method -/
def OwnR (P : Program) (w : World) (K : PySem.W.Frag) (mg : Str → Option Value) (base : Heap) (k : Nat) (C : Addr) (m : Str) (sp : Sp) : Prop := ∃ (f : Addr), Has K C m f ∧ Met P w K mg base k f sp
section
variable {X : Cx} {j : Nat} {C : Addr} {sp : Sp}
theorem op_ownR {op : Operator} (D : OwnR X.prog X.w X.K X.mg X.base j C (PySem.dunder op.info.2) sp) (hr : Room j X.A) (hc : PySem.W.selfFirst X.K C = true) : OpR X (binaryOp op) (rOwn C sp) := by
  obtain ⟨f, h, F⟩ := D
  exact op_own F hr hc h
theorem un_invR (D : OwnR X.prog X.w X.K X.mg X.base j C "__invert__" sp) (hr : Room j X.A) : UnR X (unaryOp .Invert) (rOwn1 C sp) := by
  obtain ⟨f, h, F⟩ := D
  exact un_inv F hr h
theorem cr_lenR (D : OwnR X.prog X.w X.K X.mg X.base j C "__len__" sp) (hr : Room (j + 1) X.A) : CallR X (.builtin "len") (rOwnLen C sp) := by
  obtain ⟨f, h, F⟩ := D
  exact cr_ownLen F hr h
theorem op_inR (D : OwnR X.prog X.w X.K X.mg X.base j C "__contains__" sp) (hr : Room j X.A) : OpR X (compareOp .In) (rOwnIn C sp false) := by
  obtain ⟨f, h, F⟩ := D
  exact op_ownIn F hr h
end
/-- what an operator with an int wants of the class -/
structure OpI (K : PySem.W.Frag) (C : Addr) (op : Operator) : Prop where
  hn : PySem.W.findIn K (.ref C) (dunderR op.info.2) = some none
  h1 : ∃ fo, PySem.W.findIn K (.type "int") (PySem.dunder op.info.2) = some fo
  h2 : ∃ ro, PySem.W.findIn K (.type "int") (dunderR op.info.2) = some ro
  hs : PySem.W.subIn K (.type "int") (.ref C) = some false
theorem op_ownIR {X : Cx} {j : Nat} {C : Addr} {sp : Sp} {op : Operator} (D : OwnR X.prog X.w X.K X.mg X.base j C (PySem.dunder op.info.2) sp) (hr : Room j X.A) (hc : PySem.W.selfFirst X.K C = true) (T : OpI X.K C op) : OpR X (binaryOp op) (rOwnI C sp) := by
  obtain ⟨f, h, F⟩ := D
  obtain ⟨fo, h1⟩ := T.h1
  obtain ⟨ro, h2⟩ := T.h2
  exact op_ownI F hr hc h T.hn h1 h2 T.hs
/-- __init__ of a set -/
def spMi (C : Addr) : Sp := fun vs H Q _ => ∃ (a dx : Addr) (v : V) (n : Nat) (p : Nat → Bool), vs = [.ref a, v] ∧ H a = some (.ins C dx []) ∧ LotAt H v n p ∧ 1 ≤ n ∧ n ≤ 6 ∧ ∀ H', Same H H' → Q .non (upd H' a (.ins C dx [("held", v)]))
theorem ms_make {C : Addr} {H : Hp} {v : V} {n : Nat} {p : Nat → Bool} {Q : VK} (hv : LotAt H v n p) (h1 : 1 ≤ n) (h6 : n ≤ 6) (q : ∀ H' z, Same H H' → MsAt C H' z v n p → Q z H') :
    ∀ x dx, H x = none → H dx = none → dx ≠ x → spMi C (.ref x :: ([v] ++ [])) (upd (upd H dx (.own x)) x (.ins C dx [])) (fun v H2 => v = .non ∧ Q (.ref x) H2) E0 := by
  intro x dx nx ndx nex
  have s0 : Same H (upd (upd H dx (.own x)) x (.ins C dx [])) := fun b o e => by
    rw [upd_ne (ne_of_none e nx), upd_ne (ne_of_none e ndx)]
    exact e
  refine ⟨x, dx, v, n, p, rfl, upd_same, hv.same s0, h1, h6, fun H' s' => ⟨rfl, ?_⟩⟩
  have s2 : Same H (upd H' x (.ins C dx [("held", v)])) := same_upd (s0.trans s') nx
  exact q _ _ s2 ⟨⟨x, dx, rfl, upd_same⟩, hv.same s2⟩
theorem ms_new {C : Addr} {H : Hp} {v : V} {n : Nat} {p : Nat → Bool} {R : Hp → Prop} {x dx : Addr} (hv : LotAt H v n p) (h1 : 1 ≤ n) (h6 : n ≤ 6) (nx : H x = none) (ndx : H dx = none) (nex : dx ≠ x) (q : ∀ H', Same H H' → MsAt C H' (.ref x) v n p → R H') :
    spMi C (.ref x :: ([v] ++ [])) (upd (upd H dx (.own x)) x (.ins C dx [])) (fun v H2 => v = .non ∧ R H2) E0 := ms_make (Q := fun z H' => z = .ref x → R H') hv h1 h6 (fun H' z s' m e => q H' s' (by rw [← e]; exact m)) x dx nx ndx nex |> fun h => by
  obtain ⟨a, dx', v', n', p', e, h2, h3, h4, h5, k⟩ := h
  exact ⟨a, dx', v', n', p', e, h2, h3, h4, h5, fun H' s' => ⟨(k H' s').1, (k H' s').2 rfl⟩⟩
/-- the methods' promises -/
def spM1 (C : Addr) (F : Nat → (Nat → Bool) → Hp → V → V → Prop) : Sp := fun vs H Q _ => ∃ (z v : V) (n : Nat) (p : Nat → Bool), vs = [z] ∧ MsAt C H z v n p ∧ 1 ≤ n ∧ n ≤ 6 ∧ ∀ H' r, Same H H' → F n p H' v r → Q r H'
def spM2 (C : Addr) (F : Nat → (Nat → Bool) → (Nat → Bool) → Hp → V → Prop) : Sp := fun vs H Q _ => ∃ (z z' v v' : V) (n : Nat) (p r : Nat → Bool), vs = [z, z'] ∧ MsAt C H z v n p ∧ MsAt C H z' v' n r ∧ 1 ≤ n ∧ n ≤ 6 ∧ ∀ H' o, Same H H' → F n p r H' o → Q o H'
def spMX (C : Addr) (F : Nat → (Nat → Bool) → Nat → Hp → V → Prop) : Sp := fun vs H Q _ => ∃ (z v : V) (n m : Nat) (p : Nat → Bool), vs = [z, .int (m : Int)] ∧ MsAt C H z v n p ∧ 1 ≤ n ∧ n ≤ 6 ∧ m < 2 ^ n ∧ ∀ H' o, Same H H' → F n p m H' o → Q o H'
def IsMs (C : Addr) (H : Hp) (z : V) (n : Nat) (p : Nat → Bool) : Prop := ∃ v, MsAt C H z v n p
end XT
/-! ==, a call, a subscript by an own class's methods -/
namespace XT
open PySem PySem.Spec PyProof.Rows L2
theorem kit_me {K : PySem.W.Frag} {C : Addr} : PySem.W.kitOne K (.ref C) (.ref C) = some true := by
  unfold PySem.W.kitOne
  rw [if_pos (by simp)]
section
variable {X : Cx} {j : Nat} {f C : Addr} {sp : Sp}
/-- a == b, both of the class C -/
theorem op_ownEq (F : Met X.prog X.w X.K X.mg X.base j f sp) (hr : Room j X.A) (h : Has X.K C "__eq__" f) : OpR X (compareOp .Eq) (rOwn C sp) := by
  intro pins s σ H x y v u Q I rx ry ⟨⟨fs, a, dx, ex, ha⟩, ⟨fs', b, dx', ey, hb⟩, q⟩
  subst ex ey
  cases rx
  cases ry
  obtain ⟨od, J⟩ := inst_at I ha
  obtain ⟨od', J'⟩ := inst_at I hb
  obtain ⟨m, fr⟩ := I.fr
  show wpAny (model X.prog X.w) X.A (richCompare .Eq (.ref a) (.ref b)) (EP X pins σ Q) X.xe s
  exact PySem.W.cmp_K (op := .Eq) (by have := hr.un; omega) fr I.ok.mod.kin J J'.type (by unfold PySem.W.notFirst; simp) h.at_ h.fn (wpAny_mono (run_met (vs := [.ref a, .ref b]) F hr I (.cons rfl (.cons rfl .nil)) q) (fun _ _ z => back_ok z) fun _ _ z => z)
theorem op_eqR (D : OwnR X.prog X.w X.K X.mg X.base j C "__eq__" sp) (hr : Room j X.A) : OpR X (compareOp .Eq) (rOwn C sp) := by
  obtain ⟨f, h, F⟩ := D
  exact op_ownEq F hr h
end
section
variable {M : Model} {A : Around} {E : Value → Shared → Prop} {s : Shared} {x C : Addr} {pos : Pos} {Q : Value → Shared → Prop}
theorem callO_of {args : List (Bool × Sem Value)} {keywords : List (Option Str × Sem Value)} {first : List Value} (hpl : (args.any (·.1) || keywords.any (·.1.isNone)) = false) (h : wpAny M A (evalArgs (.ref x) true args keywords) (fun a t => (∃ ox od, ox.data = .plain ∧ PySem.W.InstAt t.heap x ox C od) ∧ wpAny M A (call (.ref x) (first ++ a.pos) a.kw) Q E t) E s) : wpAny M A (callWith pos (.ref x) first args keywords) Q E s := by
  unfold callWith
  refine wpAny_bind (wpAny_holding (wpAny_mono h (fun a t ht => wpAny_bind (wpAny_standAt ?_)) fun _ _ z => z))
  obtain ⟨⟨ox, od, hd, J⟩, hc⟩ := ht
  simp only [hpl]
  refine wpAny_bind ((PySem.W.kco_keeper (M := M) J hd).here ?_)
  refine wpAny_bind (wpAny_mono (wpAny_operateT hc) (fun r t2 hr => ?_) fun _ _ z => z)
  exact wpAny_bind (wpAny_holding (wpAny_point (wpAny_pure hr)))
end
/-- x(..), x in the slot i an instance of C -/
def tCallO (i : Nat) (C : Addr) (sp : Sp) (t : TA) : TE := fun σ H Q => ∃ z, σ[i]? = some (some z) ∧ (∃ fs, InsAt H C z fs) ∧ t σ H fun vs H1 => (∃ fs, InsAt H1 C z fs) ∧ sp (z :: vs) H1 Q E0
section
variable {X : Cx} {j i : Nat} {C : Addr} {sp : Sp} {x : Str} {p pos : Pos} {e : Expr} {es : List Expr} {t : TA}
/-- __call__ -/
def CallO (P : Program) (w : World) (K : PySem.W.Frag) (mg : Str → Option Value) (base : Heap) (k : Nat) (C : Addr) (sp : Sp) : Prop := ∃ f, Has K C "__call__" f ∧ PySem.W.fnIn K f = true ∧ Met P w K mg base k f sp
theorem pe_callO (D : CallO X.prog X.w X.K X.mg X.base j C sp) (hr : Room j X.A) (hN : X.N[i]? = some x) (hv : Vis X.env.scope x) (ha : PA X (e :: es) t)
    (hdb : (x == ("__debug__" : Str)) = false := by decide) (hcd : (x == ("__classdict__" : Str)) = false := by decide)
    (he : starEach (e :: es) X.env = (false, eval e X.env) :: starEach es X.env := by rfl) (hpl : (backTo pos (starEach es X.env)).any (·.1) = false := by rfl) : PE X (.Call (.Name x p) (e :: es) [] pos) (tCallO i C sp t) := by
  obtain ⟨f, hh, hfn, F⟩ := D
  refine ⟨fun pins s σ H Q I h => ?_⟩
  obtain ⟨z, hs, ⟨fs, a, dx, ez, hz⟩, ht⟩ := h
  refine wpAny_Call_Name_kw (thn ((pe_var (pos := p) hN hv hdb hcd).run pins s σ H (fun v H1 => v = z ∧ H1 = H) I ⟨z, hs, rfl, rfl⟩) fun u s1 ⟨v, H1, I1, r1, q1⟩ => ?_)
  obtain ⟨rfl, rfl⟩ := q1
  subst ez
  cases r1
  obtain ⟨od, J⟩ := inst_at I1 hz
  rw [he]
  refine callO_of (C := C) ?_ (PySem.Calls.evalArgs_plain ?_)
  · show ((false || (backTo pos (starEach es X.env)).any (·.1)) || false) = false
    rw [hpl]; rfl
  have ha2 := ha.run pos pins s1 σ _ _ I1 ht
  rw [he] at ha2
  refine wpAny_mono ha2 (fun us s2 hz2 => ?_) fun _ _ z => z
  obtain ⟨vs, H2, I2, r, ⟨fs2, a2, dx2, e2, h2⟩, q⟩ := hz2
  cases e2
  obtain ⟨od2, J2⟩ := inst_at I2 h2
  refine ⟨⟨_, _, rfl, J2⟩, ?_⟩
  refine wpAny_call (PySem.W.kco_code I2.kIn J2 rfl hh.at_ hh.fn hfn ?_)
  refine codeAny_mono (F X.A X.stack s2 H2 _ (.ref a :: vs) Q E0 hr I2.env0 (.cons rfl r) q) fun r' s3 hq => ?_
  match r', hq with
  | .ok (.ret v), hq => exact I2.after hq
  | .ok .next, hq => exact False.elim hq
  | .ok .brk, hq => exact False.elim hq
  | .ok .cont, hq => exact False.elim hq
  | .error e, hq => exact pass0 pins σ H2 s2 e s3 I2 hq
end
end XT
/-! expressions that only lay new things: what their value is, put together piece by piece -/
namespace XT
open PySem PySem.Spec PyProof.Rows L2
abbrev RV := Hp → V → Prop
/-- from H on the expression gives a value of which R is true -/
def Ev (R : RV) (t : TE) (σ : L2.St) (H : Hp) : Prop := ∀ H', Same H H' → ∀ Q : VK, (∀ H2 z, Same H' H2 → R H2 z → Q z H2) → t σ H' Q
def EvT (b : Bool) (t : TT) (σ : L2.St) (H : Hp) : Prop := ∀ H', Same H H' → ∀ Q : Bool → Hp → Prop, (∀ H2, Same H' H2 → Q b H2) → t σ H' Q
/-- what is true of a value stays true -/
def Sty (R : RV) : Prop := ∀ H H' z, Same H H' → R H z → R H' z
/-- an operator on values -/
def OpF (Ra Rb : RV) (r : R2) (Rc : RV) : Prop := ∀ H x y, Ra H x → Rb H y → ∀ Q : VK, (∀ H2 z, Same H H2 → Rc H2 z → Q z H2) → r x y H Q
abbrev isI (k : Int) : RV := fun _ z => z = .int k
abbrev isB (b : Bool) : RV := fun _ z => z = .bl b
abbrev isV (v : V) : RV := fun _ z => z = v
abbrev isLot (n : Nat) (p : Nat → Bool) : RV := fun H z => LotAt H z n p
abbrev isTup (ms : List Nat) : RV := fun H z => TupAt H z ms
theorem sty_v (v : V) : Sty (isV v) := fun _ _ _ _ h => h
theorem sty_lot (n : Nat) (p : Nat → Bool) : Sty (isLot n p) := fun _ _ _ e h => h.same e
theorem sty_tup (ms : List Nat) : Sty (isTup ms) := fun _ _ _ e h => h.same e
section
variable {R Ra Rb Rc : RV} {t ta tb : TE} {σ : L2.St} {H H' : Hp}
theorem Ev.same (h : Ev R t σ H) (e : Same H H') : Ev R t σ H' := fun H2 s Q q => h H2 (e.trans s) Q q
theorem Ev.mono {R' : RV} (h : Ev R t σ H) (i : ∀ H z, R H z → R' H z) : Ev R' t σ H := fun H2 s Q q => h H2 s Q fun H3 z s3 g => q H3 z s3 (i _ _ g)
theorem EvT.same {b : Bool} {t : TT} (h : EvT b t σ H) (e : Same H H') : EvT b t σ H' := fun H2 s Q q => h H2 (e.trans s) Q q
theorem ev_var {i : Nat} {z : V} (hs : Sty R) (e : σ[i]? = some (some z)) (h : R H z) : Ev R (tVar i) σ H := fun H2 s Q q => ⟨z, e, q _ _ (Same.refl _) (hs _ _ _ s h)⟩
theorem ev_c (v : V) : Ev (isV v) (tC v) σ H := fun H2 s Q q => q _ _ (Same.refl _) rfl
theorem ev_op {r : R2} (ha : Sty Ra) (a : Ev Ra ta σ H) (b : Ev Rb tb σ H) (f : OpF Ra Rb r Rc) : Ev Rc (tOp r ta tb) σ H := fun H1 s1 Q q =>
  a H1 s1 _ fun H2 x s2 gx => b H2 (s1.trans s2) _ fun H3 y s3 gy => f H3 x y (ha _ _ _ s3 gx) gy _ fun H4 z s4 gz => q H4 z ((s2.trans s3).trans s4) gz
theorem ev_def1 {sp : Sp} (a : Ev Ra ta σ H) (f : ∀ H x, Ra H x → ∀ Q : VK, (∀ H2 z, Same H H2 → Rc H2 z → Q z H2) → sp [x] H Q E0) : Ev Rc (fun σ H Q => tCons ta tNil σ H fun vs H1 => sp vs H1 Q E0) σ H := fun H1 s1 Q q =>
  a H1 s1 _ fun H2 x s2 gx => f H2 x gx _ fun H4 z s4 gz => q H4 z (s2.trans s4) gz
theorem ev_def2 {sp : Sp} (ha : Sty Ra) (a : Ev Ra ta σ H) (b : Ev Rb tb σ H) (f : ∀ H x y, Ra H x → Rb H y → ∀ Q : VK, (∀ H2 z, Same H H2 → Rc H2 z → Q z H2) → sp [x, y] H Q E0) : Ev Rc (fun σ H Q => tCons ta (tCons tb tNil) σ H fun vs H1 => sp vs H1 Q E0) σ H := fun H1 s1 Q q =>
  a H1 s1 _ fun H2 x s2 gx => b H2 (s1.trans s2) _ fun H3 y s3 gy => f H3 x y (ha _ _ _ s3 gx) gy _ fun H4 z s4 gz => q H4 z ((s2.trans s3).trans s4) gz
theorem evt_test {b : Bool} (h : Ev (isB b) t σ H) : EvT b (tTest t) σ H := fun H1 s1 Q q => h H1 s1 _ fun H2 z s2 e => ⟨b, e, q _ s2⟩
theorem evt_b {b : Bool} (h : Ev (isB b) t σ H) : EvT b (tB t) σ H := fun H1 s1 Q q => h H1 s1 _ fun H2 z s2 e => ⟨b, e, q _ s2⟩
theorem evt_not {b : Bool} {t : TT} (h : EvT b t σ H) : EvT (!b) (tNot t) σ H := fun H1 s1 Q q => h H1 s1 _ fun H2 s2 => q _ s2
theorem evt_or {b c : Bool} {t u : TT} (h : EvT b t σ H) (k : EvT c u σ H) : EvT (b || c) (tOr t u) σ H := fun H1 s1 Q q => h H1 s1 _ fun H2 s2 => by
  cases b with
  | true => exact iteT (q _ s2)
  | false => exact iteF (k H2 (s1.trans s2) _ fun H3 s3 => q _ (s2.trans s3))
theorem evt_and {b c : Bool} {t u : TT} (h : EvT b t σ H) (k : EvT c u σ H) : EvT (b && c) (tAnd t u) σ H := fun H1 s1 Q q => h H1 s1 _ fun H2 s2 => by
  cases b with
  | true => exact iteT (k H2 (s1.trans s2) _ fun H3 s3 => q _ (s2.trans s3))
  | false => exact iteF (q _ s2)
theorem ev_andV {b c : Bool} (h : Ev (isB b) ta σ H) (k : Ev (isB c) tb σ H) : Ev (isB (b && c)) (tAndV ta tb) σ H := fun H1 s1 Q q => h H1 s1 _ fun H2 z s2 e => by
  refine ⟨b, e, ?_⟩
  cases b with
  | true => exact iteT (k H2 (s1.trans s2) _ fun H3 z3 s3 e3 => q _ _ (s2.trans s3) e3)
  | false => exact iteF (q _ _ s2 rfl)
theorem ev_orV {b c : Bool} (h : Ev (isB b) ta σ H) (k : Ev (isB c) tb σ H) : Ev (isB (b || c)) (tOrV ta tb) σ H := fun H1 s1 Q q => h H1 s1 _ fun H2 z s2 e => by
  refine ⟨b, e, ?_⟩
  cases b with
  | true => exact iteT (q _ _ s2 rfl)
  | false => exact iteF (k H2 (s1.trans s2) _ fun H3 z3 s3 e3 => q _ _ (s2.trans s3) e3)
theorem ev_notV {b : Bool} (h : Ev (isB b) ta σ H) : Ev (isB (!b)) (tNotV ta) σ H := fun H1 s1 Q q => h H1 s1 _ fun H2 z s2 e => ⟨b, e, q _ _ s2 rfl⟩
/-- if t: never -/
theorem if_no {b : Bool} {t : TT} {u : TS} {D : Ends} (h : EvT b t σ H) (e : b = false) (q : ∀ H2, Same H H2 → u D σ H2) : tIfS t tNever u D σ H := h H (Same.refl _) _ fun H2 s2 => by rw [e]; exact iteF (q H2 s2)
end
theorem asg_ev {R : RV} {t : TE} {g : TG} {u : TS} {D : Ends} {σ : L2.St} {H : Hp} (h : Ev R t σ H) (q : ∀ H2 z, Same H H2 → R H2 z → g z σ H2 (u D)) : tSeq (tAsg t g) u D σ H := h H (Same.refl _) _ fun H2 z s2 gz => q H2 z s2 gz
theorem ret_ev {R : RV} {t : TE} {D : Ends} {σ : L2.St} {H : Hp} (h : Ev R t σ H) (q : ∀ H2 z, Same H H2 → R H2 z → D.rt z H2) : tRet t D σ H := h H (Same.refl _) _ fun H2 z s2 gz => q H2 z s2 gz
theorem ifs_no {b : Bool} {t : TT} {u rest : TS} {D : Ends} {σ : L2.St} {H : Hp} (h : EvT b t σ H) (e : b = false) (q : ∀ H2, Same H H2 → u { D with nx := rest D } σ H2) : tSeq (tIfS t tNever u) rest D σ H := if_no h e q
/-! sets -/
abbrev isMs (C : Addr) (n : Nat) (p : Nat → Bool) : RV := fun H z => IsMs C H z n p
theorem sty_ms (C : Addr) (n : Nat) (p : Nat → Bool) : Sty (isMs C n p) := fun _ _ _ e ⟨v, h⟩ => ⟨v, h.same e⟩
section
variable {C : Addr} {n : Nat} {p r : Nat → Bool}
theorem of_m2 {F : Nat → (Nat → Bool) → (Nat → Bool) → Hp → V → Prop} (h1 : 1 ≤ n) (h6 : n ≤ 6) : OpF (isMs C n p) (isMs C n r) (rOwn C (spM2 C F)) (fun H o => F n p r H o) := fun H x y ⟨v, gx⟩ ⟨v', gy⟩ Q q =>
  ⟨gx.ins, gy.ins, x, y, v, v', n, p, r, rfl, gx, gy, h1, h6, fun H' o s' g => q _ _ s' g⟩
theorem of_mx {F : Nat → (Nat → Bool) → Nat → Hp → V → Prop} {m : Nat} (h1 : 1 ≤ n) (h6 : n ≤ 6) (hm : m < 2 ^ n) : OpF (isMs C n p) (isV (.int (m : Int))) (rOwnI C (spMX C F)) (fun H o => F n p m H o) := fun H x y ⟨v, gx⟩ ey Q q =>
  ⟨gx.ins, ⟨m, ey⟩, x, v, n, m, p, by rw [ey], gx, h1, h6, hm, fun H' o s' g => q _ _ s' g⟩
theorem ev_m1 {F : Nat → (Nat → Bool) → Hp → V → V → Prop} {Rc : RV} {t : TE} {σ : L2.St} {H : Hp} (h1 : 1 ≤ n) (h6 : n ≤ 6) (a : Ev (isMs C n p) t σ H) (f : ∀ H v o, LotAt H v n p → F n p H v o → Rc H o) : Ev Rc (tUn (rOwn1 C (spM1 C F)) t) σ H := fun H1 s1 Q q =>
  a H1 s1 _ fun H2 x s2 ⟨v, gx⟩ => ⟨gx.ins, x, v, n, p, rfl, gx, h1, h6, fun H' o s' g => q _ _ (s2.trans s') (f _ _ _ (gx.2.same s') g)⟩
theorem ev_prop {F : Nat → (Nat → Bool) → Hp → V → V → Prop} {Rc : RV} {t : TE} {σ : L2.St} {H : Hp} (h1 : 1 ≤ n) (h6 : n ≤ 6) (a : Ev (isMs C n p) t σ H) (f : ∀ H v o, LotAt H v n p → F n p H v o → Rc H o) : Ev Rc (tProp C (spM1 C F) [] E0 t) σ H := fun H1 s1 Q q =>
  a H1 s1 _ fun H2 x s2 ⟨v, gx⟩ => by
    obtain ⟨aa, dx, ez, ha⟩ := id gx.1
    exact ⟨aa, dx, _, ez, ha, x, v, n, p, by rw [ez], gx, h1, h6, fun H' o s' g => q _ _ (s2.trans s') (f _ _ _ (gx.2.same s') g)⟩
theorem ev_len {F : Nat → (Nat → Bool) → Hp → V → V → Prop} {t : TE} {σ : L2.St} {H : Hp} (h1 : 1 ≤ n) (h6 : n ≤ 6) (a : Ev (isMs C n p) t σ H) (f : ∀ H v o, F n p H v o → o = .int ((lotOf n p).length : Int)) : Ev (isV (.int ((lotOf n p).length : Int))) (tCB (rOwnLen C (spM1 C F)) (tCons t tNil)) σ H := fun H1 s1 Q q =>
  a H1 s1 _ fun H2 x s2 ⟨v, gx⟩ => ⟨x, rfl, gx.ins, x, v, n, p, rfl, gx, h1, h6, fun H' o s' g => ⟨_, f _ _ _ g, by have := lot_len h6 p; omega, q _ _ (s2.trans s') rfl⟩⟩
/-- a.m(b), m a method of two sets -/
theorem ev_meth {m : Str} {F : Nat → (Nat → Bool) → (Nat → Bool) → Hp → V → Prop} {ta tb : TE} {σ : L2.St} {H : Hp} (h1 : 1 ≤ n) (h6 : n ≤ 6) (hm : (m == ("held" : Str)) = false) (a : Ev (isMs C n p) ta σ H) (b : Ev (isMs C n r) tb σ H) : Ev (fun H o => F n p r H o) (tMeth C m (spM2 C F) [] E0 ta (tCons tb tNil)) σ H := fun H1 s1 Q q =>
  a H1 s1 _ fun H2 x s2 ⟨v, gx⟩ => by
    obtain ⟨aa, dx, ez, ha⟩ := id gx.1
    refine ⟨aa, dx, _, ez, ha, ?_, b H2 (s1.trans s2) _ fun H3 y s3 ⟨v', gy⟩ => ?_⟩
    · rw [List.lookup_cons, hm]
      rfl
    · exact ⟨x, y, v, v', n, p, r, rfl, gx.same s3, gy, h1, h6, fun H' o s' g => q _ _ ((s2.trans s3).trans s') g⟩
theorem ev_mk {t : TE} {σ : L2.St} {H : Hp} (h1 : 1 ≤ n) (h6 : n ≤ 6) (a : Ev (isLot n p) t σ H) : Ev (isMs C n p) (tMake C (spMi C) [] E0 (tCons t tNil)) σ H := fun H1 s1 Q q =>
  a H1 s1 _ fun H2 x s2 gx => fun xa dxa nxa ndxa nea => ms_new gx h1 h6 nxa ndxa nea fun H3 s3 g => q _ _ (s2.trans s3) ⟨_, g⟩
theorem ev_lot2 {q' : Nat → Bool} {ms : List Nat} {ta tb : TE} {σ : L2.St} {H : Hp} (e : lotOf n q' = ms) (a : Ev (isV (.int (n : Int))) ta σ H) (b : Ev (isTup ms) tb σ H) : Ev (isLot n q') (tTup (tCons ta (tCons tb tNil))) σ H := fun H1 s1 Q q =>
  a H1 s1 _ fun H2 x s2 ex => b H2 (s1.trans s2) _ fun H3 y s3 ⟨y', ey, hy⟩ => ⟨sz (show 2 ≤ 1000 by decide), fun T nT => q _ _ ((s2.trans s3).trans (same_new nT)) ⟨T, y', rfl, by rw [upd_same, ex, ey], by rw [e]; exact same_new nT _ _ hy⟩⟩
theorem ev_tup1 {m : Nat} {t : TE} {σ : L2.St} {H : Hp} (a : Ev (isV (.int (m : Int))) t σ H) : Ev (isTup [m]) (tTup (tCons t tNil)) σ H := fun H1 s1 Q q =>
  a H1 s1 _ fun H2 x s2 ex => ⟨sz (show 1 ≤ 1000 by decide), fun T nT => q _ _ (s2.trans (same_new nT)) ⟨T, rfl, by rw [upd_same, ex]; rfl⟩⟩
theorem ev_tup0 {σ : L2.St} {H : Hp} : Ev (isTup []) (tTup tNil) σ H := fun H1 s1 Q q => ⟨sz (show 0 ≤ 1000 by decide), fun T nT => q _ _ (same_new nT) ⟨T, rfl, by rw [upd_same]; rfl⟩⟩
theorem ev_call {F : Nat → (Nat → Bool) → Nat → Hp → V → Prop} {i m : Nat} {z : V} {t : TE} {σ : L2.St} {H : Hp} (h1 : 1 ≤ n) (h6 : n ≤ 6) (hm : m < 2 ^ n) (e : σ[i]? = some (some z)) (a : IsMs C H z n p) (b : Ev (isV (.int (m : Int))) t σ H) : Ev (fun H o => F n p m H o) (tCallO i C (spMX C F) (tCons t tNil)) σ H := fun H1 s1 Q q => by
  obtain ⟨v, gx⟩ := a
  refine ⟨z, e, (gx.same s1).ins, b H1 s1 _ fun H2 y s2 ey => ⟨((gx.same s1).same s2).ins, z, v, n, m, p, by rw [ey], (gx.same s1).same s2, h1, h6, hm, fun H' o s' g => q _ _ (s2.trans s') g⟩⟩
end
theorem pe_methR {X : Cx} {k : Nat} {C : Addr} {m : Str} {sp : Sp} {o e : Expr} {es : List Expr} {ta : TE} {t : TA} {apos pos : Pos} {pl : Sem Bool} (he : PE X o ta) (D : MethR X.prog X.w X.K X.mg X.base k C m sp) (hr : Room k X.A) (ha : PA X (e :: es) t)
    (hst : starEach (e :: es) X.env = (false, eval e X.env) :: starEach es X.env := by rfl) (hpl : (backTo pos (starEach es X.env)).any (·.1) = false := by rfl)
    (ht : eval (.Call (.Attribute o m apos) (e :: es) [] pos) X.env = (do let ov ← eval o X.env; standAt apos.atName; let (f, first) ← holding [ov] (getMethod ov m pl); callWith pos f first (backTo pos (starEach (e :: es) X.env)) (backToKw pos (keywordEach [] X.env))) := by rfl) :
    PE X (.Call (.Attribute o m apos) (e :: es) [] pos) (tMeth C m sp [] E0 ta t) := by
  obtain ⟨f, fd, ps, c, hm, F, b⟩ := D
  exact pe_meth (pl := pl) he c hm F hr b .nil pass0 ha hst hpl ht
/-! ints, bools, tuples -/
section
variable {K : PySem.W.Frag} {a b : Int}
theorem of_i (g : Int → Int → V) : OpF (isV (.int a)) (isV (.int b)) (rI0 g) (isV (g a b)) := fun H x y ex ey Q q => ⟨a, b, ex, ey, q _ _ (Same.refl _) rfl⟩
theorem of_iC {Cc : Int → Int → Prop} (g : Int → Int → V) (h : Cc a b) : OpF (isV (.int a)) (isV (.int b)) (rI Cc g) (isV (g a b)) := fun H x y ex ey Q q => ⟨a, b, ex, ey, h, q _ _ (Same.refl _) rfl⟩
theorem of_eqI : OpF (isV (.int a)) (isV (.int b)) rEq (isB (decide (a = b))) := fun H x y ex ey Q q => by
  subst ex ey
  refine ⟨rfl, q _ _ (Same.refl _) (congrArg V.bl ?_)⟩
  rw [Bool.eq_iff_iff, decide_eq_true_iff, decide_eq_true_iff]
  exact ⟨fun e => V.int.inj e, fun e => by rw [e]⟩
theorem of_neI : OpF (isV (.int a)) (isV (.int b)) rNe (isB (!decide (a = b))) := fun H x y ex ey Q q => by
  subst ex ey
  refine ⟨rfl, q _ _ (Same.refl _) (congrArg V.bl (congrArg (!·) ?_))⟩
  rw [Bool.eq_iff_iff, decide_eq_true_iff, decide_eq_true_iff]
  exact ⟨fun e => V.int.inj e, fun e => by rw [e]⟩
theorem of_eqB {a b : Bool} : OpF (isB a) (isB b) rEq (isB (a == b)) := fun H x y ex ey Q q => by
  subst ex ey
  refine ⟨rfl, q _ _ (Same.refl _) (congrArg V.bl ?_)⟩
  cases a <;> cases b <;> rfl
theorem of_neB {a b : Bool} : OpF (isB a) (isB b) rNe (isB (a != b)) := fun H x y ex ey Q q => by
  subst ex ey
  refine ⟨rfl, q _ _ (Same.refl _) (congrArg V.bl ?_)⟩
  cases a <;> cases b <;> rfl
theorem of_in {m : Nat} {ms : List Nat} : OpF (isV (.int (m : Int))) (isTup ms) (rIn K false) (isB (decide (m ∈ ms))) := fun H x y ex ⟨y', ey, hy⟩ Q q => by
  subst ex ey
  refine ⟨y', _, rfl, .inr (SqT.of hy), rfl, vm_flat _, q _ _ (Same.refl _) (congrArg V.bl (in_vm _ _))⟩
theorem of_eqT {ms ks : List Nat} : OpF (isTup ms) (isTup ks) (rEqD K) (isB (decide (ms = ks))) := fun H x y gx gy Q q => eq_tupN gx gy (q _ _ (Same.refl _) rfl)
theorem of_neT {ms ks : List Nat} : OpF (isTup ms) (isTup ks) (rNeD K) (isB (!decide (ms = ks))) := fun H x y gx gy Q q => ne_tupN gx gy (q _ _ (Same.refl _) rfl)
theorem of_eqL {n : Nat} {p r : Nat → Bool} : OpF (isLot n p) (isLot n r) (rEqD K) (isB (decide (∀ m, m < 2 ^ n → p m = r m))) := fun H x y gx gy Q q => eq_lots gx gy (q _ _ (Same.refl _) rfl)
theorem of_neL {n : Nat} {p r : Nat → Bool} : OpF (isLot n p) (isLot n r) (rNeD K) (isB (!decide (∀ m, m < 2 ^ n → p m = r m))) := fun H x y gx gy Q q => ne_lots gx gy (q _ _ (Same.refl _) rfl)
theorem of_xor {a b : Nat} : OpF (isV (.int (a : Int))) (isV (.int (b : Int))) rXor (isV (.int ((a ^^^ b : Nat) : Int))) := fun H x y ex ey Q q => ⟨a, b, ex, ey, q _ _ (Same.refl _) (congrArg V.int (bx a b))⟩
/-- lot[0], lot[1] -/
theorem of_ix0 {n : Nat} {p : Nat → Bool} : OpF (isLot n p) (isV (.int 0)) (rIxT K) (isV (.int (n : Int))) := fun H x y gx ey Q q => by
  obtain ⟨a, b, e, h1, h2⟩ := gx
  exact ⟨a, _, 0, .int n, e, ey, SqT.of h1, rfl, q _ _ (Same.refl _) rfl⟩
theorem of_ix1 {n : Nat} {p : Nat → Bool} : OpF (isLot n p) (isV (.int 1)) (rIxT K) (isTup (lotOf n p)) := fun H x y gx ey Q q => by
  obtain ⟨a, b, e, h1, h2⟩ := gx
  exact ⟨a, _, 1, .ref b, e, ey, SqT.of h1, rfl, q _ _ (Same.refl _) ⟨b, rfl, h2⟩⟩
theorem ev_len_tup {ms : List Nat} {t : TE} {σ : L2.St} {H : Hp} (a : Ev (isTup ms) t σ H) : Ev (isV (.int (ms.length : Int))) (tCB (fun xs H Q => ∃ p ys, xs = [.ref p] ∧ (SqL K H p ys ∨ SqT K H p ys) ∧ Q (.int ys.length) H) (tCons t tNil)) σ H := fun H1 s1 Q q =>
  a H1 s1 _ fun H2 x s2 ⟨y, e, hy⟩ => ⟨y, _, by rw [e], .inr (SqT.of hy), q _ _ s2 (by rw [vm_len])⟩
end
end XT
/-! arguments and lists, piece by piece -/
namespace XT
open PySem PySem.Spec PyProof.Rows L2
def AllV : List RV → Hp → List V → Prop
  | [], _, [] => True
  | R :: Rs, H, v :: vs => R H v ∧ AllV Rs H vs
  | _, _, _ => False
def StyA (Rs : List RV) : Prop := ∀ R ∈ Rs, Sty R
theorem allV_same : ∀ {Rs : List RV} {H H' : Hp} {vs : List V}, StyA Rs → Same H H' → AllV Rs H vs → AllV Rs H' vs
  | [], _, _, [], _, _, h => h
  | R :: Rs, _, _, v :: vs, hs, e, h => ⟨hs R List.mem_cons_self _ _ _ e h.1, allV_same (fun R' h' => hs R' (List.mem_cons_of_mem _ h')) e h.2⟩
theorem allV_len : ∀ {Rs : List RV} {H : Hp} {vs : List V}, AllV Rs H vs → vs.length = Rs.length
  | [], _, [], _ => rfl
  | R :: Rs, _, v :: vs, h => by rw [List.length_cons, List.length_cons, allV_len h.2]
theorem allV_at : ∀ {Rs : List RV} {H : Hp} {vs : List V} {j : Nat} {R : RV}, AllV Rs H vs → Rs[j]? = some R → ∃ v, vs[j]? = some v ∧ R H v
  | [], _, _, _, _, _, e => by simp at e
  | R :: Rs, _, v :: vs, 0, _, h, e => by cases e; exact ⟨v, rfl, h.1⟩
  | R :: Rs, _, v :: vs, j + 1, _, h, e => allV_at (j := j) h.2 e
theorem allV_of : ∀ {Rs : List RV} {H : Hp} {vs : List V}, vs.length = Rs.length → (∀ (j : Nat) (R : RV) (v : V), Rs[j]? = some R → vs[j]? = some v → R H v) → AllV Rs H vs
  | [], _, [], _, _ => trivial
  | R :: Rs, _, v :: vs, hl, h => ⟨h 0 R v rfl rfl, allV_of (Nat.succ.inj hl) fun j R' v' a b => h (j + 1) R' v' a b⟩
theorem allV_app : ∀ {Rs Ss : List RV} {H : Hp} {vs us : List V}, AllV Rs H vs → AllV Ss H us → AllV (Rs ++ Ss) H (vs ++ us)
  | [], _, _, [], _, _, h => h
  | R :: Rs, _, _, v :: vs, _, h, k => ⟨h.1, allV_app h.2 k⟩
/-- a list whose items are so -/
abbrev isLst (Rs : List RV) : RV := fun H z => ∃ L vs, z = .ref L ∧ H L = some (.lst vs) ∧ AllV Rs H vs
theorem sty_lst {Rs : List RV} (h : StyA Rs) : Sty (isLst Rs) := fun _ _ _ e ⟨L, vs, ez, hL, a⟩ => ⟨L, vs, ez, e _ _ hL, allV_same h e a⟩
def EvA (Rs : List RV) (t : TA) (σ : L2.St) (H : Hp) : Prop := ∀ H', Same H H' → ∀ Q : List V → Hp → Prop, (∀ H2 vs, Same H' H2 → AllV Rs H2 vs → Q vs H2) → t σ H' Q
section
variable {R : RV} {Rs Ss : List RV} {t : TE} {ta : TA} {σ : L2.St} {H : Hp}
theorem eva_nil : EvA [] tNil σ H := fun H1 s1 Q q => q _ _ (Same.refl _) trivial
theorem eva_cons (hs : Sty R) (a : Ev R t σ H) (b : EvA Rs ta σ H) : EvA (R :: Rs) (tCons t ta) σ H := fun H1 s1 Q q =>
  a H1 s1 _ fun H2 x s2 gx => b H2 (s1.trans s2) _ fun H3 vs s3 gv => q _ _ (s2.trans s3) ⟨hs _ _ _ s3 gx, gv⟩
theorem ev_lst (hs : StyA Rs) (hl : Rs.length ≤ 1000) (a : EvA Rs ta σ H) : Ev (isLst Rs) (tLst ta) σ H := fun H1 s1 Q q =>
  a H1 s1 _ fun H2 vs s2 gv => ⟨by rw [allV_len gv]; exact sz hl, fun L nL => q _ _ (s2.trans (same_new nL)) ⟨L, vs, rfl, upd_same, allV_same hs (same_new nL) gv⟩⟩
theorem of_cat (hs : StyA Rs) (hs' : StyA Ss) (hl : Rs.length + Ss.length ≤ 1000) : OpF (isLst Rs) (isLst Ss) rCat (isLst (Rs ++ Ss)) := fun H x y ⟨L, vs, ex, hL, a⟩ ⟨L', us, ey, hL', a'⟩ Q q =>
  ⟨L, L', vs, us, ex, ey, hL, hL', by rw [allV_len a, allV_len a']; exact sz hl, fun p np => q _ _ (same_new np) ⟨p, _, rfl, upd_same, allV_app (allV_same hs (same_new np) a) (allV_same hs' (same_new np) a')⟩⟩
theorem styA_nil : StyA [] := fun _ h => absurd h (by simp)
theorem styA_cons (a : Sty R) (b : StyA Rs) : StyA (R :: Rs) := fun R' h => by
  rcases List.mem_cons.mp h with e | e
  · rw [e]; exact a
  · exact b R' e
theorem styA_map {α : Type} {f : α → RV} (h : ∀ x, Sty (f x)) (l : List α) : StyA (l.map f) := fun R' hR => by
  obtain ⟨x, _, rfl⟩ := List.mem_map.mp hR
  exact h x
end
/-- .. and stays so when a list is written -/
def StyL (R : RV) : Prop := ∀ (H : Hp) (D : Addr) (xs ys : List V) (z : V), H D = some (.lst xs) → R H z → R (upd H D (.lst ys)) z
theorem styL_lot (n : Nat) (p : Nat → Bool) : StyL (isLot n p) := fun _ _ _ _ _ e h => lot_upd e h
theorem styL_v (v : V) : StyL (isV v) := fun _ _ _ _ _ _ h => h
/-- [te for x in xs], a list of any kind -/
theorem ev_lcL {K : PySem.W.Frag} {i : Nat} {Rs Ss : List RV} {t te : TE} {σ : L2.St} {H : Hp} (hl : Rs.length = Ss.length) (hN : Rs.length ≤ 1000) (hR : StyA Rs) (hS : StyA Ss) (hL : ∀ S ∈ Ss, StyL S) (a : Ev (isLst Rs) t σ H) (hw : ∀ z : V, wipe ((wipe σ [i]).set i (some z)) [i] = wipe σ [i])
    (b : ∀ (j : Nat) (R S : RV) (z : V) (H1 : Hp), Rs[j]? = some R → Ss[j]? = some S → R H1 z → Same H H1 → Ev S te ((wipe σ [i]).set i (some z)) H1) : Ev (isLst Ss) (tLc (iList K t) (gName i) tYes te [i]) σ H := fun H1 s1 Q q =>
  a H1 s1 _ fun H2 x s2 ⟨L, vs, ex, hLv, gv⟩ => by
    have hvl : vs.length = Rs.length := allV_len gv
    refine ⟨L, ex, ⟨_, SqL.of hLv⟩, fun D nD => lcg_list (G := fun j y H => ∀ S, Ss[j]? = some S → S H y) ⟨fun {j y H H'} h e S hs => hS S (List.mem_of_getElem? hs) _ _ _ e (h S hs), fun {j y H D xs ys} h e S hs => hL S (List.mem_of_getElem? hs) _ _ _ _ _ e (h S hs)⟩ nD (SqL.of hLv) (by omega) (fun j z Hc hz sc => ?_) (fun H3 hpv => ?_)⟩
    · intro R1 R2 h2
      have hj : j < Rs.length := by rw [← hvl]; exact (List.getElem?_eq_some_iff.mp hz).1
      have hj2 : j < Ss.length := by omega
      obtain ⟨z', hz', gz⟩ := allV_at gv (List.getElem?_eq_getElem hj)
      cases hz.symm.trans hz'
      refine ⟨hw z, ?_⟩
      exact iteT (B := R1 Hc) (b j _ _ z Hc (List.getElem?_eq_getElem hj) (List.getElem?_eq_getElem hj2) (hR _ (List.getElem_mem hj) _ _ _ sc gz) ((s1.trans s2).trans sc) Hc (Same.refl _) _ fun H4 o s4 go => h2 _ _ s4 fun S hs => by
        cases hs.symm.trans (List.getElem?_eq_getElem hj2)
        exact go)
    · obtain ⟨s3, ys, hD, hyl, hys⟩ := hpv
      exact q _ _ (s2.trans s3) ⟨D, ys, rfl, hD, allV_of (by rw [hyl, hvl, hl]) fun j R v hRj hv => hys j v hv R hRj⟩
/-- t[i] -/
theorem of_ixT {K : PySem.W.Frag} {ms : List Nat} {i m : Nat} (h : ms[i]? = some m) : OpF (isTup ms) (isV (.int (i : Int))) (rIxT K) (isV (.int (m : Int))) := fun H x y ⟨q', ex, hq⟩ ey Q q =>
  ⟨q', _, i, .int (m : Int), ex, ey, SqT.of hq, atI_nat (by unfold vm; rw [List.getElem?_map, h]; rfl), q _ _ (Same.refl _) rfl⟩
/-- tuple(xs) -/
abbrev isLsN (ms : List Nat) : RV := fun H z => LsN H z ms
theorem sty_lsN (ms : List Nat) : Sty (isLsN ms) := fun _ _ _ e h => h.same e
theorem ev_tupO {K : PySem.W.Frag} {ms : List Nat} {t : TE} {σ : L2.St} {H : Hp} (a : Ev (isLsN ms) t σ H) : Ev (isTup ms) (tCB (rTupO K) (tCons t tNil)) σ H := fun H1 s1 Q q =>
  a H1 s1 _ fun H2 x s2 ⟨y, e, hy⟩ => ⟨y, _, by rw [e], .inl ⟨SqL.of hy, fun T nT => q _ _ (s2.trans (same_new nT)) ⟨T, rfl, upd_same⟩⟩⟩
/-- [te for x in range(n)], ints -/
theorem ev_lcR {i N : Nat} {ms : List Nat} {ta te : TE} {σ : L2.St} {H : Hp} (hl : ms.length = N) (hN : N ≤ 1000) (hw : ∀ z : V, wipe ((wipe σ [i]).set i (some z)) [i] = wipe σ [i])
    (a : Ev (isV (.int (N : Int))) ta σ H) (b : ∀ (j m : Nat) (H1 : Hp), ms[j]? = some m → Same H H1 → Ev (isV (.int (m : Int))) te ((wipe σ [i]).set i (some (.int (j : Int)))) H1) : Ev (isLsN ms) (tLc (iRng1 (tCons ta tNil)) (gName i) tYes te [i]) σ H := fun H1 s1 Q q =>
  a H1 s1 _ fun H2 x s2 ex => by
    refine ⟨(N : Int), by rw [ex], by omega, by omega, fun D nD => lcg_range (n := N) (G := fun j y _ => ∀ m, ms[j]? = some m → y = .int (m : Int)) ⟨fun h _ => h, fun h _ => h⟩ nD hN (fun j Hc hj sc => ?_) (fun H3 hpv => ?_)⟩
    · intro R1 R2 h2
      have hm : ms[j]? = some ms[j] := List.getElem?_eq_getElem (by omega)
      rw [Int.zero_add]
      refine ⟨hw _, ?_⟩
      exact iteT (B := R1 Hc) (b j _ Hc hm ((s1.trans s2).trans sc) Hc (Same.refl _) _ fun H4 o s4 go => h2 _ _ s4 fun m e => by
        cases e.symm.trans hm
        exact go)
    · obtain ⟨s3, ys, hD, hyl, hys⟩ := hpv
      refine q _ _ (s2.trans s3) ⟨D, rfl, ?_⟩
      have e : ys = vm ms := List.ext_getElem? fun j => by
        rcases Nat.lt_or_ge j N with lt | ge
        · have h1 := List.getElem?_eq_getElem (l := ys) (i := j) (by omega)
          have h2 := List.getElem?_eq_getElem (l := ms) (i := j) (by omega)
          rw [h1, hys j _ h1 _ h2]
          unfold vm
          rw [List.getElem?_map, h2]
          rfl
        · rw [List.getElem?_eq_none (by omega), List.getElem?_eq_none (by rw [vm_len]; omega)]
      rw [hD, e]
/-- [x for x in range(n) if tt] -/
theorem ev_lcF {i N : Nat} (q : Nat → Bool) {ta : TE} {tt : TT} {σ : L2.St} {H : Hp} (hi : i < σ.length) (hN : N ≤ 1000) (hw : ∀ z : V, wipe ((wipe σ [i]).set i (some z)) [i] = wipe σ [i]) (he : ∀ z : V, ((wipe σ [i]).set i (some z))[i]? = some (some z))
    (a : Ev (isV (.int (N : Int))) ta σ H) (b : ∀ (j : Nat) (H1 : Hp), j < N → Same H H1 → EvT (q j) tt ((wipe σ [i]).set i (some (.int (j : Int)))) H1) : Ev (isLsN ((List.range N).filter q)) (tLc (iRng1 (tCons ta tNil)) (gName i) tt (tVar i) [i]) σ H := fun H1 s1 Q q' =>
  a H1 s1 _ fun H2 x s2 ex => by
    refine ⟨(N : Int), by rw [ex], by omega, by omega, fun D nD => lcp_range (n := N) (p := q) (f := fun m => .int (m : Int)) nD (small64 hN) (fun j Hc hj sc => ?_) (fun H3 s3 hD => ?_)⟩
    · intro R1 R2 h1 h2
      rw [Int.zero_add]
      refine ⟨hw _, b j Hc hj ((s1.trans s2).trans sc) Hc (Same.refl _) _ fun H4 s4 => ?_⟩
      cases hq : q j with
      | true => exact iteT ⟨_, he _, h2 hq _ s4⟩
      | false => exact iteF (h1 hq _ s4)
    · exact q' _ _ (s2.trans s3) ⟨D, rfl, hD⟩
theorem of_neN {K : PySem.W.Frag} {ms ks : List Nat} : OpF (isLsN ms) (isLsN ks) (rNeD K) (isB (!decide (ms = ks))) := fun H x y gx gy Q q => ne_lstN gx gy (q _ _ (Same.refl _) rfl)
theorem ev_lst0 {σ : L2.St} {H : Hp} : Ev (isLsN []) (tLst tNil) σ H := fun H1 s1 Q q => ⟨sz (show 0 ≤ 1000 by decide), fun T nT => q _ _ (same_new nT) ⟨T, rfl, by rw [upd_same]; rfl⟩⟩
theorem lots_dp {K : PySem.W.Frag} {n : Nat} : ∀ {ps : List (Nat → Bool)} {H : Hp} {vs : List V}, AllV (ps.map (isLot n)) H vs → DpAll K H vs (ps.map (dLot n))
  | [], _, [], _ => .nil
  | p :: ps, _, v :: vs, h => .cons h.1.dp (lots_dp h.2)
theorem lots_eqv {n : Nat} : ∀ {ps qs : List (Nat → Bool)}, ps.length = qs.length → (∀ (j : Nat) (p q : Nat → Bool), ps[j]? = some p → qs[j]? = some q → ∀ m, m < 2 ^ n → p m = q m) → PyData.eqvAll (ps.map (dLot n)) (qs.map (dLot n)) = true
  | [], [], _, _ => rfl
  | p :: ps, q :: qs, hl, h => by
    show (PyData.eqv (dLot n p) (dLot n q) && PyData.eqvAll (ps.map (dLot n)) (qs.map (dLot n))) = true
    rw [eqv_lot (h 0 p q rfl rfl), lots_eqv (Nat.succ.inj hl) fun j p q a b => h (j + 1) p q a b]
    rfl
theorem lots_shaped {n : Nat} (hn : n ≤ 6) : ∀ {ps : List (Nat → Bool)}, ps.length ≤ 64 → SeqAt.shaped (.list (ps.map (dLot n))) = true := by
  intro ps _
  have h : ∀ ps : List (Nat → Bool), ShwAll (ps.map (dLot n)) (1002 * ps.length) 2 := fun ps => by
    induction ps with
    | nil => exact (ShwAll.nil (k := 2)).mono (Nat.zero_le _) (Nat.le_refl _)
    | cons p ps ih => exact (ShwAll.cons (shw_lot hn p) ih).mono (by rw [List.length_cons]; omega) (Nat.le_refl _)
  exact (h ps).list.shaped (show 2 + 1 ≤ 64 by decide)
/-- two lists of lots -/
theorem of_neLs {K : PySem.W.Frag} {n : Nat} {ps qs : List (Nat → Bool)} (hn : n ≤ 6) (h64 : ps.length ≤ 64) (hl : ps.length = qs.length) (h : ∀ (j : Nat) (p q : Nat → Bool), ps[j]? = some p → qs[j]? = some q → ∀ m, m < 2 ^ n → p m = q m) : OpF (isLst (ps.map (isLot n))) (isLst (qs.map (isLot n))) (rNeD K) (isB false) := fun H x y ⟨L, vs, ex, hL, a⟩ ⟨L', us, ey, hL', a'⟩ Q q => by
  subst ex ey
  refine ⟨_, _, .lst (SqL.of hL) (lots_dp a), .lst (SqL.of hL') (lots_dp a'), lots_shaped hn h64, lots_shaped hn (by omega), q _ _ (Same.refl _) (congrArg V.bl ?_)⟩
  show (!(PyData.eqvAll (ps.map (dLot n)) (qs.map (dLot n)))) = false
  rw [lots_eqv hl h]
  rfl
end XT
/-! cuts and sums of tuples -/
namespace XT
open PySem PySem.Spec PyProof.Rows L2
section
variable {X : Cx}
theorem cutV_whole {xs : List V} {lo hi : Option Int} (h : HT.sIx xs.length 0 lo = 0 ∧ HT.sIx xs.length xs.length hi = xs.length) : cutV xs lo hi = xs := by
  unfold cutV
  rw [h.1, h.2, List.drop_zero, Nat.sub_zero, List.take_length]
/-- a cut of a tuple, the same one or a new one -/
def rSlU (K : PySem.W.Frag) : V → Option Int → Option Int → Hp → VK → Prop := fun x lo hi H Q => ∃ a xs, x = .ref a ∧ SqT K H a xs ∧ ∀ H' p, Same H H' → SqT K H' p (cutV xs lo hi) → Q (.ref p) H'
theorem sl_tupU : SlR X (rSlU X.K) := by
  intro pins s σ H x v vl vu lo hi sl Q I rx hs pl pu h
  obtain ⟨a, xs, rfl, hx, q⟩ := h
  refine sl_tupA pins s σ H _ v vl vu lo hi sl Q I rx hs pl pu ⟨a, xs, rfl, hx, fun hw => q H a (Same.refl H) (by rw [cutV_whole hw]; exact hx), fun _ p np => q _ p (same_new np) (SqT.of upd_same)⟩
/-- t + u -/
def rCatU (K : PySem.W.Frag) : R2 := fun x y H Q => ∃ a b xs ys, x = .ref a ∧ y = .ref b ∧ SqT K H a xs ∧ SqT K H b ys ∧ xs.length + ys.length ≤ sizeLine ∧ ∀ H' p, Same H H' → SqT K H' p (xs ++ ys) → Q (.ref p) H'
theorem op_catU : OpR X (binaryOp .Add) (rCatU X.K) := by
  intro pins s σ H x y v u Q I rx ry h
  obtain ⟨a, b, xs, ys, rfl, rfl, ha, hb, hz, q⟩ := h
  refine op_catA pins s σ H _ _ v u Q I rx ry ⟨a, b, xs, ys, rfl, rfl, ha, hb, hz, fun e => q H b (Same.refl H) (by rw [e]; exact hb), fun _ e => q H a (Same.refl H) (by rw [e, List.append_nil]; exact ha), fun _ _ p np => q _ p (same_new np) (SqT.of upd_same)⟩
end
end XT
/-! cuts, sums, sizes -/
namespace XT
open PySem PySem.Spec PyProof.Rows L2
section
variable {X : Cx}
end
theorem gd_non {M : Nat} : Gd M 10 0 .none := ⟨trivial, Nat.le_refl _, Nat.le_refl _⟩
theorem gd_bl {M : Nat} (b : Bool) : Gd M 10 0 (.bool b) := ⟨trivial, Nat.le_refl _, Nat.le_refl _⟩
theorem gd_int {M : Nat} {i : Int} (h : i.natAbs ≤ M) : Gd M 60 0 (.int i) := ⟨h, Nat.le_refl _, Nat.le_refl _⟩
theorem gd_str {M n : Nat} {x : Str} (h : TxOk x) (l : x.length ≤ n) : Gd M (10 * n + 2) 0 (.str x) := ⟨h, by show 10 * x.length + 2 ≤ _; omega, Nat.le_refl _⟩
theorem gd_odd : ∀ d ∈ oddD, Gd (10 ^ 39) 200 3 d := by
  unfold oddD
  have hs : ∀ (s : String), (Str.ofString s).length ≤ 3 → Gd (10 ^ 39) 200 3 (.str (Str.ofString s)) := fun s h => (gd_str (TxOk.of s) h).mono (Nat.le_refl _) (by omega) (by omega)
  have hi : ∀ i : Int, i.natAbs ≤ 10 ^ 39 → Gd (10 ^ 39) 60 0 (.int i) := fun i h => gd_int h
  have hi3 : ∀ i : Int, i.natAbs ≤ 10 ^ 39 → Gd (10 ^ 39) 200 3 (.int i) := fun i h => (gd_int h).mono (Nat.le_refl _) (by omega) (by omega)
  repeat' (first | exact List.forall_mem_nil _ | refine List.forall_mem_cons.mpr ⟨?_, ?_⟩)
  · exact gd_non.mono (Nat.le_refl _) (by omega) (by omega)
  · exact (gd_bl _).mono (Nat.le_refl _) (by omega) (by omega)
  · exact (gd_bl _).mono (Nat.le_refl _) (by omega) (by omega)
  all_goals first
    | exact hi3 _ (by decide)
    | exact hs "" (by decide)
    | exact hs "0" (by decide)
    | exact hs "lot" (by decide)
    | exact hs "01" (by decide)
    | exact (GdAll.nil (k := 0)).tuple.mono (Nat.le_refl _) (by omega) (by omega)
    | exact (GdAll.nil (k := 0)).list.mono (Nat.le_refl _) (by omega) (by omega)
    | exact (GdAll.cons (hi 0 (by decide)) GdAll.nil).tuple.mono (Nat.le_refl _) (by omega) (by omega)
    | exact (GdAll.cons (hi 0 (by decide)) GdAll.nil).list.mono (Nat.le_refl _) (by omega) (by omega)
    | exact (GdAll.cons (gd_bl true) GdAll.nil).tuple.mono (Nat.le_refl _) (by omega) (by omega)
    | exact (GdAll.cons (hi 0 (by decide)) (GdAll.cons (hi 1 (by decide)) GdAll.nil)).tuple.mono (Nat.le_refl _) (by omega) (by omega)
    | exact (GdAll.cons ((hi 2 (by decide)).mono (Nat.le_refl _) (Nat.le_refl _) (Nat.zero_le 1)) (GdAll.cons (GdAll.cons (hi 0 (by decide)) GdAll.nil).tuple GdAll.nil)).tuple.mono (Nat.le_refl _) (by omega) (by omega)
    | exact ⟨⟨by decide +kernel, by decide +kernel⟩, by decide, by decide⟩
theorem cutD_gd {M n k : Nat} {ds : List PyData} (h : GdAll M n k ds) (lo hi : Option Int) : GdAll M n k (cutD ds lo hi) := (h.drop _).take _
theorem cutD_take {ds : List PyData} {i : Nat} (h : i ≤ ds.length) : cutD ds none (some (i : Int)) = ds.take i := by
  unfold cutD
  rw [HT.sIx_none, HT.sIx_nat, List.drop_zero, Nat.sub_zero, Nat.min_eq_left h]
theorem cutD_drop {ds : List PyData} {i : Nat} (h : i ≤ ds.length) : cutD ds (some (i : Int)) none = ds.drop i := by
  unfold cutD
  rw [HT.sIx_none, HT.sIx_nat, Nat.min_eq_left h]
  exact List.take_of_length_le (by rw [List.length_drop]; exact Nat.le_refl _)
theorem cutV_len {xs : List V} {lo hi : Option Int} : (cutV xs lo hi).length ≤ xs.length := cutV_length xs lo hi
theorem szl {n m : Nat} (h : n ≤ m) (hm : m ≤ 10000000) : n ≤ sizeLine := by rw [sizeLine_eq]; omega
end XT
/-! int(a bool); a tuple once -/
namespace XT
open PySem PySem.Spec PyProof.Rows L2
section
variable {X : Cx}
theorem call_intB : CallR X (.type "int") (fun xs H Q => ∃ b, xs = [.bl b] ∧ Q (.int (if b = true then 1 else 0)) H) := by
  intro pins s σ H xs us Q I rs h
  obtain ⟨b, rfl, h⟩ := h
  cases rs with
  | cons r1 rs =>
    cases rs
    cases r1
    exact PySem.call_int_bool ⟨.int (if b = true then 1 else 0), H, I.tok _, ⟨_, rfl⟩, h⟩
theorem tuple_mul1 (l : Addr) (items : Array Value) (n : Nat) (dd : Option Addr) (sl : Array (Option Value)) (u : Tok) :
    Meets (Builtin.«tuple.__mul__» ⟨[.ref l, .int 1 u], []⟩) (fun _ R s => s.heap.get? l = some { cls := .type "tuple", dict := dd, data := .seq items n, slots := sl } ∧ R (.ok (.ret (Value.ref l))) s) :=
  .of_wp fun prog w A R s h => by
    obtain ⟨hp, g, d, tk, os⟩ := s
    obtain ⟨hl, h⟩ := h
    have f1 := AutoSeq1.idx_int
    wp_walk using wpAny_loadPart' hl
    exact ⟨_, rfl, h⟩
theorem op_rep1 : OpR X (binaryOp .Mult) (fun x y H Q => ∃ l xs, x = .ref l ∧ y = .int 1 ∧ SqT X.K H l xs ∧ Q (.ref l) H) := by
  intro pins s σ H x y v u Q I rx ry h
  obtain ⟨l, xs, rfl, rfl, hT, q⟩ := h
  cases rx
  obtain ⟨t, rfl⟩ := ry
  obtain ⟨its, r, ⟨⟨cls, dd, data, sl⟩, ho, hc, n, hd⟩, hs⟩ := I.tuple hT
  simp only at hc hd
  subst hc hd
  exact wpAny_binaryOp_repeat_ref (T := "tuple") (U := "int") (by decide) ⟨_, ho, rfl⟩ (fun s' => typeIs_int s' 1 t) noFill_tuple_mul F.fills_int_mul F.slot_int_rmul repeat_tuple F.slot_int_index.lookup
    (call_meets F.slot_int_rmul (typeIs_int s 1 t) F.entry_int_rmul (F.args_int_rmul_2 _ _) (int_rmul_tuple 1 t l its.toArray n dd sl)
      ⟨ho, rfl, ⟨_, ho, rfl⟩, call_meets F.slot_tuple_mul ⟨_, ho, rfl⟩ F.entry_tuple_mul (F.args_tuple_mul_2 _ _) (tuple_mul1 l its.toArray n dd sl t) ⟨ho, ⟨.ref l, H, I, rfl, q⟩⟩⟩)
/-- xs == [], xs != [], a list of any things -/
def rEqEL (K : PySem.W.Frag) : R2 := fun x y H Q => ∃ (a b : Addr) (xs : List V), x = .ref a ∧ y = .ref b ∧ SqL K H a xs ∧ SqL K H b [] ∧ Q (.bl xs.isEmpty) H
def rNeEL (K : PySem.W.Frag) : R2 := fun x y H Q => ∃ (a b : Addr) (xs : List V), x = .ref a ∧ y = .ref b ∧ SqL K H a xs ∧ SqL K H b [] ∧ Q (.bl (!xs.isEmpty)) H
theorem op_eqEL (hu : X.A.units < cLine) : OpR X (compareOp .Eq) (rEqEL X.K) := by
  intro pins s σ H x y v u Q I rx ry h
  obtain ⟨a, b, xs, rfl, rfl, ha, hb, q⟩ := h
  cases rx
  cases ry
  obtain ⟨its, r1, p1, _⟩ := I.list ha
  obtain ⟨its2, r2, p2, _⟩ := I.list hb
  cases r2
  cases r1 with
  | nil => exact SeqAt.RcAt.lists (e := fun _ => true) p1.isList p2.isList rfl hu (fun j h1 h2 => absurd h2 (Nat.not_lt_zero _)) X.prog X.w _ _ ⟨.bl true, H, I, rfl, q⟩
  | cons _ _ => exact SeqAt.RcAt.lists_lengths p1.isList p2.isList (by simp) hu X.prog X.w _ _ ⟨.bl false, H, I, rfl, q⟩
theorem op_neEL (hu : X.A.units < cLine) : OpR X (compareOp .NotEq) (rNeEL X.K) := by
  intro pins s σ H x y v u Q I rx ry h
  obtain ⟨a, b, xs, rfl, rfl, ha, hb, q⟩ := h
  cases rx
  cases ry
  obtain ⟨its, r1, p1, _⟩ := I.list ha
  obtain ⟨its2, r2, p2, _⟩ := I.list hb
  cases r2
  cases r1 with
  | nil => exact SeqAt.RcNeAt.lists (e := fun _ => true) p1.isList p2.isList rfl hu (fun j h1 h2 => absurd h2 (Nat.not_lt_zero _)) X.prog X.w _ _ ⟨.bl false, H, I, rfl, q⟩
  | cons _ _ => exact SeqAt.RcNeAt.lists_lengths p1.isList p2.isList (by simp) hu X.prog X.w _ _ ⟨.bl true, H, I, rfl, q⟩
end
end XT
/-! expressions whose value is known as data -/
namespace XT
open PySem PySem.Spec PyProof.Rows L2
abbrev isD (K : PySem.W.Frag) (d : PyData) : RV := fun H z => Dz K H z d
theorem sty_d (K : PySem.W.Frag) (d : PyData) : Sty (isD K d) := fun _ _ _ e h => h.same e
section
variable {K : PySem.W.Frag} {R : RV} {t te : TE} {ta : TA} {σ : L2.St} {H : Hp} {d : PyData} {ds : List PyData}
theorem ev_varD {i : Nat} {v : V} (e : σ[i]? = some (some v)) (h : Dz K H v d) : Ev (isD K d) (tVar i) σ H := ev_var (sty_d K d) e h
theorem ev_i {k : Int} (h : Ev (isV (.int k)) t σ H) : Ev (isD K (.int k)) t σ H := h.mono fun H z e => by subst e; exact .int k
theorem ev_b {b : Bool} (h : Ev (isB b) t σ H) : Ev (isD K (.bool b)) t σ H := h.mono fun H z e => by subst e; exact .bl b
theorem ev_s {x : Str} (h : Ev (isV (.str x)) t σ H) : Ev (isD K (.str x)) t σ H := h.mono fun H z e => by subst e; exact .str x
theorem ev_n (h : Ev (isV .non) t σ H) : Ev (isD K .none) t σ H := h.mono fun H z e => by subst e; exact .non
theorem dz_vm {H : Hp} : ∀ ms : List Nat, DzAll K H (vm ms) (ms.map fun (m : Nat) => .int (m : Int))
  | [] => .nil
  | m :: ms => .cons (.int m) (dz_vm ms)
theorem lot_dz {H : Hp} {v : V} {n : Nat} {p : Nat → Bool} (h : LotAt H v n p) : Dz K H v (dLot n p) := by
  obtain ⟨a, b, rfl, h1, h2⟩ := h
  exact .tup (SqT.of h1) (.cons (.int _) (.cons (.tup (SqT.of h2) (dz_vm _)) .nil))
theorem ev_lotD {n : Nat} {p : Nat → Bool} (h : Ev (isLot n p) t σ H) : Ev (isD K (dLot n p)) t σ H := h.mono fun H z g => lot_dz g
def dTup (ms : List Nat) : PyData := .tuple (ms.map fun (m : Nat) => .int (m : Int))
theorem tup_dz {H : Hp} {v : V} {ms : List Nat} (h : TupAt H v ms) : Dz K H v (dTup ms) := by
  obtain ⟨q, rfl, h⟩ := h
  exact .tup (SqT.of h) (dz_vm _)
theorem ev_tupD {ms : List Nat} (h : Ev (isTup ms) t σ H) : Ev (isD K (dTup ms)) t σ H := h.mono fun H z g => tup_dz g
theorem allV_dz : ∀ {ds : List PyData} {H : Hp} {vs : List V}, AllV (ds.map (isD K)) H vs → DzAll K H vs ds
  | [], _, [], _ => .nil
  | d :: ds, _, v :: vs, h => .cons h.1 (allV_dz h.2)
theorem styA_d : StyA (ds.map (isD K)) := styA_map (fun d => sty_d K d) ds
theorem eva_consD (a : Ev (isD K d) te σ H) (b : EvA (ds.map (isD K)) ta σ H) : EvA ((d :: ds).map (isD K)) (tCons te ta) σ H := eva_cons (sty_d K d) a b
theorem ev_lstD (hl : ds.length ≤ 1000) (a : EvA (ds.map (isD K)) ta σ H) : Ev (isD K (.list ds)) (tLstB ta) σ H := fun H1 s1 Q q =>
  a H1 s1 _ fun H2 vs s2 gv => by
    have g := allV_dz gv
    have hz := g.len
    exact ⟨sz (by omega), fun L nL bL => q _ _ (s2.trans (same_new nL)) (.lst (SqL.of upd_same) bL (g.same (same_new nL)))⟩
theorem ev_tuD (hl : ds.length ≤ 1000) (a : EvA (ds.map (isD K)) ta σ H) : Ev (isD K (.tuple ds)) (tTup ta) σ H := fun H1 s1 Q q =>
  a H1 s1 _ fun H2 vs s2 gv => by
    have g := allV_dz gv
    have hz := g.len
    exact ⟨sz (by omega), fun L nL => q _ _ (s2.trans (same_new nL)) (.tup (SqT.of upd_same) (g.same (same_new nL)))⟩
/-- what repr can tell -/
structure ShD (d : PyData) : Prop where
  dp : d.depth ≤ 64
  sh : d.showable = true
  ln : d.shown.length ≤ sizeLine
theorem Gd.shD {M n k : Nat} {d : PyData} (h : Gd M n k d) (hM : M < 10 ^ 40) (hn : n ≤ 10000000) (hk : k ≤ 64) : ShD d := by
  have s := shown_le hM d h.f
  have z := h.z
  have p := h.p
  exact ⟨by omega, s.1, szl (m := n) (by omega) (by omega)⟩
theorem ev_reprD (s : ShD d) (a : Ev (isD K d) t σ H) : Ev (isV (.str d.shown)) (tCB (rReprA K) (tCons t tNil)) σ H := fun H1 s1 Q q =>
  a H1 s1 _ fun H2 x s2 gx => ⟨x, d, rfl, gx, s.dp, s.sh, s.ln, q _ _ s2 rfl⟩
theorem of_neS {x y : Str} : OpF (isV (.str x)) (isV (.str y)) rNe (isB (!decide (x = y))) := fun H u v ex ey Q q => by
  subst ex ey
  refine ⟨rfl, q _ _ (Same.refl _) (congrArg V.bl (congrArg (!·) ?_))⟩
  rw [Bool.eq_iff_iff, decide_eq_true_iff, decide_eq_true_iff]
  exact ⟨fun e => V.str.inj e, fun e => by rw [e]⟩
theorem of_eqS {x y : Str} : OpF (isV (.str x)) (isV (.str y)) rEq (isB (decide (x = y))) := fun H u v ex ey Q q => by
  subst ex ey
  refine ⟨rfl, q _ _ (Same.refl _) (congrArg V.bl ?_)⟩
  rw [Bool.eq_iff_iff, decide_eq_true_iff, decide_eq_true_iff]
  exact ⟨fun e => V.str.inj e, fun e => by rw [e]⟩
/-- repr(a) != repr(b), of the same data -/
theorem evt_reprs {t' : TE} {e : PyData} (s : ShD d) (he : d = e) (a : Ev (isD K d) t σ H) (b : Ev (isD K e) t' σ H) : EvT false (tTest (tOp rNe (tCB (rReprA K) (tCons t tNil)) (tCB (rReprA K) (tCons t' tNil)))) σ H := by
  subst he
  refine evt_test ((ev_op (sty_v _) (ev_reprD s a) (ev_reprD s b) of_neS).mono fun H z e => ?_)
  rw [e, decide_eq_true rfl]
  rfl
theorem evt_repr1 {i : Nat} {x : Str} (s : ShD d) (he : x = d.shown) (h : σ[i]? = some (some (.str x))) (a : Ev (isD K d) t σ H) : EvT false (tTest (tOp rNe (tCB (rReprA K) (tCons t tNil)) (tVar i))) σ H := by
  subst he
  refine evt_test ((ev_op (sty_v _) (ev_reprD s a) (ev_var (sty_v _) h rfl) of_neS).mono fun H z e => ?_)
  rw [e, decide_eq_true rfl]
  rfl
end
/-- data whose parts are small -/
theorem gd_lot {M n : Nat} (hM : 64 ≤ M) (hn : n ≤ 6) (p : Nat → Bool) : Gd M 5000 2 (dLot n p) := by
  have hl := lot_len hn p
  have h6 := pow6 hn
  have g : ∀ ms : List Nat, (∀ m ∈ ms, m ≤ M) → GdAll M (62 * ms.length) 0 (ms.map fun (m : Nat) => PyData.int (m : Int)) := fun ms => by
    induction ms with
    | nil => intro _; exact GdAll.nil
    | cons m ms ih => intro h; exact (GdAll.cons (gd_int (by have := h m List.mem_cons_self; omega)) (ih fun x hx => h x (List.mem_cons_of_mem _ hx))).mono (Nat.le_refl _) (by rw [List.length_cons]; omega) (Nat.le_refl _)
  have g1 := (g (lotOf n p) fun m hm => by have := (mem_lot.mp hm).1; omega).tuple
  have g2 := (GdAll.cons ((gd_int (M := M) (i := (n : Int)) (by omega)).mono (Nat.le_refl _) (Nat.le_refl _) (Nat.zero_le 1)) (GdAll.cons g1 GdAll.nil)).tuple
  exact g2.mono (Nat.le_refl _) (by omega) (Nat.le_refl _)
end XT
/-! judge, turns_between and judge_holds as values -/
namespace XT
open PySem PySem.Spec PyProof.Rows L2
theorem inV_nat {ms : List Nat} {i : Int} (h : inV (.int i) (vm ms) = true) : ∃ m : Nat, m ∈ ms ∧ i = (m : Int) := by
  unfold inV at h
  obtain ⟨v, hv, e⟩ := List.any_eq_true.mp h
  obtain ⟨m, hm, rfl⟩ := List.mem_map.mp hv
  have e : ((m : Int) == i) = true := e
  exact ⟨m, hm, (eq_of_beq e).symm⟩
/-- where there is a turn, no rows show that there is none -/
theorem rowB_no {n t : Nat} {p r : Nat → Bool} {d : PyData} (ht : t < 2 ^ n) (hk : kpB n p r t = true) : rowB n p r t d = false := by
  have hk := kp_iff.mp hk
  unfold rowB
  split
  · rename_i a x
    cases h : inV (.int x) (vm (lotOf n p)) with
    | false => rw [Bool.false_and, Bool.and_false]
    | true =>
      obtain ⟨m, hm, rfl⟩ := inV_nat h
      obtain ⟨h1, h2⟩ := mem_lot.mp hm
      have e : r (m ^^^ t) = true := by
        rw [← hk _ (xor_lt h1 ht), xor_back]
        exact h2
      rw [bx, in_lot (xor_lt h1 ht), e, Bool.not_true, Bool.and_false, Bool.and_false]
  · rfl
theorem blk_no {n t : Nat} {p r : Nat → Bool} {d : PyData} (ht : t < 2 ^ n) (hk : kpB n p r t = true) : blkB n p r (posT n p r) d = false := by
  cases d with
  | tuple ds =>
    show (decide (lotOf n p ≠ []) && decide (lotOf n r ≠ []) && (decide (ds.length = (lotOf n r).length) && ((posT n p r).zip ds).all fun z => rowB n p r z.1 z.2)) = false
    by_cases hp : lotOf n p = []
    · rw [decide_eq_false (fun z => z hp)]
      rfl
    by_cases hl : ds.length = (lotOf n r).length
    rotate_left
    · rw [decide_eq_false hl, Bool.false_and, Bool.and_false]
    have e : (((posT n p r).zip ds).all fun z => rowB n p r z.1 z.2) = false := by
      obtain ⟨u, eu⟩ := head_of hp
      have hf : fstN n p ∈ lotOf n p := by rw [eu]; exact List.mem_cons_self
      obtain ⟨h1, h2⟩ := mem_lot.mp hf
      have hk' := kp_iff.mp hk
      have mem : t ∈ posT n p r := mem_lot.mpr ⟨ht, by
        show r (t ^^^ fstN n p) = true
        rw [Nat.xor_comm, ← hk' _ (xor_lt h1 ht), xor_back]
        exact h2⟩
      obtain ⟨i, hi, ei⟩ := List.getElem_of_mem mem
      have hid : i < ds.length := by rw [hl, ← posT_len hp]; exact hi
      rw [List.all_eq_false]
      refine ⟨(t, ds[i]), List.mem_iff_getElem.mpr ⟨i, by rw [List.length_zip]; omega, by rw [List.getElem_zip, ei]⟩, ?_⟩
      rw [rowB_no ht hk]
      decide
    rw [e, Bool.and_false, Bool.and_false]
  | _ => rfl
theorem trn_kp {n m : Nat} {p r : Nat → Bool} (hm : m < 2 ^ n) : trnB n p r (.int (m : Int)) = kpB n p r m := by
  show (isM n (.int (m : Int)) && decide (∀ x, x < 2 ^ n → p (x ^^^ m) = r x)) = _
  have e : isM n (.int (m : Int)) = true := by
    show (decide ((0 : Int) ≤ m) && decide ((m : Int) < ((2 ^ n : Nat) : Int))) = true
    rw [decide_eq_true (by omega), decide_eq_true (by omega)]
    rfl
  rw [e, Bool.true_and]
  rfl
theorem jh_turn {n m : Nat} {p r : Nat → Bool} {ms : List Nat} (hm : m < 2 ^ n) : jhB n p r ms (.tuple [.str "turn", .int (m : Int)]) = kpB n p r m := trn_kp hm
theorem jh_blocks {n : Nat} {p r : Nat → Bool} {ms : List Nat} {d : PyData} : jhB n p r ms (.tuple [.str "blocks", d]) = blkB n p r ms d := rfl
theorem jh_sizes {n : Nat} {p r : Nat → Bool} {ms : List Nat} {d e : PyData} : jhB n p r ms (.tuple [.str "sizes", d, e]) = sizB n p r d e := rfl
theorem siz_len {n : Nat} {p r : Nat → Bool} : sizB n p r (.int ((lotOf n p).length : Int)) (.int ((lotOf n r).length : Int)) = !decide ((lotOf n p).length = (lotOf n r).length) := by
  show (decide (((lotOf n p).length : Int) = ((lotOf n p).length : Int)) && (decide (((lotOf n r).length : Int) = ((lotOf n r).length : Int)) && decide (((lotOf n p).length : Int) ≠ ((lotOf n r).length : Int)))) = _
  rw [decide_eq_true rfl, decide_eq_true rfl, Bool.true_and, Bool.true_and]
  by_cases e : (lotOf n p).length = (lotOf n r).length
  · rw [decide_eq_true e, decide_eq_false (fun z => z (by rw [e]))]
    rfl
  · have e2 : ((lotOf n p).length : Int) ≠ ((lotOf n r).length : Int) := fun z => e (by omega)
    rw [decide_eq_false e, decide_eq_true e2]
    rfl
/-- what judge tells is accepted -/
theorem ver_holds (n : Nat) (p r : Nat → Bool) : jhB n p r (posT n p r) (dVer n p r) = true := by
  unfold dVer
  cases hW : lotOf n (kpB n p r) with
  | cons w t =>
    obtain ⟨h1, h2⟩ := mem_lot.mp (show w ∈ lotOf n (kpB n p r) by rw [hW]; exact List.mem_cons_self)
    dsimp only
    rw [jh_turn h1]
    exact h2
  | nil =>
    dsimp only
    by_cases hl : (lotOf n p).length = (lotOf n r).length
    rotate_left
    · rw [if_neg hl, jh_sizes, siz_len, decide_eq_false hl]
      rfl
    rw [if_pos hl, jh_blocks]
    have hp := no_turn hW hl
    have hr : lotOf n r ≠ [] := fun e => hp (by rw [e] at hl; exact List.eq_nil_of_length_eq_zero hl)
    have pl := posT_len (r := r) hp
    show (decide (lotOf n p ≠ []) && decide (lotOf n r ≠ []) && (decide (((posT n p r).map (dRow n p r)).length = (lotOf n r).length) && ((posT n p r).zip ((posT n p r).map (dRow n p r))).all fun z => rowB n p r z.1 z.2)) = true
    rw [decide_eq_true hp, decide_eq_true hr, List.length_map, decide_eq_true pl, Bool.true_and, Bool.true_and, Bool.true_and, List.all_eq_true]
    intro z hz
    obtain ⟨i, hi, ei⟩ := List.getElem_of_mem hz
    rw [List.getElem_zip, List.getElem_map] at ei
    have hi' : i < (posT n p r).length := by rw [List.length_zip, List.length_map] at hi; omega
    have hm : (posT n p r)[i] < 2 ^ n := (mem_lot.mp (List.getElem_mem hi')).1
    rw [← ei]
    generalize (posT n p r)[i] = m at hm ⊢
    have hb : lbN n p r m ∈ blk n p r m := by
      unfold lbN
      obtain ⟨t, et⟩ := head_of (blk_ne hW hl hm)
      rw [et]
      exact List.mem_cons_self
    obtain ⟨hb1, hb2⟩ := List.mem_filter.mp hb
    obtain ⟨hb3, hb4⟩ := mem_lot.mp hb1
    show (decide ((m : Int) = (m : Int)) && (inV (.int ((lbN n p r m : Nat) : Int)) (vm (lotOf n p)) && !inV (.int (Builtin.bitXor ((lbN n p r m : Nat) : Int) (m : Int))) (vm (lotOf n r)))) = true
    rw [bx, in_lot hb3, in_lot (xor_lt hb3 hm), hb4, decide_eq_true rfl, Bool.true_and, Bool.true_and]
    exact hb2
def verN (n : Nat) (p r : Nat → Bool) : Str := if lotOf n (kpB n p r) ≠ [] then "turn" else if (lotOf n p).length = (lotOf n r).length then "blocks" else "sizes"
theorem ver_first (n : Nat) (p r : Nat → Bool) : ∃ ds, dVer n p r = .tuple (.str (verN n p r) :: ds) := by
  unfold dVer verN
  cases hW : lotOf n (kpB n p r) with
  | cons w t => exact ⟨_, rfl⟩
  | nil =>
    dsimp only
    rw [if_neg (show ¬ (([] : List Nat) ≠ []) from fun z => z rfl)]
    by_cases hl : (lotOf n p).length = (lotOf n r).length
    · rw [if_pos hl, if_pos hl]; exact ⟨_, rfl⟩
    · rw [if_neg hl, if_neg hl]; exact ⟨_, rfl⟩
theorem verN_turn (n : Nat) (p r : Nat → Bool) : decide (verN n p r = "turn") = decide (lotOf n (kpB n p r) ≠ []) := by
  unfold verN
  by_cases h : lotOf n (kpB n p r) = []
  · have h2 : ¬ (lotOf n (kpB n p r) ≠ []) := fun z => z h
    rw [if_neg h2, decide_eq_false h2]
    by_cases hl : (lotOf n p).length = (lotOf n r).length
    · rw [if_pos hl]; exact decide_eq_false (by decide +kernel)
    · rw [if_neg hl]; exact decide_eq_false (by decide +kernel)
  · rw [if_pos h, decide_eq_true h]
    exact decide_eq_true rfl
section
variable {K : PySem.W.Frag} {H : Hp}
theorem dp_dzR {n : Nat} {p r : Nat → Bool} : ∀ {ms : List Nat} {vs : List V}, DpAll K H vs (ms.map (dRow n p r)) → DzAll K H vs (ms.map (dRow n p r))
  | [], _, h => by
    cases h
    exact .nil
  | m :: ms, _, h => by
    cases h with
    | cons h1 h2 =>
      refine .cons ?_ (dp_dzR h2)
      unfold dRow at h1 ⊢
      cases h1 with
      | tup a b =>
        cases b with
        | cons c d =>
          cases d with
          | cons e f =>
            cases c
            cases e
            cases f
            exact .tup a (.cons (.int _) (.cons (.int _) .nil))
theorem ver_dz {n : Nat} {p r : Nat → Bool} {z : V} (h : Dp K H z (dVer n p r)) : Dz K H z (dVer n p r) := by
  unfold dVer at h ⊢
  cases hW : lotOf n (kpB n p r) with
  | cons w t =>
    rw [hW] at h
    cases h with
    | tup a b =>
      cases b with
      | cons c d =>
        cases d with
        | cons e f =>
          cases c
          cases e
          cases f
          exact .tup a (.cons (.str _) (.cons (.int _) .nil))
  | nil =>
    rw [hW] at h
    dsimp only at h ⊢
    by_cases hl : (lotOf n p).length = (lotOf n r).length
    · rw [if_pos hl] at h ⊢
      cases h with
      | tup a b =>
        cases b with
        | cons c d =>
          cases d with
          | cons e f =>
            cases c
            cases f
            cases e with
            | tup g i => exact .tup a (.cons (.str _) (.cons (.tup g (dp_dzR i)) .nil))
    · rw [if_neg hl] at h ⊢
      cases h with
      | tup a b =>
        cases b with
        | cons c d =>
          cases d with
          | cons e f =>
            cases f with
            | cons g i =>
              cases c
              cases e
              cases g
              cases i
              exact .tup a (.cons (.str _) (.cons (.int _) (.cons (.int _) .nil)))
end
section
variable {K : PySem.W.Frag} {CW : Addr} {n : Nat} {p r : Nat → Bool} {d : PyData} {t u w : TE} {σ : L2.St} {H : Hp} {E : L2.St → XK}
theorem ev_tb (h1 : 1 ≤ n) (h6 : n ≤ 6) (a : Ev (isLot n p) t σ H) (b : Ev (isLot n r) u σ H) : Ev (isTup (lotOf n (kpB n p r))) (tCallS (spFn CW gTb) E (tCons t (tCons u tNil))) σ H := fun H1 s1 Q q =>
  a H1 s1 _ fun H2 x s2 gx => b H2 (s1.trans s2) _ fun H3 y s3 gy => ⟨⟨x, n, p⟩, ⟨y, n, r⟩, rfl, ⟨gx.same s3, h1, h6⟩, ⟨gy, h1, h6⟩, fun _ H4 z s4 gz => q _ _ ((s2.trans s3).trans s4) gz, fun ne => absurd rfl ne⟩
theorem ev_jd (h1 : 1 ≤ n) (h6 : n ≤ 6) (a : Ev (isLot n p) t σ H) (b : Ev (isLot n r) u σ H) : Ev (isD K (dVer n p r)) (tCallS (spFn CW (gVer K)) E (tCons t (tCons u tNil))) σ H := fun H1 s1 Q q =>
  a H1 s1 _ fun H2 x s2 gx => b H2 (s1.trans s2) _ fun H3 y s3 gy => ⟨⟨x, n, p⟩, ⟨y, n, r⟩, rfl, ⟨gx.same s3, h1, h6⟩, ⟨gy, h1, h6⟩, fun _ H4 z s4 gz => q _ _ ((s2.trans s3).trans s4) (ver_dz gz.2), fun ne => absurd rfl ne⟩
theorem ev_jh (h1 : 1 ≤ n) (h6 : n ≤ 6) (a : Ev (isLot n p) t σ H) (b : Ev (isLot n r) u σ H) (c : Ev (isD K d) w σ H) : Ev (isB (jhB n p r (posT n p r) d)) (tCallS (spJh K CW) E (tCons t (tCons u (tCons w tNil)))) σ H := fun H1 s1 Q q =>
  a H1 s1 _ fun H2 x s2 gx => b H2 (s1.trans s2) _ fun H3 y s3 gy => c H3 ((s1.trans s2).trans s3) _ fun H4 z s4 gz => ⟨⟨x, n, p⟩, ⟨y, n, r⟩, z, d, rfl, ⟨(gx.same s3).same s4, h1, h6⟩, ⟨gy.same s4, h1, h6⟩, gz, fun _ H5 s5 => q _ _ (((s2.trans s3).trans s4).trans s5) rfl, fun ne => absurd rfl ne⟩
theorem of_ixD {ds : List PyData} {j : Nat} {e : PyData} (h : ds[j]? = some e) : OpF (isD K (.tuple ds)) (isV (.int (j : Int))) (rIxT K) (isD K e) := fun H x y gx ey Q q => by
  subst ey
  cases gx with
  | @tup a xs _ hx all =>
    have hl := all.len
    have hj : j < ds.length := (List.getElem?_eq_some_iff.mp h).1
    have hv : xs[j]? = some (xs[j]'(by omega)) := List.getElem?_eq_getElem (by omega)
    obtain ⟨e', he', hz⟩ := all.at hv
    rw [h] at he'
    cases he'
    exact ⟨_, _, _, _, rfl, rfl, hx, atI_nat hv, q _ _ (Same.refl _) hz⟩
theorem ev_ver0 (a : Ev (isD K (dVer n p r)) t σ H) : Ev (isV (.str (verN n p r))) (tOp (rIxT K) t (tC (.int 0))) σ H := by
  obtain ⟨ds, e⟩ := ver_first n p r
  rw [e] at a
  refine (ev_op (sty_d K _) a (ev_c _) (of_ixD (j := 0) rfl)).mono fun H z g => ?_
  cases g
  rfl
end
end XT
/-! sets of numbers and texts whose table can be walked -/
namespace XT
open PySem PySem.Spec PyProof.Rows L2
/-- the key that a value is -/
def kvOf : Value → Key
  | .int k _ => .inl k
  | .str x _ => .inr x
  | _ => .inl 0
abbrev kE (e : Int × Value) : Key := kvOf e.2
def GoodK (w : World) (e : Int × Value) : Prop := keyIs (kE e) e.2 = true ∧ e.1 = keyH w (kE e)
theorem kvOf_is {k : Key} {v : Value} (h : keyIs k v = true) : kvOf v = k := by
  rcases keyIs_shape h with ⟨i, t, rfl, rfl⟩ | ⟨x, t, rfl, rfl⟩ <;> rfl
theorem is_scan {k : Key} {v : Value} (h : keyIs k v = true) : v.scannable = true := by
  rcases keyIs_shape h with ⟨i, t, rfl, rfl⟩ | ⟨x, t, rfl, rfl⟩ <;> rfl
/-- the set at a: S its keys, n their number -/
def SetX (w : World) (h : Heap) (a : Addr) (S : Key → Bool) (n : Nat) : Prop :=
  ∃ o es ep t, h.get? a = some o ∧ o.ExactSet ∧ o.data = .set es ep t ∧ (∀ e ∈ es.toList, GoodK w e) ∧ (es.toList.map kE).Nodup ∧ (∀ k, S k = true ↔ k ∈ es.toList.map kE) ∧
    (es.size < scanBound ∧ es.size = n) ∧ t.fits es.size = true ∧ Ris t.place.toList ∧ (w.params.followText "set-order" = true ∨ t.led = true)
section
variable {P : Program} {w : World} {A : Around} {E : Value → Shared → Prop} {s : Shared} {h h' : Heap} {a : Addr} {S : Key → Bool} {n : Nat}
theorem SetX.at (R : SetX w h a S n) (k : ∀ o, h.get? a = some o → h'.get? a = some o) : SetX w h' a S n := let ⟨o, es, ep, t, ho, r⟩ := R; ⟨o, es, ep, t, k o ho, r⟩
theorem goodK_elems {l : List (Int × Value)} (g : ∀ e ∈ l, GoodK w e) : ElemsOf (mixKind P w) l := fun e he => ⟨⟨kE e, (g e he).1, (g e he).2⟩, is_scan (g e he).1⟩
theorem goodK_mem {l : List (Int × Value)} (g : ∀ e ∈ l, GoodK w e) (k : Key) : k ∈ l.map kE ↔ ∃ e ∈ l, (mixKind P w).is k e.2 = true := by
  refine ⟨fun hk => ?_, fun ⟨e, he, q⟩ => List.mem_map.mpr ⟨e, he, kvOf_is q⟩⟩
  obtain ⟨e, he, rfl⟩ := List.mem_map.mp hk
  exact ⟨e, he, (g e he).1⟩
theorem SetX.of (R : SetX w h a S n) : h.SetOf (mixKind P w) a S n := by
  obtain ⟨o, es, ep, t, ho, hx, hd, g, _, hm, ⟨hb, hn⟩, hf, _⟩ := R
  exact ⟨o, es, ep, t, ho, hx, hd, goodK_elems g, fun k => (hm k).trans (goodK_mem g k), hb, hf, hn⟩
theorem setX_fresh (w : World) (ho : h.get? a = some (newS w)) : SetX w h a (fun _ => false) 0 :=
  ⟨_, #[], 0, _, ho, ⟨rfl, rfl, rfl⟩, rfl, fun e he => by simp at he, by simp, fun k => by simp, ⟨by decide, rfl⟩, rfl, List.Pairwise.nil, by
    cases hc : w.params.followText "set-order"
    · exact .inr rfl
    · exact .inl rfl⟩
/-- what the table's end of an add leaves -/
theorem setX_lay {g : Bool → Sem Unit} (hg : ∀ (b : Bool) (s1 : Shared) (Q' : Unit → Shared → Prop), Q' () s1 → wpAny (model P w) A (g b) Q' E s1)
    {o : Obj} {es e1 : Array (Int × Value)} {ep : Nat} {t t2 : SetTable} (ho : s.heap.get? a = some o) (hx : o.ExactSet) (hd : o.data = .set es ep t) (g1 : ∀ e ∈ e1.toList, GoodK w e) (nd : (e1.toList.map kE).Nodup) (hm : ∀ k, S k = true ↔ k ∈ e1.toList.map kE)
    (hb : e1.size < scanBound) (hf : t2.fits e1.size = true) (hr : Ris t2.place.toList) (hl : w.params.followText "set-order" = true ∨ t2.led = true) {dm : Bool} {R : Option Bool → Shared → Prop}
    (hR : ∀ h', Heap.SameBut a s.heap h' → SetX w h' a S e1.size → R (some true) { s with heap := h' }) :
    wpAny (model P w) A (do
        storeSet a e1 t2
        if (!dm && t2.tooFull) = true then do
            g (relayAll t2 e1 (SetTable.grown e1.size)).2.2
            storeSet a (relayAll t2 e1 (SetTable.grown e1.size)).1 (relayAll t2 e1 (SetTable.grown e1.size)).2.1
            pure (some true)
          else pure (some true)) R E s := by
  refine wpAny_bind (wpAny_storeSet_of ho hd ?_ (fits_of_scanBound hb))
  have ho1 := store_at (es' := e1) (t' := t2) ho hd
  have b1 := Heap.SameBut.update s.heap a (Obj.putSet e1 t2)
  split
  · have pm := relayAll_perm t2 e1 (SetTable.grown e1.size)
    have f3 := relayAll_fits t2 e1 (SetTable.grown e1.size)
    have r3 := relayAll_ris t2 e1 (SetTable.grown e1.size)
    have l3 := relayAll_led t2 e1 (SetTable.grown e1.size)
    generalize relayAll t2 e1 (SetTable.grown e1.size) = Z at pm f3 r3 l3 ⊢
    obtain ⟨e2, t3, gave⟩ := Z
    dsimp only at pm f3 r3 l3 ⊢
    have hsz : e2.size = e1.size := by rw [← Array.length_toList, pm.length_eq, Array.length_toList]
    have hb2 : e2.size < scanBound := by rw [hsz]; exact hb
    refine wpAny_bind (hg _ _ _ (wpAny_bind (wpAny_storeSet_of ho1 rfl ?_ (fits_of_scanBound hb2))))
    exact wpAny_pure (hR _ (b1.trans (Heap.SameBut.update _ a _)) ⟨_, e2, _, t3, store_at (es' := e2) (t' := t3) ho1 rfl, hx, rfl, fun e he => g1 e (pm.mem_iff.mp he), (pm.map kE).nodup_iff.mpr nd, fun k => (hm k).trans (pm.map kE).mem_iff.symm, ⟨hb2, hsz⟩, f3, r3, hl.imp id fun z => by rw [l3]; exact z⟩)
  · exact wpAny_pure (hR _ b1 ⟨_, e1, _, t2, ho1, hx, rfl, g1, nd, hm, ⟨hb, rfl⟩, hf, hr, hl⟩)
theorem setX_put {k : Key} {v : Value} {Q : Bool → Shared → Prop} (R : SetX w s.heap a S n) (hk : keyIs k v = true) (room : n + 1 < scanBound)
    (hQ : ∀ h', Heap.SameBut a s.heap h' → SetX w h' a (fun j => S j || decide (j = k)) (if S k = true then n else n + 1) → Q (!S k) { s with heap := h' }) :
    wpAny (model P w) A (setAddHashed a v ((mixKind P w).hash k)) Q E s := by
  obtain ⟨o, es, ep, t, ho, hx, hd, g, nd, hm, ⟨hb, hn⟩, hf, hr, hl⟩ := R
  have hsc := is_scan hk
  have hel : ElemsOf (mixKind P w) es.toList := goodK_elems g
  have kk := kvOf_is hk
  unfold setAddHashed setAddHashedIn
  refine wpAny_holding (wpAny_bind (wpAny_setState_of ho hd hf ?_))
  dsimp only
  rw [byScan_of hsc hb hel]
  simp only [↓reduceIte]
  unfold setAddByScan
  refine wpAny_bind (wpAny_bind (wpAny_rule (wpAny_bind (wpAny_setScan_of (knd := mixKind P w) hk ho hd hf hel ?_))))
  cases hfi : List.findIdx? (fun e => (mixKind P w).is k e.2) es.toList with
  | some j =>
    dsimp only
    obtain ⟨hj, pj, _⟩ := List.findIdx?_eq_some_iff_getElem.mp hfi
    have hS : S k = true := (hm k).2 ((goodK_mem (P := P) g k).2 ⟨es.toList[j], List.getElem_mem hj, pj⟩)
    have q := hQ s.heap (Heap.SameBut.refl a s.heap) ⟨o, es, ep, t, ho, hx, hd, g, nd, fun i => by
      rw [Bool.or_eq_true, decide_eq_true_eq, ← hm i]
      exact ⟨fun z => z.elim id (fun e => e ▸ hS), .inl⟩, ⟨hb, by rw [if_pos hS]; exact hn⟩, hf, hr, hl⟩
    rw [hS] at q
    exact wpAny_pure (wpAny_pure q)
  | none =>
    dsimp only
    have hno : k ∉ es.toList.map kE := fun z => by
      obtain ⟨e, he, q⟩ := (goodK_mem (P := P) g k).1 z
      have c := List.findIdx?_eq_none_iff.mp hfi e he
      rw [q] at c
      cases c
    have hS : S k = false := by
      cases q : S k with
      | false => rfl
      | true => exact absurd ((hm k).1 q) hno
    have hgw : ∀ (b : Bool) {s1 : Shared} {Q' : Unit → Shared → Prop}, Q' () s1 → wpAny (model P w) A (match b with | true => rule "set.scan.the-table-gave-way" | false => pure ()) Q' E s1 :=
      fun b s1 Q' q => by cases b <;> first | exact wpAny_pure q | exact wpAny_rule q
    have pm := layNew_perm t es ((mixKind P w).hash k) v
    have f1 := layNew_fits t es ((mixKind P w).hash k) v
    have r1 := layNew_ris t es ((mixKind P w).hash k) v hr
    have l1 := layNew_led t es ((mixKind P w).hash k) v
    generalize layNew t es ((mixKind P w).hash k) v = Z at pm f1 r1 l1 ⊢
    obtain ⟨e1, t1, dm, gave⟩ := Z
    dsimp only at pm f1 r1 l1 ⊢
    rw [Array.toList_push] at pm
    have pc : e1.toList.Perm (((mixKind P w).hash k, v) :: es.toList) := pm.trans (List.perm_append_singleton _ _)
    have pk : (e1.toList.map kE).Perm (k :: es.toList.map kE) := by
      have := pc.map kE
      rw [List.map_cons] at this
      rw [show kE ((mixKind P w).hash k, v) = k from kk] at this
      exact this
    have g1 : ∀ e ∈ e1.toList, GoodK w e := fun e he => by
      rcases List.mem_cons.mp (pc.mem_iff.mp he) with z | z
      · rw [z]
        refine ⟨?_, ?_⟩
        · show keyIs (kvOf v) v = true
          rw [kk]; exact hk
        · show keyH w k = keyH w (kvOf v)
          rw [kk]
      · exact g e z
    have nd1 : (e1.toList.map kE).Nodup := pk.nodup_iff.mpr (List.nodup_cons.mpr ⟨hno, nd⟩)
    have m1 : ∀ i, (S i || decide (i = k)) = true ↔ i ∈ e1.toList.map kE := fun i => by
      rw [Bool.or_eq_true, decide_eq_true_eq, hm i, pk.mem_iff, List.mem_cons]
      exact Or.comm
    have hsz : e1.size = n + 1 := by rw [← Array.length_toList, pc.length_eq, List.length_cons, Array.length_toList, hn]
    have hb1 : e1.size < scanBound := by rw [hsz]; exact room
    have hled : w.params.followText "set-order" = true ∨ t1.led = true := hl.imp id fun z => by rw [l1]; exact z
    have fin : ∀ h', Heap.SameBut a s.heap h' → SetX w h' a (fun j => S j || decide (j = k)) e1.size → Q true { s with heap := h' } := fun h' sb r => by
      have q := hQ h' sb
      rw [hS] at q
      rw [hsz] at r
      exact q r
    refine wpAny_bind (hgw _ ?_)
    split
    · refine wpAny_bind ?_
      rw [hashByValue_scannable 8 hsc]
      refine wpAny_pure (setX_lay ?_ ho hx hd g1 nd1 m1 hb1 ?_ ?_ ?_ fun h' sb r => by dsimp only; exact wpAny_pure (fin h' sb r))
      · intro b s1 Q' q; cases b <;> first | exact wpAny_pure q | exact wpAny_rule q
      · first | (split <;> first | exact f1 | exact SetTable.fits_plain_off f1) | exact f1
      · first | (split <;> exact r1) | exact r1
      · first | (split <;> exact hled) | exact hled
    · refine wpAny_bind (wpAny_pure ?_)
      simp only [↓reduceIte]
      exact setX_lay (fun b s1 Q' q => by cases b <;> first | exact wpAny_pure q | exact wpAny_rule q) ho hx hd g1 nd1 m1 hb1 f1 r1 hled fun h' sb r => by dsimp only; exact wpAny_pure (fin h' sb r)
/-- found.add(k) -/
theorem setX_add {k : Key} {v : Value} {Q : Value → Shared → Prop} (R : SetX w s.heap a S n) (hk : keyIs k v = true) (room : n + 1 < scanBound)
    (hQ : ∀ h', Heap.SameBut a s.heap h' → SetX w h' a (fun j => S j || decide (j = k)) (if S k = true then n else n + 1) → Q .none { s with heap := h', toks := s.toks + 1 }) :
    wpAny (model P w) A (call (.builtin "set.add") [.ref a, v]) Q E s := by
  have hS : s.heap.SetOf (mixKind P w) a S n := R.of
  refine wpAny_call_entry F.slot_set_add hS.typeIs F.entry_set_add ?_ (F.args_set_add_2 _ _)
  unfold Builtin.«set.add» Builtin.Frozenset.oneOther
  simp only [List.isEmpty_nil, bind_assoc]
  unfold Builtin.Frozenset.addrOf setAdd
  refine wpAny_bind (wpAny_pure ?_)
  try dsimp only
  refine wpAny_bind (wpAny_pure ?_)
  try dsimp only
  refine wpAny_bind (wpAny_holding (wpAny_bind ((mixKind P w).pyHash hk ?_)))
  refine setX_put (s := { s with toks := s.toks + 1 }) R hk room fun h' sb r => ?_
  exact wpAny_pure ⟨_, rfl, hQ h' sb r⟩
end
/-! the set as a tracked object -/
def SetXO (w : World) (a : Addr) (S : Key → Bool) (n : Nat) : HO := .ext fun h => SetX w h a S n
theorem setXO_new {w : World} {P : Program} {H : Hp} {h : Heap} {a : Addr} {S : Key → Bool} {n : Nat} (R : SetX w h a S n) : ObjOk P w H h a (SetXO w a S n) := by
  have ⟨o, _, _, _, ho, _⟩ := R
  exact ⟨R, ⟨o, ho⟩, fun h1 h2 p k => p.at k⟩
section
variable {X : Cx}
theorem setXO_get {pins : List (Addr × Obj)} {σ : L2.St} {H : Hp} {s : Shared} {a : Addr} {S : Key → Bool} {n : Nat} (I : Inv X pins σ H s) (ha : H a = some (SetXO X.w a S n)) : SetX X.w s.heap a S n := (I.hok a _ ha).1
def rXAdd (w : World) : V → List V → Hp → VK → Prop := fun x xs H Q => ∃ (a : Addr) (k : Key) (S : Key → Bool) (n : Nat), x = V.ref a ∧ xs = [kV k] ∧ H a = some (SetXO w a S n) ∧ n + 1 < scanBound ∧
  Q .non (upd H a (SetXO w a (fun j => S j || decide (j = k)) (if S k = true then n else n + 1)))
theorem mt_xadd : MtR X "set.add" (rXAdd X.w) := by
  intro pins s σ H x xs v us Q I rx rxs h
  obtain ⟨a, k, S, n, rfl, rfl, ha, room, q⟩ := h
  cases rx
  obtain ⟨u, rfl, ru⟩ := rxs.one
  have hk : keyIs k u = true := kV_is (P := X.prog) (w := X.w) ru
  refine setX_add (setXO_get I ha) hk room fun h' sb new => ?_
  have he : ∃ u, h'.get? a = some u := by
    have ⟨o, _, _, _, ho, _⟩ := new
    exact ⟨o, ho⟩
  exact ⟨.non, upd H a (SetXO X.w a (fun j => S j || decide (j = k)) (if S k = true then n else n + 1)), I.write (e := a) (t' := s.toks + 1) (by rw [ha]; trivial) (.inl rfl) (fun b u hb hu => (sb.2 b hb).trans hu) he (setXO_new new), rfl, q⟩
end
end XT
/-! sets whose members are nested tuples of numbers: the search, the add -/
namespace XT
open PySem PySem.Spec PyProof.Rows L2
mutual
/-- a key of numbers (and None) alone -/
def plK : NestedKey → Bool
  | .none => true
  | .num _ => true
  | .text _ => false
  | .tup ks => plKs ks
def plKs : List NestedKey → Bool
  | [] => true
  | k :: ks => plK k && plKs ks
end
/-- the tuple at b is the key k, of numbers, not too deep -/
def KAt (h : Heap) (k : NestedKey) (b : Addr) : Prop := NestedIs h k (.ref b) ∧ k.depth ≤ 8 ∧ plK k = true
section
variable {P : Program} {w : World}
def NoCls (P : Program) (w : World) (d : Nat) (s : Shared) (v : Value) : Prop := ∀ (A : Around) (E : Value → Shared → Prop) (Q : Bool → Shared → Prop), Q false s → wpAny (model P w) A (ofAClassStatement d v) Q E s
def ByVal (P : Program) (w : World) (d : Nat) (s : Shared) (v : Value) : Prop := ∀ (A : Around) (E : Value → Shared → Prop) (Q : Bool → Shared → Prop), Q true s → wpAny (model P w) A (hashByValue d v) Q E s
theorem noCls_tup {d m : Nat} {s : Shared} {a : Addr} {o : Obj} {vs : Array Value} (ho : s.heap.get? a = some o) (hc : o.cls = .type "tuple") (hd : o.data = .seq vs m) (all : ∀ v ∈ vs.toList, NoCls P w d s v) : NoCls P w (d + 1) s (.ref a) := by
  intro A E Q q
  have ty : s.TypeIs (.ref a) "tuple" := ⟨o, ho, hc⟩
  unfold ofAClassStatement
  refine wpAny_bind (wpAny_typeOf ty ?_); dsimp only
  have te : (("tuple" : String) == "tuple") = true := by decide
  simp only [te, if_true, Bool.not_true, Bool.false_eq_true, if_false]
  try refine wpAny_bind (wpAny_pure ?_)
  try simp only [Bool.not_true, Bool.false_eq_true, if_false]
  show wpAny _ _ (seqItems? (.ref a) >>= _) _ _ s; refine wpAny_bind (wpAny_seqItems ho hd ?_); dsimp only
  refine wpAny_bind ?_; show wpAny _ _ (forIn vs _ _) _ _ s; rw [← Array.forIn_toList]
  refine wpAny_forIn_list _ (fun l r z => r.1 = none ∧ z = s ∧ ∀ v ∈ l, NoCls P w d s v) _ ?_ ?_ _ _ ⟨rfl, rfl, all⟩
  · rintro v l r z ⟨hr, rfl, hl⟩
    refine wpAny_bind (hl v List.mem_cons_self _ _ _ ?_); simp only [Bool.false_eq_true, if_false]
    exact wpAny_pure ⟨rfl, rfl, fun u hu => hl u (List.mem_cons_of_mem _ hu)⟩
  · rintro ⟨r1, r2⟩ z ⟨hr, rfl, _⟩
    obtain rfl : r1 = none := hr
    exact wpAny_pure q
theorem byVal_tup {d m : Nat} {s : Shared} {a : Addr} {o : Obj} {vs : Array Value} (ho : s.heap.get? a = some o) (hc : o.cls = .type "tuple") (hd : o.data = .seq vs m) (all : ∀ v ∈ vs.toList, ByVal P w d s v) : ByVal P w (d + 1) s (.ref a) := by
  intro A E Q q
  have ty : s.TypeIs (.ref a) "tuple" := ⟨o, ho, hc⟩
  unfold hashByValue
  refine wpAny_bind (wpAny_specialOf ty F.slot_tuple_hash.lookup ?_)
  show wpAny _ _ (seqItems? (.ref a) >>= _) _ _ s; refine wpAny_bind (wpAny_seqItems ho hd ?_)
  refine wpAny_bind ?_; show wpAny _ _ (forIn vs _ _) _ _ s; rw [← Array.forIn_toList]
  refine wpAny_forIn_list _ (fun l r z => r.1 = none ∧ z = s ∧ ∀ v ∈ l, ByVal P w d s v) _ ?_ ?_ _ _ ⟨rfl, rfl, all⟩
  · rintro v l r z ⟨hr, rfl, hl⟩
    refine wpAny_bind (hl v List.mem_cons_self _ _ _ ?_); simp only [Bool.not_true, Bool.false_eq_true, if_false]
    exact wpAny_pure ⟨rfl, rfl, fun u hu => hl u (List.mem_cons_of_mem _ hu)⟩
  · rintro ⟨r1, r2⟩ z ⟨hr, rfl, _⟩
    obtain rfl : r1 = none := hr
    exact wpAny_pure q
theorem noCls_flat (d : Nat) (s : Shared) {v : Value} (h : ∀ n, ofAClassStatement n v = pure false) : NoCls P w d s v := fun A E Q q => by rw [h]; exact wpAny_pure q
theorem byVal_flat (d : Nat) (s : Shared) {v : Value} (h : ∀ n, hashByValue n v = pure true) : ByVal P w d s v := fun A E Q q => by rw [h]; exact wpAny_pure q
mutual
theorem noCls_key : ∀ (k : NestedKey) (v : Value) (d : Nat) (s : Shared), NestedIs s.heap k v → k.depth ≤ d → NoCls P w d s v
  | .none, _, d, s, x, _ => by cases x; exact noCls_flat d s fun n => by cases n <;> rfl
  | .num i, _, d, s, x, _ => by cases x <;> exact noCls_flat d s fun n => by cases n <;> rfl
  | .text y, _, d, s, x, _ => by cases x; exact noCls_flat d s fun n => by cases n <;> rfl
  | .tup ks, _, d, s, x, hd => by
    cases x with
    | tup h1 h2 h3 h4 =>
      simp only [NestedKey.depth] at hd
      cases d with
      | zero => omega
      | succ d => exact noCls_tup h1 h2 h3 (noCls_keys ks _ d s h4 (by omega))
theorem noCls_keys : ∀ (ks : List NestedKey) (vs : List Value) (d : Nat) (s : Shared), NestedAll s.heap ks vs → NestedKey.depthAll ks ≤ d → ∀ v ∈ vs, NoCls P w d s v
  | [], _, d, s, x, _, v, hv => by cases x; cases hv
  | k :: ks, _, d, s, x, hd, v, hv => by
    cases x with
    | cons x1 x2 =>
      simp only [NestedKey.depthAll] at hd
      rcases List.mem_cons.mp hv with e | hv
      · rw [e]; exact noCls_key k _ d s x1 (by omega)
      · exact noCls_keys ks _ d s x2 (by omega) v hv
end
mutual
theorem byVal_key : ∀ (k : NestedKey) (v : Value) (d : Nat) (s : Shared), NestedIs s.heap k v → k.depth ≤ d → plK k = true → ByVal P w d s v
  | .none, _, d, s, x, _, _ => by cases x; exact byVal_flat d s fun n => by cases n <;> rfl
  | .num i, _, d, s, x, _, _ => by cases x <;> exact byVal_flat d s fun n => by cases n <;> rfl
  | .text y, _, d, s, x, _, p => by simp [plK] at p
  | .tup ks, _, d, s, x, hd, p => by
    cases x with
    | tup h1 h2 h3 h4 =>
      simp only [NestedKey.depth] at hd
      rw [plK] at p
      cases d with
      | zero => omega
      | succ d => exact byVal_tup h1 h2 h3 (byVal_keys ks _ d s h4 (by omega) p)
theorem byVal_keys : ∀ (ks : List NestedKey) (vs : List Value) (d : Nat) (s : Shared), NestedAll s.heap ks vs → NestedKey.depthAll ks ≤ d → plKs ks = true → ∀ v ∈ vs, ByVal P w d s v
  | [], _, d, s, x, _, _, v, hv => by cases x; cases hv
  | k :: ks, _, d, s, x, hd, p, v, hv => by
    cases x with
    | cons x1 x2 =>
      simp only [NestedKey.depthAll] at hd
      rw [plKs, Bool.and_eq_true] at p
      rcases List.mem_cons.mp hv with e | hv
      · rw [e]; exact byVal_key k _ d s x1 (by omega) p.1
      · exact byVal_keys ks _ d s x2 (by omega) p.2 v hv
end
variable {A : Around} {E : Value → Shared → Prop} {s : Shared}
theorem KAt.isTy {h : Heap} {k : NestedKey} {b : Addr} (x : KAt h k b) : ∃ o vs n ks, k = .tup ks ∧ h.get? b = some o ∧ o.cls = .type "tuple" ∧ o.data = .seq vs n ∧ NestedAll h ks vs.toList := by
  obtain ⟨x, _⟩ := x
  cases x with
  | tup h1 h2 h3 h4 => exact ⟨_, _, _, _, rfl, h1, h2, h3, h4⟩
theorem KAt.keep {h h1 : Heap} {k : NestedKey} {b : Addr} (x : KAt h k b) (hk : ∀ c o, h.get? c = some o → h1.get? c = some o) : KAt h1 k b := ⟨NestedIs.at (fun c o _ _ e _ => hk c o e) k _ x.1, x.2⟩
theorem KAt.one {h : Heap} {k j : NestedKey} {b : Addr} (x : KAt h k b) (y : KAt h j b) : k = j := NestedIs.inj _ _ _ x.1 y.1
/-- a key stays while a set changes -/
theorem KAt.aside {h h1 : Heap} {k : NestedKey} {a b : Addr} {o : Obj} {es : Array (Int × Value)} {ep : Nat} {t : SetTable} (x : KAt h k b) (ho : h.get? a = some o) (hd : o.data = .set es ep t) (sb : Heap.SameBut a h h1) : KAt h1 k b := by
  refine ⟨NestedIs.at (fun c oc vs n e q => (sb.2 c fun z => ?_).trans e) k _ x.1, x.2⟩
  subst z
  rw [ho] at e; cases e
  rw [hd] at q; cases q
theorem eqv_keys {x y : NestedKey} {a b : Addr} {Q : Bool → Shared → Prop} (hu : A.units + 8 < cLine) (hx : KAt s.heap x a) (hy : KAt s.heap y b) (q : Q (decide (x = y)) s) : wpAny (model P w) A (eqBool (.ref a) (.ref b)) Q E s :=
  (nestedKind P w).eqBool hu ⟨hx.1, hx.2.1⟩ ⟨hy.1, hy.2.1⟩ q
/-- a search among such keys is not seen -/
theorem unseen {k : NestedKey} {b : Addr} {Q : Bool → Shared → Prop} (hk : KAt s.heap k b) {ys : List Value} (hy : ∀ y ∈ ys, ∃ j c, y = Value.ref c ∧ KAt s.heap j c) (q : Q false s) : wpAny (model P w) A (searchCouldBeSeen (.ref b) ys) Q E s := by
  unfold searchCouldBeSeen; refine wpAny_bind ?_
  refine wpAny_forIn_list _ (fun l r z => r.1 = none ∧ z = s ∧ ∀ y ∈ l, ∃ j c, y = Value.ref c ∧ KAt s.heap j c) _ ?_ ?_ _ _ ⟨rfl, rfl, hy⟩
  · rintro v l r z ⟨hr, rfl, hl⟩
    obtain ⟨j, c, rfl, hc⟩ := hl v List.mem_cons_self
    have next : ∀ y ∈ l, ∃ j c, y = Value.ref c ∧ KAt z.heap j c := fun u hu => hl u (List.mem_cons_of_mem _ hu)
    dsimp only
    by_cases very : (b == c || (carriedByValue (.ref b) && carriedByValue (.ref c))) = true
    · exact wp_if_pos very (wpAny_pure ⟨rfl, rfl, next⟩)
    · refine wp_if_neg very (wpAny_bind (quiet_key k _ 8 _ hk.1 hk.2.1 _ _ _ ?_)); simp only [Bool.not_true, Bool.false_eq_true, if_false]
      refine wpAny_bind (quiet_key j _ 8 _ hc.1 hc.2.1 _ _ _ ?_); simp only [Bool.not_true, Bool.false_eq_true, if_false]
      refine wpAny_bind (noCls_key k _ 8 _ hk.1 hk.2.1 _ _ _ ?_); simp only [Bool.false_eq_true, if_false]
      refine wpAny_bind (noCls_key j _ 8 _ hc.1 hc.2.1 _ _ _ ?_); simp only [Bool.false_eq_true, if_false]
      exact wpAny_pure ⟨rfl, rfl, next⟩
  · rintro ⟨r1, r2⟩ z ⟨hr, rfl, _⟩
    obtain rfl : r1 = none := hr
    exact wpAny_pure q
/-! the rows of a set, its table -/
def enK (w : World) (M : List (Addr × NestedKey)) : List (Int × Value) := M.map fun e => (e.2.hash w, Value.ref e.1)
structure TabS (w : World) (M : List (Addr × NestedKey)) (es : Array (Int × Value)) (t : SetTable) : Prop where
  rows : es.toList = enK w M
  tab : TabOk t (M.map fun e => e.2.hash w)
  diff : (M.map Prod.snd).Nodup
  flat : t.plain = true
  ledg : w.params.followText "set-order" = true ∨ t.led = true
  free : M.length * 5 < t.mask * 3
variable {a : Addr} {M : List (Addr × NestedKey)} {es : Array (Int × Value)} {ep : Nat} {t : SetTable}
theorem enK_len (r : es.toList = enK w M) : es.size = M.length := by
  have e := congrArg List.length r
  rwa [enK, List.length_map, Array.length_toList] at e
theorem TabS.size (T : TabS w M es t) : es.size = M.length := enK_len T.rows
theorem TabS.few (T : TabS w M es t) : M.length ≤ 76 := by
  have f := T.free
  rcases T.tab.mok with e | e | e <;> rw [e] at f <;> omega
theorem TabS.fit (T : TabS w M es t) : t.fits es.size = true := by
  have a1 := T.tab.sz
  have a2 := T.size
  have a3 := T.free
  rw [List.length_map] at a1
  unfold SetTable.fits SetTable.fill; rw [T.tab.dm, Bool.and_eq_true, beq_iff_eq, decide_eq_true_eq]
  show t.place.size = es.size ∧ t.place.size + 0 ≤ t.mask
  omega
theorem row_at (r : es.toList = enK w M) {i : Nat} {e : Addr × NestedKey} (h : M[i]? = some e) : es[i]? = some (e.2.hash w, Value.ref e.1) := by
  rw [← Array.getElem?_toList, r, enK, List.getElem?_map, h]; rfl
theorem TabS.odd (T : TabS w M es t) : ¬ t.gaveWay = true := by
  unfold SetTable.gaveWay; rw [mask_odd T.tab.mok]; decide
/-- the c-th state of the way of a hash -/
abbrev stp (t : SetTable) (g : Int) (c : Nat) : SetTable.Probe := nth t.mask (runAt t.mask (SetTable.bits g % (t.mask + 1)) (SetTable.bits g)) c
theorem stp_dm (t : SetTable) (g : Int) (c : Nat) : (stp t g c).dummy = none := by
  have go : ∀ (n : Nat) (p : SetTable.Probe), p.dummy = none → (nth t.mask p n).dummy = none := by
    intro n
    induction n with
    | zero => exact fun p h => h
    | succ n ih => exact fun p h => ih (adv t.mask p) (by unfold adv; split <;> exact h)
  exact go c _ rfl
theorem stp_add (t : SetTable) (g : Int) (c q : Nat) : nth t.mask (stp t g c) q = stp t g (c + q) := (nth_add t.mask c _ q).symm
theorem way_of (t : SetTable) (g : Int) (c q : Nat) : (nth t.mask (stp t g c) q).j = way t.mask g (c + q) := congrArg SetTable.Probe.j (stp_add t g c q)
section
variable {o : Obj} {k : NestedKey} {x : Addr} {g : Int} {Q : SetFound → Shared → Prop} {K : Nat}
/-- the search from its c-th step on; all entries with the key lie ahead -/
theorem seek (T : TabS w M es t) (ho : s.heap.get? a = some o) (hd : o.data = .set es ep t) (hM : ∀ e ∈ M, KAt s.heap e.2 e.1) (hx : KAt s.heap k x) (hu : A.units + 8 < cLine) (hg : g = k.hash w) (kf : K < 10 * SetTable.turns t.mask) (kn : way t.mask g K ∉ t.place.toList) (kb : ∀ c, c < K → way t.mask g c ∈ t.place.toList)
    (yes : k ∈ M.map Prod.snd → Q (.there none) s) (no : k ∉ M.map Prod.snd → Q (.free (way t.mask g K) false) s) :
    ∀ (f c : Nat) (p : Option SetTable.Probe), p.getD (t.probeStart g) = stp t g c → c ≤ K → K < f + c → (∀ (i : Nat) e, M[i]? = some e → e.2 = k → ∃ d, c ≤ d ∧ d < K ∧ t.place.toList[i]? = some (way t.mask g d)) → wpAny (model P w) A (setSearchFrom a (.ref x) g true f p) Q E s := by
  intro f
  induction f with
  | zero => intro c p _ h1 h2 _; omega
  | succ f ih =>
    intro c p hp hc hf ahead
    rw [setSearchFrom_succ]; refine wpAny_bind (wpAny_setState_of ho hd T.fit ?_); dsimp only
    refine wp_if_neg T.odd ?_
    try refine wpAny_bind (wpAny_pure ?_)
    have hash_i : ∀ (i : Nat) e, M[i]? = some e → (fun i => (es[i]?.map (·.1)).getD 0) i = e.2.hash w := fun i e h => by show (es[i]?.map (·.1)).getD 0 = _; rw [row_at T.rows h]; rfl
    have sp := go_spec t T.tab.ris T.tab.dm (fun i => (es[i]?.map (·.1)).getD 0) g (10 * SetTable.turns t.mask) (K - c) (stp t g c) (stp_dm t g c) (by omega) (fun q hq => by rw [way_of]; exact kb _ (by omega)) (by rw [way_of, show c + (K - c) = K by omega]; exact kn)
    have hpr : t.probe (fun i => (es[i]?.map (·.1)).getD 0) g (p.getD (t.probeStart g)) = SetTable.probe.go t (fun i => (es[i]?.map (·.1)).getD 0) g (10 * SetTable.turns t.mask) (stp t g c) := by rw [hp]; rfl
    rcases sp with ⟨q, i, hq, hi, _, before, found⟩ | ⟨nowhere, found⟩
    · rw [way_of] at hi
      rw [hpr, found, way_of, stp_add]
      dsimp only
      have hiM : i < M.length := by
        have z1 := (List.getElem?_eq_some_iff.mp hi).1
        have z2 := T.tab.sz
        rw [List.length_map] at z2
        rw [Array.length_toList] at z1
        omega
      obtain ⟨e, he⟩ : ∃ e, M[i]? = some e := ⟨_, List.getElem?_eq_getElem hiM⟩
      have em := List.mem_of_getElem? he
      have tail : wpAny (model P w) A (searchRest a (.ref x) g true f es t (way t.mask g (c + q)) i (stp t g (c + (q + 1)))) Q E s := by
        unfold searchRest; rw [row_at T.rows he]; dsimp only
        refine wpAny_bind (wpAny_holding (eqv_keys hu (hM e em) hx ?_)); refine wpAny_bind (wpAny_setState_of ho hd T.fit ?_); dsimp only
        by_cases same : e.2 = k
        · exact wp_if_pos (by simp [same]) (wpAny_pure (yes (List.mem_map.mpr ⟨e, em, same⟩)))
        · refine wp_if_neg (by simp [same]) ?_
          try refine wpAny_bind (wpAny_pure ?_)
          rw [sameMem]; dsimp only
          have live : t.slot (way t.mask g (c + q)) = .live i := slot_live T.tab.ris hi
          simp only [if_true, live, row_at T.rows he]
          refine wpAny_bind (wpAny_isSame_ref_self (wpAny_bind (wpAny_pure ?_))); simp only [if_true]
          refine wp_if_neg (by simp [same]) (ih (c + (q + 1)) _ rfl (by omega) (by omega) fun i1 e1 h1 k1 => ?_)
          obtain ⟨d, d1, d2, d3⟩ := ahead i1 e1 h1 k1
          refine ⟨d, ?_, d2, d3⟩
          have ne1 : ¬ d < c + q := fun z => before (d - c) i1 (by omega) (by rw [way_of, show c + (d - c) = d by omega]; exact d3) ((hash_i i1 e1 h1).trans (by rw [k1, hg]))
          have ne2 : d ≠ c + q := fun z => by
            rw [z] at d3
            have s1 := slot_live T.tab.ris d3
            rw [live] at s1
            injection s1 with s1
            rw [← s1, he] at h1
            exact same ((congrArg Prod.snd (Option.some.inj h1)).trans k1)
          omega
      by_cases hl : t.led = true
      · refine wp_if_neg (by simp [hl]) ?_
        try refine wpAny_bind (wpAny_pure ?_)
        exact tail
      · refine wp_if_pos (by simp [hl]) (wpAny_bind (unseen hx (fun y hy => ?_) ?_))
        · obtain ⟨r, hr, rfl⟩ := List.mem_map.mp hy
          have r1 : r ∈ es ∧ r.1 = g := by simpa using hr
          have r2 : r ∈ es.toList := by simpa using r1.1
          rw [T.rows] at r2
          obtain ⟨e2, h2, rfl⟩ := List.mem_map.mp r2
          exact ⟨e2.2, e2.1, rfl, hM e2 h2⟩
        · refine wp_if_neg (by decide) ?_
          try refine wpAny_bind (wpAny_pure ?_)
          exact tail
    · rw [hpr, found, way_of, show c + (K - c) = K by omega]
      dsimp only
      refine wpAny_pure (no fun hm => ?_)
      obtain ⟨e, em, ek⟩ := List.mem_map.mp hm
      obtain ⟨i, hi, ei⟩ := List.getElem_of_mem em
      have hMi : M[i]? = some e := by rw [List.getElem?_eq_getElem hi, ei]
      obtain ⟨d, d1, d2, d3⟩ := ahead i e hMi ek
      exact nowhere (d - c) i (by omega) (by rw [way_of, show c + (d - c) = d by omega]; exact d3) ((hash_i i e hMi).trans (by rw [ek, hg]))
theorem seek_all (T : TabS w M es t) (ho : s.heap.get? a = some o) (hd : o.data = .set es ep t) (hM : ∀ e ∈ M, KAt s.heap e.2 e.1) (hx : KAt s.heap k x) (hu : A.units + 8 < cLine)
    (yes : k ∈ M.map Prod.snd → Q (.there none) s) (no : ∀ K, k ∉ M.map Prod.snd → way t.mask (k.hash w) K ∉ t.place.toList → (∀ c, c < K → way t.mask (k.hash w) c ∈ t.place.toList) → Q (.free (way t.mask (k.hash w) K) false) s) :
    wpAny (model P w) A (setSearch a (.ref x) (k.hash w) true) Q E s := by
  have fr := T.free
  obtain ⟨K, kf, kn, kb⟩ := T.tab.first (by rw [List.length_map]; omega) (k.hash w)
  have small : K < 100000 := by
    have : 10 * SetTable.turns t.mask ≤ 1420 := by
      unfold SetTable.turns
      rcases T.tab.mok with e | e | e <;> omega
    omega
  unfold setSearch
  refine seek T ho hd hM hx hu rfl kf kn kb yes (fun z => no K z kn kb) 100000 0 none rfl (Nat.zero_le _) (by omega) fun i e he ek => ?_
  have h1 : (M.map fun e => e.2.hash w)[i]? = some (k.hash w) := by rw [List.getElem?_map, he, ← ek]; rfl
  have h2 : i < t.place.toList.length := by
    have z1 := (List.getElem?_eq_some_iff.mp he).1
    have z2 := T.tab.sz
    rw [List.length_map] at z2
    rw [Array.length_toList]
    omega
  have h3 := List.getElem?_eq_getElem h2
  obtain ⟨d, hd1, e1⟩ := T.tab.before kn h1 h3
  exact ⟨d, Nat.zero_le _, hd1, by rw [h3, e1]⟩
end
end
end XT
/-! sets whose members are nested tuples of numbers: the add, set(list), sorted(set) -/
namespace XT
open PySem PySem.Spec PyProof.Rows L2 PySem.W
theorem range_get {α : Type} : ∀ M : List α, (List.range M.length).filterMap (fun i => M[i]?) = M
  | [] => rfl
  | x :: M => by
    rw [List.length_cons, List.range_succ_eq_map, List.filterMap_cons_some (f := fun i => (x :: M)[i]?) (a := 0) (b := x) rfl, List.filterMap_map]
    exact congrArg (List.cons x) (range_get M)
section
variable {P : Program} {w : World} {A : Around} {E : Value → Shared → Prop} {s : Shared}
variable {a x : Addr} {M : List (Addr × NestedKey)} {es : Array (Int × Value)} {ep : Nat} {t : SetTable} {o : Obj} {k : NestedKey}
/-- the set at a, its members without themselves -/
def KSet (w : World) (h : Heap) (a : Addr) (M : List (Addr × NestedKey)) : Prop := ∃ o es ep t, h.get? a = some o ∧ o.ExactSet ∧ o.data = .set es ep t ∧ TabS w M es t
theorem KSet.at {h h1 : Heap} (R : KSet w h a M) (kp : ∀ o, h.get? a = some o → h1.get? a = some o) : KSet w h1 a M := let ⟨o, es, ep, t, ho, r⟩ := R; ⟨o, es, ep, t, kp o ho, r⟩
theorem kset_new {h : Heap} (ho : h.get? a = some (newS w)) : KSet w h a [] := ⟨_, #[], 0, _, ho, ⟨rfl, rfl, rfl⟩, rfl, {
  rows := rfl
  tab := ⟨List.Pairwise.nil, rfl, rfl, .inl rfl, fun x hx => (by cases hx), fun i h j hi => (by simp at hi)⟩
  diff := List.nodup_nil
  flat := rfl
  ledg := by
    show _ ∨ (!w.params.followText "set-order") = true
    cases w.params.followText "set-order"
    · exact .inr rfl
    · exact .inl rfl
  free := (by decide : 0 * 5 < 7 * 3) }⟩
/-- rows taken in another order -/
theorem rows_by (r : es.toList = enK w M) {ord : Array Nat} (hp : ord.toList.Perm (List.range M.length)) : ∃ M1, (ord.filterMap (es[·]?)).toList = enK w M1 ∧ M1.Perm M ∧ (M1.map fun e => e.2.hash w) = ord.toList.map fun i => (es.map (·.1)).getD i 0 := by
  have ent : ∀ i : Nat, es[i]? = (M[i]?).map fun e => (e.2.hash w, Value.ref e.1) := fun i => by rw [← Array.getElem?_toList, r, enK, List.getElem?_map]
  refine ⟨ord.toList.filterMap fun i => M[i]?, ?_, ?_, ?_⟩
  · rw [Array.toList_filterMap, enK, List.map_filterMap]
    exact congrArg (fun f => List.filterMap f ord.toList) (funext fun i => ent i)
  · have q := hp.filterMap fun i => M[i]?
    rwa [range_get] at q
  · have go : ∀ l : List Nat, (∀ i ∈ l, i < M.length) → ((l.filterMap fun i => M[i]?).map fun e => e.2.hash w) = l.map fun i => (es.map (·.1)).getD i 0 := by
      intro l
      induction l with
      | nil => intro _; rfl
      | cons i l ih =>
        intro hl
        have hi := List.getElem?_eq_getElem (hl i List.mem_cons_self)
        have ei := ent i
        rw [hi] at ei
        rw [List.filterMap_cons_some hi, List.map_cons, List.map_cons, ih fun j hj => hl j (List.mem_cons_of_mem _ hj)]
        congr 1
        have e5 : (es.map (·.1))[i]? = some ((M[i]'(hl i List.mem_cons_self)).2.hash w) := by rw [Array.getElem?_map, ei]; rfl
        simp [Array.getD_eq_getD_getElem?, e5]
    exact go _ fun i hi => List.mem_range.mp (hp.mem_iff.mp hi)
theorem relay_key (ho : s.heap.get? a = some o) (hex : o.ExactSet) (hd : o.data = .set es ep t) (r : es.toList = enK w M) (hsz : t.place.size = es.size) (hdm : t.dummies = #[]) (hfl : es.size ≤ t.mask) (nd : (M.map Prod.snd).Nodup) (fl : t.plain = true) (lg : w.params.followText "set-order" = true ∨ t.led = true) {wn B : Nat}
    (hw : SetTable.sizeAbove wn - 1 = B) (hB : MaskOk B) (hw2 : SetTable.sizeAbove wn ≤ 128) (hn : M.length * 5 < B * 3) {Q : Unit → Shared → Prop}
    (q : ∀ h1 M1, Heap.SameBut a s.heap h1 → KSet w h1 a M1 → M1.Perm M → Q () { s with heap := h1 }) : wpAny (model P w) A (setRelay a wn) Q E s := by
  have hl := enK_len r
  have hfit : t.fits es.size = true := by
    unfold SetTable.fits SetTable.fill; rw [hdm, Bool.and_eq_true, beq_iff_eq, decide_eq_true_eq]
    show t.place.size = es.size ∧ t.place.size + 0 ≤ t.mask
    omega
  obtain ⟨t1, ord, e, hp, T, em, el, epl, ed⟩ := relaid_ok t (hs := es.map (·.1)) (wanted := wn) hw hB (by rw [Array.size_map, hl]; omega)
  rw [Array.size_map, hl] at hp
  obtain ⟨M1, r1, r2, r3⟩ := rows_by r hp
  rw [← r3] at T
  have hz : (ord.filterMap (es[·]?)).size = es.size := by rw [enK_len r1, hl, r2.length_eq]
  rw [setRelay_eq]; refine wpAny_bind (wpAny_setState_of ho hd hfit ?_); dsimp only
  refine wp_if_neg (by rw [sizeLine_eq]; omega) ?_
  try refine wpAny_bind (wpAny_pure ?_)
  rw [e]; dsimp only
  refine wpAny_bind ?_; refine wp_if_neg (by rw [hz]; simp) ?_
  try refine wpAny_bind (wpAny_pure ?_)
  refine wpAny_pure ?_; dsimp only
  refine wpAny_storeSet_of ho hd ?_ (by rw [hz, hl, sizeLine_eq]; omega)
  refine q _ M1 (Heap.SameBut.update ..) ⟨_, _, _, _, store_at ho hd, ⟨hex.1, hex.2.1, hex.2.2⟩, rfl, r1, T, (r2.map _).nodup_iff.mpr nd, by rw [epl]; exact fl, by rw [el]; exact lg, by rw [r2.length_eq, em]; exact hn⟩ r2
/-- a key is put in -/
theorem kput {Q : Bool → Shared → Prop} (R : KSet w s.heap a M) (hM : ∀ e ∈ M, KAt s.heap e.2 e.1) (hx : KAt s.heap k x) (hu : A.units + 8 < cLine) (room : M.length + 1 ≤ 76)
    (q : ∀ b h1 M1, Heap.SameBut a s.heap h1 → KSet w h1 a M1 → (k ∈ M.map Prod.snd → M1 = M) → (k ∉ M.map Prod.snd → M1.Perm ((x, k) :: M)) → Q b { s with heap := h1 }) :
    wpAny (model P w) A (setAddHashed a (.ref x) (k.hash w)) Q E s := by
  obtain ⟨o, es, ep, t, ho, hex, hd, T⟩ := R
  have hl := T.size
  have fr := T.free
  unfold setAddHashed; refine wpAny_holding ?_
  rw [show (100000 : Nat) = 99999 + 1 from rfl, setAddHashedIn_succ]
  refine wpAny_bind (wpAny_setState_of ho hd T.fit ?_); dsimp only
  refine wp_if_neg (by simp [byScan, Value.scannable]) ?_
  try refine wpAny_bind (wpAny_pure ?_)
  refine wpAny_bind (seek_all T ho hd hM hx hu (fun hm => ?_) fun K hm kn kb => ?_)
  · dsimp only
    exact wpAny_pure (q false s.heap M (Heap.SameBut.refl a s.heap) ⟨o, es, ep, t, ho, hex, hd, T⟩ (fun _ => rfl) fun z => absurd hm z)
  · dsimp only
    refine wpAny_bind (wpAny_setState_of ho hd T.fit ?_); dsimp only
    obtain ⟨u1, u2, u3, u4, u5, u6, _, _, u9⟩ := T.tab.put kn kb
    generalize way t.mask (k.hash w) K = j at u1 u2 u3 u4 u5 u6 u9 ⊢
    have fl : (t.put j).1.plain = true := by rw [u6]; exact T.flat
    generalize t.put j = tp at u1 u3 u4 u5 u6 u9 fl ⊢
    obtain ⟨t1, p⟩ := tp
    dsimp only at u1 u3 u4 u5 u6 u9 fl ⊢
    subst u1
    first
      | (refine wpAny_bind ?_; refine wp_if_pos fl ?_; refine byVal_key k _ 8 _ hx.1 hx.2.1 hx.2.2 _ _ _ ?_)
      | refine wp_if_pos fl (wpAny_bind (byVal_key k _ 8 _ hx.1 hx.2.1 hx.2.2 _ _ _ ?_))
    simp only [if_true]
    generalize SetTable.below t.place j = p at u2 u3 ⊢
    have hin : (SetTable.insertAt es p (k.hash w, Value.ref x)).toList = enK w (M.take p ++ (x, k) :: M.drop p) := by rw [SetTable.toList_insertAt, T.rows]; simp only [enK, List.map_append, List.map_cons, List.map_take, List.map_drop]
    have hts : (M.map fun e => e.2.hash w).take p ++ k.hash w :: (M.map fun e => e.2.hash w).drop p = (M.take p ++ (x, k) :: M.drop p).map fun e => e.2.hash w := by simp only [List.map_append, List.map_cons, List.map_take, List.map_drop]
    rw [hts] at u3
    have pm : (M.take p ++ (x, k) :: M.drop p).Perm ((x, k) :: M) := put_perm M p (x, k)
    generalize M.take p ++ (x, k) :: M.drop p = M1 at hin u3 pm
    have hl1 : M1.length = M.length + 1 := pm.length_eq
    have nd1 : (M1.map Prod.snd).Nodup := (pm.map Prod.snd).nodup_iff.mpr (List.nodup_cons.mpr ⟨hm, T.diff⟩)
    have he1 : (SetTable.insertAt es p (k.hash w, Value.ref x)).size = M.length + 1 := (enK_len hin).trans hl1
    generalize SetTable.insertAt es p (k.hash w, Value.ref x) = es1 at hin he1 ⊢
    refine wpAny_bind (wpAny_storeSet_of ho hd ?_ (by rw [he1, sizeLine_eq]; omega))
    have sb : Heap.SameBut a s.heap (s.heap.update a (Obj.putSet es1 t1)) := Heap.SameBut.update ..
    have ho1 := store_at (es' := es1) (t' := t1) ho hd
    generalize s.heap.update a (Obj.putSet es1 t1) = h1 at sb ho1 ⊢
    have lg : w.params.followText "set-order" = true ∨ t1.led = true := by rw [u5]; exact T.ledg
    rw [List.length_map] at u9
    by_cases full : t1.tooFull = true
    · first
        | (refine wpAny_bind ?_; refine wp_if_pos (by simp [full]) ?_)
        | (refine wp_if_pos (by simp [full]) ?_; refine wpAny_bind ?_)
      have f2 : (M.length + 1) * 5 ≥ t1.mask * 3 := by
        have z := full
        unfold SetTable.tooFull at z
        rw [decide_eq_true_eq, u9] at z
        exact z
      have ps : t1.place.size = es1.size := by
        have z := u3.sz
        rw [List.length_map, hl1] at z
        rw [z, he1]
      rw [hl]
      have two : (t.mask = 7 ∧ M.length = 4) ∨ (t.mask = 31 ∧ M.length = 18) := by
        rcases T.tab.mok with z | z | z
        · rw [u4, z] at f2; rw [z] at fr; exact .inl ⟨z, by omega⟩
        · rw [u4, z] at f2; rw [z] at fr; exact .inr ⟨z, by omega⟩
        · rw [u4, z] at f2; omega
      have go : ∀ B, SetTable.sizeAbove (SetTable.grown (M.length + 1)) - 1 = B → MaskOk B → SetTable.sizeAbove (SetTable.grown (M.length + 1)) ≤ 128 → (M.length + 1) * 5 < B * 3 → wpAny (model P w) A (setRelay a (SetTable.grown (M.length + 1))) (fun _ z => wpAny (model P w) A (pure true) Q E z) E { s with heap := h1 } := fun B b1 b2 b3 b4 => by
        refine relay_key (s := { s with heap := h1 }) ho1 ⟨hex.1, hex.2.1, hex.2.2⟩ rfl hin ps u3.dm (by rw [he1, u4]; rcases two with ⟨z, y⟩ | ⟨z, y⟩ <;> omega) nd1 fl lg b1 b2 b3 (by rw [hl1]; exact b4) fun h2 M2 sb2 R2 pm2 => ?_
        exact wpAny_pure (q true h2 M2 (sb.trans sb2) R2 (fun z => absurd z hm) fun _ => pm2.trans pm)
      rcases two with ⟨_, z⟩ | ⟨_, z⟩
      · exact go 31 (by rw [z, size_20]) (.inr (.inl rfl)) (by rw [z, size_20]; decide) (by omega)
      · exact go 127 (by rw [z, size_76]) (.inr (.inr rfl)) (by rw [z, size_76]; decide) (by omega)
    · first
        | refine wp_if_neg (by simp [full]) ?_
        | (refine wpAny_bind ?_; refine wp_if_neg (by simp [full]) ?_; refine wpAny_pure ?_)
      refine wpAny_pure (q true h1 M1 sb ⟨_, es1, _, t1, ho1, ⟨hex.1, hex.2.1, hex.2.2⟩, rfl, hin, u3, nd1, fl, lg, ?_⟩ (fun z => absurd z hm) fun _ => pm)
      have z := full
      unfold SetTable.tooFull at z
      rw [decide_eq_true_eq, u9] at z
      rw [hl1]
      omega
end
/-! set(list) -/
/-- what the set has of the first i items -/
structure HasK (ks : List (Addr × NestedKey)) (i : Nat) (M : List (Addr × NestedKey)) : Prop where
  sub : ∀ e ∈ M, e ∈ ks.take i
  all : ∀ e ∈ ks.take i, e.2 ∈ M.map Prod.snd
  len : M.length ≤ i
theorem HasK.next {ks M M1 : List (Addr × NestedKey)} {i : Nat} {e : Addr × NestedKey} (g : HasK ks i M) (h : ks[i]? = some e) (c1 : e.2 ∈ M.map Prod.snd → M1 = M) (c2 : e.2 ∉ M.map Prod.snd → M1.Perm ((e.1, e.2) :: M)) : HasK ks (i + 1) M1 := by
  have et : ks.take (i + 1) = ks.take i ++ [e] := by rw [List.take_succ, h]; rfl
  by_cases hm : e.2 ∈ M.map Prod.snd
  · rw [c1 hm]
    refine ⟨fun d hd => by rw [et]; exact List.mem_append_left _ (g.sub d hd), fun d hd => ?_, Nat.le_succ_of_le g.len⟩
    rw [et] at hd
    rcases List.mem_append.mp hd with z | z
    · exact g.all d z
    · rw [List.mem_singleton.mp z]; exact hm
  · have pm := c2 hm
    refine ⟨fun d hd => ?_, fun d hd => ?_, by rw [pm.length_eq]; exact Nat.succ_le_succ g.len⟩
    · rw [et]
      rcases List.mem_cons.mp (pm.mem_iff.mp hd) with z | z
      · rw [z]; exact List.mem_append_right _ (List.mem_singleton.mpr rfl)
      · exact List.mem_append_left _ (g.sub d z)
    · rw [(pm.map Prod.snd).mem_iff]
      rw [et] at hd
      rcases List.mem_append.mp hd with z | z
      · exact List.mem_cons_of_mem _ (g.all d z)
      · rw [List.mem_singleton.mp z]; exact List.mem_cons_self
section
variable {P : Program} {w : World} {A : Around} {E : Value → Shared → Prop} {s : Shared}
theorem upd_keys {I : Addr} {fp wr : List Addr} {G : Array GenState → Array GenState → Prop} {n : Nat} {Pv : Nat → Value → Prop} {St : Nat → Shared → Prop} {R : Result → Shared → Prop} (W : WalksS P w A.in1 I fp wr G n Pv St) (S : Addr) (hSf : S ∉ fp) (ks : List (Addr × NestedKey)) (hn : n = ks.length) (few : ks.length ≤ 76) (hval : ∀ i v, Pv i v → ∃ e, ks[i]? = some e ∧ v = .ref e.1)
    (h0 : Heap) (hk : ∀ e ∈ ks, KAt h0 e.2 e.1) (hS0 : h0.get? S = none) (hw0 : ∀ b ∈ wr, h0.get? b = none) (hu : A.in1.units + 8 < cLine) :
    ∀ (d i : Nat) (s : Shared), n - i = d → i ≤ n → St i s → (∀ b o, h0.get? b = some o → s.heap.get? b = some o) → (∃ M, KSet w s.heap S M ∧ HasK ks i M) →
      (∀ s1 M, Moved (S :: wr) G s s1 → KSet w s1.heap S M → HasK ks n M → R (.ok (.ret .none)) s1) →
      codeAny (model P w) A (.builtin "set.update.loop" ⟨[.ref S, .ref I], []⟩) R s := by
  have w1 : S ∉ wr := fun z => hSf (W.sub _ z)
  have w2 : ∀ b ∈ wr, b ∈ S :: wr := fun b z => List.mem_cons_of_mem _ z
  have kept : ∀ {s s1 : Shared}, Moved wr G s s1 → (∀ b o, h0.get? b = some o → s.heap.get? b = some o) → ∀ b o, h0.get? b = some o → s1.heap.get? b = some o := fun m k0 b o e => m.heap b o (fun z => by rw [hw0 b z] at e; cases e) (k0 b o e)
  intro d
  induction d with
  | zero =>
    intro i s hd hi hst k0 ⟨M, hS, g⟩ hR
    obtain rfl : i = n := by omega
    refine codeAny_builtin F.entry_set_update_loop ?_; rw [Around.under_plainId F.plain_set_update_loop _]
    show wpAny _ A.in1 (pyNext (.ref I) >>= _) _ _ s; refine wpAny_bind (W.done s _ _ hst fun s1 hm => ?_)
    show wpAny _ A.in1 (ret Value.none) _ _ s1; exact wpAny_pure (hR s1 M (hm.mono w2) (hS.at fun o e => hm.heap S o w1 e) g)
  | succ d ih =>
    intro i s hd hi hst k0 ⟨M, hS, g⟩ hR
    have hin : i < n := by omega
    refine codeAny_builtin F.entry_set_update_loop ?_; rw [Around.under_plainId F.plain_set_update_loop _]
    show wpAny _ A.in1 (pyNext (.ref I) >>= _) _ _ s; refine wpAny_bind (W.item i s _ _ hin hst fun v s1 hP hst1 hm => ?_)
    obtain ⟨e, he, rfl⟩ := hval i v hP
    have k1 := kept hm k0
    have hx : KAt s1.heap e.2 e.1 := (hk e (List.mem_of_getElem? he)).keep k1
    have hM : ∀ c ∈ M, KAt s1.heap c.2 c.1 := fun c hc => (hk c (List.mem_of_mem_take (g.sub c hc))).keep k1
    have gl := g.len
    show wpAny _ A.in1 (holding [Value.ref e.1] (setAdd S (.ref e.1)) >>= _) _ _ s1; refine wpAny_bind (wpAny_holding ?_)
    unfold setAdd; refine wpAny_holding (wpAny_bind (pyHash_key e.2 _ _ _ _ hx.1 (by have := hx.2.1; omega) ?_))
    refine kput (s := { s1 with toks := s1.toks + e.2.draws }) (hS.at fun o z => hm.heap S o w1 z) hM hx hu (by omega) fun b h2 M1 sb R1 c1 c2 => ?_
    have k2 : ∀ b o, h0.get? b = some o → h2.get? b = some o := fun b o z => (sb.2 b fun y => by rw [y, hS0] at z; cases z).trans (k1 b o z)
    refine wpAny_pure ⟨plainId_quiet F.plain_set_update_loop _, ih (i + 1) _ (by omega) hin (W.frame _ s1 _ _ hst1 (Nat.le_add_right _ _) fun b hb o z => ?_) k2 ⟨M1, R1, g.next he c1 c2⟩ fun s3 M3 hm3 R3 g3 => ?_⟩
    · rw [sb.2 b fun y => hSf (by rw [← y]; exact hb)]; exact z
    · refine hR s3 M3 (Moved.trans W.gtrans ((hm.mono w2).then_heap (Nat.le_add_right _ _) fun b o hb z => ?_) hm3) R3 g3
      rw [sb.2 b fun y => hb (by rw [y]; exact List.mem_cons_self)]; exact z
abbrev aftK (w : World) (s : Shared) (ks : List (Addr × NestedKey)) (r : Value) (s2 : Shared) : Prop := r = .none ∧ ∃ (hp : Heap) (tk : Nat) (M : List (Addr × NestedKey)), s2 = { s with heap := hp, toks := tk } ∧ KSet w hp s.heap.objs.size M ∧ HasK ks ks.length M ∧ (∀ b o, s.heap.get? b = some o → hp.get? b = some o)
theorem set_keys {l : Addr} {items : Array Value} (ks : List (Addr × NestedKey)) {Q : Value → Shared → Prop} (hh : A.handled = none) (hl : s.heap.IsList l items) (hit : items.toList = ks.map fun e => Value.ref e.1) (hk : ∀ e ∈ ks, KAt s.heap e.2 e.1) (few : ks.length ≤ 76) (hu : A.units + 16 < cLine)
    (h : ∀ (hp : Heap) (tk : Nat) M, KSet w hp s.heap.objs.size M → HasK ks ks.length M → (∀ b o, s.heap.get? b = some o → hp.get? b = some o) → Q (.ref s.heap.objs.size) { s with heap := hp, toks := tk }) : wpAny (model P w) A (call (.type "set") [.ref l]) Q E s := by
  have hz : items.size = ks.length := by
    have e := congrArg List.length hit
    rwa [Array.length_toList, List.length_map] at e
  obtain ⟨mc, mt, m0⟩ := F.called_set.mro
  have m1 := F.called_set.made
  have m2 := F.called_set.sub
  have m3 := F.called_set.notType
  have m4 := F.called_set.canCreate
  have m5 := F.typeCall_set_1 (.ref l)
  refine wpAny_call (codeAny_of_tree ?_); show wpAny _ _ (callAny (.type "set") _) _ _ _
  refine wpAny_pure ⟨Code.quiet_builtin _ (by decide +kernel), codeAny_builtin F.entry_type_call ?_⟩; rw [Around.under_plain (weight_type_call_type "set" [.ref l] []) rfl]
  repeat (any_goals (first | assumption | wp_step))
  refine codeAny_mono (code_set_led1 (.ref l) (E := E) (Q₁ := fun v s1 => v = .ref s.heap.objs.size ∧ s1 = withS w s) ⟨rfl, rfl⟩) fun r s1 hr => ?_
  match r, hr with
  | .error e, hr => exact hr
  | .ok .next, hr => exact hr.elim
  | .ok .brk, hr => exact hr.elim
  | .ok .cont, hr => exact hr.elim
  | .ok (.ret v), hr =>
    obtain ⟨rfl, rfl⟩ := hr
    have g0 : (s.heap.push (newS w)).get? s.heap.objs.size = some (newS w) := Heap.get?_push_size _ rfl
    have g1 : Shared.TypeIs (withS w s) (.ref s.heap.objs.size) "set" := ⟨_, g0, rfl⟩
    have g2 := F.called_set.init.lookup
    have g3 := F.called_set.init.bind (.ref s.heap.objs.size)
    repeat (any_goals (first | assumption | wp_step))
    refine codeAny_mono (codeAny_call_builtin (R := wants (aftK w s ks) E) F.called_set.init.plain F.entry_set_init (check_set_init_1 g1 ?_)) fun r2 s2 hr2 => ?_
    · obtain ⟨ol, hol, hcl, nl, hdl⟩ := hl
      obtain ⟨oc, od, odt, osl⟩ := ol
      simp only at hcl hdl
      subst hcl hdl
      have hol1 : (s.heap.push (newS w)).get? l = some { cls := .type "list", dict := od, data := .seq items nl, slots := osl } := Heap.get?_push_of_some _ hol
      have n1 := F.sub_list_set
      have n2 := F.sub_list_frozenset
      have n3 : (Value.type "list" == Value.type "dict") = false := by decide
      have hl1 : (s.heap.push (newS w)).IsList l items := ⟨_, hol1, rfl, nl, rfl⟩
      have lS : l < s.heap.objs.size := Heap.lt_size hol
      have z1 : (s.heap.push (newS w)).objs.size = s.heap.objs.size + 1 := Heap.size_push ..
      have no : ∀ b, s.heap.objs.size ≤ b → s.heap.get? b = none := fun b hb => by
        cases q : s.heap.get? b with
        | none => rfl
        | some o => exact absurd (Nat.lt_of_lt_of_le (Heap.lt_size q) hb) (Nat.lt_irrefl _)
      unfold Builtin.«set.__init__» noKeywords Builtin.Frozenset.updateFrom
      generalize hPI : pyIter = PI
      wp_walk
      subst hPI
      refine wpAny_pyIter_list hl1 (wpAny_bind (wpAny_runValue ?_))
      refine upd_keys ((Walks.list (by simp [hh]) _ l (by rw [z1]; exact Nat.ne_of_lt (Nat.lt_succ_of_lt lS)) items).toS) s.heap.objs.size (by rw [z1]; simp only [List.mem_cons, List.not_mem_nil, or_false, not_or]; exact ⟨Nat.ne_of_lt (Nat.lt_succ_self _), Nat.ne_of_gt lS⟩) ks hz few (fun i v hv => ?_) s.heap hk (no _ (Nat.le_refl _)) (fun b hb => no b (by rw [List.mem_singleton.mp hb, z1]; exact Nat.le_succ _)) (by simp; omega) (items.size - 0) 0 _ (by omega) (Nat.zero_le _)
        ⟨⟨_, Heap.get?_push_size _ rfl, rfl, rfl⟩, hl1.push _⟩ (fun b o e => Heap.get?_push_of_some _ (Heap.get?_push_of_some _ e)) ⟨[], kset_new (Heap.get?_push_of_some _ g0), fun e he => (by cases he), fun e he => (by simp at he), Nat.le_refl _⟩ ?_
      · have q : items.toList[i]? = some v := by rw [Array.getElem?_toList]; exact hv
        rw [hit, List.getElem?_map] at q
        obtain ⟨e, e1, e2⟩ := Option.map_eq_some_iff.mp q
        exact ⟨e, e1, e2.symm⟩
      · intro s3 M hm hS hg
        obtain ⟨h3, ge, dr, tk, os⟩ := s3
        obtain rfl : ge = s.gens := hm.gens
        obtain rfl : dr = s.drawn := hm.drawn
        obtain rfl : os = s.os := hm.os
        rw [hz] at hg
        show wpAny _ _ _ _ _ _; refine wpAny_pure ?_
        show wpAny _ _ (ret Value.none) _ _ _; refine wpAny_pure ⟨rfl, h3, tk, M, rfl, hS, hg, fun b o e => ?_⟩
        have b0 : b < s.heap.objs.size := Heap.lt_size e
        exact hm.heap b o (by rw [z1]; simp only [List.mem_cons, List.not_mem_nil, or_false, not_or]; exact ⟨Nat.ne_of_lt b0, Nat.ne_of_lt (Nat.lt_succ_of_lt b0)⟩) (Heap.get?_push_of_some _ (Heap.get?_push_of_some _ e))
    · match r2, hr2 with
      | .error e, hr2 => exact hr2
      | .ok .next, hr2 => exact hr2.elim
      | .ok .brk, hr2 => exact hr2.elim
      | .ok .cont, hr2 => exact hr2.elim
      | .ok (.ret v), hr2 =>
        obtain ⟨rfl, hp, tk, M, rfl, hS, hg, hkp⟩ := hr2
        repeat (any_goals (first | assumption | wp_step))
        exact h _ _ _ hS hg hkp
end
end XT
/-! sets whose members are nested tuples of numbers: sorted(set) -/
namespace XT
open PySem PySem.Spec PyProof.Rows L2 PySem.W
section
variable {P : Program} {w : World} {A : Around} {E : Value → Shared → Prop} {s : Shared}
/-! sorted(set) -/
/-- a list of references to rows -/
theorem refs_rows {M : List (Addr × NestedKey)} : ∀ vs : List Value, (∀ v ∈ vs, ∃ e ∈ M, v = Value.ref e.1) → ∃ M1 : List (Addr × NestedKey), vs = M1.map (fun e => Value.ref e.1) ∧ ∀ e ∈ M1, e ∈ M
  | [], _ => ⟨[], rfl, fun e he => nomatch he⟩
  | v :: vs, h => by
    obtain ⟨e, he, rfl⟩ := h _ List.mem_cons_self
    obtain ⟨M1, rfl, h1⟩ := refs_rows vs fun u hu => h u (List.mem_cons_of_mem _ hu)
    exact ⟨e :: M1, rfl, fun d hd => (List.mem_cons.mp hd).elim (fun z => z ▸ he) (h1 d)⟩
theorem nd_of {α β : Type} {f : α → β} {l : List α} (h : (l.map f).Nodup) : l.Nodup := List.Pairwise.of_map f (fun _ _ n e => n (congrArg f e)) h
theorem rows_perm {h : Heap} {M M1 : List (Addr × NestedKey)} (hM : ∀ e ∈ M, KAt h e.2 e.1) (nd : (M.map Prod.snd).Nodup) (h1 : ∀ e ∈ M1, e ∈ M) (pm : (M1.map fun e => Value.ref e.1).Perm (M.map fun e => Value.ref e.1)) : M1.Perm M := by
  have inj : ∀ c ∈ M, ∀ d ∈ M, c.1 = d.1 → c = d := fun c hc d hd e => Prod.ext e ((hM c hc).one (by rw [e]; exact hM d hd))
  have nM : M.Nodup := nd_of nd
  have nr : (M.map fun e => Value.ref e.1).Nodup := List.pairwise_map.mpr (List.Pairwise.imp_of_mem (fun {c d} hc hd n e => n (inj c hc d hd (Value.ref.inj e))) nM)
  refine (List.perm_ext_iff_of_nodup (nd_of (pm.nodup_iff.mpr nr)) nM).mpr fun c => ⟨h1 c, fun hc => ?_⟩
  obtain ⟨d, hd, e⟩ := List.mem_map.mp (pm.mem_iff.mpr (List.mem_map.mpr ⟨c, hc, rfl⟩))
  rw [← inj d (h1 d hd) c hc (Value.ref.inj e)]
  exact hd
theorem flat_swo : SrtO.Swo (fun _ _ : Value => false) := ⟨fun _ _ _ => rfl, fun _ _ _ _ _ => rfl⟩
/-- the rows' refs are sorted by their data -/
theorem sorted_keys {a : Addr} {β : Type} {M : List β} {ad : β → Addr} {ke : β → NestedKey} {enc : β → PyData} {Q : Value → Shared → Prop} (R : KSet w s.heap a (M.map fun e => (ad e, ke e))) (hh : A.handled = none) (hM : ∀ e ∈ M, KAt s.heap (ke e) (ad e)) (ki : ∀ c ∈ M, ∀ d ∈ M, ke c = ke d → c = d) (hr : ∀ e ∈ M, Reads s.heap (.ref (ad e)) (enc e) []) (hal : ∀ c d, alike (enc c) (enc d) = true) (hk : 2 ≤ M.length → ∀ e ∈ M, ∃ x r, enc e = .tuple (x :: r)) (hu : ∀ e ∈ M, A.units + 3 + (enc e).depth < cLine)
    (q : ∀ s1 p (out : Array Value) (c : Nat) (M1 : List β), (∀ b o, s.heap.get? b = some o → s1.heap.get? b = some o) → s1.gens = s.gens → s1.os = s.os → s.heap.objs.size ≤ p → s1.heap.get? p = some (seqObj "list" out c) → M1.Perm M → out.toList = (M1.mergeSort (dataLe false enc)).map (fun e => Value.ref (ad e)) → Q (.ref p) s1) :
    wpAny (model P w) A (call (.builtin "sorted") [.ref a]) Q E s := by
  obtain ⟨o, es, ep, t, ho, hex, hd, T⟩ := R
  have hsz := T.size
  have few := T.few
  have nd := T.diff
  rw [List.length_map] at hsz few
  rw [List.map_map] at nd
  refine Calls.call_function_entry kind_sorted plain_sorted entry_sorted (args_sorted1 _) ?_
  unfold Builtin.«sorted»
  refine wpAny_bind (m := checkCount "sorted" 1 1 _) (wpAny_pure ?_)
  refine wpAny_bind (collect_set (A := A.in1) hh ⟨o, ho, hex.1, hd⟩ T.fit (by unfold scanBound; omega) T.tab.ris T.ledg fun s1 vs k1 hz g1 o1 pm => ?_)
  have er : es.toList.map (·.2) = M.map fun e => Value.ref (ad e) := by rw [T.rows, enK, List.map_map, List.map_map]; rfl
  rw [er] at pm
  obtain ⟨M1, e1, h1⟩ : ∃ M1 : List β, vs = M1.map (fun e => Value.ref (ad e)) ∧ ∀ e ∈ M1, e ∈ M := by
    have go : ∀ vs : List Value, (∀ v ∈ vs, ∃ e ∈ M, v = Value.ref (ad e)) → ∃ M1 : List β, vs = M1.map (fun e => Value.ref (ad e)) ∧ ∀ e ∈ M1, e ∈ M := by
      intro vs
      induction vs with
      | nil => exact fun _ => ⟨[], rfl, fun e he => nomatch he⟩
      | cons v vs ih =>
        intro h
        obtain ⟨e, he, rfl⟩ := h _ List.mem_cons_self
        obtain ⟨M1, rfl, h1⟩ := ih fun u hu => h u (List.mem_cons_of_mem _ hu)
        exact ⟨e :: M1, rfl, fun d hd => (List.mem_cons.mp hd).elim (fun z => z ▸ he) (h1 d)⟩
    exact go vs fun v hv => by
      obtain ⟨e, he, z⟩ := List.mem_map.mp (pm.mem_iff.mp hv)
      exact ⟨e, he, z.symm⟩
  have inj : ∀ c ∈ M, ∀ d ∈ M, ad c = ad d → c = d := fun c hc d hd e => ki c hc d hd ((hM c hc).one (by rw [e]; exact hM d hd))
  have nM : M.Nodup := nd_of nd
  have nr : (M.map fun e => Value.ref (ad e)).Nodup := List.pairwise_map.mpr (List.Pairwise.imp_of_mem (fun {c d} hc hd n e => n (inj c hc d hd (Value.ref.inj e))) nM)
  have pM : M1.Perm M := by
    rw [e1] at pm
    refine (List.perm_ext_iff_of_nodup (nd_of (pm.nodup_iff.mpr nr)) nM).mpr fun c => ⟨h1 c, fun hc => ?_⟩
    obtain ⟨d, hd, e⟩ := List.mem_map.mp (pm.mem_iff.mpr (List.mem_map.mpr ⟨c, hc, rfl⟩))
    rw [← inj d (h1 d hd) c hc (Value.ref.inj e)]
    exact hd
  have lv : vs.length = M.length := by rw [e1, List.length_map, pM.length_eq]
  refine wpAny_bind (wpAny_newList ?_ (by first | (rw [List.size_toArray, lv, sizeLine_eq]; omega) | (rw [lv, sizeLine_eq]; omega)))
  have hoL : (s1.heap.push (seqObj "list" vs.toArray 0)).get? s1.heap.objs.size = some (seqObj "list" vs.toArray 0) := Heap.get?_push_size _ rfl
  have fin : ∀ out : List Value, out = (M1.mergeSort (dataLe false enc)).map (fun e => Value.ref (ad e)) → Q (.ref s1.heap.objs.size) { s1 with heap := sortedHeap (s1.heap.push (seqObj "list" vs.toArray 0)) s1.heap.objs.size vs out.toArray } := fun out eo => by
    obtain ⟨c, hc⟩ := sortedHeap_at (vs := vs) (out := out.toArray) hoL
    refine q { s1 with heap := sortedHeap (s1.heap.push (seqObj "list" vs.toArray 0)) s1.heap.objs.size vs out.toArray } s1.heap.objs.size out.toArray c M1 (fun b u e => ?_) g1 o1 hz hc pM eo
    have z := k1 b u e
    have lt := Heap.lt_size z
    show (sortedHeap (s1.heap.push (seqObj "list" vs.toArray 0)) s1.heap.objs.size vs out.toArray).get? b = some u
    rw [sortedHeap_old (Nat.ne_of_lt lt) (by rw [size_push']; exact Nat.lt_succ_of_lt lt)]
    exact Heap.get?_push_of_some _ z
  by_cases two : 2 ≤ M.length
  · have rd : EachIs (fun v e => ∃ as, Reads (s1.heap.push (seqObj "list" vs.toArray 0)) v (enc e) as ∧ s1.heap.objs.size ∉ as) vs M1 := by
      rw [e1]
      have go : ∀ l : List β, (∀ e ∈ l, e ∈ M) → EachIs (fun v e => ∃ as, Reads (s1.heap.push (seqObj "list" (M1.map fun e => Value.ref (ad e)).toArray 0)) v (enc e) as ∧ s1.heap.objs.size ∉ as) (l.map fun e => Value.ref (ad e)) l := by
        intro l
        induction l with
        | nil => exact fun _ => .nil
        | cons e l ih => exact fun h => .cons ⟨[], PyProof.Rows.Reads.keeps (fun b u z => Heap.get?_push_of_some _ (k1 b u z)) (hr e (h e List.mem_cons_self)), fun z => nomatch z⟩ (ih fun d hd => h d (List.mem_cons_of_mem _ hd))
      exact go M1 h1
    have ra : EachIs (fun v e => v = Value.ref (ad e)) vs M1 := by
      rw [e1]
      have go : ∀ l : List β, EachIs (fun v e => v = Value.ref (ad e)) (l.map fun e => Value.ref (ad e)) l := by
        intro l
        induction l with
        | nil => exact .nil
        | cons e l ih => exact .cons rfl ih
      exact go M1
    refine wpAny_bind (wpAny_holding (list_sort_data (s := { s1 with heap := s1.heap.push (seqObj "list" vs.toArray 0) }) (enc := enc) hoL ra rd (AllAlike.of hal) (.inl fun d hd => ?_) (by rw [pM.length_eq, sizeLine_eq]; omega) (fun e he => by have := hu e (h1 e he); first | omega | (simp only [Around.in1_units]; omega) | (show A.units + 1 + 1 + _ < _; omega)) fun out hl ho => ?_))
    · obtain ⟨e, he, rfl⟩ := List.mem_map.mp hd
      exact hk two e (h1 e he)
    · have eo : out = (M1.mergeSort (dataLe false enc)).map (fun e => Value.ref (ad e)) := by
        have go : ∀ (us : List Value) (l : List β), EachIs (fun v e => v = Value.ref (ad e)) us l → us = l.map fun e => Value.ref (ad e) := by
          intro us l h
          induction h with
          | nil => rfl
          | cons h _ ih => rw [h, ih, List.map_cons]
        exact go _ _ ho
      exact wpAny_pure ⟨_, rfl, fin out eo⟩
  · refine wpAny_bind (wpAny_holding (wpAny_call_entry slot_list_sort ⟨_, hoL, rfl⟩ entry_list_sort (SrtO.list_sort_ord flat_swo hoL (by rw [lv, sizeLine_eq]; omega) (fun h2 => absurd h2 (by omega)) fun out _ hb => ⟨_, rfl, ?_⟩) (args_list_sort _)))
    have one : M1.length < 2 := by rw [pM.length_eq]; omega
    have eo : out = (M1.mergeSort (dataLe false enc)).map (fun e => Value.ref (ad e)) := by
      have p2 := hb.perm
      rw [e1] at p2
      match M1, one, p2 with
      | [], _, p2 => rw [List.mergeSort_nil]; exact p2.eq_nil
      | [e], _, p2 => rw [List.mergeSort_singleton]; exact List.perm_singleton.mp p2
      | _ :: _ :: _, h, _ => exact absurd h (by simp)
    exact wpAny_pure ⟨_, rfl, fin out eo⟩
end
end XT
/-! sets of tuples of masks, sets of lots: set(list), add, sorted, len; min of a list of tuples -/
namespace XT
open PySem PySem.Spec PyProof.Rows L2 PySem.W
def nkI (ms : List Nat) : NestedKey := .tup (ms.map fun (m : Nat) => .num (m : Int))
/-- a tuple of masks, or a width with one -/
def nkS : Option Nat → List Nat → NestedKey
  | none, ms => nkI ms
  | some n, ms => .tup [.num (n : Int), nkI ms]
def dkI (ms : List Nat) : PyData := .tuple (ms.map fun (m : Nat) => .int (m : Int))
def dkS : Option Nat → List Nat → PyData
  | none, ms => dkI ms
  | some n, ms => .tuple [.int (n : Int), dkI ms]
def unI : NestedKey → List Nat
  | .tup ks => ks.map fun k => match k with | .num i => i.toNat | _ => 0
  | _ => []
def unS : Option Nat → NestedKey → List Nat
  | none, k => unI k
  | some _, .tup [_, k] => unI k
  | _, _ => []
theorem unI_nk (ms : List Nat) : unI (nkI ms) = ms := by
  unfold nkI unI
  simp only [List.map_map]
  exact (List.map_congr_left fun m _ => by simp).trans (List.map_id ms)
theorem unS_nk : ∀ (sh : Option Nat) (ms : List Nat), unS sh (nkS sh ms) = ms
  | none, ms => unI_nk ms
  | some _, ms => unI_nk ms
theorem nkS_inj {sh : Option Nat} {ms ks : List Nat} (h : nkS sh ms = nkS sh ks) : ms = ks := by rw [← unS_nk sh ms, h, unS_nk]
theorem pl_nums : ∀ ms : List Nat, plKs (ms.map fun (m : Nat) => NestedKey.num (m : Int)) = true
  | [] => by simp [plKs]
  | m :: ms => by simp [plKs, plK, pl_nums ms]
theorem dp_nums : ∀ ms : List Nat, NestedKey.depthAll (ms.map fun (m : Nat) => NestedKey.num (m : Int)) = 0
  | [] => by simp [NestedKey.depthAll]
  | m :: ms => by simp [NestedKey.depthAll, NestedKey.depth, dp_nums ms]
theorem nkS_ok : ∀ (sh : Option Nat) (ms : List Nat), (nkS sh ms).depth ≤ 2 ∧ plK (nkS sh ms) = true
  | none, ms => by
    unfold nkS nkI
    simp only [NestedKey.depth, plK, pl_nums, dp_nums]
    exact ⟨by decide, by first | rfl | trivial⟩
  | some n, ms => by
    unfold nkS nkI
    simp only [NestedKey.depth, NestedKey.depthAll, plK, plKs, pl_nums, dp_nums]
    exact ⟨by decide, by first | rfl | trivial⟩
abbrev RowM := Addr × List Nat
def RowAt (H : Hp) : Option Nat → RowM → Prop
  | none, e => H e.1 = some (.tup (vm e.2))
  | some n, e => ∃ q, H e.1 = some (.tup [.int (n : Int), .ref q]) ∧ H q = some (.tup (vm e.2))
theorem RowAt.same {H H1 : Hp} : ∀ {sh : Option Nat} {e : RowM}, RowAt H sh e → Same H H1 → RowAt H1 sh e
  | none, _, h, s => s _ _ h
  | some _, _, ⟨q, h1, h2⟩, s => ⟨q, s _ _ h1, s _ _ h2⟩
theorem rowAt_lot {H : Hp} {v : V} {n : Nat} {p : Nat → Bool} (h : LotAt H v n p) : ∃ a, v = .ref a ∧ RowAt H (some n) (a, lotOf n p) := by
  obtain ⟨a, q, rfl, h1, h2⟩ := h
  exact ⟨a, rfl, q, h1, h2⟩
section
variable {X : Cx} {pins : List (Addr × Obj)} {σ : L2.St} {H : Hp} {s : Shared}
theorem nums_at {h : Heap} : ∀ {ms : List Nat} {its : List Value}, Vals (vm ms) its → NestedAll h (ms.map fun (m : Nat) => .num (m : Int)) its ∧ ReadsAll h its (ms.map fun (m : Nat) => .int (m : Int)) []
  | [], _, .nil => ⟨.nil, .nil⟩
  | m :: ms, _, .cons r t => by
    obtain ⟨tk, rfl⟩ := r
    exact ⟨.cons (.int _ _) (nums_at t).1, .cons (.int _ _) (nums_at t).2⟩
theorem tup_row (I : Inv X pins σ H s) {a : Addr} {ms : List Nat} (h : H a = some (.tup (vm ms))) : NestedIs s.heap (nkI ms) (.ref a) ∧ Reads s.heap (.ref a) (dkI ms) [] := by
  obtain ⟨its, r, ⟨o, ho, hc, n, hd⟩, _⟩ := I.tuple (SqT.of h)
  have z := nums_at (h := s.heap) r
  exact ⟨.tup ho hc hd (by simpa using z.1), .tuple ho hc hd (by simpa using z.2)⟩
theorem row_at' (I : Inv X pins σ H s) : ∀ {sh : Option Nat} {e : RowM}, RowAt H sh e → KAt s.heap (nkS sh e.2) e.1 ∧ Reads s.heap (.ref e.1) (dkS sh e.2) []
  | none, e, h => ⟨⟨(tup_row I h).1, by have := (nkS_ok none e.2).1; omega, (nkS_ok none e.2).2⟩, (tup_row I h).2⟩
  | some n, e, ⟨q, h1, h2⟩ => by
    obtain ⟨its, r, ⟨o, ho, hc, c, hd⟩, _⟩ := I.tuple (SqT.of h1)
    have z := tup_row I h2
    match its, r with
    | [_, _], .cons r1 (.cons r2 .nil) =>
      obtain ⟨tk, rfl⟩ := r1
      cases r2
      exact ⟨⟨.tup ho hc hd (.cons (.int _ _) (.cons z.1 .nil)), by have := (nkS_ok (some n) e.2).1; omega, (nkS_ok (some n) e.2).2⟩, .tuple ho hc hd (.cons (.int _ _) (.cons z.2 .nil))⟩
end
/-! the order of rows -/
abbrev ltM (ms ks : List Nat) : Prop := (ms.map fun (m : Nat) => (m : Int)) < ks.map fun (m : Nat) => (m : Int)
theorem cast_inj {ms ks : List Nat} (h : (ms.map fun (m : Nat) => (m : Int)) = ks.map fun (m : Nat) => (m : Int)) : ms = ks := by
  have e := congrArg (List.map Int.toNat) h
  simp only [List.map_map] at e
  have f : ∀ l : List Nat, l.map (Int.toNat ∘ fun (m : Nat) => (m : Int)) = l := fun l => (List.map_congr_left fun m _ => by simp).trans (List.map_id l)
  rwa [f, f] at e
theorem ltM_irr (ms : List Nat) : ¬ ltM ms ms := List.lt_irrefl _
theorem ltM_tr {a b c : List Nat} (h1 : ltM a b) (h2 : ltM b c) : ltM a c := List.lt_trans h1 h2
theorem ltM_as {a b : List Nat} (h1 : ltM a b) : ¬ ltM b a := fun h => ltM_irr _ (ltM_tr h1 h)
theorem ltM_tri {a b : List Nat} (h1 : ¬ ltM a b) (h2 : ¬ ltM b a) : a = b := cast_inj (List.le_antisymm (List.not_lt.mp h2) (List.not_lt.mp h1))
theorem dk_lt : ∀ (sh : Option Nat) (ms ks : List Nat), dataLt (dkS sh ms) (dkS sh ks) = decide (ltM ms ks) := by
  have go : ∀ ms ks : List Nat, dataLt (dkI ms) (dkI ks) = decide (ltM ms ks) := fun ms ks => by
    have e := dataLt_ints (ms.map fun (m : Nat) => (m : Int)) (ks.map fun (m : Nat) => (m : Int))
    simp only [List.map_map] at e
    unfold dkI
    rw [dataLt_tuple]
    exact e
  intro sh ms ks
  match sh with
  | none => exact go ms ks
  | some n =>
    show dataLt (.tuple [.int (n : Int), dkI ms]) (.tuple [.int (n : Int), dkI ks]) = _
    have al : alike (dkI ms) (dkI ks) = true := by
      have e := alike_ints (ms.map fun (m : Nat) => (m : Int)) (ks.map fun (m : Nat) => (m : Int))
      simp only [List.map_map] at e
      unfold dkI
      rw [alike]
      exact e
    have ev : PyData.eqv (dkI ms) (dkI ks) = decide (ms = ks) := eqv_tupN ms ks
    rw [dataLt_pair (by simp [alike]) al, ev, go]
    have e1 : PyData.eqv (.int (n : Int)) (.int (n : Int)) = true := by simp [PyData.eqv]
    rw [if_pos e1]
    by_cases h : ms = ks
    · subst h
      rw [if_pos (by simp)]
      exact (decide_eq_false (ltM_irr ms)).symm
    · rw [if_neg (by simp [h])]
theorem dk_alike : ∀ (sh : Option Nat) (ms ks : List Nat), alike (dkS sh ms) (dkS sh ks) = true := by
  have go : ∀ ms ks : List Nat, alike (dkI ms) (dkI ks) = true := fun ms ks => by
    have e := alike_ints (ms.map fun (m : Nat) => (m : Int)) (ks.map fun (m : Nat) => (m : Int))
    simp only [List.map_map] at e
    unfold dkI
    rw [alike]
    exact e
  intro sh ms ks
  match sh with
  | none => exact go ms ks
  | some n =>
    unfold dkS
    simp [alike, alikeAll, go]
theorem dk_depth : ∀ (sh : Option Nat) (ms : List Nat), (dkS sh ms).depth ≤ 2 := by
  have e : ∀ ms : List Nat, PyData.depthAll (ms.map fun (m : Nat) => PyData.int (m : Int)) = 0 := fun ms => by
    induction ms with
    | nil => simp [PyData.depthAll]
    | cons m ms ih => simp [PyData.depthAll, PyData.depth, ih]
  intro sh ms
  match sh with
  | none => simp [dkS, dkI, PyData.depth, e]
  | some n => simp [dkS, dkI, PyData.depth, PyData.depthAll, e]
theorem dk_sort {sh : Option Nat} {M : List RowM} (nd : (M.map Prod.snd).Nodup) : (M.mergeSort (dataLe false fun e => dkS sh e.2)).Perm M ∧ ((M.mergeSort (dataLe false fun e => dkS sh e.2)).map Prod.snd).Pairwise ltM := by
  have pm := List.mergeSort_perm M (dataLe false fun e => dkS sh e.2)
  refine ⟨pm, ?_⟩
  have le : ∀ c d : RowM, dataLe false (fun e => dkS sh e.2) c d = !decide (ltM d.2 c.2) := fun c d => by rw [dataLe_eq]; show (!dataLt (dkS sh d.2) (dkS sh c.2)) = _; rw [dk_lt]
  have pw := List.pairwise_mergeSort (le := dataLe false fun e => dkS sh e.2) (fun a b c h1 h2 => by
      rw [le] at *
      simp only [Bool.not_eq_true', decide_eq_false_iff_not] at *
      intro h
      by_cases e : ltM b.2 c.2
      · exact h1 (ltM_tr e h)
      · exact h1 (by rw [ltM_tri e h2]; exact h)) (fun a b => by
      rw [le, le]
      by_cases h : ltM a.2 b.2
      · simp [h, ltM_as h]
      · simp [h]) M
  have nd2 := (pm.map Prod.snd).nodup_iff.mpr nd
  rw [List.pairwise_map]
  rw [List.Nodup, List.pairwise_map] at nd2
  refine (List.Pairwise.and pw nd2).imp fun {c d} ⟨h1, h2⟩ => ?_
  rw [le] at h1
  simp only [Bool.not_eq_true', decide_eq_false_iff_not] at h1
  exact Classical.byContradiction fun h => h2 (ltM_tri h h1)
/-! the set as a tracked object -/
def KSetO (w : World) (a : Addr) (sh : Option Nat) (M : List RowM) : HO := .ext fun h => KSet w h a (M.map fun e => (e.1, nkS sh e.2))
theorem kso_new {w : World} {P : Program} {H : Hp} {h : Heap} {a : Addr} {sh : Option Nat} {M : List RowM} (R : KSet w h a (M.map fun e => (e.1, nkS sh e.2))) : ObjOk P w H h a (KSetO w a sh M) := by
  have ⟨o, _, _, _, ho, _⟩ := R
  exact ⟨R, ⟨o, ho⟩, fun h1 h2 p k => KSet.at p k⟩
theorem rows_back {sh : Option Nat} {M1 : List (Addr × NestedKey)} {ks : List RowM} (h : ∀ e ∈ M1, e ∈ ks.map fun e => (e.1, nkS sh e.2)) : ∃ M : List RowM, M1 = M.map (fun e => (e.1, nkS sh e.2)) ∧ ∀ e ∈ M, e ∈ ks := by
  induction M1 with
  | nil => exact ⟨[], rfl, fun e he => nomatch he⟩
  | cons c M1 ih =>
    obtain ⟨M, rfl, hM⟩ := ih fun e he => h e (List.mem_cons_of_mem _ he)
    obtain ⟨e, he, rfl⟩ := List.mem_map.mp (h c List.mem_cons_self)
    exact ⟨e :: M, rfl, fun d hd => (List.mem_cons.mp hd).elim (fun z => z ▸ he) (hM d)⟩
theorem snd_mem {sh : Option Nat} {M : List RowM} {ms : List Nat} : nkS sh ms ∈ (M.map fun e => (e.1, nkS sh e.2)).map Prod.snd ↔ ms ∈ M.map Prod.snd := by
  rw [List.map_map]
  constructor
  · intro h
    obtain ⟨e, he, z⟩ := List.mem_map.mp h
    exact List.mem_map.mpr ⟨e, he, nkS_inj z⟩
  · intro h
    obtain ⟨e, he, rfl⟩ := List.mem_map.mp h
    exact List.mem_map.mpr ⟨e, he, rfl⟩
theorem snd_nd {sh : Option Nat} {M : List RowM} (h : ((M.map fun e => (e.1, nkS sh e.2)).map Prod.snd).Nodup) : (M.map Prod.snd).Nodup := by
  rw [List.map_map, List.Nodup, List.pairwise_map] at h
  rw [List.Nodup, List.pairwise_map]
  exact h.imp fun n e => n (congrArg (nkS sh) e)
section
variable {X : Cx}
theorem kso_get {pins : List (Addr × Obj)} {σ : L2.St} {H : Hp} {s : Shared} {a : Addr} {sh : Option Nat} {M : List RowM} (I : Inv X pins σ H s) (ha : H a = some (KSetO X.w a sh M)) : KSet X.w s.heap a (M.map fun e => (e.1, nkS sh e.2)) := (I.hok a _ ha).1
/-- a set that is full enough: it takes one more -/
def rKAdd (w : World) : V → List V → Hp → VK → Prop := fun x xs H Q => ∃ (a b : Addr) (sh : Option Nat) (ms : List Nat) (M : List RowM), x = V.ref a ∧ xs = [V.ref b] ∧ H a = some (KSetO w a sh M) ∧ (∀ e ∈ M, RowAt H sh e) ∧ RowAt H sh (b, ms) ∧ M.length + 1 ≤ 76 ∧
  ∀ (M1 : List RowM), (ms ∈ M.map Prod.snd → M1 = M) → (ms ∉ M.map Prod.snd → M1.Perm ((b, ms) :: M)) → Q .non (upd H a (KSetO w a sh M1))
theorem mt_kadd (hu : X.A.units + 64 < cLine) : MtR X "set.add" (rKAdd X.w) := by
  intro pins s σ H x xs v us Q I rx rxs h
  obtain ⟨a, b, sh, ms, M, rfl, rfl, ha, hM, hb, room, q⟩ := h
  cases rx
  obtain ⟨u, rfl, ru⟩ := rxs.one
  cases ru
  have R := kso_get I ha
  have hx := (row_at' I hb).1
  have hM1 : ∀ e ∈ M.map (fun e => (e.1, nkS sh e.2)), KAt s.heap e.2 e.1 := fun e he => by
    obtain ⟨c, hc, rfl⟩ := List.mem_map.mp he
    exact (row_at' I (hM c hc)).1
  obtain ⟨o, es, ep, t, ho, hex, hd, T⟩ := id R
  refine wpAny_call_entry F.slot_set_add ⟨o, ho, hex.1⟩ F.entry_set_add ?_ (F.args_set_add_2 _ _)
  unfold Builtin.«set.add» Builtin.Frozenset.oneOther
  simp only [List.isEmpty_nil, bind_assoc]
  unfold Builtin.Frozenset.addrOf setAdd
  refine wpAny_bind (wpAny_pure ?_)
  try dsimp only
  refine wpAny_bind (wpAny_pure ?_)
  try dsimp only
  refine wpAny_bind (wpAny_holding (wpAny_bind (pyHash_key (nkS sh ms) _ _ _ _ hx.1 (by have := (nkS_ok sh ms).1; simp only [Around.in1_units]; omega) ?_)))
  refine kput (s := { s with toks := s.toks + (nkS sh ms).draws }) R hM1 hx (by simp only [Around.in1_units]; omega) (by rw [List.length_map]; exact room) fun bb h1 M1 sb R1 c1 c2 => ?_
  have wr : ∀ M2 : List RowM, M1 = M2.map (fun e => (e.1, nkS sh e.2)) → (ms ∈ M.map Prod.snd → M2 = M) → (ms ∉ M.map Prod.snd → M2.Perm ((b, ms) :: M)) → EP X pins σ Q .none { s with heap := h1, toks := s.toks + (nkS sh ms).draws } := fun M2 e d1 d2 => by
    have he : ∃ u, h1.get? a = some u := by
      have ⟨o, _, _, _, ho, _⟩ := R1
      exact ⟨o, ho⟩
    rw [e] at R1
    exact ⟨.non, upd H a (KSetO X.w a sh M2), I.write (e := a) (t' := s.toks + (nkS sh ms).draws) (by rw [ha]; trivial) (.inl rfl) (fun c u hc hu => (sb.2 c hc).trans hu) he (kso_new R1), rfl, q M2 d1 d2⟩
  refine wpAny_pure ⟨_, rfl, ?_⟩
  by_cases hm : ms ∈ M.map Prod.snd
  · exact wr M (c1 (snd_mem.mpr hm)) (fun _ => rfl) fun z => absurd hm z
  · have pm := c2 fun z => hm (snd_mem.mp z)
    obtain ⟨M2, e2, _⟩ := rows_back (sh := sh) (ks := (b, ms) :: M) fun e he => pm.mem_iff.mp he
    refine wr M2 e2 (fun z => absurd z hm) fun _ => ?_
    have z := pm.map fun e : Addr × NestedKey => (e.1, unS sh e.2)
    rw [e2] at z
    simp only [List.map_map, List.map_cons, Function.comp_def, unS_nk] at z
    simpa using z
/-- set(xs) -/
def rKSet (w : World) (K : PySem.W.Frag) : List V → Hp → VK → Prop := fun vs H Q => ∃ (l : Addr) (sh : Option Nat) (ks : List RowM), vs = [V.ref l] ∧ SqL K H l (ks.map fun e => V.ref e.1) ∧ (∀ e ∈ ks, RowAt H sh e) ∧ ks.length ≤ 76 ∧
  ∀ (a : Addr) (M : List RowM), H a = none → (∀ e ∈ M, e ∈ ks) → (∀ e ∈ ks, e.2 ∈ M.map Prod.snd) → (M.map Prod.snd).Nodup → Q (.ref a) (upd H a (KSetO w a sh M))
theorem refs_vals : ∀ {ks : List RowM} {us : List Value}, Vals (ks.map fun e => V.ref e.1) us → us = ks.map fun e => Value.ref e.1
  | [], _, .nil => rfl
  | e :: ks, _, .cons r t => by
    cases r
    rw [refs_vals t, List.map_cons]
theorem vals_refs : ∀ ks : List RowM, Vals (ks.map fun e => V.ref e.1) (ks.map fun e => Value.ref e.1)
  | [] => .nil
  | _ :: ks => .cons rfl (vals_refs ks)
theorem cr_kset (hc : X.calm = true) (hu : X.A.units + 64 < cLine) : CallR X (.type "set") (rKSet X.w X.K) := by
  intro pins s σ H vs us Q I r h
  obtain ⟨l, sh, ks, rfl, hl, hk, few, q⟩ := h
  rw [Vals.ref1 r]
  obtain ⟨its, rv, pl, hz⟩ := I.list hl
  refine set_keys (P := X.prog) (w := X.w) (ks.map fun e => (e.1, nkS sh e.2)) (I.ok.hd hc) pl.isList (by rw [List.map_map]; exact refs_vals rv) (fun e he => ?_) (by rw [List.length_map]; exact few) (by omega) fun hp tk M1 R g kp => ?_
  · obtain ⟨c, hcm, rfl⟩ := List.mem_map.mp he
    exact (row_at' I (hk c hcm)).1
  · obtain ⟨M, rfl, hM⟩ := rows_back (sh := sh) (ks := ks) fun e he => List.mem_of_mem_take (g.sub e he)
    have ⟨_, _, _, _, _, _, _, T⟩ := id R
    refine ⟨.ref s.heap.objs.size, upd H s.heap.objs.size (KSetO X.w s.heap.objs.size sh M), I.laid (t' := tk) kp (Nat.le_refl _) (kso_new R), rfl, q _ M (I.hok.fresh (Nat.le_refl _)) hM (fun e he => ?_) (snd_nd T.diff)⟩
    exact snd_mem.mp (g.all (e.1, nkS sh e.2) (by rw [List.take_length]; exact List.mem_map.mpr ⟨e, he, rfl⟩))
/-- sorted(set) -/
def rKSort (w : World) : List V → Hp → VK → Prop := fun vs H Q => ∃ (a : Addr) (sh : Option Nat) (M : List RowM), vs = [V.ref a] ∧ H a = some (KSetO w a sh M) ∧ (∀ e ∈ M, RowAt H sh e) ∧ (sh = none → 2 ≤ M.length → ∀ e ∈ M, e.2 ≠ []) ∧
  ∀ (p : Addr) (M1 : List RowM), M1.Perm M → (M1.map Prod.snd).Pairwise ltM → M1.length ≤ 76 → H p = none → Q (.ref p) (upd H p (.lst (M1.map fun e => V.ref e.1)))
theorem nd_inj {α β : Type} {f : α → β} : ∀ {l : List α}, (l.map f).Nodup → ∀ {c d}, c ∈ l → d ∈ l → f c = f d → c = d
  | x :: l, h, c, d, hc, hd, e => by
    obtain ⟨h1, h2⟩ := List.nodup_cons.mp h
    rcases List.mem_cons.mp hc with z | hc
    · rcases List.mem_cons.mp hd with y | hd
      · rw [z, y]
      · rw [z] at e; exact absurd (List.mem_map.mpr ⟨d, hd, e.symm⟩) h1
    · rcases List.mem_cons.mp hd with y | hd
      · rw [y] at e; exact absurd (List.mem_map.mpr ⟨c, hc, e⟩) h1
      · exact nd_inj h2 hc hd e
theorem cr_ksort (hc : X.calm = true) (hu : X.A.units + 64 < cLine) : CallR X (.builtin "sorted") (rKSort X.w) := by
  intro pins s σ H vs us Q I r h
  obtain ⟨a, sh, M, rfl, ha, hM, hne, q⟩ := h
  rw [Vals.ref1 r]
  have R := kso_get I ha
  obtain ⟨_, _, _, _, _, _, _, T⟩ := id R
  have nd := snd_nd T.diff
  have few := T.few
  rw [List.length_map] at few
  refine sorted_keys (P := X.prog) (ad := fun e : RowM => e.1) (ke := fun e => nkS sh e.2) (enc := fun e => dkS sh e.2) R (I.ok.hd hc) (fun e he => (row_at' I (hM e he)).1) (fun c hc1 d hd1 e => ?_) (fun e he => (row_at' I (hM e he)).2) (fun c d => dk_alike sh c.2 d.2) (fun two e he => ?_) (fun e he => by have := dk_depth sh e.2; omega) fun s1 p out c M1 k g o hp hg pm hout => ?_
  · exact nd_inj nd hc1 hd1 (nkS_inj e)
  · match sh, hne, he with
    | none, hne, he =>
      have := hne rfl two e he
      match hms : e.2, this with
      | m :: ms, _ => exact ⟨_, _, by rw [dkS, dkI, List.map_cons]⟩
    | some n, _, _ => exact ⟨_, _, rfl⟩
  · have nd1 : (M1.map Prod.snd).Nodup := (pm.map Prod.snd).nodup_iff.mpr nd
    obtain ⟨p1, p2⟩ := dk_sort (sh := sh) nd1
    generalize M1.mergeSort (dataLe false fun e => dkS sh e.2) = M2 at p1 p2 hout
    have l2 : M2.length ≤ 76 := by rw [(p1.trans pm).length_eq]; exact few
    have hn : H p = none := I.hok.fresh hp
    have J : Inv X pins σ (upd H p (.lst (M2.map fun e => V.ref e.1))) { s with heap := s1.heap, gens := s1.gens, drawn := s1.drawn, toks := s1.toks } :=
      I.call (ch := []) (Un.laid k hp hn) (I.hok.laid k hp ⟨by rw [List.length_map, sizeLine_eq]; omega, out.toList, c, by rw [hout]; exact vals_refs M2, hg⟩) (by rw [g]; exact I.bare) (fun _ z => nomatch z)
    obtain ⟨h1, g1, d1, t1, o1⟩ := s1
    obtain rfl : o1 = s.os := o
    exact ⟨.ref p, _, J, rfl, q p M2 (p1.trans pm) p2 l2 hn⟩
/-- len(set) -/
def rKLen (w : World) : List V → Hp → VK → Prop := fun vs H Q => ∃ (a : Addr) (sh : Option Nat) (M : List RowM), vs = [.ref a] ∧ H a = some (KSetO w a sh M) ∧ Q (.int (M.length : Nat)) H
theorem cr_klen : CallR X (.builtin "len") (rKLen X.w) := by
  intro pins s σ H vs us Q I r h
  obtain ⟨a, sh, M, rfl, ha, q⟩ := h
  rw [Vals.ref1 r]
  obtain ⟨o, es, ep, t, ho, hex, hd, T⟩ := kso_get I ha
  have hs := T.size
  have hf := T.few
  rw [List.length_map] at hs hf
  exact call_len_set ho hex hd T.fit (by omega) ⟨.int (M.length : Nat), H, I.tok _, ⟨_, by rw [hs]⟩, q⟩
/-- min(list of tuples of masks) -/
def rKMin (K : PySem.W.Frag) : List V → Hp → VK → Prop := fun vs H Q => ∃ (l : Addr) (sh : Option Nat) (ks : List RowM), vs = [V.ref l] ∧ SqL K H l (ks.map fun e => V.ref e.1) ∧ (∀ e ∈ ks, RowAt H sh e) ∧ ks ≠ [] ∧ ∀ e ∈ ks, (∀ d ∈ ks, ¬ ltM d.2 e.2) → Q (.ref e.1) H
theorem minD_low {sh : Option Nat} : ∀ (ks : List RowM) (e : RowM), ∃ c, c ∈ e :: ks ∧ minD (dkS sh e.2) (ks.map fun d => dkS sh d.2) = dkS sh c.2 ∧ ∀ d ∈ e :: ks, ¬ ltM d.2 c.2
  | [], e => ⟨e, List.mem_cons_self, rfl, fun d hd => by rw [List.mem_singleton.mp hd]; exact ltM_irr _⟩
  | d :: ks, e => by
    have st : minD (dkS sh e.2) ((d :: ks).map fun d => dkS sh d.2) = minD (if dataLt (dkS sh d.2) (dkS sh e.2) = true then dkS sh d.2 else dkS sh e.2) (ks.map fun d => dkS sh d.2) := rfl
    rw [st, dk_lt]
    by_cases h : ltM d.2 e.2
    · rw [if_pos (decide_eq_true h)]
      obtain ⟨c, h1, h2, h3⟩ := minD_low ks d
      refine ⟨c, List.mem_cons_of_mem _ h1, h2, fun x hx => ?_⟩
      rcases List.mem_cons.mp hx with rfl | hx
      · exact fun z => h3 d List.mem_cons_self (ltM_tr h z)
      · exact h3 x hx
    · rw [if_neg (by simp [h])]
      obtain ⟨c, h1, h2, h3⟩ := minD_low ks e
      refine ⟨c, ?_, h2, fun x hx => ?_⟩
      · rcases List.mem_cons.mp h1 with rfl | z
        · exact List.mem_cons_self
        · exact List.mem_cons_of_mem _ (List.mem_cons_of_mem _ z)
      · rcases List.mem_cons.mp hx with rfl | hx
        · exact h3 _ List.mem_cons_self
        · rcases List.mem_cons.mp hx with rfl | hx
          · intro z
            by_cases y : ltM e.2 x.2
            · exact h3 e List.mem_cons_self (ltM_tr y z)
            · rw [ltM_tri h y] at z
              exact h3 e List.mem_cons_self z
          · exact h3 x (List.mem_cons_of_mem _ hx)
theorem cr_kmin (hc : X.calm = true) (hu : X.A.units + 64 < cLine) : CallR X (.builtin "min") (rKMin X.K) := by
  intro pins s σ H vs us Q I r h
  obtain ⟨l, sh, ks, rfl, hl, hk, hne, q⟩ := h
  rw [Vals.ref1 r]
  obtain ⟨its, rv, pl, hz⟩ := I.list hl
  cases ks with
  | nil => exact absurd rfl hne
  | cons e ks =>
    have ra : ∀ l : List RowM, (∀ e ∈ l, RowAt H sh e) → ReadsAll s.heap (l.map fun e => Value.ref e.1) (l.map fun e => dkS sh e.2) [] := by
      intro l
      induction l with
      | nil => exact fun _ => .nil
      | cons e l ih => exact fun h => .cons (row_at' I (h e List.mem_cons_self)).2 (ih fun d hd => h d (List.mem_cons_of_mem _ hd))
    have rr := ra (e :: ks) hk
    have dep : ∀ l : List RowM, PyData.depthAll (l.map fun e => dkS sh e.2) ≤ 2 := by
      intro l
      induction l with
      | nil => simp [PyData.depthAll]
      | cons e l ih =>
        have := dk_depth sh e.2
        simp only [List.map_cons, PyData.depthAll]
        omega
    have al : AlikeAll ((e :: ks).map fun e => dkS sh e.2) := by
      refine ⟨fun x hx y hy => ?_, fun x hx => ?_⟩
      · obtain ⟨c, _, rfl⟩ := List.mem_map.mp hx
        obtain ⟨d, _, rfl⟩ := List.mem_map.mp hy
        exact dk_alike sh _ _
      · obtain ⟨c, _, rfl⟩ := List.mem_map.mp hx
        cases sh <;> exact fun z => nomatch z
    have eu := refs_vals rv
    have rr2 : ReadsAll s.heap its.toArray.toList (dkS sh e.2 :: ks.map fun e : RowM => dkS sh e.2) [] := by
      rw [eu]
      exact rr
    have dd := dep (e :: ks)
    have uu : X.A.units + 1 + PyData.depthAll (dkS sh e.2 :: ks.map fun e : RowM => dkS sh e.2) < cLine := by
      have d2 : PyData.depthAll (dkS sh e.2 :: ks.map fun e : RowM => dkS sh e.2) ≤ 2 := dd
      generalize PyData.depthAll (dkS sh e.2 :: ks.map fun e : RowM => dkS sh e.2) = z at d2 ⊢
      omega
    refine min_list_data (I.ok.hd hc) pl.isList (x := dkS sh e.2) (xs := ks.map fun e : RowM => dkS sh e.2) rr2 al uu fun i v h1 tk bs hv rd k1 => ?_
    have hv2 : ((e :: ks).map fun e => Value.ref e.1)[i]? = some v := by rw [← eu]; simpa using hv
    rw [List.getElem?_map] at hv2
    obtain ⟨c, hc1, rfl⟩ := Option.map_eq_some_iff.mp hv2
    have cm := List.mem_of_getElem? hc1
    obtain ⟨d, hd1, hd2, hd3⟩ := minD_low (sh := sh) ks e
    rw [hd2] at rd
    have rc : Reads h1 (.ref c.1) (dkS sh c.2) [] := reads_keeps k1 (row_at' I (hk c cm)).2
    have ec := alike_unique _ _ _ _ _ (dk_alike sh c.2 d.2) rc rd
    have em : c.2 = d.2 := by
      by_cases h1 : ltM c.2 d.2
      · exact absurd h1 (hd3 c cm)
      · refine ltM_tri h1 fun h2 => ?_
        have z := dk_lt sh d.2 c.2
        rw [ec, dk_lt, decide_eq_true h2] at z
        exact ltM_irr _ (of_decide_eq_true z)
    exact ⟨.ref c.1, H, I.kept (t' := tk) k1, rfl, q c cm fun x hx => by rw [em]; exact hd3 x hx⟩
end
end XT
/-! {e for a in s for b in t}, ints -/
namespace XT
open PySem PySem.Spec PyProof.Rows L2
abbrev C2 (elt ta ia tb ib : Expr) (sc : Scope) (pos : Pos) : Expr := .SetComp elt [⟨ta, ia, [], 0⟩, ⟨tb, ib, [], 0⟩] sc pos
section
variable {prog : Program} {w : World} {A : Around} {R : Result → Shared → Prop} {s : Shared} {elt ta ia tb ib : Expr} {sc : Scope} {pos : Pos} {it acc : Value} {env : Env}
theorem c2_first : compTurn (C2 elt ta ia tb ib sc pos) 0 it acc env = (do
    standAt ia.pos
    match ← pyNext it with
    | none => pure (.done .next)
    | some v =>
      letOwnedTupleGo ta it v
      assign ta env v
      let x ← eval ib env
      standAt ib.pos
      let x ← foldedSetIterable ib env x
      let _ ← runOwn (.compStart (C2 elt ta ia tb ib sc pos) 1 (← holding [x] (pyIter x)) acc env) env
      again (.compLoop (C2 elt ta ia tb ib sc pos) 0 it acc env)) := by rfl
theorem c2_second : compTurn (C2 elt ta ia tb ib sc pos) 1 it acc env = (do
    standAt ib.pos
    match ← pyNext it with
    | none => pure (.done .next)
    | some v =>
      letOwnedTupleGo tb it v
      assign tb env v
      (do let v ← eval elt env; standAt elt.pos; let _ ← call (.builtin "set.add") [acc, v])
      again (.compLoop (C2 elt ta ia tb ib sc pos) 1 it acc env)) := by rfl
abbrev Out (R : Result → Shared → Prop) (M : Model) (A : Around) (env : Env) : Value → Shared → Prop := notedBy M A env fun e s2 => R (.error e) s2
theorem c2_loop0 (hs : ∀ x, foldedSetIterable ib env x = pure x) (J : Nat → Shared → Prop)
    (turn : ∀ n s, J n s → wpAny (model prog w) A (pyNext it) (fun r s1 => match r with
      | none => R (.ok .next) s1
      | some v => wpAny (model prog w) A (letOwnedTupleGo ta it v) (fun _ s2 => wpAny (model prog w) A (assign ta env v) (fun _ s3 => wpAny (model prog w) A (eval ib env) (fun x s4 => wpAny (model prog w) A (pyIter x) (fun it1 s5 =>
          codeAny (model prog w) A (.compStart (C2 elt ta ia tb ib sc pos) 1 it1 acc env) (fun r s6 => match r with
            | .ok _ => ∃ m, m < n ∧ J m s6
            | .error _ => False) s5) (Out R (model prog w) A env) s4) (Out R (model prog w) A env) s3) (Out R (model prog w) A env) s2) (Out R (model prog w) A env) s1) (Out R (model prog w) A env) s) (n : Nat) (h : J n s) :
    codeAny (model prog w) A (.compLoop (C2 elt ta ia tb ib sc pos) 0 it acc env) R s := by
  refine codeAny_loop rfl J (fun n s hJ => ?_) n h
  show wpAny _ A ((compTurn (C2 elt ta ia tb ib sc pos) 0 it acc env).onRaise (fun x => do noteFrame x env; theTreesLotGoes x)) _ _ s
  refine wpAny_noted ?_
  rw [c2_first]
  refine wpAny_bind (wpAny_standAt (wpAny_bind (wpAny_mono (turn n s hJ) (fun r s1 h1 => ?_) fun _ _ z => z)))
  match r, h1 with
  | none, h1 => exact wpAny_pure h1
  | some v, h1 =>
    refine wpAny_bind (wpAny_mono h1 (fun _ s2 h2 => wpAny_bind (wpAny_mono h2 (fun _ s3 h3 => wpAny_bind (wpAny_mono h3 (fun x s4 h4 => ?_) fun _ _ z => z)) fun _ _ z => z)) fun _ _ z => z)
    refine wpAny_bind (wpAny_standAt (wpAny_bind (wpAny_of_eq (hs x) (wpAny_bind (wpAny_holding (wpAny_mono h4 (fun it1 s5 h5 => ?_) fun _ _ z => z))))))
    refine wpAny_bind (wpAny_runOwn ?_)
    rw [Around.mark_none]
    refine codeAny_mono h5 fun r s6 hr => ?_
    match r, hr with
    | .ok f, hr => exact wpAny_pure ⟨rfl, hr⟩
    | .error e, hr => exact hr.elim
theorem c2_loop1 (J : Nat → Shared → Prop)
    (turn : ∀ n s, J n s → wpAny (model prog w) A (pyNext it) (fun r s1 => match r with
      | none => R (.ok .next) s1
      | some v => wpAny (model prog w) A (letOwnedTupleGo tb it v) (fun _ s2 => wpAny (model prog w) A (assign tb env v) (fun _ s3 => wpAny (model prog w) A (eval elt env) (fun x s4 =>
          wpAny (model prog w) A (call (.builtin "set.add") [acc, x]) (fun _ s5 => ∃ m, m < n ∧ J m s5) (Out R (model prog w) A env) s4) (Out R (model prog w) A env) s3) (Out R (model prog w) A env) s2) (Out R (model prog w) A env) s1) (Out R (model prog w) A env) s) (n : Nat) (h : J n s) :
    codeAny (model prog w) A (.compLoop (C2 elt ta ia tb ib sc pos) 1 it acc env) R s := by
  refine codeAny_loop rfl J (fun n s hJ => ?_) n h
  show wpAny _ A ((compTurn (C2 elt ta ia tb ib sc pos) 1 it acc env).onRaise (fun x => do noteFrame x env; theTreesLotGoes x)) _ _ s
  refine wpAny_noted ?_
  rw [c2_second]
  refine wpAny_bind (wpAny_standAt (wpAny_bind (wpAny_mono (turn n s hJ) (fun r s1 h1 => ?_) fun _ _ z => z)))
  match r, h1 with
  | none, h1 => exact wpAny_pure h1
  | some v, h1 =>
    refine wpAny_bind (wpAny_mono h1 (fun _ s2 h2 => wpAny_bind (wpAny_mono h2 (fun _ s3 h3 => ?_) fun _ _ z => z)) fun _ _ z => z)
    exact wpAny_bind (wpAny_bind (wpAny_mono h3 (fun x s4 h4 => wpAny_bind (wpAny_standAt (wpAny_bind (wpAny_mono h4 (fun _ s5 h5 => wpAny_pure (wpAny_pure ⟨rfl, h5⟩)) fun _ _ z => z)))) fun _ _ z => z))
theorem c2_start (k : Nat) (hk : k = 0 ∨ k = 1) (h0 : codeAny (model prog w) A (.compLoop (C2 elt ta ia tb ib sc pos) k it acc env) R s)
    (h : wpAny (model prog w) A (pyIter it) (fun it2 s2 => codeAny (model prog w) A (.compLoop (C2 elt ta ia tb ib sc pos) k it2 acc env) R s2) (Out R (model prog w) A env) s) :
    codeAny (model prog w) A (.compStart (C2 elt ta ia tb ib sc pos) k it acc env) R s := by
  rcases hk with rfl | rfl
  · refine codeAny_of_tree ?_
    show wpAny _ _ ((compStart (C2 elt ta ia tb ib sc pos) 0 it acc env).onRaise (fun x => do noteFrame x env; standAt theWindowsPlace)) _ _ s
    refine wpAny_notedAt ?_
    unfold compStart
    show wpAny _ _ (ask >>= _) _ _ s
    refine wpAny_bind (wpAny_askSetting (wpAny_ite ?_))
    split
    · exact wpAny_pure (And.intro rfl h0)
    · refine wpAny_bind (wpAny_rule ?_)
      show wpAny _ _ (standAt ia.pos >>= _) _ _ s
      exact wpAny_bind (wpAny_standAt (wpAny_bind (wpAny_mono h (fun it2 s2 h2 => wpAny_pure (And.intro rfl h2)) fun _ _ x => x)))
  · refine codeAny_of_tree ?_
    show wpAny _ _ ((compStart (C2 elt ta ia tb ib sc pos) 1 it acc env).onRaise (fun x => do noteFrame x env; standAt theWindowsPlace)) _ _ s
    refine wpAny_notedAt ?_
    unfold compStart
    show wpAny _ _ (ask >>= _) _ _ s
    refine wpAny_bind (wpAny_askSetting (wpAny_ite ?_))
    split
    · exact wpAny_pure (And.intro rfl h0)
    · refine wpAny_bind (wpAny_rule ?_)
      show wpAny _ _ (standAt ib.pos >>= _) _ _ s
      exact wpAny_bind (wpAny_standAt (wpAny_bind (wpAny_mono h (fun it2 s2 h2 => wpAny_pure (And.intro rfl h2)) fun _ _ x => x)))
end
end XT
/-! set comprehensions, of any things that can be added: one clause, two clauses -/
namespace XT
open PySem PySem.Spec PyProof.Rows L2
section
variable {X : Cx}
/-- {elt for ta in ia for tb in ib}: D the new set; vs: the names of the block, vb: those of the second target -/
def tScG2 (mk : Addr → HO) (radd : V → List V → Hp → VK → Prop) (wa : TI) (ga : TG) (wb : TI) (gb : TG) (te : TE) (vs vb : List Nat) : TE := fun σ H Q => wa σ H fun J H1 => ∀ D, H1 D = none →
  ∃ W : Nat → Nat → Hp → Prop, (∃ m, W 0 m (upd H1 D (mk D))) ∧ ∀ i m H, W i m H →
    (J.stop i H ∧ Q (.ref D) H) ∨ (J.go i H ∧ ∃ N : Hp → Prop, (∀ H', N H' → ∃ m', m' < m ∧ W (i + 1) m' H') ∧ ∀ x H', J.yld i H x H' → ga x (wipe σ vs) H' fun σ2 H2 => wipe σ2 vs = wipe σ vs ∧
      wb σ2 H2 fun J1 H4 => ∃ W1 : Nat → Nat → Hp → Prop, (∃ m, W1 0 m H4) ∧ ∀ j k H, W1 j k H →
        (J1.stop j H ∧ N H) ∨ (J1.go j H ∧ ∃ N1 : Hp → Prop, (∀ H', N1 H' → ∃ k', k' < k ∧ W1 (j + 1) k' H') ∧ ∀ x H', J1.yld j H x H' → gb x (wipe σ2 vb) H' fun σ3 H5 => wipe σ3 vb = wipe σ2 vb ∧
          te σ3 H5 fun y H6 => radd (.ref D) [y] H6 fun _ H7 => N1 H7))
abbrev BlkG (X : Cx) (sc : Scope) (p : Cx → Prop) : Prop := ∀ (s : Shared) (H : Hp) (C : Addr) (cl : List (Str × Addr)) (fp : List Addr), p (X.blk s H sc (compEnvC sc cl C X.env) fp)
abbrev AddG (X : Cx) (sc : Scope) (radd : V → List V → Hp → VK → Prop) : Prop := ∀ (s : Shared) (H : Hp) (ce : Env) (fp : List Addr), MtR (X.blk s H sc ce fp) "set.add" radd
abbrev MkG (X : Cx) (mk : Addr → HO) : Prop := ∀ (H : Hp) (h : Heap), ObjOk X.prog X.w H (h.push (newS X.w)) h.objs.size (mk h.objs.size)
theorem pe_scG2 {mk : Addr → HO} {radd : V → List V → Hp → VK → Prop} (hmk : MkG X mk) {elt ta ia tb ib : Expr} {sc : Scope} {own : List (Str × Nat)} {vb : List Nat} {pos : Pos} {wa wb : TI} {ga gb : TG} {te : TE} (hadd : AddG X sc radd) (hc : X.calm = true) (hN : X.N.Nodup) (hi : PI X ta ia wa) (ok : BlkOk X.N X.env.scope sc own) (hv : ∀ i ∈ vb, i ∈ own.map (·.2))
    (hg : BlkG X sc fun Y => PG Y ta ga) (hib : BlkG X sc fun Y => PI Y tb ib wb) (hgb : BlkG X sc fun Y => PG Y tb gb) (he : BlkG X sc fun Y => PE Y elt te)
    (hs : ∀ x, foldedSetIterable ia X.env x = pure x := by intro _; rfl) (hs1 : ∀ env x, foldedSetIterable ib env x = pure x := by intro _ _; rfl) :
    PE X (C2 elt ta ia tb ib sc pos) (tScG2 mk radd wa ga wb gb te (own.map (·.2)) vb) := by
  refine ⟨fun pins s σ H Q I h => ?_⟩
  rw [PpSet.eval_SetComp]
  have hfree : ∀ y ∈ sc.names, y.2 = .free → ∃ c, X.env.cells.lookup y.1 = some c := fun y hy e => (ok.free y hy e).elim (fun k => I.ok.has _ (.inl k)) fun k => I.ok.has _ (.inr k)
  refine wpAny_comprehension_free (use := none) rfl hs (closure_ok hfree) ok.kind (fun y hy e => by rw [ok.uniq y hy, e]) (thn (hi.run pins s σ H _ I h) fun xv s1 hx => thn hx fun itv s2 h2 => ?_)
  obtain ⟨it, fp, tn, J, H2, e, I2, T, st2, f2, q⟩ := h2
  subst e
  refine PpSet.newSet_ok (newEnv_comp ?_)
  generalize hD : s2.heap.objs.size = D
  have hDn : H2 D = none := I2.hok.fresh (Nat.le_of_eq hD)
  obtain ⟨W, ⟨m0, w0⟩, turn⟩ := q D hDn
  generalize hs3 : ({ s2 with heap := s2.heap.push (newS X.w) } : Shared) = s3
  have h3 : s3.heap = s2.heap.push (newS X.w) := by rw [← hs3]
  have I3 : Inv X pins σ (upd H2 D (mk D)) s3 := by
    rw [← hs3]
    refine I2.laid (t' := s2.toks) (fun b o e => Heap.get?_push_of_some _ e) (Nat.le_of_eq hD) ?_
    rw [← hD]
    exact hmk _ _
  have f3 : ∀ b ∈ fp, FpOk X pins (upd H2 D (mk D)) b ∧ b < s3.heap.objs.size := fun b hb => by
    obtain ⟨o, e, _⟩ := T.obj _ _ st2 b hb
    have lt := Heap.lt_size e
    refine ⟨⟨?_, (f2 b hb).2⟩, by rw [h3, Heap.size_push]; exact Nat.lt_succ_of_lt lt⟩
    rw [upd_ne (by rw [← hD]; exact Nat.ne_of_lt lt)]
    exact (f2 b hb).1
  have st3 : tn 0 s3.heap := T.keep _ _ _ st2 fun b _ o e => by rw [h3]; exact Heap.get?_push_of_some _ e
  have I4 := block_start I3 ok hN f3
  have pg := hg s3 (upd H2 D (mk D)) s3.heap.objs.size (cellsFrom (s3.heap.objs.size + 1) sc.names (cloFrom X.env.cells sc.names [])) fp
  have pb := hib s3 (upd H2 D (mk D)) s3.heap.objs.size (cellsFrom (s3.heap.objs.size + 1) sc.names (cloFrom X.env.cells sc.names [])) fp
  have pgb := hgb s3 (upd H2 D (mk D)) s3.heap.objs.size (cellsFrom (s3.heap.objs.size + 1) sc.names (cloFrom X.env.cells sc.names [])) fp
  have pe := he s3 (upd H2 D (mk D)) s3.heap.objs.size (cellsFrom (s3.heap.objs.size + 1) sc.names (cloFrom X.env.cells sc.names [])) fp
  show codeAny _ _ (.compStart (C2 elt ta ia tb ib sc pos) 0 (.ref it) (.ref D) (compEnvC sc (cellsFrom (s3.heap.objs.size + 1) sc.names (cloFrom X.env.cells sc.names [])) s3.heap.objs.size X.env)) (compPost (model X.prog X.w) X.A X.xe none (EP X pins σ Q) (.ref D) s3.heap.objs.size) { s3 with heap := pushCells (s3.heap.push { cls := .type "dict", data := .dict #[] }) sc.names }
  have nfp : ∀ b ∈ fp, (upd H2 D (mk D)) b = none := fun b hb => (f3 b hb).1.1
  generalize hce : compEnvC sc (cellsFrom (s3.heap.objs.size + 1) sc.names (cloFrom X.env.cells sc.names [])) s3.heap.objs.size X.env = ce at I4 pg pb pgb pe ⊢
  have cL : ce.locals = s3.heap.objs.size := by subst hce; rfl
  generalize hH3 : upd H2 D (mk D) = H3 at I3 I4 pg pb pgb pe w0 nfp f3
  generalize hs4 : ({ s3 with heap := pushCells (s3.heap.push { cls := .type "dict", data := .dict #[] }) sc.names } : Shared) = s4 at I4 ⊢
  have st4 : tn 0 s4.heap := T.keep _ _ _ st3 fun b _ o e => by rw [← hs4]; exact pushCells_keeps _ _ _ _ (Heap.get?_push_of_some _ e)
  have stat : ∀ {σ' : L2.St} {H' : Hp} {s' : Shared}, Inv (X.blk s3 H3 sc ce fp) [] σ' H' s' → (∀ b ∈ fp, H' b = none) → ∀ b ∈ fp, FpOk (X.blk s3 H3 sc ce fp) [] H' b := fun {σ' H' s'} K' hn b hb =>
    ⟨hn b hb, (K'.ok.exf b hb).1, K'.ok.exfs b hb, .inl hb, fun x c e => (K'.ok.exf b hb).2 x c e, fun p hp => absurd (show p ∈ ([] : List (Addr × Obj)) ++ [] from hp) (by simp)⟩
  have loop : codeAny (model X.prog X.w) X.A (.compLoop (C2 elt ta ia tb ib sc pos) 0 (.ref it) (.ref D) ce) (compPost (model X.prog X.w) X.A X.xe none (EP X pins σ Q) (.ref D) s3.heap.objs.size) s4 := by
    refine c2_loop0 (hs1 ce) (fun n s' => ∃ i H', Inv (X.blk s3 H3 sc ce fp) [] (wipe σ (own.map (·.2))) H' s' ∧ tn i s'.heap ∧ (∀ b ∈ fp, H' b = none) ∧ W i n H') ?_ m0 ⟨0, H3, I4, st4, nfp, w0⟩
    rintro n s5 ⟨i, H5, I5, st5, n5, w5⟩
    rcases turn i n H5 w5 with ⟨stop, qq⟩ | ⟨go, N, hNx, step⟩
    · refine thnF (T.done (X.blk s3 H3 sc ce fp) rfl rfl rfl hc i [] s5 _ H5 (fun _ _ => False) I5 (stat I5 n5) st5 stop) fun r s6 ⟨hr, I6⟩ => ?_
      subst hr
      have I7 : Inv X pins σ H5 s6 := I3.call' (ch := fp) I6.os I6.base I6.hok I6.bare fun b hb => ⟨(f3 b hb).1.2.2.2.1, (f3 b hb).1.2.1, (f3 b hb).1.2.2.2.2.1, (f3 b hb).1.2.2.2.2.2⟩
      have nC : H5 s3.heap.objs.size = none := by
        have z : H5 ce.locals = none := I6.free
        rwa [cL] at z
      obtain ⟨m, hn, _⟩ := I6.loc
      have hn : s6.heap.Ns ce.locals m := hn
      rw [cL] at hn
      obtain ⟨z0, z1, z2, z3, z4, z5⟩ := I3.fpOk (H' := H5) (Nat.le_refl s3.heap.objs.size) nC
      exact ⟨m, hn, fun h9 sb => ⟨.ref D, H5, I7.turned (t' := s6.toks) (fun b o hb e => (sb.2 b hb).trans e) z0 z1 z3 z4 z5, rfl, qq⟩⟩
    · refine thnF (T.item (X.blk s3 H3 sc ce fp) rfl rfl rfl hc i [] s5 _ H5 (fun _ _ => False) I5 (stat I5 n5) st5 go) fun r s6 ⟨u, hr, h6⟩ => ?_
      subst hr
      refine thnF h6 fun _ s7 ⟨x, H7, I7, r7, y7, st7, n7⟩ => ?_
      refine thnF (pg.run _ s7 _ H7 x u _ (I7.pinned (stat I7 n7) (T.obj _ _ st7)) r7 (step x H7 y7)) fun _ s8 ⟨σ8, H8, I8, hw8, q8⟩ => ?_
      have len8 : (wipe σ (own.map (·.2))).length = σ8.length := by rw [← hw8, wipe_length]
      have more8 : ∀ (j : Nat) v, (wipe σ (own.map (·.2)))[j]? = some (some v) → (wipe σ8 vb)[j]? = some (some v) := fun j v e => by
        rw [← hw8] at e
        obtain ⟨e1, e2⟩ := wipe_some e
        rw [wipe_out fun z => e2 (hv j z)]
        exact e1
      have fin : ∀ {s' : Shared} {H' : Hp}, Inv (X.blk s3 H3 sc ce fp) ([] ++ pinsAt fp s7.heap) (wipe σ8 vb) H' s' → N H' →
          ∃ m, m < n ∧ ∃ i H', Inv (X.blk s3 H3 sc ce fp) [] (wipe σ (own.map (·.2))) H' s' ∧ tn i s'.heap ∧ (∀ b ∈ fp, H' b = none) ∧ W i m H' := fun {s' H'} K' nx => by
        obtain ⟨m1, hm, w1⟩ := hNx H' nx
        have old : ∀ b ∈ fp, ∀ o, s7.heap.get? b = some o → s'.heap.get? b = some o ∧ H' b = none := fun b hb o e =>
          have z := K'.pin (b, o) (List.mem_append_right _ (List.mem_append_right _ (mem_pinsAt hb e)))
          ⟨z.1, z.2.1⟩
        refine ⟨m1, hm, i + 1, H', (K'.unpinned (pins := [])).weak (by rw [wipe_length σ8 vb]; exact len8) more8, T.keep _ _ _ st7 fun b hb o e => (old b hb o e).1, fun b hb => ?_, w1⟩
        obtain ⟨o, e, _⟩ := T.obj _ _ st7 b hb
        exact (old b hb o e).2
      refine thnF (pb.run _ s8 σ8 H8 _ I8 q8) fun xv s10 hx => thnF hx fun itv s11 h11 => ?_
      obtain ⟨it1, fp1, tn1, J1, H11, e1, I11, T1, st11, f11, W1, ⟨m1, w1⟩, turn1⟩ := h11
      subst e1
      have stat1 : ∀ {H' : Hp}, (∀ b ∈ fp1, H' b = none) → ∀ b ∈ fp1, FpOk (X.blk s3 H3 sc ce fp) ([] ++ pinsAt fp s7.heap) H' b := fun hn b hb => ⟨hn b hb, (f11 b hb).2⟩
      have inner : codeAny (model X.prog X.w) X.A (.compLoop (C2 elt ta ia tb ib sc pos) 1 (.ref it1) (.ref D) ce) (fun r s' => match r with
          | .ok _ => ∃ m, m < n ∧ ∃ i H', Inv (X.blk s3 H3 sc ce fp) [] (wipe σ (own.map (·.2))) H' s' ∧ tn i s'.heap ∧ (∀ b ∈ fp, H' b = none) ∧ W i m H'
          | .error _ => False) s11 := by
        refine c2_loop1 (fun k s' => ∃ j H', Inv (X.blk s3 H3 sc ce fp) ([] ++ pinsAt fp s7.heap) (wipe σ8 vb) H' s' ∧ tn1 j s'.heap ∧ (∀ b ∈ fp1, H' b = none) ∧ W1 j k H') ?_ m1 ⟨0, H11, I11.weak (wipe_length _ _) (fun j v e => (wipe_some e).1), st11, fun b hb => (f11 b hb).1, w1⟩
        rintro k s12 ⟨j, H12, I12, st12, n12, w12⟩
        rcases turn1 j k H12 w12 with ⟨stop1, nx1⟩ | ⟨go1, N1, hN1, step1⟩
        · refine thnF (T1.done (X.blk s3 H3 sc ce fp) rfl rfl rfl hc j _ s12 (wipe σ8 vb) H12 (fun _ _ => False) I12 (stat1 n12) st12 stop1) fun r s13 ⟨hr, I13⟩ => ?_
          subst hr
          exact fin I13 nx1
        · refine thnF (T1.item (X.blk s3 H3 sc ce fp) rfl rfl rfl hc j _ s12 (wipe σ8 vb) H12 (fun _ _ => False) I12 (stat1 n12) st12 go1) fun r s13 ⟨u1, hr, h13⟩ => ?_
          subst hr
          refine thnF h13 fun _ s14 ⟨x1, H14, I14, r14, y14, st14, n14⟩ => ?_
          refine thnF (pgb.run _ s14 (wipe σ8 vb) H14 x1 u1 _ (I14.pinned (stat1 n14) (T1.obj _ _ st14)) r14 (step1 x1 H14 y14)) fun _ s15 ⟨σ15, H15, I15, hw15, q15⟩ => ?_
          refine thnF (pe.run _ s15 σ15 H15 _ I15 q15) fun z s17 ⟨yv, H17, I17, r17, q17⟩ => ?_
          refine thnF (hadd s3 H3 ce fp _ s17 σ15 H17 (.ref D) [yv] (.ref D) [z] _ I17 rfl (.cons r17 .nil) q17) fun v s18 ⟨_, H18, I18, _, nx⟩ => ?_
          obtain ⟨m2, hm2, w2⟩ := hN1 H18 nx
          have old1 : ∀ b ∈ fp1, ∀ o, s14.heap.get? b = some o → s18.heap.get? b = some o ∧ H18 b = none := fun b hb o e =>
            have z := I18.pin (b, o) (List.mem_append_right _ (List.mem_append_right _ (mem_pinsAt hb e)))
            ⟨z.1, z.2.1⟩
          refine ⟨m2, hm2, j + 1, H18, I18.unpinned.weak (by rw [← hw15, wipe_length]) (fun j v e => by rw [← hw15] at e; exact (wipe_some e).1), T1.keep _ _ _ st14 fun b hb o e => (old1 b hb o e).1, fun b hb => ?_, w2⟩
          obtain ⟨o, e, _⟩ := T1.obj _ _ st14 b hb
          exact (old1 b hb o e).2
      exact c2_start 1 (.inr rfl) inner (T1.self X.A 0 _ _ _ st11 inner)
  exact c2_start 0 (.inl rfl) loop (T.self X.A 0 _ _ _ st4 loop)

/-- {elt for tg in iter if ..} -/
def tScG (mk : Addr → HO) (radd : V → List V → Hp → VK → Prop) (wi : TI) (g : TG) (tt : TT) (te : TE) (vs : List Nat) : TE := fun σ H Q => wi σ H fun J H1 => ∀ D, H1 D = none →
  ∃ W : Nat → Nat → Hp → Prop, (∃ m, W 0 m (upd H1 D (mk D))) ∧ ∀ i m H, W i m H →
    (J.stop i H ∧ Q (.ref D) H) ∨ (J.go i H ∧ ∃ N : Hp → Prop, (∀ H', N H' → ∃ m', m' < m ∧ W (i + 1) m' H') ∧ ∀ x H', J.yld i H x H' → g x (wipe σ vs) H' fun σ2 H2 => wipe σ2 vs = wipe σ vs ∧
      tt σ2 H2 fun b H3 => if b = true then te σ2 H3 fun y H4 => radd (.ref D) [y] H4 fun _ H5 => N H5 else N H3)
theorem pe_scG {mk : Addr → HO} {radd : V → List V → Hp → VK → Prop} (hmk : MkG X mk) {elt tg ia : Expr} {ifs : List Expr} {sc : Scope} {own : List (Str × Nat)} {pos : Pos} {wi : TI} {g : TG} {tt : TT} {te : TE} (hadd : AddG X sc radd) (hc : X.calm = true) (hN : X.N.Nodup) (hi : PI X tg ia wi) (ok : BlkOk X.N X.env.scope sc own)
    (hg : BlkG X sc fun Y => PG Y tg g) (ht : BlkG X sc fun Y => PTs Y ifs tt) (he : BlkG X sc fun Y => PE Y elt te) (hs : ∀ x, foldedSetIterable ia X.env x = pure x := by intro _; rfl) :
    PE X (.SetComp elt [⟨tg, ia, ifs, 0⟩] sc pos) (tScG mk radd wi g tt te (own.map (·.2))) := by
  refine ⟨fun pins s σ H Q I h => ?_⟩
  rw [PpSet.eval_SetComp]
  have hfree : ∀ y ∈ sc.names, y.2 = .free → ∃ c, X.env.cells.lookup y.1 = some c := fun y hy e => (ok.free y hy e).elim (fun k => I.ok.has _ (.inl k)) fun k => I.ok.has _ (.inr k)
  refine wpAny_comprehension_free (use := none) rfl hs (closure_ok hfree) ok.kind (fun y hy e => by rw [ok.uniq y hy, e]) (thn (hi.run pins s σ H _ I h) fun xv s1 hx => thn hx fun itv s2 h2 => ?_)
  obtain ⟨it, fp, tn, J, H2, e, I2, T, st2, f2, q⟩ := h2
  subst e
  refine PpSet.newSet_ok (newEnv_comp ?_)
  generalize hD : s2.heap.objs.size = D
  have hDn : H2 D = none := I2.hok.fresh (Nat.le_of_eq hD)
  obtain ⟨W, ⟨m0, w0⟩, turn⟩ := q D hDn
  generalize hs3 : ({ s2 with heap := s2.heap.push (newS X.w) } : Shared) = s3
  have h3 : s3.heap = s2.heap.push (newS X.w) := by rw [← hs3]
  have I3 : Inv X pins σ (upd H2 D (mk D)) s3 := by
    rw [← hs3]
    refine I2.laid (t' := s2.toks) (fun b o e => Heap.get?_push_of_some _ e) (Nat.le_of_eq hD) ?_
    rw [← hD]
    exact hmk _ _
  have f3 : ∀ b ∈ fp, FpOk X pins (upd H2 D (mk D)) b ∧ b < s3.heap.objs.size := fun b hb => by
    obtain ⟨o, e, _⟩ := T.obj _ _ st2 b hb
    have lt := Heap.lt_size e
    refine ⟨⟨?_, (f2 b hb).2⟩, by rw [h3, Heap.size_push]; exact Nat.lt_succ_of_lt lt⟩
    rw [upd_ne (by rw [← hD]; exact Nat.ne_of_lt lt)]
    exact (f2 b hb).1
  have st3 : tn 0 s3.heap := T.keep _ _ _ st2 fun b _ o e => by rw [h3]; exact Heap.get?_push_of_some _ e
  have I4 := block_start I3 ok hN f3
  have pg := hg s3 (upd H2 D (mk D)) s3.heap.objs.size (cellsFrom (s3.heap.objs.size + 1) sc.names (cloFrom X.env.cells sc.names [])) fp
  have pt := ht s3 (upd H2 D (mk D)) s3.heap.objs.size (cellsFrom (s3.heap.objs.size + 1) sc.names (cloFrom X.env.cells sc.names [])) fp
  have pe := he s3 (upd H2 D (mk D)) s3.heap.objs.size (cellsFrom (s3.heap.objs.size + 1) sc.names (cloFrom X.env.cells sc.names [])) fp
  show codeAny _ _ (.compStart (.SetComp elt [⟨tg, ia, ifs, 0⟩] sc pos) 0 (.ref it) (.ref D) (compEnvC sc (cellsFrom (s3.heap.objs.size + 1) sc.names (cloFrom X.env.cells sc.names [])) s3.heap.objs.size X.env)) (compPost (model X.prog X.w) X.A X.xe none (EP X pins σ Q) (.ref D) s3.heap.objs.size) { s3 with heap := pushCells (s3.heap.push { cls := .type "dict", data := .dict #[] }) sc.names }
  have nfp : ∀ b ∈ fp, (upd H2 D (mk D)) b = none := fun b hb => (f3 b hb).1.1
  generalize hce : compEnvC sc (cellsFrom (s3.heap.objs.size + 1) sc.names (cloFrom X.env.cells sc.names [])) s3.heap.objs.size X.env = ce at I4 pg pt pe ⊢
  have cL : ce.locals = s3.heap.objs.size := by subst hce; rfl
  generalize hH3 : upd H2 D (mk D) = H3 at I3 I4 pg pt pe w0 nfp f3
  generalize hs4 : ({ s3 with heap := pushCells (s3.heap.push { cls := .type "dict", data := .dict #[] }) sc.names } : Shared) = s4 at I4 ⊢
  have st4 : tn 0 s4.heap := T.keep _ _ _ st3 fun b _ o e => by rw [← hs4]; exact pushCells_keeps _ _ _ _ (Heap.get?_push_of_some _ e)
  have stat : ∀ {σ' : L2.St} {H' : Hp} {s' : Shared}, Inv (X.blk s3 H3 sc ce fp) [] σ' H' s' → (∀ b ∈ fp, H' b = none) → ∀ b ∈ fp, FpOk (X.blk s3 H3 sc ce fp) [] H' b := fun {σ' H' s'} K' hn b hb =>
    ⟨hn b hb, (K'.ok.exf b hb).1, K'.ok.exfs b hb, .inl hb, fun x c e => (K'.ok.exf b hb).2 x c e, fun p hp => absurd (show p ∈ ([] : List (Addr × Obj)) ++ [] from hp) (by simp)⟩
  have loop : codeAny (model X.prog X.w) X.A (.compLoop (.SetComp elt [⟨tg, ia, ifs, 0⟩] sc pos) 0 (.ref it) (.ref D) ce) (compPost (model X.prog X.w) X.A X.xe none (EP X pins σ Q) (.ref D) s3.heap.objs.size) s4 := by
    refine PpSet.compLoopS_any (fun n s' => ∃ i H', Inv (X.blk s3 H3 sc ce fp) [] (wipe σ (own.map (·.2))) H' s' ∧ tn i s'.heap ∧ (∀ b ∈ fp, H' b = none) ∧ W i n H') ?_ m0 ⟨0, H3, I4, st4, nfp, w0⟩
    rintro n s5 ⟨i, H5, I5, st5, n5, w5⟩
    rcases turn i n H5 w5 with ⟨stop, qq⟩ | ⟨go, N, hNx, step⟩
    · refine thnF (T.done (X.blk s3 H3 sc ce fp) rfl rfl rfl hc i [] s5 _ H5 (fun _ _ => False) I5 (stat I5 n5) st5 stop) fun r s6 ⟨hr, I6⟩ => ?_
      subst hr
      have I7 : Inv X pins σ H5 s6 := I3.call' (ch := fp) I6.os I6.base I6.hok I6.bare fun b hb => ⟨(f3 b hb).1.2.2.2.1, (f3 b hb).1.2.1, (f3 b hb).1.2.2.2.2.1, (f3 b hb).1.2.2.2.2.2⟩
      have nC : H5 s3.heap.objs.size = none := by
        have z : H5 ce.locals = none := I6.free
        rwa [cL] at z
      obtain ⟨m, hn, _⟩ := I6.loc
      have hn : s6.heap.Ns ce.locals m := hn
      rw [cL] at hn
      obtain ⟨z0, z1, z2, z3, z4, z5⟩ := I3.fpOk (H' := H5) (Nat.le_refl s3.heap.objs.size) nC
      exact ⟨m, hn, fun h9 sb => ⟨.ref D, H5, I7.turned (t' := s6.toks) (fun b o hb e => (sb.2 b hb).trans e) z0 z1 z3 z4 z5, rfl, qq⟩⟩
    · refine thnF (T.item (X.blk s3 H3 sc ce fp) rfl rfl rfl hc i [] s5 _ H5 (fun _ _ => False) I5 (stat I5 n5) st5 go) fun r s6 ⟨u, hr, h6⟩ => ?_
      subst hr
      refine thnF h6 fun _ s7 ⟨x, H7, I7, r7, y7, st7, n7⟩ => ?_
      refine thnF (pg.run _ s7 _ H7 x u _ (I7.pinned (stat I7 n7) (T.obj _ _ st7)) r7 (step x H7 y7)) fun _ s8 ⟨σ8, H8, I8, hw8, q8⟩ => ?_
      refine thnF (pt.run _ s8 σ8 H8 _ I8 q8) fun b s9 ⟨H9, I9, q9⟩ => ?_
      have fin : ∀ {s' : Shared} {H' : Hp}, Inv (X.blk s3 H3 sc ce fp) ([] ++ pinsAt fp s7.heap) σ8 H' s' → N H' →
          ∃ m, m < n ∧ ∃ i H', Inv (X.blk s3 H3 sc ce fp) [] (wipe σ (own.map (·.2))) H' s' ∧ tn i s'.heap ∧ (∀ b ∈ fp, H' b = none) ∧ W i m H' := fun {s' H'} K' nx => by
        obtain ⟨m1, hm, w1⟩ := hNx H' nx
        have old : ∀ b ∈ fp, ∀ o, s7.heap.get? b = some o → s'.heap.get? b = some o ∧ H' b = none := fun b hb o e =>
          have z := K'.pin (b, o) (List.mem_append_right _ (List.mem_append_right _ (mem_pinsAt hb e)))
          ⟨z.1, z.2.1⟩
        refine ⟨m1, hm, i + 1, H', (K'.unpinned (pins := [])).weak (by rw [← hw8, wipe_length]) (fun j v e => by rw [← hw8] at e; exact (wipe_some e).1), T.keep _ _ _ st7 fun b hb o e => (old b hb o e).1, fun b hb => ?_, w1⟩
        obtain ⟨o, e, _⟩ := T.obj _ _ st7 b hb
        exact (old b hb o e).2
      cases b with
      | false =>
        simp only [Bool.false_eq_true, if_false] at q9 ⊢
        exact fin I9 q9
      | true =>
        simp only [if_true] at q9 ⊢
        refine thnF (pe.run _ s9 σ8 H9 _ I9 q9) fun z s10 ⟨yv, H10, I10, r10, q10⟩ => ?_
        exact thnF (hadd s3 H3 ce fp _ s10 σ8 H10 (.ref D) [yv] (.ref D) [z] _ I10 rfl (.cons r10 .nil) q10) fun v s11 ⟨_, H11, I11, _, nx⟩ => fin I11 nx
  exact PpSet.codeAny_compStart_set loop (T.self X.A 0 _ _ _ st4 loop)
theorem mkX {X : Cx} : MkG X fun D => SetXO X.w D (fun _ => false) 0 := fun H h => setXO_new (setX_fresh X.w (Heap.get?_push_size _ rfl))
theorem addX {X : Cx} {sc : Scope} : AddG X sc (rXAdd X.w) := fun s H ce fp => mt_xadd (X := X.blk s H sc ce fp)
end
end XT
/-! all turned lots in their order; a set of them built by a comprehension over a range -/
namespace XT
open PySem PySem.Spec PyProof.Rows L2
abbrev tlo (n : Nat) (p : Nat → Bool) (a : Nat) : List Nat := lotOf n fun m => p (m ^^^ a)
def ddl : List (List Nat) → List (List Nat)
  | [] => []
  | x :: l => if x ∈ ddl l then ddl l else x :: ddl l
theorem mem_dd {x : List Nat} : ∀ {l : List (List Nat)}, x ∈ ddl l ↔ x ∈ l
  | [] => Iff.rfl
  | y :: l => by
    unfold ddl
    split
    · rename_i h
      rw [mem_dd, List.mem_cons]
      constructor
      · exact .inr
      · rintro (rfl | z)
        · exact mem_dd.mp h
        · exact z
    · rw [List.mem_cons, List.mem_cons, mem_dd]
theorem nd_dd : ∀ l : List (List Nat), (ddl l).Nodup
  | [] => List.nodup_nil
  | y :: l => by
    unfold ddl
    split
    · exact nd_dd l
    · exact List.nodup_cons.mpr ⟨by assumption, nd_dd l⟩
/-- two rising lists of rows with the same members are one -/
theorem ltM_uniq : ∀ {l m : List (List Nat)}, l.Pairwise ltM → m.Pairwise ltM → (∀ x, x ∈ l ↔ x ∈ m) → l = m
  | [], [], _, _, _ => rfl
  | [], y :: m, _, _, h => nomatch (h y).mpr List.mem_cons_self
  | x :: l, [], _, _, h => nomatch (h x).mp List.mem_cons_self
  | x :: l, y :: m, h1, h2, h => by
    obtain ⟨a1, a2⟩ := List.pairwise_cons.mp h1
    obtain ⟨b1, b2⟩ := List.pairwise_cons.mp h2
    have e : x = y := by
      rcases List.mem_cons.mp ((h x).mp List.mem_cons_self) with e | hx
      · exact e
      · rcases List.mem_cons.mp ((h y).mpr List.mem_cons_self) with e | hy
        · exact e.symm
        · exact absurd (a1 y hy) (ltM_as (b1 x hx))
    subst e
    rw [ltM_uniq a2 b2 fun z => ?_]
    constructor
    · intro hz
      rcases List.mem_cons.mp ((h z).mp (List.mem_cons_of_mem _ hz)) with rfl | y
      · exact absurd (a1 _ hz) (ltM_irr _)
      · exact y
    · intro hz
      rcases List.mem_cons.mp ((h z).mpr (List.mem_cons_of_mem _ hz)) with rfl | y
      · exact absurd (b1 _ hz) (ltM_irr _)
      · exact y
/-- all different turned lots, ascending -/
def tls (n : Nat) (p : Nat → Bool) : List (List Nat) := (ddl ((List.range (2 ^ n)).map (tlo n p))).mergeSort fun x y => !decide (ltM y x)
theorem mem_tls {n : Nat} {p : Nat → Bool} {x : List Nat} : x ∈ tls n p ↔ ∃ a, a < 2 ^ n ∧ x = tlo n p a := by
  unfold tls
  rw [(List.mergeSort_perm _ _).mem_iff, mem_dd, List.mem_map]
  constructor
  · rintro ⟨a, ha, rfl⟩
    exact ⟨a, List.mem_range.mp ha, rfl⟩
  · rintro ⟨a, ha, rfl⟩
    exact ⟨a, List.mem_range.mpr ha, rfl⟩
theorem tls_nd (n : Nat) (p : Nat → Bool) : (tls n p).Nodup := (List.mergeSort_perm _ _).nodup_iff.mpr (nd_dd _)
theorem tls_asc (n : Nat) (p : Nat → Bool) : (tls n p).Pairwise ltM := by
  have pw := List.pairwise_mergeSort (le := fun x y : List Nat => !decide (ltM y x)) (fun a b c h1 h2 => by
      simp only [Bool.not_eq_true', decide_eq_false_iff_not] at *
      intro h
      by_cases e : ltM b c
      · exact h1 (ltM_tr e h)
      · exact h1 (by rw [ltM_tri e h2]; exact h)) (fun a b => by
      by_cases h : ltM a b
      · simp [h, ltM_as h]
      · simp [h]) (ddl ((List.range (2 ^ n)).map (tlo n p)))
  refine (List.Pairwise.and pw (tls_nd n p)).imp fun {c d} ⟨h1, h2⟩ => ?_
  simp only [Bool.not_eq_true', decide_eq_false_iff_not] at h1
  exact Classical.byContradiction fun h => h2 (ltM_tri h h1)
theorem tls_is {n : Nat} {p : Nat → Bool} {l : List (List Nat)} (h : l.Pairwise ltM) (hm : ∀ x, x ∈ l ↔ ∃ a, a < 2 ^ n ∧ x = tlo n p a) : l = tls n p := ltM_uniq h (tls_asc n p) fun x => by rw [hm, mem_tls]
theorem tlo_zero (n : Nat) (p : Nat → Bool) : tlo n p 0 = lotOf n p := lot_congr fun m _ => by rw [Nat.xor_zero]
theorem tls_self (n : Nat) (p : Nat → Bool) : lotOf n p ∈ tls n p := mem_tls.mpr ⟨0, pow0 n, (tlo_zero n p).symm⟩
theorem tlo_tlo (n : Nat) (p : Nat → Bool) (a b : Nat) : tlo n (fun m => p (m ^^^ a)) b = tlo n p (b ^^^ a) := lot_congr fun m _ => by rw [← Nat.xor_assoc]
/-- the turned lots of a turned lot -/
theorem tls_turn {n a : Nat} {p : Nat → Bool} (ha : a < 2 ^ n) : tls n (fun m => p (m ^^^ a)) = tls n p := by
  refine tls_is (tls_asc _ _) fun x => ?_
  rw [mem_tls]
  constructor
  · rintro ⟨b, hb, rfl⟩
    exact ⟨b ^^^ a, xor_lt hb ha, tlo_tlo n p a b⟩
  · rintro ⟨b, hb, rfl⟩
    exact ⟨b ^^^ a, xor_lt hb ha, by rw [tlo_tlo, xor_back]⟩
theorem tls_congr {n : Nat} {p r : Nat → Bool} (h : ∀ m, m < 2 ^ n → p m = r m) : tls n p = tls n r := by
  refine tls_is (tls_asc _ _) fun x => ?_
  have e : ∀ a, a < 2 ^ n → tlo n p a = tlo n r a := fun a ha => lot_congr fun m hm => h _ (xor_lt hm ha)
  rw [mem_tls]
  constructor
  · rintro ⟨b, hb, rfl⟩
    exact ⟨b, hb, e b hb⟩
  · rintro ⟨b, hb, rfl⟩
    exact ⟨b, hb, (e b hb).symm⟩
theorem fibers {c : Nat} (f : Nat → List Nat) : ∀ (D : List (List Nat)) (l : List Nat), D.Nodup → (∀ x ∈ l, f x ∈ D) → (∀ y ∈ D, (l.filter fun x => decide (f x = y)).length = c) → l.length = D.length * c
  | [], l, _, h, _ => by
    cases l with
    | nil => simp
    | cons x l => exact nomatch h x List.mem_cons_self
  | y :: D, l, nd, h, hc => by
    obtain ⟨n1, n2⟩ := List.nodup_cons.mp nd
    have ih := fibers (c := c) f D (l.filter fun x => !decide (f x = y)) n2 (fun x hx => by
      obtain ⟨hx, hp⟩ := List.mem_filter.mp hx
      rcases List.mem_cons.mp (h x hx) with e | z
      · simp [e] at hp
      · exact z) (fun z hz => by
      rw [← hc z (List.mem_cons_of_mem _ hz), List.filter_filter]
      congr 1
      refine List.filter_congr fun x _ => ?_
      by_cases e : f x = z
      · have ne : ¬ z = y := fun k => n1 (k ▸ hz)
        simp [e, ne]
      · simp [e])
    have e1 := hc y List.mem_cons_self
    have e2 : l.length = (l.filter fun x => decide (f x = y)).length + (l.filter fun x => !decide (f x = y)).length := by
      rw [← List.countP_eq_length_filter, ← List.countP_eq_length_filter]
      exact List.length_eq_countP_add_countP (p := fun x => decide (f x = y)) |>.trans (by congr 2; funext x; simp)
    rw [e2, e1, ih, List.length_cons, Nat.succ_mul, Nat.add_comm]
theorem dd_len : ∀ l : List (List Nat), (ddl l).length ≤ l.length
  | [] => Nat.le_refl _
  | y :: l => by
    have ih := dd_len l
    unfold ddl
    split <;> simp only [List.length_cons] <;> omega
theorem tls_small {n : Nat} {p : Nat → Bool} (hn : n ≤ 6) : (tls n p).length ≤ 64 := by
  have h := dd_len ((List.range (2 ^ n)).map (tlo n p))
  have c := pow6 hn
  rw [List.length_map, List.length_range] at h
  unfold tls
  rw [List.length_mergeSort]
  omega
theorem tls_pos (n : Nat) (p : Nat → Bool) : 0 < (tls n p).length := List.length_pos_of_mem (tls_self n p)
/-- rows whose masks are the turned lots -/
theorem rows_tls {n : Nat} {p : Nat → Bool} {M : List RowM} (h1 : (M.map Prod.snd).Pairwise ltM) (h2 : ∀ e ∈ M, ∃ a, a < 2 ^ n ∧ e.2 = tlo n p a) (h3 : ∀ a, a < 2 ^ n → tlo n p a ∈ M.map Prod.snd) : M.map Prod.snd = tls n p :=
  tls_is h1 fun x => ⟨fun h => by obtain ⟨e, he, rfl⟩ := List.mem_map.mp h; exact h2 e he, fun ⟨a, ha, e⟩ => e ▸ h3 a ha⟩
section
variable {w : World} {g : TG} {tt : TT} {te : TE} {vs : List Nat} {σ : L2.St} {H1 : Hp} {D : Addr} {Qd : Hp → Prop}
/-- one row a turn -/
def TurnK (sh : Option Nat) (g : TG) (tt : TT) (te : TE) (vs : List Nat) (σ : L2.St) (x : V) (ms : List Nat) (H : Hp) : Prop :=
  ∀ (R1 : Hp → Prop) (R2 : V → Hp → Prop), (∀ y H4, Same H H4 → RowAt H4 sh (y, ms) → R2 (.ref y) H4) → g x (wipe σ vs) H fun σ2 H2 => wipe σ2 vs = wipe σ vs ∧ tt σ2 H2 fun b H3 => if b = true then te σ2 H3 R2 else R1 H3
theorem sck_range {sh : Option Nat} {n : Nat} (f : Nat → List Nat) (nD : H1 D = none) (hz : n ≤ 64) (ht : ∀ i H, i < n → Same H1 H → TurnK sh g tt te vs σ (.int (0 + (i : Int))) (f i) H)
    (hd : ∀ H M, Same H1 H → H D = some (KSetO w D sh M) → (∀ e ∈ M, RowAt H sh e) → (M.map Prod.snd).Nodup → (∀ e ∈ M, ∃ i, i < n ∧ e.2 = f i) → (∀ i, i < n → f i ∈ M.map Prod.snd) → M.length ≤ n → Qd H) :
    ∃ W : Nat → Nat → Hp → Prop, (∃ m, W 0 m (upd H1 D (KSetO w D none []))) ∧ ∀ i m H, W i m H →
      ((Itr 0 n).stop i H ∧ Qd H) ∨ ((Itr 0 n).go i H ∧ ∃ N : Hp → Prop, (∀ H', N H' → ∃ m', m' < m ∧ W (i + 1) m' H') ∧ ∀ x H', (Itr 0 n).yld i H x H' → g x (wipe σ vs) H' fun σ2 H2 => wipe σ2 vs = wipe σ vs ∧
        tt σ2 H2 fun b H3 => if b = true then te σ2 H3 fun y H4 => rKAdd w (.ref D) [y] H4 fun _ H5 => N H5 else N H3) := by
  let Pv : Nat → Hp → Prop := fun i H => Same H1 H ∧ ∃ M, H D = some (KSetO w D sh M) ∧ (∀ e ∈ M, RowAt H sh e) ∧ (M.map Prod.snd).Nodup ∧ (∀ e ∈ M, ∃ j, j < i ∧ e.2 = f j) ∧ (∀ j, j < i → f j ∈ M.map Prod.snd) ∧ M.length ≤ i
  refine ⟨fun i m H => m = n - i ∧ i ≤ n ∧ Pv i H, ⟨n, by simp, Nat.zero_le _, same_new nD, [], by rw [upd_same]; rfl, (fun e he => by cases he), List.nodup_nil, (fun e he => by cases he), (fun j hj => absurd hj (Nat.not_lt_zero _)), Nat.le_refl _⟩, ?_⟩
  rintro i m H ⟨rfl, hi, sm, M, hD, hM, nd, h1, h2, hl⟩
  by_cases lt : i < n
  · refine .inr ⟨lt, Pv (i + 1), fun H' h => ⟨n - (i + 1), by omega, rfl, lt, h⟩, fun x H' y => ?_⟩
    obtain ⟨rfl, rfl⟩ := y
    refine ht i _ lt sm _ _ fun y H4 s4 hy => ⟨D, y, sh, f i, M, rfl, rfl, s4 _ _ hD, fun e he => (hM e he).same s4, hy, by omega, fun M1 c1 c2 => ?_⟩
    have sN : Same H1 (upd H4 D (KSetO w D sh M1)) := same_upd (sm.trans s4) nD
    have keepR : ∀ e, RowAt H4 sh e → RowAt (upd H4 D (KSetO w D sh M1)) sh e := fun e he => by
      have hD4 := s4 _ _ hD
      have ne : ∀ b xs, H4 b = some (.tup xs) → b ≠ D := fun b xs z k => by rw [k, hD4] at z; exact HO.noConfusion (Option.some.inj z)
      match sh, he with
      | none, he => exact (upd_ne (ne _ _ he)).trans he
      | some k, ⟨q, a1, a2⟩ => exact ⟨q, (upd_ne (ne _ _ a1)).trans a1, (upd_ne (ne _ _ a2)).trans a2⟩
    refine ⟨sN, M1, upd_same, ?_⟩
    by_cases hm : f i ∈ M.map Prod.snd
    · rw [c1 hm]
      refine ⟨fun e he => by rw [← c1 hm]; exact keepR e ((hM e he).same s4), nd, fun e he => ?_, fun j hj => ?_, by omega⟩
      · obtain ⟨j, a, b⟩ := h1 e he
        exact ⟨j, by omega, b⟩
      · rcases Nat.lt_or_ge j i with c | c
        · exact h2 j c
        · rw [show j = i by omega]; exact hm
    · have pm := c2 hm
      refine ⟨fun e he => ?_, (pm.map Prod.snd).nodup_iff.mpr (List.nodup_cons.mpr ⟨hm, nd⟩), fun e he => ?_, fun j hj => ?_, by rw [pm.length_eq]; simp; omega⟩
      · rcases List.mem_cons.mp (pm.mem_iff.mp he) with rfl | z
        · exact keepR _ hy
        · exact keepR e ((hM e z).same s4)
      · rcases List.mem_cons.mp (pm.mem_iff.mp he) with rfl | z
        · exact ⟨i, Nat.lt_succ_self i, rfl⟩
        · obtain ⟨j, a, b⟩ := h1 e z
          exact ⟨j, by omega, b⟩
      · rw [(pm.map Prod.snd).mem_iff]
        rcases Nat.lt_or_ge j i with c | c
        · exact List.mem_cons_of_mem _ (h2 j c)
        · rw [show j = i by omega]; exact List.mem_cons_self
  · have e : i = n := by omega
    subst e
    exact .inl ⟨Nat.le_refl _, hd H M sm hD hM nd h1 h2 hl⟩
theorem mkK {X : Cx} : MkG X fun D => KSetO X.w D none [] := fun H h => kso_new (sh := none) (M := []) (kset_new (Heap.get?_push_size _ rfl))
theorem addK {X : Cx} (hu : X.A.units + 64 < cLine) {sc : Scope} : AddG X sc (rKAdd X.w) := fun s H ce fp => mt_kadd (X := X.blk s H sc ce fp) hu
end
end XT
/-! turned_lots -/
namespace XT
open PySem PySem.Spec PyProof.Rows L2
section
variable {P : Program} {w : World} {K : PySem.W.Frag} {mg : Str → Option Value} {base : Heap}
theorem scTls : FnScope ["lot", "mask"] ["lot"] (defScope sTurnedLots) := ⟨rfl, rfl, rfl, by decide +kernel, rfl, by decide +kernel, by decide +kernel⟩
def spTls : Sp := fun vs H Q _ => ∃ (v : V) (n : Nat) (p : Nat → Bool), vs = [v] ∧ LotAt H v n p ∧ n ≤ 6 ∧
  ∀ H' (L : Addr) (M : List RowM), Same H H' → H' L = some (.lst (M.map fun e => V.ref e.1)) → (∀ e ∈ M, RowAt H' (some n) e) → M.map Prod.snd = tls n p → Q (.ref L) H'
theorem ok_tls {f : Addr} {fd : FuncData} {k : Nat} (B : Bl mg) (F : Fun K "turned_lots" "turned_lots" sTurnedLots f fd) (dT : DefR P w K mg base 3 "turned" spTurned) : FnOk P w K mg base CX0 (k + 4) f fd ["lot"] spTls := by
  refine F.ok scTls (fun vs H Q E h => ?_) (fun cdv A outer s H vs Q E hr h => ?_)
  · obtain ⟨v, n, p, rfl, _⟩ := h
    rfl
  · obtain ⟨v, n, p, rfl, hv, hn, q⟩ := h
    have hu := hr.units
    refine ⟨_, pss_one (ps_ret (pe_callB (cr_ksort rfl hu) (by rfl) B.sorted bS (pa_cons
      (pe_scG (own := [("mask", 1)]) (g := gName 1) (tt := tYes) (te := tDf spTurned (tCons (tVar 0) (tCons (tVar 1) tNil))) mkK (addK hu) rfl scTls.nd (pi_range1 (by rfl) B.range (pa_cons (pe_op op_shl pe_int (pe_ix ix_tup (pv 0) pe_int (fun _ _ => rfl))) pa_nil)) (blkOk_by (own := [("mask", 1)]) (N := ["lot", "mask"]) (sc := defScope sTurnedLots) (by decide +kernel))
        (fun _ _ _ _ _ => pg_name (i := 1) scTls.nd rfl (Or.inl rfl)) (fun _ _ _ _ _ => pts_nil) (fun _ _ _ _ _ => pe_def dT (hr.mono (by omega)) (by rfl) (pa_cons (pv 0) (pa_cons (pv 1) pa_nil)))) pa_nil))), ?_⟩
    obtain ⟨x, y, rfl, hx, hy⟩ := id hv
    have h6 := pow6 hn
    refine ⟨.ref x, rfl, x, _, 0, .int n, rfl, rfl, SqT.of hx, rfl, 1, n, rfl, rfl, cpow hn, ((2 ^ n : Nat) : Int), congrArg (fun z => [V.int z]) (shl1 n), l62, r62 hn, fun D nD => ?_⟩
    refine sck_range (sh := some n) (n := 2 ^ n) (tlo n p) nD (by omega) (fun i H2 hi s2 => ?_) (fun H2 M s2 hD hM nd m1 m2 hl => ?_)
    · intro R1 R2 r2
      refine ⟨rfl, iteT (B := R1 H2) ⟨.ref x, rfl, .int (0 + (i : Int)), rfl, .ref x, n, i, p, by rw [Int.zero_add], hv.same s2, hn, hi, fun H3 r s3 l3 _ => ?_⟩⟩
      obtain ⟨a, rfl, ra⟩ := rowAt_lot l3
      exact r2 a H3 s3 ra
    · refine ⟨D, some n, M, rfl, hD, hM, (fun z => nomatch z), fun L M1 pm asc hl1 nL => ?_⟩
      have s3 := same_new (o := .lst (M1.map fun e => V.ref e.1)) nL
      exact q _ L M1 (s2.trans s3) upd_same (fun e he => (hM e (pm.mem_iff.mp he)).same s3) (rows_tls asc (fun e he => m1 e (pm.mem_iff.mp he)) fun a ha => (pm.map Prod.snd).mem_iff.mpr (m2 a ha))
/-- a row is a lot -/
theorem row_lot {H : Hp} {n : Nat} {p : Nat → Bool} {e : RowM} (h : RowAt H (some n) e) (he : e.2 = lotOf n p) : LotAt H (.ref e.1) n p := by
  obtain ⟨q, h1, h2⟩ := h
  exact ⟨e.1, q, rfl, h1, he ▸ h2⟩
/-- the least turned lot is a turned one, below all others -/
def LowB (n : Nat) (p : Nat → Bool) (b : Nat) : Prop := b < 2 ^ n ∧ (tls n p)[0]? = some (tlo n p b)
theorem lowB (n : Nat) (p : Nat → Bool) : ∃ b, LowB n p b := by
  have h := tls_pos n p
  obtain ⟨b, hb, e⟩ := mem_tls.mp (List.getElem_mem h)
  exact ⟨b, hb, by rw [List.getElem?_eq_getElem h, e]⟩
noncomputable def lowA (n : Nat) (p : Nat → Bool) : Nat := Classical.choose (lowB n p)
theorem lowA_is (n : Nat) (p : Nat → Bool) : LowB n p (lowA n p) := Classical.choose_spec (lowB n p)
end
end XT
/-! least_turned -/
namespace XT
open PySem PySem.Spec PyProof.Rows L2
section
variable {P : Program} {w : World} {K : PySem.W.Frag} {mg : Str → Option Value} {base : Heap}
theorem scLeast : FnScope ["lot"] ["lot"] (defScope sLeastTurned) := ⟨rfl, rfl, rfl, by decide +kernel, rfl, by decide +kernel, by decide +kernel⟩
def spLeast : Sp := fun vs H Q _ => ∃ (v : V) (n : Nat) (p : Nat → Bool), vs = [v] ∧ LotAt H v n p ∧ n ≤ 6 ∧ ∀ H' r, Same H H' → LotAt H' r n (fun m => p (m ^^^ lowA n p)) → Q r H'
theorem ok_least {f : Addr} {fd : FuncData} {k : Nat} (F : Fun K "least_turned" "least_turned" sLeastTurned f fd) (dT : DefR P w K mg base 4 "turned_lots" spTls) : FnOk P w K mg base CX0 (k + 5) f fd ["lot"] spLeast := by
  refine F.ok scLeast (fun vs H Q E h => ?_) (fun cdv A outer s H vs Q E hr h => ?_)
  · obtain ⟨v, n, p, rfl, _⟩ := h
    rfl
  · obtain ⟨v, n, p, rfl, hv, hn, q⟩ := h
    refine ⟨_, pss_one (ps_ret (pe_ix ix_list (pe_def dT (hr.mono (by omega)) (by rfl) (pa_cons (pv 0) pa_nil)) pe_int (fun _ _ => rfl))), ?_⟩
    refine ⟨v, rfl, v, n, p, rfl, hv, hn, fun H2 L M s2 hL hM eM => ?_⟩
    have lb := lowA_is n p
    have hb := lb.2
    rw [← eM] at hb
    match M, hM, hb with
    | e :: M, hM, hb =>
      have he : e.2 = tlo n p (lowA n p) := Option.some.inj hb
      exact ⟨L, _, 0, .ref e.1, rfl, rfl, SqL.of hL, atI_nat (j := 0) rfl, q H2 _ s2 (row_lot (hM e List.mem_cons_self) he)⟩
end
end XT
/-! least_turned as a value -/
namespace XT
open PySem PySem.Spec PyProof.Rows L2
theorem ev_least {n : Nat} {p : Nat → Bool} {t : TE} {σ : L2.St} {H : Hp} (h6 : n ≤ 6) (a : Ev (isLot n p) t σ H) : Ev (isLot n fun m => p (m ^^^ lowA n p)) (fun σ H Q => tCons t tNil σ H fun vs H1 => spLeast vs H1 Q E0) σ H :=
  ev_def1 a fun H x gx Q q => ⟨x, n, p, rfl, gx, h6, fun H' r s' hr => q _ _ s' hr⟩
/-- the least lot of a turned lot -/
theorem low_turn {n a : Nat} {p : Nat → Bool} (ha : a < 2 ^ n) : ∀ m, m < 2 ^ n → p (m ^^^ lowA n (fun x => p (x ^^^ a)) ^^^ a) = p (m ^^^ lowA n p) := by
  have h1 := (lowA_is n (fun x => p (x ^^^ a))).2
  have h2 := (lowA_is n p).2
  rw [tls_turn ha, h2] at h1
  have e := Option.some.inj h1
  intro m hm
  exact (lot_eq_iff.mp e m hm).symm
theorem low_eq {n : Nat} {p : Nat → Bool} : tlo n p (lowA n p) ∈ tls n p := mem_tls.mpr ⟨_, (lowA_is n p).1, rfl⟩
end XT
/-! _law_right -/
namespace XT
open PySem PySem.Spec PyProof.Rows L2
theorem tlo_congr {n a : Nat} {p r : Nat → Bool} (ha : a < 2 ^ n) (h : ∀ m, m < 2 ^ n → p m = r m) : tlo n p a = tlo n r a := lot_congr fun m hm => h _ (xor_lt hm ha)
theorem kp_ne {n t : Nat} {p r : Nat → Bool} (ht : t < 2 ^ n) (h : kpB n p r t = true) : lotOf n (kpB n p r) ≠ [] := fun e => by
  have := lot_nil_iff.mp e t ht
  rw [h] at this
  cases this
/-- the least lots are equal where there is a turn -/
theorem low_kp {n : Nat} {p r : Nat → Bool} : decide (∀ m, m < 2 ^ n → p (m ^^^ lowA n p) = r (m ^^^ lowA n r)) = decide (lotOf n (kpB n p r) ≠ []) := by
  refine decide_eq_decide.mpr ⟨fun h => ?_, fun h => ?_⟩
  · have h1 := (lowA_is n p).1
    have h2 := (lowA_is n r).1
    refine kp_ne (t := lowA n r ^^^ lowA n p) (xor_lt h2 h1) (kp_iff.mpr fun m hm => ?_)
    have e := h (m ^^^ lowA n r) (xor_lt hm h2)
    rw [xor_back, Nat.xor_assoc] at e
    exact e
  · obtain ⟨t, ht⟩ := List.exists_mem_of_ne_nil _ h
    obtain ⟨h1, h2⟩ := mem_lot.mp ht
    have h2 := kp_iff.mp h2
    have e1 := (lowA_is n r).2
    rw [← tls_congr h2, tls_turn h1, (lowA_is n p).2] at e1
    exact fun m hm => (lot_eq_iff.mp (Option.some.inj e1) m hm)
abbrev isPr (Ra Rb : RV) : RV := fun H z => ∃ T x y, z = .ref T ∧ H T = some (.tup [x, y]) ∧ Ra H x ∧ Rb H y
theorem ev_pr {Ra Rb : RV} {t u : TE} {σ : L2.St} {H : Hp} (ha : Sty Ra) (hb : Sty Rb) (a : Ev Ra t σ H) (b : Ev Rb u σ H) : Ev (isPr Ra Rb) (tTup (tCons t (tCons u tNil))) σ H := fun H1 s1 Q q =>
  a H1 s1 _ fun H2 x s2 gx => b H2 (s1.trans s2) _ fun H3 y s3 gy => ⟨sz (n := 2) (by decide), fun T nT => q _ _ ((s2.trans s3).trans (same_new nT)) ⟨T, x, y, rfl, upd_same, ha _ _ _ (s3.trans (same_new nT)) gx, hb _ _ _ (same_new nT) gy⟩⟩
section
variable {K : PySem.W.Frag} {n : Nat} {p r : Nat → Bool} {t : TE} {σ : L2.St} {H : Hp}
theorem ev_isnot {b c : Bool} {u : TE} (a : Ev (isB b) t σ H) (d : Ev (isB c) u σ H) : Ev (isB (!decide (b = c))) (tOp (fun x y H Q => ∃ a b, x = .bl a ∧ y = .bl b ∧ Q (.bl (!decide (a = b))) H) t u) σ H :=
  ev_op (sty_v _) a d fun H x y ex ey Q q => ⟨b, c, ex, ey, q _ _ (Same.refl _) rfl⟩
theorem evt_notT {b : Bool} {t : TT} (h : EvT b t σ H) : EvT (!b) (tNot t) σ H := evt_not h
theorem of_shlN (h : n ≤ 6) : OpF (isV (.int 1)) (isV (.int (n : Int))) (rI CPow fun i j => .int (i * 2 ^ j.toNat)) (isV (.int ((2 ^ n : Nat) : Int))) := fun H x y ex ey Q q => ⟨1, n, ex, ey, cpow h, q _ _ (Same.refl _) (congrArg V.int (shl1 n))⟩
end
section
variable {P : Program} {w : World} {K : PySem.W.Frag} {mg : Str → Option Value} {base : Heap} {CW : Addr}
def rowsD (n : Nat) (p r : Nat → Bool) : PyData := .tuple ((lotOf n r).map fun (m : Nat) => .tuple [.int ((fstN n p ^^^ m : Nat) : Int), .int (((lotOf n p).getLast?.getD 0 : Nat) : Int)])
theorem stay_rw2 (f g : Nat → Nat) (ms : List Nat) : Stay (fun j y H => ∃ m, ms[j]? = some m ∧ RwAt H y (f m) (g m)) :=
  ⟨fun ⟨m, e, q, h1, h2⟩ s => ⟨m, e, q, h1, s _ _ h2⟩, fun ⟨m, e, q, h1, h2⟩ s => ⟨m, e, q, h1, by rw [upd_ne (at_ne' s h2 (by simp))]; exact h2⟩⟩
theorem dz_rows2 {H : Hp} {f g : Nat → Nat} : ∀ {ys : List V} {ms : List Nat}, ys.length = ms.length → (∀ (j : Nat) y, ys[j]? = some y → ∃ m, ms[j]? = some m ∧ RwAt H y (f m) (g m)) → DzAll K H ys (ms.map fun m => .tuple [.int (f m : Int), .int (g m : Int)])
  | [], [], _, _ => .nil
  | [], _ :: _, h, _ => by simp at h
  | _ :: _, [], h, _ => by simp at h
  | y :: ys, m :: ms, h, hall => by
    obtain ⟨m', e, q, rfl, hq⟩ := hall 0 y rfl
    cases e
    exact .cons (.tup (SqT.of hq) (.cons (.int _) (.cons (.int _) .nil))) (dz_rows2 (by simpa using h) fun j z hz => hall (j + 1) z hz)
abbrev nRt : List Str := ["_law_one", "_law_other", "_law_told", "_law_ways", "_law_sizes", "_law_rows", "_law_mask"]
theorem scRt : FnScope nRt ["_law_one", "_law_other"] (defScope sLRight) := ⟨rfl, rfl, rfl, by decide +kernel, rfl, by decide +kernel, by decide +kernel⟩
structure DefsR (P : Program) (w : World) (K : PySem.W.Frag) (mg : Str → Option Value) (base : Heap) (CW : Addr) : Prop where
  judge : DefX P w K mg base 6 "judge" (spFn CW (gVer K))
  turnsbetween : DefX P w K mg base 6 "turns_between" (spFn CW gTb)
  judgeholds : DefX P w K mg base 6 "judge_holds" (spJh K CW)
  leastturned : DefR P w K mg base 6 "least_turned" spLeast
def spRt : Sp := fun vs H Q _ => ∃ (v u : V) (n : Nat) (p r : Nat → Bool), vs = [v, u] ∧ LotAt H v n p ∧ LotAt H u n r ∧ 1 ≤ n ∧ n ≤ 6 ∧ ∀ H', Same H H' → Q (.bl true) H'
theorem ok_rt {f : Addr} {fd : FuncData} {k : Nat} (B : Bl mg) (F : Fun K "_law_right" "_law_right" sLRight f fd) (d : DefsR P w K mg base CW) : FnOk P w K mg base CX0 (k + 7) f fd ["_law_one", "_law_other"] spRt := by
  refine F.ok scRt (fun vs H Q E h => ?_) (fun cdv A outer s H vs Q E hr0 h => ?_)
  · obtain ⟨v, u, n, p, r, rfl, _⟩ := h
    rfl
  · obtain ⟨v, u, n, p, r, rfl, hv, hu, h1, h6, q⟩ := h
    have hr : Room 6 (A.deeper (envOfC "_law_right" (defScope sLRight) s.heap.objs.size f cdv)) := hr0.mono (by omega)
    refine ⟨_, pss_cons (ps_asg (pe_tup (pa_cons (pe_defX d.judge hr (by rfl) takes0 (pa_cons (pv 0) (pa_cons (pv 1) pa_nil))) (pa_cons (pe_defX d.turnsbetween hr (by rfl) takes0 (pa_cons (pv 0) (pa_cons (pv 1) pa_nil))) pa_nil))) (pg_tup rfl (pgs_cons (pg_name (i := 2) scRt.nd rfl (by first | exact Or.inl rfl | exact Or.inr rfl)) (pgs_cons (pg_name (i := 3) scRt.nd rfl (by first | exact Or.inl rfl | exact Or.inr rfl)) pgs_nil))))
      (pss_cons (ps_if (PW.pt (pw_or (pt_cmpR op_ne (pe_cmpR op_eq (pe_ix ix_tup (pv 2) pe_int (fun _ _ => rfl)) pe_str (nomark _)) (pe_cmpR (op_neD hr.units) (pv 3) (pe_tup pa_nil) (nomark _)) (nomark _)) (pw_or1 (pt_cmpR op_ne (pe_cmpR (op_eqD hr.units) (pe_def d.leastturned hr (by rfl) (pa_cons (pv 0) pa_nil)) (pe_def d.leastturned hr (by rfl) (pa_cons (pv 1) pa_nil)) (nomark _)) (pe_cmpR (op_neD hr.units) (pv 3) (pe_tup pa_nil) (nomark _)) (nomark _))))) pss_never pss_nil)
      (pss_cons (ps_if (pt_cmpR op_isnot_bl (pe_defX d.judgeholds hr (by rfl) takes0 (pa_cons (pv 0) (pa_cons (pv 1) (pa_cons (pv 2) pa_nil)))) pe_bl (nomark _)) pss_never pss_nil)
      (pss_cons (ps_if (pt_cmpR (op_neD hr.units) (pe_lc (own := [("_law_mask", 6)]) (g := (gName 6)) (tt := (tTest (tOp rNe (tCallS (spJh K CW) (WE (fun _ _ _ _ => False)) (tCons (tVar 0) (tCons (tVar 1) (tCons (tTup (tCons (tC (.str "turn")) (tCons (tVar 6) tNil))) tNil)))) (tOp (rIn K false) (tVar 6) (tVar 3))))) (te := (tVar 6)) rfl scRt.nd (pi_range1 (by rfl) B.range (pa_cons (pe_op op_shl pe_int (pe_ix ix_tup (pv 0) pe_int (fun _ _ => rfl))) pa_nil)) (blkOk_by (own := [("_law_mask", 6)]) (N := nRt) (sc := defScope sLRight) (by decide +kernel))
          (fun _ _ _ _ _ => (pg_name (i := 6) scRt.nd rfl (Or.inl rfl))) (fun _ _ _ _ _ => pts_one (pt_cmpR op_ne (pe_defX d.judgeholds hr (by rfl) takes0 (pa_cons (pv 0) (pa_cons (pv 1) (pa_cons (pe_tup (pa_cons pe_str (pa_cons (pv 6) pa_nil))) pa_nil)))) (pe_cmpR op_in_seq (pv 6) (pv 3) (by rfl)) (nomark _))) (fun _ _ _ _ _ => pv 6)) (pe_lst pa_nil) (nomark _)) pss_never pss_nil)
      (pss_cons (ps_set (i := 4) scRt.nd rfl (by first | exact Or.inl rfl | exact Or.inr rfl) (pe_tup (pa_cons pe_str (pa_cons (pe_callB call_len_seq (by rfl) B.len PySem.boot_len (pa_cons (pe_ix ix_tup (pv 0) pe_int (fun _ _ => rfl)) pa_nil)) (pa_cons (pe_callB call_len_seq (by rfl) B.len PySem.boot_len (pa_cons (pe_ix ix_tup (pv 1) pe_int (fun _ _ => rfl)) pa_nil)) pa_nil)))))
      (pss_cons (ps_if (pt_cmpR op_ne (pe_defX d.judgeholds hr (by rfl) takes0 (pa_cons (pv 0) (pa_cons (pv 1) (pa_cons (pv 4) pa_nil)))) (pe_cmpR op_ne (pe_callB call_len_seq (by rfl) B.len PySem.boot_len (pa_cons (pe_ix ix_tup (pv 0) pe_int (fun _ _ => rfl)) pa_nil)) (pe_callB call_len_seq (by rfl) B.len PySem.boot_len (pa_cons (pe_ix ix_tup (pv 1) pe_int (fun _ _ => rfl)) pa_nil)) (nomark _)) (nomark _)) pss_never pss_nil)
      (pss_cons (ps_if (PW.pt (pw_and (pt_cmpR (op_neD hr.units) (pv 3) (pe_tup pa_nil) (nomark _)) (pw_and1 (pt_cmpR (op_neD hr.units) (pe_ix ix_tup (pv 0) pe_int (fun _ _ => rfl)) (pe_tup pa_nil) (nomark _))))) (pss_cons (ps_set (i := 5) scRt.nd rfl (by first | exact Or.inl rfl | exact Or.inr rfl) (pe_callTy call_tuple_of (by rfl) B.tuple bT (pa_cons (pe_lc (own := [("_law_mask", 6)]) (g := (gName 6)) (tt := tYes) (te := (tTup (tCons (tOp rXor (tOp (rIxT K) (tOp (rIxT K) (tVar 0) (tC (.int 1))) (tC (.int 0))) (tVar 6)) (tCons (tOp (rIxT K) (tOp (rIxT K) (tVar 0) (tC (.int 1))) (tUn (rU fun i => .int (-i)) (tC (.int 1)))) tNil)))) rfl scRt.nd (pi_tup (pe_ix ix_tup (pv 1) pe_int (fun _ _ => rfl))) (blkOk_by (own := [("_law_mask", 6)]) (N := nRt) (sc := defScope sLRight) (by decide +kernel))
          (fun _ _ _ _ _ => (pg_name (i := 6) scRt.nd rfl (Or.inl rfl))) (fun _ _ _ _ _ => pts_nil) (fun _ _ _ _ _ => pe_tup (pa_cons (pe_op op_xor (pe_ix ix_tup (pe_ix ix_tup (pv 0) pe_int (fun _ _ => rfl)) pe_int (fun _ _ => rfl)) (pv 6)) (pa_cons (pe_ix ix_tup (pe_ix ix_tup (pv 0) pe_int (fun _ _ => rfl)) (pe_un un_neg pe_int) (fun _ _ => rfl)) pa_nil)))) pa_nil)))
      (pss_one (ps_ret (pe_and (pe_not (pe_defX d.judgeholds hr (by rfl) takes0 (pa_cons (pv 0) (pa_cons (pv 1) (pa_cons (pe_tup (pa_cons pe_str (pa_cons (pv 5) pa_nil))) pa_nil))))) (pe_one (pe_not (pe_defX d.judgeholds hr (by rfl) takes0 (pa_cons (pv 0) (pa_cons (pv 1) (pa_cons (pe_tup (pa_cons pe_str (pa_cons (pe_tup pa_nil) pa_nil))) pa_nil)))))))))) pss_nil)
      (pss_one (ps_ret pe_bl)))))))), ?_⟩
    have evO : ∀ {H8 : Hp} {y2 y3 y4 y5 y6 : Option V}, Same H H8 → Ev (isLot n p) (tVar 0) [some v, some u, y2, y3, y4, y5, y6] H8 := fun s => ev_var (sty_lot n p) rfl (hv.same s)
    have evU : ∀ {H8 : Hp} {y2 y3 y4 y5 y6 : Option V}, Same H H8 → Ev (isLot n r) (tVar 1) [some v, some u, y2, y3, y4, y5, y6] H8 := fun s => ev_var (sty_lot n r) rfl (hu.same s)
    refine asg_ev (ev_pr (sty_d K _) (sty_tup _) (ev_jd h1 h6 (evO (Same.refl _)) (evU (Same.refl _))) (ev_tb h1 h6 (evO (Same.refl _)) (evU (Same.refl _)))) fun H2 z s2 hz => ?_
    obtain ⟨T, x, y, rfl, hT, gx, gy⟩ := hz
    refine ⟨T, _, rfl, SqT.of hT, rfl, _, _, rfl, _, _, rfl, rfl, ?_⟩
    have evT : ∀ {H8 : Hp} {y4 y5 y6 : Option V}, Same H2 H8 → Ev (isD K (dVer n p r)) (tVar 2) [some v, some u, some x, some y, y4, y5, y6] H8 := fun s => ev_var (sty_d K _) rfl (sty_d K _ _ _ _ s gx)
    have evY : ∀ {H8 : Hp} {y4 y5 y6 : Option V}, Same H2 H8 → Ev (isTup (lotOf n (kpB n p r))) (tVar 3) [some v, some u, some x, some y, y4, y5, y6] H8 := fun s => ev_var (sty_tup _) rfl (sty_tup _ _ _ _ s gy)
    refine ifs_no (evt_or (evt_test (ev_op (sty_v _) (ev_op (sty_v _) (ev_ver0 (evT (Same.refl _))) (ev_c _) of_eqS) (ev_op (sty_tup _) (evY (Same.refl _)) ev_tup0 of_neT) of_neB))
      (evt_test (ev_op (sty_v _) (ev_op (sty_lot _ _) (ev_least h6 (evO s2)) (ev_least h6 (evU s2)) of_eqL) (ev_op (sty_tup _) (evY (Same.refl _)) ev_tup0 of_neT) of_neB))) ?_ fun H3 s3 => ?_
    · rw [verN_turn, low_kp]
      cases h : decide (lotOf n (kpB n p r) ≠ []) <;> simp_all
    have s03 := s2.trans s3
    refine ifs_no (evt_test (ev_isnot (ev_jh h1 h6 (evO s03) (evU s03) (evT s3)) (ev_c _))) (by rw [ver_holds]; rfl) fun H4 s4 => ?_
    have s24 := s3.trans s4
    have s04 := s2.trans s24
    refine ifs_no (evt_test (ev_op (sty_lsN []) ((ev_lcF (N := 2 ^ n) (fun _ => false) (Nat.le_of_ble_eq_true rfl) (by have := pow6 h6; omega) (fun z => rfl) (fun z => rfl) (ev_op (sty_v _) (ev_c _) (ev_op (sty_lot _ _) (evO s04) (ev_c _) of_ix0) (of_shlN h6)) fun j H5 hj s5 => ?_).mono fun H z g => by rw [List.filter_eq_nil_iff.mpr (fun _ _ => by decide)] at g; exact g) ev_lst0 of_neN)) (by rw [decide_eq_true rfl]; rfl) fun H5 s5 => ?_
    · refine evt_test ((ev_op (sty_v _) (ev_jh h1 h6 (evO (s04.trans s5)) (evU (s04.trans s5)) (ev_tuD (ds := [.str "turn", .int (j : Int)]) (Nat.le_of_ble_eq_true rfl) (eva_consD (ev_s (ev_c _)) (eva_consD (ev_i (ev_var (sty_v _) rfl rfl)) eva_nil)))) (ev_op (sty_v _) (ev_var (sty_v (.int (j : Int))) rfl rfl) (evY (s24.trans s5)) of_in) of_neB).mono fun H z e => ?_)
      rw [e, jh_turn hj]
      have e2 : decide (j ∈ lotOf n (kpB n p r)) = kpB n p r j := by
        rw [Bool.eq_iff_iff, decide_eq_true_iff, mem_lot]
        exact ⟨fun z => z.2, fun z => ⟨hj, z⟩⟩
      rw [e2]
      cases kpB n p r j <;> rfl
    have s05 := s04.trans s5
    refine asg_ev (ev_tuD (K := K) (ds := [.str "sizes", .int ((lotOf n p).length : Int), .int ((lotOf n r).length : Int)]) (Nat.le_of_ble_eq_true rfl) (eva_consD (ev_s (ev_c _)) (eva_consD (ev_i (ev_len_tup (ev_op (sty_lot _ _) (evO s05) (ev_c _) of_ix1))) (eva_consD (ev_i (ev_len_tup (ev_op (sty_lot _ _) (evU s05) (ev_c _) of_ix1))) eva_nil)))) fun H6 z6 s6 g6 => ?_
    have s06 := s05.trans s6
    refine ifs_no (evt_test (ev_op (sty_v _) (ev_jh h1 h6 (evO s06) (evU s06) (ev_var (sty_d K _) rfl g6)) (ev_op (sty_v _) (ev_len_tup (ev_op (sty_lot _ _) (evO s06) (ev_c _) of_ix1)) (ev_len_tup (ev_op (sty_lot _ _) (evU s06) (ev_c _) of_ix1)) of_neI) of_neB)) ?_ fun H7 s7 => ?_
    · rw [jh_sizes, siz_len]
      have : decide (((lotOf n p).length : Int) = ((lotOf n r).length : Int)) = decide ((lotOf n p).length = (lotOf n r).length) := decide_eq_decide.mpr ⟨fun e => Int.ofNat.inj e, fun e => by rw [e]⟩
      rw [this]
      cases decide ((lotOf n p).length = (lotOf n r).length) <;> rfl
    have s07 := s06.trans s7
    have s27 := ((s24.trans s5).trans s6).trans s7
    have fin : ∀ H8, Same H7 H8 → Q (.bl true) H8 := fun H8 s8 => q H8 (s07.trans s8)
    refine (evt_and (evt_test (ev_op (sty_tup _) (evY s27) ev_tup0 of_neT)) (evt_test (ev_op (sty_tup _) (ev_op (sty_lot _ _) (evO s07) (ev_c _) of_ix1) ev_tup0 of_neT))) H7 (Same.refl _) _ fun H8 s8 => ?_
    cases hb : ((!decide (lotOf n (kpB n p r) = [])) && !decide (lotOf n p = [])) with
    | false => exact iteF (fin _ s8)
    | true =>
    rw [Bool.and_eq_true, Bool.not_eq_true', decide_eq_false_iff_not, Bool.not_eq_true', decide_eq_false_iff_not] at hb
    obtain ⟨hk, hp⟩ := hb
    obtain ⟨t, ht⟩ := List.exists_mem_of_ne_nil _ hk
    obtain ⟨ht1, ht2⟩ := mem_lot.mp ht
    have s08 := s07.trans s8
    obtain ⟨a0, b0, e0, ha0, hb0⟩ := hv.same s08
    obtain ⟨a1, b1, e1, ha1, hb1⟩ := hu.same s08
    have hl := lot_len h6 r
    obtain ⟨tl, et⟩ := head_of hp
    have hat0 : atI (vm (lotOf n p)) 0 = some (.int (fstN n p : Int)) := by
      rw [et]
      exact atI_nat (j := 0) rfl
    obtain ⟨la, hat1⟩ : ∃ la : Nat, atI (vm (lotOf n p)) (-1) = some (.int (la : Int)) := by
      have hpos : 0 < (lotOf n p).length := List.length_pos_iff.mpr hp
      refine ⟨(lotOf n p)[(lotOf n p).length - 1], ?_⟩
      unfold atI
      have e : ixN (vm (lotOf n p)).length (-1) = some ((lotOf n p).length - 1) := by
        unfold ixN
        rw [if_neg (by decide), if_pos (by rw [vm_len]; omega), vm_len]
        congr 1
        omega
      rw [e]
      show (vm (lotOf n p))[(lotOf n p).length - 1]? = _
      unfold vm
      rw [List.getElem?_map, List.getElem?_eq_getElem (by omega)]
      rfl
    refine iteT ⟨u, rfl, a1, _, 1, .ref b1, e1, rfl, SqT.of ha1, rfl, b1, rfl, ⟨_, SqT.of hb1⟩, fun D nD => lcg_tup (stay_rw2 (fun m => fstN n p ^^^ m) (fun _ => la) (lotOf n r)) nD (SqT.of hb1) (by rw [vm_len]; omega) (fun j zz Hc hzz sc => ?_) (fun H9 pv9 => ?_)⟩
    · intro R1 R2 h2
      obtain ⟨m, hm, rfl⟩ := mem_vm hzz
      refine ⟨rfl, iteT (B := R1 Hc) ⟨v, rfl, a0, _, 1, .ref b0, e0, rfl, SqT.of (sc _ _ ha0), rfl, b0, _, 0, .int (fstN n p : Int), rfl, rfl, SqT.of (sc _ _ hb0), hat0, .int (m : Int), rfl, (fstN n p : Int), (m : Int), rfl, rfl, v, rfl, a0, _, 1, .ref b0, e0, rfl, SqT.of (sc _ _ ha0), rfl, 1, rfl, b0, _, -1, .int (la : Int), rfl, rfl, SqT.of (sc _ _ hb0), hat1, sz (n := 2) (by decide), fun T2 nT2 => h2 _ _ (same_new nT2) ⟨m, hm, T2, ?_, ?_⟩⟩⟩
      · rfl
      · rw [upd_same]
        show some (HO.tup [V.int (Builtin.bitXor (fstN n p : Int) (m : Int)), V.int (la : Int)]) = _
        rw [bx]
    obtain ⟨s9, ys, hD, hyl, hys⟩ := pv9
    rw [vm_len] at hyl
    refine ⟨D, _, rfl, .inl ⟨SqL.of hD, fun T9 nT9 => ?_⟩⟩
    have dR : Dz K (upd H9 T9 (.tup ys)) (.ref T9) (.tuple ((lotOf n r).map fun m => .tuple [.int ((fstN n p ^^^ m : Nat) : Int), .int (la : Int)])) := .tup (SqT.of upd_same) ((dz_rows2 hyl hys).same (same_new nT9))
    have s09 := (s08.trans s9).trans (same_new (o := .tup ys) nT9)
    refine ret_ev (ev_andV (ev_notV (ev_jh h1 h6 (evO s09) (evU s09) (ev_tuD (ds := [.str "blocks", _]) (Nat.le_of_ble_eq_true rfl) (eva_consD (ev_s (ev_c _)) (eva_consD (ev_var (sty_d K _) rfl dR) eva_nil))))) (ev_notV (ev_jh h1 h6 (evO s09) (evU s09) (ev_tuD (ds := [.str "blocks", .tuple []]) (by decide) (eva_consD (ev_s (ev_c _)) (eva_consD (ev_tuD (ds := []) (by decide) eva_nil) eva_nil)))))) fun H10 z10 s10 e10 => ?_
    rw [jh_blocks, jh_blocks, blk_no ht1 ht2, blk_no ht1 ht2] at e10
    subst e10
    exact q _ (s09.trans s10)
end
end XT
/-! more comprehensions as values -/
namespace XT
open PySem PySem.Spec PyProof.Rows L2
/-- [te for x in range(n)], of any kind -/
theorem ev_lcRG {i N : Nat} {Rs : List RV} {ta te : TE} {σ : L2.St} {H : Hp} (hl : Rs.length = N) (hN : N ≤ 1000) (hL : ∀ S ∈ Rs, StyL S) (hS : StyA Rs) (hw : ∀ z : V, wipe ((wipe σ [i]).set i (some z)) [i] = wipe σ [i])
    (a : Ev (isV (.int (N : Int))) ta σ H) (b : ∀ (j : Nat) (R : RV) (H1 : Hp), Rs[j]? = some R → Same H H1 → Ev R te ((wipe σ [i]).set i (some (.int (j : Int)))) H1) : Ev (isLst Rs) (tLc (iRng1 (tCons ta tNil)) (gName i) tYes te [i]) σ H := fun H1 s1 Q q =>
  a H1 s1 _ fun H2 x s2 ex => by
    refine ⟨(N : Int), by rw [ex], by omega, by omega, fun D nD => lcg_range (n := N) (G := fun j y H => ∀ S, Rs[j]? = some S → S H y) ⟨fun {j y H H'} h e S hs => hS S (List.mem_of_getElem? hs) _ _ _ e (h S hs), fun {j y H D xs ys} h e S hs => hL S (List.mem_of_getElem? hs) _ _ _ _ _ e (h S hs)⟩ nD hN (fun j Hc hj sc => ?_) (fun H3 hpv => ?_)⟩
    · intro R1 R2 h2
      have hj2 : j < Rs.length := by omega
      rw [Int.zero_add]
      refine ⟨hw _, ?_⟩
      exact iteT (B := R1 Hc) (b j _ Hc (List.getElem?_eq_getElem hj2) ((s1.trans s2).trans sc) Hc (Same.refl _) _ fun H4 o s4 go => h2 _ _ s4 fun S hs => by
        cases hs.symm.trans (List.getElem?_eq_getElem hj2)
        exact go)
    · obtain ⟨s3, ys, hD, hyl, hys⟩ := hpv
      exact q _ _ (s2.trans s3) ⟨D, ys, rfl, hD, allV_of (by rw [hyl, hl]) fun j R v hRj hv => hys j v hv R hRj⟩
/-- [te for x in xs if ..], none -/
theorem ev_lcLN {K : PySem.W.Frag} {i : Nat} {Rs : List RV} {t te : TE} {tt : TT} {σ : L2.St} {H : Hp} (hN : Rs.length ≤ 1000) (hR : StyA Rs) (a : Ev (isLst Rs) t σ H) (hw : ∀ z : V, wipe ((wipe σ [i]).set i (some z)) [i] = wipe σ [i])
    (b : ∀ (j : Nat) (R : RV) (z : V) (H1 : Hp), Rs[j]? = some R → R H1 z → Same H H1 → EvT false tt ((wipe σ [i]).set i (some z)) H1) : Ev (isLsN []) (tLc (iList K t) (gName i) tt te [i]) σ H := fun H1 s1 Q q =>
  a H1 s1 _ fun H2 x s2 ⟨L, vs, ex, hLv, gv⟩ => by
    have hvl : vs.length = Rs.length := allV_len gv
    refine ⟨L, ex, ⟨_, SqL.of hLv⟩, fun D nD => ?_⟩
    refine lc_list (xs := vs) (fun j H => PvP H2 D [] H) ⟨same_new nD, upd_same⟩ (fun j Hc _ h => SqL.of (h.1 _ _ hLv)) (fun j z Hc hz h => ?_) (fun H4 h => q _ _ (s2.trans h.1) ⟨D, rfl, h.2⟩)
    have hj : j < Rs.length := by rw [← hvl]; exact (List.getElem?_eq_some_iff.mp hz).1
    obtain ⟨z', hz', gz⟩ := allV_at gv (List.getElem?_eq_getElem hj)
    cases hz.symm.trans hz'
    refine ⟨hw _, ?_⟩
    refine b j _ z Hc (List.getElem?_eq_getElem hj) (hR _ (List.getElem_mem hj) _ _ _ h.1 gz) ((s1.trans s2).trans h.1) Hc (Same.refl _) _ fun H4 s4 => iteF ⟨h.1.trans s4, s4 _ _ h.2⟩
/-- xs[i] -/
theorem of_ixLs {K : PySem.W.Frag} {Rs : List RV} {j : Nat} {R : RV} (h : Rs[j]? = some R) : OpF (isLst Rs) (isV (.int (j : Int))) (rIxL K) R := fun H x y ⟨L, vs, ex, hL, al⟩ ey Q q => by
  subst ex ey
  obtain ⟨v, hv, gv⟩ := allV_at al h
  exact ⟨L, vs, j, v, rfl, rfl, SqL.of hL, atI_nat hv, q _ _ (Same.refl _) gv⟩
end XT
namespace XT
open PySem PySem.Spec PyProof.Rows L2
abbrev nDn : List Str := ["_law_stream_here", "_law_most", "_law_width", "_law_way", "_law_count", "_law_masks", "_law_k", "_law_turn", "_law_out", "_law_mask"]
theorem scDn : FnScope nDn ["_law_stream_here", "_law_most"] (defScope sDrawn) := ⟨rfl, rfl, rfl, by decide +kernel, rfl, by decide +kernel, by decide +kernel⟩
section
variable {P : Program} {w : World} {K : PySem.W.Frag} {mg : Str → Option Value} {base : Heap}
def spDrawn : Sp := fun vs H Q _ => ∃ (S : Sm) (t : Int) (most : Nat), vs = [.ref S.s, .int (most : Int)] ∧ Strm S H t ∧ 1 ≤ most ∧ most ≤ 6 ∧ t < 10000000 ∧
  ∀ (H' : Hp) (r : V) (n : Nat) (p : Nat → Bool) (t' : Int), Step S H t H' t' 300 → 1 ≤ n → n ≤ most → LotAt H' r n p → Q r H'
/-- the masks so far -/
def MidD (S : Sm) (H : Hp) (t : Int) (most n way B : Nat) (σ : L2.St) (H' : Hp) : Prop := ∃ (M : Addr) (ks : List Nat) (t' : Int) (y6 y7 y8 : Option V),
  σ = [some (.ref S.s), some (.int (most : Int)), some (.int (n : Int)), some (.int (way : Int)), some (.int ((2 ^ n : Nat) : Int)), some (.ref M), y6, y7, y8, none] ∧
  Step S H t H' t' B ∧ H' M = some (.lst (vm ks)) ∧ M ≠ S.s ∧ M ≠ S.p ∧ (∀ k ∈ ks, k < 2 ^ n) ∧ ks.length ≤ 64
theorem fresh_s {S : Sm} {H : Hp} {t : Int} {x : Addr} (h : Strm S H t) (n : H x = none) : x ≠ S.s ∧ x ≠ S.p := by
  obtain ⟨_, h⟩ := h
  exact ⟨fun e => (by rw [e, h.hs] at n; cases n), fun e => (by rw [e, h.hp] at n; cases n)⟩
abbrev tDr (m : TE) : TE := fun σ H Q => tCons (tVar 0) (tCons m tNil) σ H fun vs H1 => spDrawN vs H1 Q E0
theorem or_eq {σ : L2.St} {H : Hp} {i : Nat} {x a b : Int} {Q : Bool → Hp → Prop} (hx : σ[i]? = some (some (.int x))) (h : Q (decide (x = a ∨ x = b)) H) : tOr (tTest (tOp rEq (tVar i) (tC (.int a)))) (tTest (tOp rEq (tVar i) (tC (.int b)))) σ H Q := by
  refine ⟨.int x, hx, rfl, _, rfl, ite2 (fun e => ?_) (fun e => ⟨.int x, hx, rfl, _, rfl, ?_⟩)⟩
  · have e1 : x = a := V.int.inj (of_decide_eq_true e)
    rw [decide_eq_true (Or.inl e1)] at h
    exact h
  · have e1 : x ≠ a := fun z => e (decide_eq_true (by rw [z]))
    by_cases e2 : x = b
    · rw [decide_eq_true (Or.inr e2)] at h
      rw [decide_eq_true (by rw [e2])]
      exact h
    · rw [decide_eq_false (fun z => z.elim e1 e2)] at h
      rw [decide_eq_false (fun z => e2 (V.int.inj z))]
      exact h
theorem ok_drawn {f : Addr} {fd : FuncData} {k : Nat} (B : Bl mg) (F : Fun K "_law_drawn" "_law_drawn" sDrawn f fd) (dD : DefR P w K mg base 1 "_law_draw" spDrawN) : FnOk P w K mg base CX0 (k + 2) f fd ["_law_stream_here", "_law_most"] spDrawn := by
  refine F.ok scDn (fun vs H Q E h => ?_) (fun cdv A outer s H vs Q E hr h => ?_)
  · obtain ⟨S, t, most, rfl, _⟩ := h
    rfl
  · obtain ⟨S, t, most, rfl, st, ml, mh, ht, q⟩ := h
    have hr1 : Room 1 (A.deeper (envOfC "_law_drawn" (defScope sDrawn) s.heap.objs.size f cdv)) := hr.mono (by omega)
    refine ⟨_, pss_cons (ps_asg (pe_tup (pa_cons (pe_op op_add pe_int (pe_def dD hr1 (by rfl) (pa_cons (pv 0) (pa_cons (pv 1) pa_nil)))) (pa_cons (pe_def dD hr1 (by rfl) (pa_cons (pv 0) (pa_cons pe_int pa_nil))) pa_nil)))
          (pg_tup rfl (pgs_cons (pg_name (i := 2) scDn.nd rfl (.inl rfl)) (pgs_cons (pg_name (i := 3) scDn.nd rfl (.inr rfl)) pgs_nil))))
      (C8.pss_cut (ps_asg (pe_tup (pa_cons (pe_op op_shl pe_int (pv 2)) (pa_cons (pe_lst pa_nil) pa_nil)))
          (pg_tup rfl (pgs_cons (pg_name (i := 4) scDn.nd rfl (.inr rfl)) (pgs_cons (pg_name (i := 5) scDn.nd rfl (.inl rfl)) pgs_nil))))
      (C8.pss_cut (ps_if (pt_cmpR op_eq (pv 3) pe_int (nomark _))
          (pss_one (ps_setLc (i := 5) (own := [("_law_mask", 9)]) (g := gName 9) (te := tVar 9) rfl scDn.nd rfl rfl (sw_true rfl rfl rfl (by decide +kernel)) (pi_range1 (by rfl) B.range (pa_cons (pv 4) pa_nil)) (blkOk_by (own := [("_law_mask", 9)]) (N := nDn) (sc := defScope sDrawn) (by decide +kernel))
            (fun _ _ _ _ _ => pg_name (i := 9) scDn.nd rfl (Or.inl rfl)) (fun _ _ _ _ _ => pts_one (pt_cmpR op_eq (pe_def dD hr1 (by rfl) (pa_cons (pv 0) (pa_cons pe_int pa_nil))) pe_int (nomark _))) (fun _ _ _ _ _ => pv 9))) pss_nil)
      (C8.pss_cut (ps_if (PW.pt (pw_or (pt_cmpR op_eq (pv 3) pe_int (nomark _)) (pw_or1 (pt_cmpR op_eq (pv 3) pe_int (nomark _)))))
          (pss_one (ps_setLc (i := 5) (own := [("_law_k", 6)]) (g := gName 6) (tt := tYes) rfl scDn.nd rfl rfl (sw_true rfl rfl rfl (by decide +kernel))
            (pi_range1 (by rfl) B.range (pa_cons (pe_def dD hr1 (by rfl) (pa_cons (pv 0) (pa_cons (pe_ix ix_list (pe_lst (pa_cons pe_int (pa_cons pe_int pa_nil))) (pe_op op_sub (pv 3) pe_int) (fun _ _ => rfl)) pa_nil))) pa_nil)) (blkOk_by (own := [("_law_k", 6)]) (N := nDn) (sc := defScope sDrawn) (by decide +kernel))
            (fun _ _ _ _ _ => pg_name (i := 6) scDn.nd rfl (Or.inl rfl)) (fun _ _ _ _ _ => pts_nil) (fun _ _ _ _ _ => pe_def dD hr1 (by rfl) (pa_cons (pv 0) (pa_cons (pv 4) pa_nil))))) pss_nil)
      (C8.pss_cut (ps_if (PW.pt (pw_or (pt_cmpR op_eq (pv 3) pe_int (nomark _)) (pw_or1 (pt_cmpR op_eq (pv 3) pe_int (nomark _)))))
          (pss_cons (ps_set (i := 5) scDn.nd rfl (.inl rfl) (pe_lst (pa_cons (pe_def dD hr1 (by rfl) (pa_cons (pv 0) (pa_cons (pv 4) pa_nil))) pa_nil)))
          (pss_one (ps_for PassesOwn.never rfl (pi_range1 (by rfl) B.range (pa_cons (pe_def dD hr1 (by rfl) (pa_cons (pv 0) (pa_cons pe_int pa_nil))) pa_nil)) (pg_name (i := 6) scDn.nd rfl (.inl rfl))
            (pss_cons (ps_set (i := 7) scDn.nd rfl (.inr rfl) (pe_def dD hr1 (by rfl) (pa_cons (pv 0) (pa_cons (pv 4) pa_nil))))
            (pss_one (ps_set (i := 5) scDn.nd rfl (.inl rfl) (pe_op op_cat (pv 5)
              (pe_lc (own := [("_law_mask", 9)]) (g := gName 9) rfl scDn.nd (pi_list (pv 5)) (blkOk_by (own := [("_law_mask", 9)]) (N := nDn) (sc := defScope sDrawn) (by decide +kernel))
                (fun _ _ _ _ _ => pg_name (i := 9) scDn.nd rfl (Or.inl rfl)) (fun _ _ _ _ _ => pts_one (pt_cmpR op_gt (pe_def dD hr1 (by rfl) (pa_cons (pv 0) (pa_cons pe_int pa_nil))) (pe_op op_sub pe_int (pv 3)) (nomark _)))
                (fun _ _ _ _ _ => pe_op op_xor (pv 9) (pv 7)))))))))) pss_nil)
      (C8.pss_cut (ps_if (pt_cmpR op_eq (pv 3) pe_int (nomark _))
          (pss_cons (ps_set (i := 8) scDn.nd rfl (.inr rfl)
            (pe_lc (own := [("_law_k", 6)]) (g := gName 6) (tt := tYes) rfl scDn.nd (pi_range1 (by rfl) B.range (pa_cons (pe_def dD hr1 (by rfl) (pa_cons (pv 0) (pa_cons pe_int pa_nil))) pa_nil)) (blkOk_by (own := [("_law_k", 6)]) (N := nDn) (sc := defScope sDrawn) (by decide +kernel))
              (fun _ _ _ _ _ => pg_name (i := 6) scDn.nd rfl (Or.inl rfl)) (fun _ _ _ _ _ => pts_nil) (fun _ _ _ _ _ => pe_def dD hr1 (by rfl) (pa_cons (pv 0) (pa_cons (pv 4) pa_nil)))))
          (pss_one (ps_setLc (i := 5) (own := [("_law_mask", 9)]) (g := gName 9) (tt := tTest (tOp (rIn K true) (tVar 9) (tVar 8))) (te := tVar 9) rfl scDn.nd rfl rfl (sw_true rfl rfl rfl (by decide +kernel)) (pi_range1 (by rfl) B.range (pa_cons (pv 4) pa_nil)) (blkOk_by (own := [("_law_mask", 9)]) (N := nDn) (sc := defScope sDrawn) (by decide +kernel))
            (fun _ _ _ _ _ => pg_name (i := 9) scDn.nd rfl (Or.inl rfl)) (fun _ _ _ _ _ => pts_one (pt_cmpR op_notIn_seq (pv 9) (pv 8) (by rfl))) (fun _ _ _ _ _ => pv 9)))) pss_nil)
      (pss_one (ps_ret (pe_tup (pa_cons (pv 2) (pa_cons (pe_callTy call_tuple_of (by rfl) B.tuple bT (pa_cons (pe_callB (cr_sortS rfl) (by rfl) B.sorted bS (pa_cons (pe_callTy (cr_setL rfl) (by rfl) B.set bSet (pa_cons (pv 5) pa_nil)) pa_nil)) pa_nil)) pa_nil)))))))))), ?_⟩
    -- width, way
    refine ⟨.ref S.s, rfl, .int most, rfl, S, t, most, rfl, st, by omega, by omega, by omega, fun H1 r1 t1 s1 hr1 => ?_⟩
    refine ⟨1, r1, rfl, rfl, .ref S.s, rfl, S, t1, 6, rfl, s1.st, by omega, by omega, by have := s1.hi; omega, fun H2 way t2 s2 hway => ?_⟩
    refine ⟨sz (n := 2) (by decide), fun T nT => ⟨T, _, rfl, SqT.of upd_same, rfl, _, _, rfl, _, _, rfl, rfl, ?_⟩⟩
    have s3 := (s1.trans s2).same (same_new (o := .tup [.int (1 + (r1 : Int)), .int (way : Int)]) nT)
    obtain ⟨n, hn⟩ : ∃ n : Nat, n = 1 + r1 := ⟨_, rfl⟩
    have hn1 : 1 ≤ n := by omega
    have hn6 : n ≤ most := by omega
    -- count, masks
    refine ⟨MidD S H t most n way 10, ?_, fun σ0 H0 mid0 => ?_⟩
    · refine ⟨.int (1 + (r1 : Int)), rfl, 1, (n : Int), rfl, by rw [hn]; rfl, cpow (by omega), sz (n := 0) (by decide), fun M nM => ⟨sz (n := 2) (by decide), fun T2 nT2 => ⟨T2, _, rfl, SqT.of upd_same, rfl, _, _, rfl, _, _, rfl, rfl, ?_⟩⟩⟩
      have fs := fresh_s s3.st nM
      have s4 := s3.same (same_new (o := .lst []) nM)
      refine ⟨M, [], t2, none, none, none, ?_, (s4.same (same_new nT2)).mono (by omega), ?_, fs.1, fs.2, by simp, by simp⟩
      · rw [← shl1 n, hn]
        rfl
      · rw [upd_ne (ne_of_none upd_same nT2)]
        exact upd_same
    -- if way == 0
    refine ⟨MidD S H t most n way 80, ?_, fun σ1 H1 mid1 => ?_⟩
    · obtain ⟨M, ks, t', y6, y7, y8, rfl, stp, hM, as, ap, hk, hl⟩ := mid0
      refine ⟨.int way, rfl, rfl, _, rfl, ite2 (fun e => ?_) (fun e => ?_)⟩
      · refine ⟨.int ((2 ^ n : Nat) : Int), rfl, ((2 ^ n : Nat) : Int), rfl, l62, r62 (by omega), fun D nD => ?_⟩
        have p6 := pow6 (w := n) (by omega)
        have hi0 := stp.hi
        refine lcs_range (S := S) (c := 2 ^ n) (d := 1) (n := 2 ^ n) stp.st nD (by omega) (fun i H3 t3 hi s3 => ?_) (fun H3 pv => ?_)
        · intro R1 R2 h1 h2
          have hi3 := s3.hi
          refine ⟨rfl, .ref S.s, rfl, S, t3, 2, rfl, s3.st, by omega, by omega, by omega, fun H4 r t4 s4 hr4 => ⟨rfl, _, rfl, ite2 (fun e => ?_) (fun e => ?_)⟩⟩
          · refine ⟨.int (0 + (i : Int)), rfl, ?_⟩
            rw [Int.zero_add]
            exact h2 i H4 t4 s4 hi
          · exact h1 H4 t4 s4
        · obtain ⟨ks2, t3, s3, hD, hk2, hl2⟩ := pv
          have fs := fresh_s stp.st nD
          exact ⟨D, ks2, t3, y6, y7, y8, rfl, (stp.trans s3).mono (by omega), hD, fs.1, fs.2, hk2, by omega⟩
      · exact ⟨M, ks, t', y6, y7, y8, rfl, stp.mono (by omega), hM, as, ap, hk, hl⟩
    -- if way == 1 or way == 2
    refine ⟨MidD S H t most n way 100, ?_, fun σ2 H2 mid2 => ?_⟩
    · obtain ⟨M, ks, t', y6, y7, y8, rfl, stp, hM, as, ap, hk, hl⟩ := mid1
      refine or_eq (x := (way : Int)) rfl (ite2 (fun e => ?_) (fun e => ?_))
      · have e1 : way = 1 ∨ way = 2 := by
          have := of_decide_eq_true e
          omega
        obtain ⟨m, hm, hm7⟩ : ∃ m : Nat, atI [V.int 3, V.int 7] ((way : Int) - 1) = some (.int (m : Int)) ∧ (m = 3 ∨ m = 7) := by
          rcases e1 with rfl | rfl
          · exact ⟨3, rfl, .inl rfl⟩
          · exact ⟨7, rfl, .inr rfl⟩
        have hi0 := stp.hi
        refine ⟨.ref S.s, rfl, sz (n := 2) (by decide), fun L nL => ⟨.int way, rfl, way, 1, rfl, rfl, L, _, (way : Int) - 1, .int (m : Int), rfl, rfl, SqL.of upd_same, hm, ?_⟩⟩
        have s0 := stp.same (same_new (o := .lst [.int 3, .int 7]) nL)
        refine ⟨S, t', m, rfl, s0.st, by omega, by omega, by omega, fun H3 r t3 s3 hr3 => ?_⟩
        have hi3 := s3.hi
        refine ⟨r, rfl, by omega, by omega, fun D nD => ?_⟩
        have p6 := pow6 (w := n) (by omega)
        have p0 := pow0 n
        refine lcs_range (S := S) (c := 2 ^ n) (d := 1) (n := r) (g := gName 6) (tt := tYes) (te := tDr (tVar 4)) (vs := [6]) s3.st nD (by omega) (fun i H4 t4 hi s4 => ?_) (fun H4 pv => ?_)
        · intro R1 R2 h1 h2
          have hi4 := s4.hi
          refine ⟨rfl, iteT (B := R1 H4) ⟨.ref S.s, rfl, .int ((2 ^ n : Nat) : Int), rfl, S, t4, 2 ^ n, rfl, s4.st, by omega, by omega, by omega, fun H5 r5 t5 s5 hr5 => h2 r5 H5 t5 s5 hr5⟩⟩
        · obtain ⟨ks2, t4, s4, hD, hk2, hl2⟩ := pv
          have fs := fresh_s s3.st nD
          exact ⟨D, ks2, t4, y6, y7, y8, rfl, ((s0.trans s3).trans s4).mono (by omega), hD, fs.1, fs.2, hk2, by omega⟩
      · exact ⟨M, ks, t', y6, y7, y8, rfl, stp.mono (by omega), hM, as, ap, hk, hl⟩
    -- if way == 3 or way == 4
    refine ⟨MidD S H t most n way 200, ?_, fun σ3 H3 mid3 => ?_⟩
    · obtain ⟨M, ks, t', y6, y7, y8, rfl, stp, hM, as, ap, hk, hl⟩ := mid2
      refine or_eq (x := (way : Int)) rfl (ite2 (fun e => ?_) (fun e => ?_))
      · have hi0 := stp.hi
        have p6 := pow6 (w := n) (by omega)
        have p0 := pow0 n
        refine ⟨.ref S.s, rfl, .int ((2 ^ n : Nat) : Int), rfl, S, t', 2 ^ n, rfl, stp.st, by omega, by omega, by omega, fun H3 r t3 s3 hr3 => ⟨sz (n := 1) (by decide), fun L nL => ?_⟩⟩
        have fs := fresh_s s3.st nL
        have s4 := (stp.trans s3).same (same_new (o := .lst [.int (r : Int)]) nL)
        have hi4 := s4.hi
        refine ⟨.ref S.s, rfl, S, t3, 4, rfl, s4.st, by omega, by omega, by omega, fun H5 r5 t5 s5 hr5 => ⟨r5, rfl, by omega, by omega, ?_⟩⟩
        have hL5 := s5.keep L _ fs.1 fs.2 (show (upd H3 L (.lst [.int (r : Int)])) L = some (.lst (vm [r])) from upd_same)
        refine for_range (lo := 0) (n := r5) (fun i σ K0 => ∃ (M : Addr) (ks : List Nat) (t' : Int) (z6 z7 : Option V),
          σ = [some (.ref S.s), some (.int (most : Int)), some (.int (n : Int)), some (.int (way : Int)), some (.int ((2 ^ n : Nat) : Int)), some (.ref M), z6, z7, y8, none] ∧
          Step S H t K0 t' (102 + 9 * i) ∧ K0 M = some (.lst (vm ks)) ∧ M ≠ S.s ∧ M ≠ S.p ∧ (∀ k ∈ ks, k < 2 ^ n) ∧ ks.length ≤ 2 ^ i) ?_ (fun i σ K0 hi h => ?_) (fun σ K0 h => ?_)
        · exact ⟨L, [r], t5, y6, y7, rfl, (s4.trans s5).mono (by omega), hL5, fs.1, fs.2, by simpa using hr3, by simp⟩
        · obtain ⟨M, ks, t6, z6, z7, rfl, s6, hM6, as6, ap6, hk6, hl6⟩ := h
          have hi6 := s6.hi
          have pi : 2 ^ i ≤ 4 := by
            have : i = 0 ∨ i = 1 ∨ i = 2 := by omega
            rcases this with rfl | rfl | rfl <;> decide
          refine ⟨.ref S.s, rfl, .int ((2 ^ n : Nat) : Int), rfl, S, t6, 2 ^ n, rfl, s6.st, by omega, by omega, by omega, fun H7 r7 t7 s7 hr7 => ?_⟩
          have hi7 := s7.hi
          have hM7 := s7.keep M _ as6 ap6 hM6
          refine ⟨.ref M, rfl, .ref M, rfl, M, rfl, ⟨_, SqL.of hM7⟩, fun D nD => ?_⟩
          have fsD := fresh_s s7.st nD
          refine lcs_list (S := S) (c := 2 ^ n) (d := 1) (ms := ks) s7.st nD hM7 as6 ap6 (by omega) (fun j m H8 t8 hj s8 => ?_) (fun H8 pv => ?_)
          · intro R1 R2 h1 h2
            have hi8 := s8.hi
            have hjl : j < ks.length := (List.getElem?_eq_some_iff.mp hj).1
            refine ⟨rfl, .ref S.s, rfl, S, t8, 9, rfl, s8.st, by omega, by omega, by omega, fun H9 r9 t9 s9 hr9 => ⟨.int way, rfl, 4, way, rfl, rfl, r9, _, rfl, rfl, _, rfl, ite2 (fun e => ?_) (fun e => ?_)⟩⟩
            · refine ⟨.int m, rfl, .int r7, rfl, m, r7, rfl, rfl, ?_⟩
              show R2 (.int (Builtin.bitXor (m : Int) (r7 : Int))) H9
              rw [bx]
              exact h2 (m ^^^ r7) H9 t9 s9 (xor_lt (hk6 m (List.mem_of_getElem? hj)) hr7)
            · exact h1 H9 t9 s9
          · obtain ⟨ks8, t8, s8, hD8, hk8, hl8⟩ := pv
            have hM8 := s8.keep M _ as6 ap6 hM7
            refine ⟨M, D, vm ks, vm ks8, rfl, rfl, hM8, hD8, ?_, fun C nC => ?_⟩
            · rw [vm_len, vm_len]; exact sz (by omega)
            · have fsC := fresh_s s8.st nC
              have s9 := ((s6.trans s7).trans s8).same (same_new (o := .lst (vm ks ++ vm ks8)) nC)
              refine ⟨C, ks ++ ks8, t8, some (.int (0 + (i : Int))), some (.int (r7 : Int)), rfl, s9.mono (by omega), ?_, fsC.1, fsC.2, ?_, ?_⟩
              · rw [upd_same]; unfold vm; rw [List.map_append]
              · intro k hk
                rcases List.mem_append.mp hk with hk | hk
                · exact hk6 k hk
                · exact hk8 k hk
              · rw [List.length_append, Nat.pow_succ]; omega
        · obtain ⟨M, ks, t6, z6, z7, rfl, s6, hM6, as6, ap6, hk6, hl6⟩ := h
          have pi : 2 ^ r5 ≤ 8 := by
            have : r5 = 0 ∨ r5 = 1 ∨ r5 = 2 ∨ r5 = 3 := by omega
            rcases this with rfl | rfl | rfl | rfl <;> decide
          exact ⟨M, ks, t6, z6, z7, y8, rfl, s6.mono (by omega), hM6, as6, ap6, hk6, by omega⟩
      · exact ⟨M, ks, t', y6, y7, y8, rfl, stp.mono (by omega), hM, as, ap, hk, hl⟩
    -- if way == 5
    refine ⟨MidD S H t most n way 300, ?_, fun σ4 H4 mid4 => ?_⟩
    · obtain ⟨M, ks, t', y6, y7, y8, rfl, stp, hM, as, ap, hk, hl⟩ := mid3
      refine ⟨.int way, rfl, rfl, _, rfl, ite2 (fun e => ?_) (fun e => ?_)⟩
      · have hi0 := stp.hi
        have p6 := pow6 (w := n) (by omega)
        have p0 := pow0 n
        refine ⟨.ref S.s, rfl, S, t', 4, rfl, stp.st, by omega, by omega, by omega, fun H5 r5 t5 s5 hr5 => ⟨r5, rfl, by omega, by omega, fun D nD => ?_⟩⟩
        have hi5 := s5.hi
        have fs := fresh_s s5.st nD
        refine lcs_range (S := S) (c := 2 ^ n) (d := 1) (n := r5) (g := gName 6) (tt := tYes) (te := tDr (tVar 4)) (vs := [6]) s5.st nD (by omega) (fun i H6 t6 hi s6 => ?_) (fun H6 pv => ?_)
        · intro R1 R2 h1 h2
          have hi6 := s6.hi
          refine ⟨rfl, iteT (B := R1 H6) ⟨.ref S.s, rfl, .int ((2 ^ n : Nat) : Int), rfl, S, t6, 2 ^ n, rfl, s6.st, by omega, by omega, by omega, fun H7 r7 t7 s7 hr7 => h2 r7 H7 t7 s7 hr7⟩⟩
        · obtain ⟨ks6, t6, s6, hD6, hk6, hl6⟩ := pv
          refine ⟨.int ((2 ^ n : Nat) : Int), rfl, ((2 ^ n : Nat) : Int), rfl, l62, r62 (by omega), fun L nL => ?_⟩
          have fsL := fresh_s s6.st nL
          refine lcp_range (n := 2 ^ n) (p := fun m => !decide (m ∈ ks6)) (f := fun m => .int (m : Int)) nL (small64 (by omega)) (fun i H7 hi s7 => ?_) (fun H7 s7 hL => ?_)
          · intro R1 R2 h1 h2
            refine ⟨rfl, _, rfl, .ref D, rfl, D, _, rfl, .inl (SqL.of (s7 _ _ hD6)), rfl, vm_flat _, _, rfl, ?_⟩
            have e : inV (.int (0 + (i : Int))) (vm ks6) = decide (i ∈ ks6) := by
              rw [Int.zero_add]; exact in_vm i ks6
            show if (!inV (.int (0 + (i : Int))) (vm ks6)) = true then _ else _
            rw [e]
            refine ite2 (fun z => ?_) (fun z => ?_)
            · refine ⟨.int (0 + (i : Int)), rfl, ?_⟩
              rw [Int.zero_add]
              exact h2 z _ (Same.refl _)
            · exact h1 (by simpa using z) _ (Same.refl _)
          · refine ⟨L, (List.range (2 ^ n)).filter fun m => !decide (m ∈ ks6), t6, y6, y7, some (.ref D), rfl, (((stp.trans s5).trans s6).same s7).mono (by omega), hL, fsL.1, fsL.2, fun k hk => ?_, ?_⟩
            · exact List.mem_range.mp (List.mem_filter.mp hk).1
            · refine Nat.le_trans (List.length_filter_le _ _) ?_
              rw [List.length_range]; exact p6
      · exact ⟨M, ks, t', y6, y7, y8, rfl, stp.mono (by omega), hM, as, ap, hk, hl⟩
    -- return
    obtain ⟨M, ks, t', y6, y7, y8, rfl, stp, hM, as, ap, hk, hl⟩ := mid4
    refine ⟨.int n, rfl, .ref M, rfl, M, ks.map fun (k : Nat) => (k : Int), rfl, SqL.of (by rw [hM, vm_ints]), by rw [List.length_map]; omega, fun G c nG => ?_⟩
    have sG := same_new (o := SetO w G (fun j => decide (j ∈ ks.map fun (k : Nat) => (k : Int))) c) nG
    refine ⟨G, _, c, rfl, upd_same, fun ns L asc hm nL => ?_⟩
    have sL := same_new (o := .lst (ns.map V.int)) nL
    refine ⟨L, _, rfl, .inl ⟨SqL.of upd_same, fun T3 nT3 => ⟨sz (n := 2) (by decide), fun U nU => ?_⟩⟩⟩
    refine q _ _ n (fun m => decide (m ∈ ks)) t' ((((stp.same sG).same sL).same (same_new nT3)).same (same_new nU)) hn1 hn6 ⟨U, T3, rfl, upd_same, ?_⟩
    rw [upd_ne (ne_of_none upd_same nU), upd_same, rising_lot (w := n) (P := fun m => decide (m ∈ ks)) asc fun z => ?_]
    rw [hm z, decide_eq_true_iff, List.mem_map]
    constructor
    · rintro ⟨m, h1, h2⟩
      exact ⟨m, h2.symm, hk m h1, decide_eq_true h1⟩
    · rintro ⟨m, h1, h2, h3⟩
      exact ⟨m, of_decide_eq_true h3, h1.symm⟩
end
end XT
namespace XT
open PySem PySem.Spec PyProof.Rows L2
abbrev nLk : List Str := ["_law_stream_here", "_law_lot", "_law_width", "_law_masks", "_law_count", "_law_way", "_law_turn", "_law_fresh", "_law_found", "_law_mask"]
theorem scLk : FnScope nLk ["_law_stream_here", "_law_lot"] (defScope sLike) := ⟨rfl, rfl, rfl, by decide +kernel, rfl, by decide +kernel, by decide +kernel⟩
theorem cut_tail (ks : List Nat) : cutV (vm ks) (some 1) none = vm (ks.drop 1) := by
  have e1 : HT.sIx (vm ks).length 0 (some 1) = min 1 (vm ks).length := HT.sIx_nat _ 0 1
  unfold cutV
  rw [e1, HT.sIx_none, vm_len]
  unfold vm
  cases ks with
  | nil => rfl
  | cons k ks =>
    have e2 : min 1 (k :: ks).length = 1 := by rw [List.length_cons]; omega
    rw [e2]
    show List.take ((k :: ks).length - 1) (ks.map fun (m : Nat) => V.int (m : Int)) = ks.map fun (m : Nat) => V.int (m : Int)
    exact List.take_of_length_le (by rw [List.length_map, List.length_cons]; omega)
section
variable {P : Program} {w : World} {K : PySem.W.Frag} {mg : Str → Option Value} {base : Heap}
def spLike : Sp := fun vs H Q _ => ∃ (S : Sm) (t : Int) (v : V) (n : Nat) (p : Nat → Bool), vs = [.ref S.s, v] ∧ Strm S H t ∧ LotAt H v n p ∧ n ≤ 6 ∧ t < 10000000 ∧
  ∀ (H' : Hp) (r : V) (p' : Nat → Bool) (t' : Int), Step S H t H' t' 100 → LotAt H' r n p' → Q r H'
def MidL (S : Sm) (H : Hp) (t : Int) (v : V) (n : Nat) (y : Addr) (way fr B : Nat) (σ : L2.St) (H' : Hp) : Prop := ∃ (M : Addr) (ks : List Nat) (t' : Int) (z6 : Option V),
  σ = [some (.ref S.s), some v, some (.int (n : Int)), some (.ref y), some (.int ((2 ^ n : Nat) : Int)), some (.int (way : Int)), z6, some (.int (fr : Int)), some (.ref M), none] ∧
  Step S H t H' t' B ∧ H' M = some (.lst (vm ks)) ∧ M ≠ S.s ∧ M ≠ S.p ∧ (∀ k ∈ ks, k < 2 ^ n) ∧ ks.length ≤ 70
theorem ok_like {f : Addr} {fd : FuncData} {k : Nat} (B : Bl mg) (F : Fun K "_law_like" "_law_like" sLike f fd) (dD : DefR P w K mg base 1 "_law_draw" spDrawN) : FnOk P w K mg base CX0 (k + 2) f fd ["_law_stream_here", "_law_lot"] spLike := by
  refine F.ok scLk (fun vs H Q E h => ?_) (fun cdv A outer s H vs Q E hr h => ?_)
  · obtain ⟨S, t, v, n, p, rfl, _⟩ := h
    rfl
  · obtain ⟨S, t, v, n, p, rfl, st, ⟨x, y, rfl, hx, hy⟩, hn, ht, q⟩ := h
    have hr1 : Room 1 (A.deeper (envOfC "_law_like" (defScope sLike) s.heap.objs.size f cdv)) := hr.mono (by omega)
    refine ⟨_, pss_cons (ps_asg (pv 1) (pg_tup rfl (pgs_cons (pg_name (i := 2) scLk.nd rfl (.inl rfl)) (pgs_cons (pg_name (i := 3) scLk.nd rfl (.inr rfl)) pgs_nil))))
      (pss_cons (ps_par (i := 4) (j := 5) (by rfl) scLk.nd rfl rfl (by decide) rfl rfl (pa_cons (pe_op op_shl pe_int (pv 2)) (pa_cons (pe_def dD hr1 (by rfl) (pa_cons (pv 0) (pa_cons pe_int pa_nil))) pa_nil)) (by rfl))
      (pss_cons (ps_asg (pe_tup (pa_cons (pe_def dD hr1 (by rfl) (pa_cons (pv 0) (pa_cons (pv 4) pa_nil))) (pa_cons (pe_def dD hr1 (by rfl) (pa_cons (pv 0) (pa_cons (pv 4) pa_nil))) pa_nil)))
          (pg_tup rfl (pgs_cons (pg_name (i := 6) scLk.nd rfl (.inr rfl)) (pgs_cons (pg_name (i := 7) scLk.nd rfl (.inl rfl)) pgs_nil))))
      (C8.pss_cut (ps_setLc (i := 8) (own := [("_law_mask", 9)]) (g := gName 9) (tt := tYes) rfl scLk.nd rfl rfl (sw_true rfl rfl rfl (by decide +kernel)) (pi_tup (pv 3)) (blkOk_by (own := [("_law_mask", 9)]) (N := nLk) (sc := defScope sLike) (by decide +kernel))
            (fun _ _ _ _ _ => pg_name (i := 9) scLk.nd rfl (Or.inl rfl)) (fun _ _ _ _ _ => pts_nil) (fun _ _ _ _ _ => pe_op op_xor (pv 9) (pv 6)))
      (C8.pss_cut (ps_if (pt_cmpR op_eq (pv 5) pe_int (nomark _)) (pss_one (ps_set (i := 8) scLk.nd rfl (.inl rfl) (pe_op op_cat (pe_slice sl_list (pv 8) (po_some pe_int) po_none) (pe_lst (pa_cons (pv 7) pa_nil))))) pss_nil)
      (C8.pss_cut (ps_if (pt_cmpR op_eq (pv 5) pe_int (nomark _))
          (pss_one (ps_setLc (i := 8) (own := [("_law_mask", 9)]) (g := gName 9) (te := tVar 9) rfl scLk.nd rfl rfl (sw_true rfl rfl rfl (by decide +kernel)) (pi_range1 (by rfl) B.range (pa_cons (pv 4) pa_nil)) (blkOk_by (own := [("_law_mask", 9)]) (N := nLk) (sc := defScope sLike) (by decide +kernel))
            (fun _ _ _ _ _ => pg_name (i := 9) scLk.nd rfl (Or.inl rfl)) (fun _ _ _ _ _ => pts_one (pt_cmpR op_eq (pe_def dD hr1 (by rfl) (pa_cons (pv 0) (pa_cons pe_int pa_nil))) pe_int (nomark _))) (fun _ _ _ _ _ => pv 9))) pss_nil)
      (C8.pss_cut (ps_if (pt_cmpR op_eq (pv 5) pe_int (nomark _))
          (pss_one (ps_setLc (i := 8) (own := [("_law_mask", 9)]) (g := gName 9) (tt := tTest (tOp (rIn K true) (tVar 9) (tVar 3))) (te := tVar 9) rfl scLk.nd rfl rfl (sw_true rfl rfl rfl (by decide +kernel)) (pi_range1 (by rfl) B.range (pa_cons (pv 4) pa_nil)) (blkOk_by (own := [("_law_mask", 9)]) (N := nLk) (sc := defScope sLike) (by decide +kernel))
            (fun _ _ _ _ _ => pg_name (i := 9) scLk.nd rfl (Or.inl rfl)) (fun _ _ _ _ _ => pts_one (pt_cmpR op_notIn_seq (pv 9) (pv 3) (by rfl))) (fun _ _ _ _ _ => pv 9))) pss_nil)
      (pss_one (ps_ret (pe_tup (pa_cons (pv 2) (pa_cons (pe_callTy call_tuple_of (by rfl) B.tuple bT (pa_cons (pe_callB (cr_sortS rfl) (by rfl) B.sorted bS (pa_cons (pe_callTy (cr_setL rfl) (by rfl) B.set bSet (pa_cons (pv 8) pa_nil)) pa_nil)) pa_nil)) pa_nil))))))))))), ?_⟩
    have p6 := pow6 (w := n) hn
    have p0 := pow0 n
    have hl := lot_len hn p
    refine ⟨.ref x, rfl, x, _, rfl, SqT.of hx, rfl, _, _, rfl, _, _, rfl, rfl, ?_⟩
    refine ⟨.int n, rfl, 1, n, rfl, rfl, cpow hn, .ref S.s, rfl, S, t, 5, rfl, st, by omega, by omega, by omega, fun H1 way t1 s1 hway => ⟨_, _, rfl, ?_⟩⟩
    have hi1 := s1.hi
    have ec : some (some (V.int (1 * 2 ^ ((n : Int).toNat)))) = some (some (V.int ((2 ^ n : Nat) : Int))) := congrArg (fun z => some (some (V.int z))) (shl1 n)
    refine ⟨.ref S.s, rfl, .int ((2 ^ n : Nat) : Int), ec, S, t1, 2 ^ n, rfl, s1.st, by omega, by omega, by omega, fun H2 tn t2 s2 htn => ?_⟩
    have hi2 := s2.hi
    refine ⟨.ref S.s, rfl, .int ((2 ^ n : Nat) : Int), ec, S, t2, 2 ^ n, rfl, s2.st, by omega, by omega, by omega, fun H3 fr t3 s3 hfr => ?_⟩
    refine ⟨sz (n := 2) (by decide), fun T nT => ⟨T, _, rfl, SqT.of upd_same, rfl, _, _, rfl, _, _, rfl, rfl, ?_⟩⟩
    have s4 := ((s1.trans s2).trans s3).same (same_new (o := .tup [.int (tn : Int), .int (fr : Int)]) nT)
    have hy4 := s4.keep.tup st hy
    -- found = [mask ^ turn for mask in masks]
    refine ⟨MidL S H t (.ref x) n y way fr 10, ?_, fun σ0 H0 mid0 => ?_⟩
    · refine ⟨.ref y, rfl, y, rfl, ⟨_, SqT.of hy4⟩, fun D nD => ?_⟩
      have fs := fresh_s s4.st nD
      refine lcp_tup (p := fun _ => true) (f := fun v => match v with | .int i => .int (Builtin.bitXor i tn) | v => v) nD (SqT.of hy4) (small64 (by rw [vm_len]; omega)) (fun i z H5 hz sm => ?_) (fun H5 sm hD => ?_)
      · intro R1 R2 h1 h2
        obtain ⟨m, hm, rfl⟩ := mem_vm hz
        exact ⟨rfl, iteT (B := R1 H5) ⟨_, rfl, .int tn, rfl, m, tn, rfl, rfl, h2 rfl _ (Same.refl _)⟩⟩
      · have e : (((vm (lotOf n p)).filter fun _ => true).map fun v => match v with | .int i => V.int (Builtin.bitXor i tn) | v => v) = vm ((lotOf n p).map fun m => m ^^^ tn) := by
          rw [List.filter_eq_self.mpr (fun _ _ => rfl)]
          unfold vm
          rw [List.map_map, List.map_map]
          refine List.map_congr_left fun m _ => ?_
          show V.int (Builtin.bitXor (m : Int) (tn : Int)) = V.int ((m ^^^ tn : Nat) : Int)
          rw [bx]
        rw [e] at hD
        refine ⟨D, _, t3, some (.int (tn : Int)), ?_, (s4.same sm).mono (by omega), hD, fs.1, fs.2, ?_, by rw [List.length_map]; omega⟩
        · rw [← shl1 n]; rfl
        · intro k hk
          obtain ⟨m, hm, rfl⟩ := List.mem_map.mp hk
          exact xor_lt (mem_lot.mp hm).1 htn
    -- if way == 1
    refine ⟨MidL S H t (.ref x) n y way fr 20, ?_, fun σ1 H1 mid1 => ?_⟩
    · obtain ⟨M, ks, t', z6, rfl, stp, hM, as, ap, hk, hl⟩ := mid0
      refine ⟨.int way, rfl, rfl, _, rfl, ite2 (fun e => ?_) (fun e => ?_)⟩
      · refine ⟨.ref M, rfl, 1, rfl, M, _, rfl, SqL.of hM, fun L nL => ?_⟩
        have sL := same_new (o := .lst (cutV (vm ks) (some 1) none)) nL
        refine ⟨.int fr, rfl, sz (n := 1) (by decide), fun G nG => ?_⟩
        have sG := same_new (o := .lst [.int (fr : Int)]) nG
        refine ⟨L, G, vm (ks.drop 1), vm [fr], rfl, rfl, ?_, upd_same, ?_, fun C nC => ?_⟩
        · rw [upd_ne (ne_of_none upd_same nG), upd_same, cut_tail]
        · rw [vm_len, vm_len, List.length_drop]; exact sz (by simp; omega)
        · have fs := fresh_s ((stp.same sL).same sG).st nC
          refine ⟨C, ks.drop 1 ++ [fr], t', z6, rfl, (((stp.same sL).same sG).same (same_new nC)).mono (by omega), ?_, fs.1, fs.2, ?_, ?_⟩
          · rw [upd_same]; unfold vm; rw [List.map_append]
          · intro k hk2
            rcases List.mem_append.mp hk2 with hk2 | hk2
            · exact hk k (List.mem_of_mem_drop hk2)
            · rw [List.mem_singleton.mp hk2]; exact hfr
          · rw [List.length_append, List.length_drop]; simp; omega
      · exact ⟨M, ks, t', z6, rfl, stp.mono (by omega), hM, as, ap, hk, hl⟩
    -- if way == 2
    refine ⟨MidL S H t (.ref x) n y way fr 90, ?_, fun σ2 H2 mid2 => ?_⟩
    · obtain ⟨M, ks, t', z6, rfl, stp, hM, as, ap, hk, hl⟩ := mid1
      refine ⟨.int way, rfl, rfl, _, rfl, ite2 (fun e => ?_) (fun e => ?_)⟩
      · refine ⟨.int ((2 ^ n : Nat) : Int), rfl, ((2 ^ n : Nat) : Int), rfl, l62, r62 (by omega), fun D nD => ?_⟩
        have hi0 := stp.hi
        refine lcs_range (S := S) (c := 2 ^ n) (d := 1) (n := 2 ^ n) stp.st nD (by omega) (fun i H3 t3 hi s3 => ?_) (fun H3 pv => ?_)
        · intro R1 R2 h1 h2
          have hi3 := s3.hi
          refine ⟨rfl, .ref S.s, rfl, S, t3, 2, rfl, s3.st, by omega, by omega, by omega, fun H4 r t4 s4 hr4 => ⟨rfl, _, rfl, ite2 (fun e => ?_) (fun e => ?_)⟩⟩
          · refine ⟨.int (0 + (i : Int)), rfl, ?_⟩
            rw [Int.zero_add]
            exact h2 i H4 t4 s4 hi
          · exact h1 H4 t4 s4
        · obtain ⟨ks2, t3, s3, hD, hk2, hl2⟩ := pv
          have fs := fresh_s stp.st nD
          exact ⟨D, ks2, t3, z6, rfl, (stp.trans s3).mono (by omega), hD, fs.1, fs.2, hk2, by omega⟩
      · exact ⟨M, ks, t', z6, rfl, stp.mono (by omega), hM, as, ap, hk, hl⟩
    -- if way == 3
    refine ⟨MidL S H t (.ref x) n y way fr 100, ?_, fun σ3 H3 mid3 => ?_⟩
    · obtain ⟨M, ks, t', z6, rfl, stp, hM, as, ap, hk, hl⟩ := mid2
      have hyH := stp.keep.tup st hy
      refine ⟨.int way, rfl, rfl, _, rfl, ite2 (fun e => ?_) (fun e => ?_)⟩
      · refine ⟨.int ((2 ^ n : Nat) : Int), rfl, ((2 ^ n : Nat) : Int), rfl, l62, r62 (by omega), fun L nL => ?_⟩
        have fsL := fresh_s stp.st nL
        refine lcp_range (n := 2 ^ n) (p := fun m => !decide (m ∈ lotOf n p)) (f := fun m => .int (m : Int)) nL (small64 (by omega)) (fun i H7 hi s7 => ?_) (fun H7 s7 hL => ?_)
        · intro R1 R2 h1 h2
          refine ⟨rfl, _, rfl, .ref y, rfl, y, _, rfl, .inr (SqT.of (s7 _ _ hyH)), rfl, vm_flat _, _, rfl, ?_⟩
          have e : inV (.int (0 + (i : Int))) (vm (lotOf n p)) = decide (i ∈ lotOf n p) := by
            rw [Int.zero_add]; exact in_vm i _
          show if (!inV (.int (0 + (i : Int))) (vm (lotOf n p))) = true then _ else _
          rw [e]
          refine ite2 (fun z => ?_) (fun z => ?_)
          · refine ⟨.int (0 + (i : Int)), rfl, ?_⟩
            rw [Int.zero_add]
            exact h2 z _ (Same.refl _)
          · exact h1 (by simpa using z) _ (Same.refl _)
        · refine ⟨L, (List.range (2 ^ n)).filter fun m => !decide (m ∈ lotOf n p), t', z6, rfl, (stp.same s7).mono (by omega), hL, fsL.1, fsL.2, fun k hk => ?_, ?_⟩
          · exact List.mem_range.mp (List.mem_filter.mp hk).1
          · refine Nat.le_trans (List.length_filter_le _ _) ?_
            rw [List.length_range]; omega
      · exact ⟨M, ks, t', z6, rfl, stp.mono (by omega), hM, as, ap, hk, hl⟩
    -- return
    obtain ⟨M, ks, t', z6, rfl, stp, hM, as, ap, hk, hl⟩ := mid3
    refine ⟨.int n, rfl, .ref M, rfl, M, ks.map fun (k : Nat) => (k : Int), rfl, SqL.of (by rw [hM, vm_ints]), by rw [List.length_map]; omega, fun G c nG => ?_⟩
    have sG := same_new (o := SetO w G (fun j => decide (j ∈ ks.map fun (k : Nat) => (k : Int))) c) nG
    refine ⟨G, _, c, rfl, upd_same, fun ns L asc hm nL => ?_⟩
    have sL := same_new (o := .lst (ns.map V.int)) nL
    refine ⟨L, _, rfl, .inl ⟨SqL.of upd_same, fun T3 nT3 => ⟨sz (n := 2) (by decide), fun U nU => ?_⟩⟩⟩
    refine q _ _ (fun m => decide (m ∈ ks)) t' ((((stp.same sG).same sL).same (same_new nT3)).same (same_new nU)) ⟨U, T3, rfl, upd_same, ?_⟩
    rw [upd_ne (ne_of_none upd_same nU), upd_same, rising_lot (w := n) (P := fun m => decide (m ∈ ks)) asc fun z => ?_]
    rw [hm z, decide_eq_true_iff, List.mem_map]
    constructor
    · rintro ⟨m, h1, h2⟩
      exact ⟨m, h2.symm, hk m h1, decide_eq_true h1⟩
    · rintro ⟨m, h1, h2, h3⟩
      exact ⟨m, of_decide_eq_true h3, h1.symm⟩
end
end XT
/-! from what k_is answers to what the classes must say -/
namespace XT
open PySem PySem.Spec PyProof.Rows L2
section
variable {K : PySem.W.Frag} {C D : Addr} {b : Bool}
theorem kit_ref (hd : PySem.W.hasDictIn K C = true) (ht : PySem.W.typeIn K (.ref C) = some (.type "type")) (hs : PySem.W.subIn K (.ref D) (.ref C) = some b) (hne : (Value.ref D == Value.ref C) = false) : PySem.W.kitOne K (.ref D) (.ref C) = some b := by
  obtain ⟨cd, hc, _⟩ := PySem.W.any_some hd
  have e2 : ((PySem.W.clsIn K C).isSome && PySem.W.typeIn K (.ref C) == some (.type "type")) = true := by rw [hc, ht] <;> rfl
  unfold PySem.W.kitOne PySem.W.kitCls
  rw [hne]
  show (if ((PySem.W.clsIn K C).isSome && PySem.W.typeIn K (.ref C) == some (.type "type")) = true then PySem.W.subIn K (.ref D) (.ref C) else none) = some b
  rw [if_pos e2]
  exact hs
theorem kit_bt {T : String} (hs : PySem.W.subIn K (.ref D) (.type T) = some b) (hm : PySem.W.kitMeta T = true) : PySem.W.kitOne K (.ref D) (.type T) = some b := by
  unfold PySem.W.kitOne PySem.W.kitCls
  rw [if_neg (by simp)]
  show (if PySem.W.kitMeta T = true then PySem.W.subIn K (.ref D) (.type T) else none) = some b
  rw [if_pos hm]
  exact hs
theorem kit_none {t c : Value} {cs : List Value} (h : PySem.W.kitOne K t c = some false) (r : PySem.W.kitAny K t cs = some false) : PySem.W.kitAny K t (c :: cs) = some false := L2.kitAny_cons h (fun _ => r) (fun z => nomatch z)
def strKey (e : DictEntry) : Bool := match e.key with | .str _ _ => true | _ => false
theorem nsOk_of {N : Addr} {oc : Value} {od : Option Addr} {es : Array DictEntry} {ep : Nat} {sl : Array (Option Value)} (l : K.lookup N = some ⟨oc, od, .dict es ep, sl⟩) (h : es.toList.all strKey = true) : PySem.W.nsOkIn K N = true := by
  unfold PySem.W.nsOkIn
  rw [l]
  rw [Array.all_toList] at h
  exact h
abbrev veTl : List Value := [.type "ValueError", .type "Exception", .type "BaseException", .type "object"]
theorem excIn_of {cN cT NSn NSt : Addr} {nm qn nt qt : Str} {bs sub bst subt mt : List Value} {hd hdt : Bool} {sn snt : List Str} {ab abt del : Bool} {col colt : Option Bool} {dd od : Option Addr} {q0 q1 q2 q3 q5 : Option Value} {oc : Value} {sl : Array (Option Value)}
    (lN : K.lookup cN = some (excClassObj nm qn cN NSn bs [.ref cT, .type "ValueError", .type "Exception", .type "BaseException", .type "object"] hd sn sub ab col dd q0 q1 q2 q3 q5 "ValueError.__new__")) (oN : PySem.W.nsOkIn K NSn = true) (iN : PySem.W.nsIn K NSn "__init__" = some none)
    (lT : K.lookup cT = some ⟨oc, od, .cls { name := nt, bases := bst, mro := mt, ns := NSt, qualname := qt, hasDict := hdt, slotNames := snt, subclasses := subt, abstract := abt, collection := colt, hasDel := del }, sl⟩) (oT : PySem.W.nsOkIn K NSt = true) (iT : PySem.W.nsIn K NSt "__init__" = some none) :
    PySem.W.excIn K cN [.type "ValueError", .type "Exception", .type "BaseException", .type "object"] "ValueError.__new__" = true := by
  have e1 : PySem.W.tailIn K veTl veTl = true := by
    unfold PySem.W.tailIn
    simp
  have e2 : PySem.W.tailIn K veTl (.ref cT :: veTl) = true := by
    unfold PySem.W.tailIn
    dsimp only
    rw [lT]
    simp [oT, iT, e1]
  unfold PySem.W.excIn
  rw [lN]
  simp [oN, iN, e2]
end
end XT
namespace XT
open PySem PySem.Spec PyProof.Rows L2
/-- the masks of the lot with this number -/
def nb (j m : Nat) : Bool := decide (j / 2 ^ m % 2 = 1)
section
variable {P : Program} {w : World} {K : PySem.W.Frag} {mg : Str → Option Value} {base : Heap}
abbrev nLw : List Str := ["_law_script", "_law_stream_here", "_law_turn", "_law_one", "_law_lots", "_law_number", "_law_other", "_law_mask"]
theorem scLw : FnScope nLw ["_law_script"] (defScope sLaw) := ⟨rfl, rfl, rfl, by decide +kernel, rfl, by decide +kernel, by decide +kernel⟩
def outLw : Scope := match (defBody sLaw).getD 2 (.Pass ⟨0, 0, 0, 0⟩) with
  | .Assign _ (.ListComp _ _ sc _) _ => sc
  | _ => defScope sLaw
structure Defs (P : Program) (w : World) (K : PySem.W.Frag) (mg : Str → Option Value) (base : Heap) : Prop where
  lstream : DefR P w K mg base 8 "_law_stream" (spStream K)
  ldraw : DefR P w K mg base 8 "_law_draw" spDrawN
  ldrawn : DefR P w K mg base 8 "_law_drawn" spDrawn
  llike : DefR P w K mg base 8 "_law_like" spLike
  lright : DefR P w K mg base 8 "_law_right" spRt
def spLaw (K : PySem.W.Frag) : Sp := fun vs H Q _ => ∃ (a : Addr) (ns : List Int), vs = [.ref a] ∧ SqL K H a (ns.map V.int) ∧ ns.length ≤ 63 ∧ ∀ H', Q (.bl true) H'
theorem ev_rt {n : Nat} {p r : Nat → Bool} {t u : TE} {σ : L2.St} {H : Hp} (h1 : 1 ≤ n) (h6 : n ≤ 6) (a : Ev (isLot n p) t σ H) (b : Ev (isLot n r) u σ H) : Ev (isB true) (tDf spRt (tCons t (tCons u tNil))) σ H :=
  ev_def2 (sty_lot _ _) a b fun H x y gx gy Q q => ⟨x, y, n, p, r, rfl, gx, gy, h1, h6, fun H' s' => q _ _ s' rfl⟩
abbrev lo2 : List RV := (List.range 16).map fun j => isLot 2 (nb j)
theorem lo2_at {j : Nat} {R : RV} (h : lo2[j]? = some R) : j < 16 ∧ R = isLot 2 (nb j) := by
  have hj : j < 16 := by have := (List.getElem?_eq_some_iff.mp h).1; simpa using this
  refine ⟨hj, ?_⟩
  rw [List.getElem?_map, List.getElem?_range hj] at h
  exact (Option.some.inj h).symm
theorem nb_lot (j : Nat) : lotOf 2 (nb j) = (List.range 4).filter fun m => decide (j / 2 ^ m % 2 = 1) := rfl
theorem lo_keep2 {S : Sm} {H H' : Hp} {t : Int} (k : Keep S H H') (st : Strm S H t) : ∀ {fs : List (Nat → Bool)} {vs : List V}, AllV (fs.map (isLot 2)) H vs → AllV (fs.map (isLot 2)) H' vs
  | [], [], _ => trivial
  | _ :: _, _ :: _, h => ⟨h.1.keep k st, lo_keep2 k st h.2⟩
theorem run_it {f : Addr} {fd : FuncData} (B : Bl mg) (F : Fun K "law" "law" sLaw f fd) (d : Defs P w K mg base) : RunC P w K mg base 9 f (spLaw K) := by
  refine run_law (k := 8) F scLw (fun _ _ _ _ _ _ _ => rfl) (fun cdv s H v Q hr h => ?_)
  obtain ⟨a0, ns, ev, hA, hlen, q⟩ := h
  cases ev
  refine ⟨_, pss_cons (ps_set (i := 1) scLw.nd rfl (by first | exact Or.inl rfl | exact Or.inr rfl) (pe_def d.lstream hr (by rfl) (pa_cons (pv 0) pa_nil)))
      (pss_cons (ps_for PassesOwn.never rfl (pi_range1 (by rfl) B.range (pa_cons pe_int pa_nil)) (pg_name (i := 2) scLw.nd rfl (by first | exact Or.inl rfl | exact Or.inr rfl))
      (pss_cons (ps_set (i := 3) scLw.nd rfl (by first | exact Or.inl rfl | exact Or.inr rfl) (pe_def d.ldrawn hr (by rfl) (pa_cons (pv 1) (pa_cons pe_int pa_nil))))
      (pss_one (ps_if (pt_not (pt_val (pe_def d.lright hr (by rfl) (pa_cons (pv 3) (pa_cons (pe_def d.llike hr (by rfl) (pa_cons (pv 1) (pa_cons (pv 3) pa_nil))) pa_nil))))) pss_never pss_nil))))
      (pss_cons (ps_setLc (i := 4) (own := [("_law_number", 5)]) (g := (gName 5)) (tt := tYes) (te := (tTup (tCons (tC (.int 2)) (tCons (tCB (rTupO K) (tCons (tLc (iRng1 (tCons (tC (.int 4)) tNil)) (gName 7) (tTest (tOp rEq (tOp (rI (fun _ j => 0 < j) fun i j => .int (i % j)) (tOp (rI CDiv fun i j => .int (i / j)) (tVar 5) (tOp (rI CPow fun i j => .int (i * 2 ^ j.toNat)) (tC (.int 1)) (tVar 7))) (tC (.int 2))) (tC (.int 1)))) (tVar 7) [7]) tNil)) tNil)))) rfl scLw.nd rfl rfl (sw_true rfl rfl rfl (by decide +kernel)) (pi_range1 (by rfl) B.range (pa_cons pe_int pa_nil)) (blkOk_by (own := [("_law_number", 5)]) (N := nLw) (sc := defScope sLaw) (by decide +kernel))
          (fun _ _ _ _ _ => (pg_name (i := 5) scLw.nd rfl (Or.inr rfl))) (fun _ _ _ _ _ => pts_nil) (fun _ _ _ _ _ => (pe_tup (pa_cons pe_int (pa_cons (pe_callTy cr_tupO (by rfl) B.tuple bT (pa_cons (pe_lc (own := [("_law_mask", 7)]) (g := (gName 7)) (tt := (tTest (tOp rEq (tOp (rI (fun _ j => 0 < j) fun i j => .int (i % j)) (tOp (rI CDiv fun i j => .int (i / j)) (tVar 5) (tOp (rI CPow fun i j => .int (i * 2 ^ j.toNat)) (tC (.int 1)) (tVar 7))) (tC (.int 2))) (tC (.int 1))))) (te := (tVar 7)) rfl scLw.nd (pi_range1 (by rfl) B.range (pa_cons pe_int pa_nil)) (blkOk_by (own := [("_law_mask", 7)]) (N := nLw) (sc := relS outLw (defScope sLaw)) (by decide +kernel))
          (fun _ _ _ _ _ => (pg_name (i := 7) scLw.nd rfl (Or.inl rfl))) (fun _ _ _ _ _ => pts_one (pt_cmpR op_eq (pe_op op_mod (pe_op op_fdiv (pv 5) (pe_op op_shl pe_int (pv 7))) pe_int) pe_int (nomark _))) (fun _ _ _ _ _ => pv 7)) pa_nil)) pa_nil)))))
      (pss_cons (ps_set (i := 3) scLw.nd rfl (by first | exact Or.inl rfl | exact Or.inr rfl) (pe_ix ix_list (pv 4) (pe_def d.ldraw hr (by rfl) (pa_cons (pv 1) (pa_cons pe_int pa_nil))) (fun _ _ => rfl)))
      (pss_one (ps_ret (pe_cmpR (op_eqD hr.units) (pe_lc (own := [("_law_other", 6)]) (g := (gName 6)) (tt := (tNot (tB (tDf spRt (tCons (tVar 3) (tCons (tVar 6) tNil)))))) (te := (tVar 6)) rfl scLw.nd (pi_list (pv 4)) (blkOk_by (own := [("_law_other", 6)]) (N := nLw) (sc := defScope sLaw) (by decide +kernel))
          (fun _ _ _ _ _ => (pg_name (i := 6) scLw.nd rfl (Or.inl rfl))) (fun _ _ _ _ _ => pts_one (pt_not (pt_val (pe_def d.lright hr (by rfl) (pa_cons (pv 3) (pa_cons (pv 6) pa_nil)))))) (fun _ _ _ _ _ => pv 6)) (pe_lst pa_nil) (nomark _))))))), ?_⟩
  refine ⟨.ref a0, rfl, a0, ns, rfl, hA, hlen, fun H1 S s1 st1 => ?_⟩
  refine ⟨5, rfl, by decide, by decide, for_range (lo := 0) (n := 5) (fun i σ H' => ∃ (t : Int) (z2 z3 : Option V), σ = [some (.ref a0), some (.ref S.s), z2, z3, none, none, none, none] ∧ Strm S H' t ∧ t ≤ 900 * i) ⟨0, none, none, rfl, st1, by omega⟩ (fun i σ H2 hi h => ?_) (fun σ H2 h => ?_)⟩
  · obtain ⟨t, z2, z3, rfl, st, ht⟩ := h
    refine ⟨.ref S.s, rfl, S, t, 6, rfl, st, by decide, by decide, by omega, fun H3 one n p t3 s3 hn1 hn l3 => ?_⟩
    have hi3 := s3.hi
    refine ⟨one, rfl, .ref S.s, rfl, one, rfl, S, t3, one, n, p, rfl, s3.st, l3, hn, by omega, fun H4 o1 r1 t4 s4 l4 => ?_⟩
    have hi4 := s4.hi
    refine ⟨one, o1, n, p, r1, rfl, l3.keep s4.keep s3.st, l4, hn1, hn, fun H5 s5 => ⟨true, rfl, iteF ?_⟩⟩
    exact ⟨t4, _, _, rfl, s4.st.same s5, by omega⟩
  obtain ⟨t, z2, z3, rfl, st, ht⟩ := h
  have sN : StyA lo2 := styA_map (fun j => sty_lot 2 (nb j)) _
  refine asg_ev (R := isLst lo2) (ev_lcRG (i := 5) (N := 16) (by simp) (by decide) (fun R hR => by obtain ⟨j, _, rfl⟩ := List.mem_map.mp hR; exact styL_lot _ _) sN (fun z => rfl) (ev_c _) fun j R H3 hR s3 => ?_) fun H3 z s3 gz => ?_
  · obtain ⟨hj, rfl⟩ := lo2_at hR
    refine ev_lot2 (n := 2) (nb_lot j) (ev_c _) (ev_tupO (ev_lcF (i := 7) (N := 4) (fun m => decide (j / 2 ^ m % 2 = 1)) (Nat.le_of_ble_eq_true rfl) (by decide) (fun z => rfl) (fun z => rfl) (ev_c _) fun m H4 hm s4 => ?_))
    have hm6 : m ≤ 6 := by omega
    refine evt_test ((ev_op (sty_v _) (ev_op (sty_v _) (ev_op (sty_v _) (ev_var (sty_v (.int (j : Int))) rfl rfl) (ev_op (sty_v _) (ev_c _) (ev_var (sty_v (.int (m : Int))) rfl rfl) (of_shlN hm6)) (of_iC (fun i j => .int (i / j)) ?_)) (ev_c _) (of_iC (fun i j => .int (i % j)) (show (0 : Int) < 2 by decide))) (ev_c _) of_eqI).mono fun H z e => ?_)
    · have := pow0 m
      have := pow6 hm6
      exact ⟨by omega, by omega⟩
    · rw [e]
      congr 1
      refine decide_eq_decide.mpr ?_
      have e2 : (j : Int) / ((2 ^ m : Nat) : Int) % 2 = ((j / 2 ^ m % 2 : Nat) : Int) := by
        rw [Int.natCast_emod, Int.natCast_ediv]
        rfl
      rw [e2]
      omega
  obtain ⟨L, vs, rfl, hL, al⟩ := gz
  have st3 := st.same s3
  have lv : vs.length = 16 := by rw [allV_len al]; rfl
  have hne : L ≠ S.s ∧ L ≠ S.p := by
    obtain ⟨big, sk⟩ := id st3
    constructor
    · rintro rfl
      have z := sk.hs
      rw [hL] at z
      have z := congrArg (fun l : List V => l.length) (HO.lst.inj (Option.some.inj z))
      rw [lv] at z
      simp at z
    · rintro rfl
      have z := sk.hp
      rw [hL] at z
      have z := HO.lst.inj (Option.some.inj z)
      obtain ⟨v0, hv0, g0⟩ := allV_at al (show lo2[0]? = some (isLot 2 (nb 0)) from rfl)
      obtain ⟨b0, _, ev0, _, _⟩ := g0
      rw [z, ev0, List.getElem?_map] at hv0
      cases h : big[0]? with
      | none => rw [h] at hv0; cases hv0
      | some e => rw [h] at hv0; cases hv0
  refine ⟨.ref L, rfl, .ref S.s, rfl, S, t, 16, rfl, st3, by decide, by decide, by omega, fun H4 rr t4 s4 hrr => ?_⟩
  have hL4 := s4.keep L _ hne.1 hne.2 hL
  have e16 : lo2 = ((List.range 16).map nb).map (isLot 2) := by rw [List.map_map]; rfl
  have al4 : AllV lo2 H4 vs := by
    rw [e16] at al ⊢
    exact lo_keep2 s4.keep st3 al
  obtain ⟨one, hone, gone⟩ := allV_at al4 (show lo2[rr]? = some (isLot 2 (nb rr)) by rw [List.getElem?_map, List.getElem?_range hrr]; rfl)
  refine ⟨L, _, rr, one, rfl, rfl, SqL.of hL4, atI_nat hone, ?_⟩
  refine ret_ev (ev_op (sty_lsN []) (ev_lcLN (i := 6) (Rs := lo2) (by simp) sN (ev_var (sty_lst sN) rfl ⟨L, vs, rfl, hL4, al4⟩) (fun z => rfl) fun j R z H5 hR gz s5 => ?_) ev_lst0 (fun H x y gx gy Q q => eq_lstN gx gy (q _ _ (Same.refl _) rfl))) fun H5 z s5 e5 => ?_
  · obtain ⟨hj, rfl⟩ := lo2_at hR
    exact evt_not (evt_b (ev_rt (p := nb rr) (r := nb j) (by decide) (by decide) (ev_var (sty_lot _ _) rfl (gone.same s5)) (ev_var (sty_lot 2 _) rfl gz)))
  · have e5 : V.bl (decide (([] : List Nat) = [])) = z := e5
    rw [← e5]
    exact q H5
end
end XT
namespace XT
open PySem PySem.Spec PyProof.Rows L2
/-! what the top has written -/
theorem all_mk {l : PySem.W.OpenLaw} {w : World} {K : PySem.W.Frag} {h : Heap} {mg : Str → Option Value} {fa : Addr} (X : K.In h) (G : h.Ns mainGlobals mg) (hfa : mg "law" = some (.ref fa))
    {f1 : Addr} {od1 an1 : Option Addr} {sl1 : Array (Option Value)} {oc1 kV1 dc1 pm1 cd1 ct1 : Value}
    (a1 : PySem.W.nsIn K mainGlobals "is_claim" = some (some (.ref f1))) (l1 : K.lookup f1 = some ⟨oc1, od1, .func (PySem.W.fnOf "is_claim" "is_claim" (defArgs sIsClaim) (defBody sIsClaim) (defScope sIsClaim) .none kV1 dc1 pm1 an1 cd1 ct1), sl1⟩) (c1 : PySem.W.codeIn K cd1 "is_claim" = true) (k1 : PySem.W.keepIn K (.ref f1) = true)
    {f2 : Addr} {od2 an2 : Option Addr} {sl2 : Array (Option Value)} {oc2 kV2 dc2 pm2 cd2 ct2 : Value}
    (a2 : PySem.W.nsIn K mainGlobals "is_number" = some (some (.ref f2))) (l2 : K.lookup f2 = some ⟨oc2, od2, .func (PySem.W.fnOf "is_number" "is_number" (defArgs sNum) (defBody sNum) (defScope sNum) .none kV2 dc2 pm2 an2 cd2 ct2), sl2⟩) (c2 : PySem.W.codeIn K cd2 "is_number" = true) (k2 : PySem.W.keepIn K (.ref f2) = true)
    {f3 : Addr} {od3 an3 : Option Addr} {sl3 : Array (Option Value)} {oc3 kV3 dc3 pm3 cd3 ct3 : Value}
    (a3 : PySem.W.nsIn K mainGlobals "is_mask" = some (some (.ref f3))) (l3 : K.lookup f3 = some ⟨oc3, od3, .func (PySem.W.fnOf "is_mask" "is_mask" (defArgs sMask) (defBody sMask) (defScope sMask) .none kV3 dc3 pm3 an3 cd3 ct3), sl3⟩) (c3 : PySem.W.codeIn K cd3 "is_mask" = true) (k3 : PySem.W.keepIn K (.ref f3) = true)
    {f4 : Addr} {od4 an4 : Option Addr} {sl4 : Array (Option Value)} {oc4 kV4 dc4 pm4 cd4 ct4 : Value}
    (a4 : PySem.W.nsIn K mainGlobals "turned" = some (some (.ref f4))) (l4 : K.lookup f4 = some ⟨oc4, od4, .func (PySem.W.fnOf "turned" "turned" (defArgs sTurned) (defBody sTurned) (defScope sTurned) .none kV4 dc4 pm4 an4 cd4 ct4), sl4⟩) (c4 : PySem.W.codeIn K cd4 "turned" = true) (k4 : PySem.W.keepIn K (.ref f4) = true)
    {f5 : Addr} {od5 an5 : Option Addr} {sl5 : Array (Option Value)} {oc5 kV5 dc5 pm5 cd5 ct5 : Value}
    (a5 : PySem.W.nsIn K mainGlobals "common_width" = some (some (.ref f5))) (l5 : K.lookup f5 = some ⟨oc5, od5, .func (PySem.W.fnOf "common_width" "common_width" (defArgs sWidth) (defBody sWidth) (defScope sWidth) .none kV5 dc5 pm5 an5 cd5 ct5), sl5⟩) (c5 : PySem.W.codeIn K cd5 "common_width" = true) (k5 : PySem.W.keepIn K (.ref f5) = true)
    {f6 : Addr} {od6 an6 : Option Addr} {sl6 : Array (Option Value)} {oc6 kV6 dc6 pm6 cd6 ct6 : Value}
    (a6 : PySem.W.nsIn K mainGlobals "turns_between" = some (some (.ref f6))) (l6 : K.lookup f6 = some ⟨oc6, od6, .func (PySem.W.fnOf "turns_between" "turns_between" (defArgs sTurnsBetween) (defBody sTurnsBetween) (defScope sTurnsBetween) .none kV6 dc6 pm6 an6 cd6 ct6), sl6⟩) (c6 : PySem.W.codeIn K cd6 "turns_between" = true) (k6 : PySem.W.keepIn K (.ref f6) = true)
    {f7 : Addr} {od7 an7 : Option Addr} {sl7 : Array (Option Value)} {oc7 kV7 dc7 pm7 cd7 ct7 : Value}
    (a7 : PySem.W.nsIn K mainGlobals "judge" = some (some (.ref f7))) (l7 : K.lookup f7 = some ⟨oc7, od7, .func (PySem.W.fnOf "judge" "judge" (defArgs sJudge) (defBody sJudge) (defScope sJudge) .none kV7 dc7 pm7 an7 cd7 ct7), sl7⟩) (c7 : PySem.W.codeIn K cd7 "judge" = true) (k7 : PySem.W.keepIn K (.ref f7) = true)
    {f8 : Addr} {od8 an8 : Option Addr} {sl8 : Array (Option Value)} {oc8 kV8 dc8 pm8 cd8 ct8 : Value}
    (a8 : PySem.W.nsIn K mainGlobals "possible_turns" = some (some (.ref f8))) (l8 : K.lookup f8 = some ⟨oc8, od8, .func (PySem.W.fnOf "possible_turns" "possible_turns" (defArgs sPossibleTurns) (defBody sPossibleTurns) (defScope sPossibleTurns) .none kV8 dc8 pm8 an8 cd8 ct8), sl8⟩) (c8 : PySem.W.codeIn K cd8 "possible_turns" = true) (k8 : PySem.W.keepIn K (.ref f8) = true)
    {f9 : Addr} {od9 an9 : Option Addr} {sl9 : Array (Option Value)} {oc9 kV9 dc9 pm9 cd9 ct9 : Value}
    (a9 : PySem.W.nsIn K mainGlobals "least_blocked" = some (some (.ref f9))) (l9 : K.lookup f9 = some ⟨oc9, od9, .func (PySem.W.fnOf "least_blocked" "least_blocked" (defArgs sLeastBlocked) (defBody sLeastBlocked) (defScope sLeastBlocked) .none kV9 dc9 pm9 an9 cd9 ct9), sl9⟩) (c9 : PySem.W.codeIn K cd9 "least_blocked" = true) (k9 : PySem.W.keepIn K (.ref f9) = true)
    {f10 : Addr} {od10 an10 : Option Addr} {sl10 : Array (Option Value)} {oc10 kV10 dc10 pm10 cd10 ct10 : Value}
    (a10 : PySem.W.nsIn K mainGlobals "judge_holds" = some (some (.ref f10))) (l10 : K.lookup f10 = some ⟨oc10, od10, .func (PySem.W.fnOf "judge_holds" "judge_holds" (defArgs sJudgeHolds) (defBody sJudgeHolds) (defScope sJudgeHolds) .none kV10 dc10 pm10 an10 cd10 ct10), sl10⟩) (c10 : PySem.W.codeIn K cd10 "judge_holds" = true) (k10 : PySem.W.keepIn K (.ref f10) = true)
    {f11 : Addr} {od11 an11 : Option Addr} {sl11 : Array (Option Value)} {oc11 kV11 dc11 pm11 cd11 ct11 : Value}
    (a11 : PySem.W.nsIn K mainGlobals "sizes_hold" = some (some (.ref f11))) (l11 : K.lookup f11 = some ⟨oc11, od11, .func (PySem.W.fnOf "sizes_hold" "sizes_hold" (defArgs sSizesHold) (defBody sSizesHold) (defScope sSizesHold) .none kV11 dc11 pm11 an11 cd11 ct11), sl11⟩) (c11 : PySem.W.codeIn K cd11 "sizes_hold" = true) (k11 : PySem.W.keepIn K (.ref f11) = true)
    {f12 : Addr} {od12 an12 : Option Addr} {sl12 : Array (Option Value)} {oc12 kV12 dc12 pm12 cd12 ct12 : Value}
    (a12 : PySem.W.nsIn K mainGlobals "blocks_hold" = some (some (.ref f12))) (l12 : K.lookup f12 = some ⟨oc12, od12, .func (PySem.W.fnOf "blocks_hold" "blocks_hold" (defArgs sBlocksHold) (defBody sBlocksHold) (defScope sBlocksHold) .none kV12 dc12 pm12 an12 cd12 ct12), sl12⟩) (c12 : PySem.W.codeIn K cd12 "blocks_hold" = true) (k12 : PySem.W.keepIn K (.ref f12) = true)
    {f13 : Addr} {od13 an13 : Option Addr} {sl13 : Array (Option Value)} {oc13 kV13 dc13 pm13 cd13 ct13 : Value}
    (a13 : PySem.W.nsIn K mainGlobals "is_block" = some (some (.ref f13))) (l13 : K.lookup f13 = some ⟨oc13, od13, .func (PySem.W.fnOf "is_block" "is_block" (defArgs sIsBlock) (defBody sIsBlock) (defScope sIsBlock) .none kV13 dc13 pm13 an13 cd13 ct13), sl13⟩) (c13 : PySem.W.codeIn K cd13 "is_block" = true) (k13 : PySem.W.keepIn K (.ref f13) = true)
    {f14 : Addr} {od14 an14 : Option Addr} {sl14 : Array (Option Value)} {oc14 kV14 dc14 pm14 cd14 ct14 : Value}
    (a14 : PySem.W.nsIn K mainGlobals "least_turned" = some (some (.ref f14))) (l14 : K.lookup f14 = some ⟨oc14, od14, .func (PySem.W.fnOf "least_turned" "least_turned" (defArgs sLeastTurned) (defBody sLeastTurned) (defScope sLeastTurned) .none kV14 dc14 pm14 an14 cd14 ct14), sl14⟩) (c14 : PySem.W.codeIn K cd14 "least_turned" = true) (k14 : PySem.W.keepIn K (.ref f14) = true)
    {f15 : Addr} {od15 an15 : Option Addr} {sl15 : Array (Option Value)} {oc15 kV15 dc15 pm15 cd15 ct15 : Value}
    (a15 : PySem.W.nsIn K mainGlobals "turned_lots" = some (some (.ref f15))) (l15 : K.lookup f15 = some ⟨oc15, od15, .func (PySem.W.fnOf "turned_lots" "turned_lots" (defArgs sTurnedLots) (defBody sTurnedLots) (defScope sTurnedLots) .none kV15 dc15 pm15 an15 cd15 ct15), sl15⟩) (c15 : PySem.W.codeIn K cd15 "turned_lots" = true) (k15 : PySem.W.keepIn K (.ref f15) = true)
    {f16 : Addr} {od16 an16 : Option Addr} {sl16 : Array (Option Value)} {oc16 kV16 dc16 pm16 cd16 ct16 : Value}
    (a16 : PySem.W.nsIn K mainGlobals "_law_stream" = some (some (.ref f16))) (l16 : K.lookup f16 = some ⟨oc16, od16, .func (PySem.W.fnOf "_law_stream" "_law_stream" (defArgs sStream) (defBody sStream) (defScope sStream) .none kV16 dc16 pm16 an16 cd16 ct16), sl16⟩) (c16 : PySem.W.codeIn K cd16 "_law_stream" = true) (k16 : PySem.W.keepIn K (.ref f16) = true)
    {f17 : Addr} {od17 an17 : Option Addr} {sl17 : Array (Option Value)} {oc17 kV17 dc17 pm17 cd17 ct17 : Value}
    (a17 : PySem.W.nsIn K mainGlobals "_law_draw" = some (some (.ref f17))) (l17 : K.lookup f17 = some ⟨oc17, od17, .func (PySem.W.fnOf "_law_draw" "_law_draw" (defArgs sDraw) (defBody sDraw) (defScope sDraw) .none kV17 dc17 pm17 an17 cd17 ct17), sl17⟩) (c17 : PySem.W.codeIn K cd17 "_law_draw" = true) (k17 : PySem.W.keepIn K (.ref f17) = true)
    {f18 : Addr} {od18 an18 : Option Addr} {sl18 : Array (Option Value)} {oc18 kV18 dc18 pm18 cd18 ct18 : Value}
    (a18 : PySem.W.nsIn K mainGlobals "_law_drawn" = some (some (.ref f18))) (l18 : K.lookup f18 = some ⟨oc18, od18, .func (PySem.W.fnOf "_law_drawn" "_law_drawn" (defArgs sDrawn) (defBody sDrawn) (defScope sDrawn) .none kV18 dc18 pm18 an18 cd18 ct18), sl18⟩) (c18 : PySem.W.codeIn K cd18 "_law_drawn" = true) (k18 : PySem.W.keepIn K (.ref f18) = true)
    {f19 : Addr} {od19 an19 : Option Addr} {sl19 : Array (Option Value)} {oc19 kV19 dc19 pm19 cd19 ct19 : Value}
    (a19 : PySem.W.nsIn K mainGlobals "_law_like" = some (some (.ref f19))) (l19 : K.lookup f19 = some ⟨oc19, od19, .func (PySem.W.fnOf "_law_like" "_law_like" (defArgs sLike) (defBody sLike) (defScope sLike) .none kV19 dc19 pm19 an19 cd19 ct19), sl19⟩) (c19 : PySem.W.codeIn K cd19 "_law_like" = true) (k19 : PySem.W.keepIn K (.ref f19) = true)
    {f20 : Addr} {od20 an20 : Option Addr} {sl20 : Array (Option Value)} {oc20 kV20 dc20 pm20 cd20 ct20 : Value}
    (a20 : PySem.W.nsIn K mainGlobals "_law_right" = some (some (.ref f20))) (l20 : K.lookup f20 = some ⟨oc20, od20, .func (PySem.W.fnOf "_law_right" "_law_right" (defArgs sLRight) (defBody sLRight) (defScope sLRight) .none kV20 dc20 pm20 an20 cd20 ct20), sl20⟩) (c20 : PySem.W.codeIn K cd20 "_law_right" = true) (k20 : PySem.W.keepIn K (.ref f20) = true)
    {f21 : Addr} {od21 an21 : Option Addr} {sl21 : Array (Option Value)} {oc21 kV21 dc21 pm21 cd21 ct21 : Value}
    (a21 : PySem.W.nsIn K mainGlobals "law" = some (some (.ref f21))) (l21 : K.lookup f21 = some ⟨oc21, od21, .func (PySem.W.fnOf "law" "law" (defArgs sLaw) (defBody sLaw) (defScope sLaw) .none kV21 dc21 pm21 an21 cd21 ct21), sl21⟩) (c21 : PySem.W.codeIn K cd21 "law" = true) (k21 : PySem.W.keepIn K (.ref f21) = true)
    {cOtherWidth : Addr} {fIcOtherWidth NScOtherWidth : Addr} {nmcOtherWidth qncOtherWidth : Str} {bscOtherWidth bmcOtherWidth sbcOtherWidth : List Value} {sncOtherWidth : List Str} {abcOtherWidth : Bool} {colcOtherWidth : Option Bool} {ddcOtherWidth odcOtherWidth ancOtherWidth : Option Addr} {p0cOtherWidth p1cOtherWidth p2cOtherWidth p3cOtherWidth p5cOtherWidth : Option Value} {occOtherWidth kVcOtherWidth dccOtherWidth pmcOtherWidth cdcOtherWidth ctcOtherWidth : Value} {slcOtherWidth : Array (Option Value)} {cTurnError : Addr} {NSt : Addr} {nmT qnT : Str} {bsT subT mt : List Value} {hdT abT delT : Bool} {snT : List Str} {colT : Option Bool} {odT : Option Addr} {ocT : Value} {slT : Array (Option Value)} {oc6 : Value} {od6 : Option Addr} {es6 : Array DictEntry} {ep6 : Nat} {sl6 : Array (Option Value)} {cNoLots : Addr} {NScNoLots : Addr} {nmcNoLots qncNoLots : Str} {bscNoLots sbcNoLots : List Value} {hdcNoLots abcNoLots : Bool} {sncNoLots : List Str} {colcNoLots : Option Bool} {ddcNoLots : Option Addr} {p0cNoLots p1cNoLots p2cNoLots p3cNoLots p5cNoLots : Option Value} {occNoLots : Value} {odcNoLots : Option Addr} {escNoLots : Array DictEntry} {epcNoLots : Nat} {slcNoLots : Array (Option Value)}
    (x1 : PySem.W.nsIn K mainGlobals "OtherWidth" = some (some (.ref cOtherWidth)))
    (x2 : K.lookup cOtherWidth = some (excClassObj nmcOtherWidth qncOtherWidth cOtherWidth NScOtherWidth bscOtherWidth bmcOtherWidth true sncOtherWidth sbcOtherWidth abcOtherWidth colcOtherWidth ddcOtherWidth p0cOtherWidth p1cOtherWidth p2cOtherWidth p3cOtherWidth p5cOtherWidth "ValueError.__new__"))
    (x3 : PySem.HandSPX.refsVE bmcOtherWidth = true)
    (x4 : PySem.W.findIn K (.ref cOtherWidth) "__setattr__" = some (some (.builtin "object.__setattr__")))
    (x5 : PySem.W.findIn K (.ref cOtherWidth) "index" = some none)
    (x6 : PySem.W.findIn K (.ref cOtherWidth) "__init__" = some (some (.ref fIcOtherWidth)))
    (x7 : PySem.W.typeIn K (.ref fIcOtherWidth) = some (.type "function"))
    (x8 : K.lookup fIcOtherWidth = some ⟨occOtherWidth, odcOtherWidth, .func (PySem.W.fnOf "__init__" "OtherWidth.__init__" (defArgs sOW) (defBody sOW) (defScope sOW) .none kVcOtherWidth dccOtherWidth pmcOtherWidth ancOtherWidth cdcOtherWidth ctcOtherWidth), slcOtherWidth⟩)
    (x9 : PySem.W.codeIn K cdcOtherWidth "OtherWidth.__init__" = true)
    (x10 : PySem.W.keepIn K (.ref fIcOtherWidth) = true)
    (x11 : PySem.W.subIn K (.ref cOtherWidth) (.type "BaseException") = some true)
    (x12 : PySem.W.typeIn K (.ref cOtherWidth) = some (.type "type"))
    (x13 : PySem.W.keepIn K (.ref cOtherWidth) = true)
    (x14 : PySem.W.nsIn K mainGlobals "TurnError" = some (some (.ref cTurnError)))
    (x15 : K.lookup cTurnError = some ⟨ocT, odT, .cls { name := nmT, bases := bsT, mro := mt, ns := NSt, qualname := qnT, hasDict := hdT, slotNames := snT, subclasses := subT, abstract := abT, collection := colT, hasDel := delT }, slT⟩)
    (x16 : K.lookup NSt = some ⟨oc6, od6, .dict es6 ep6, sl6⟩)
    (x17 : es6.toList.all strKey = true)
    (x18 : PySem.W.nsIn K NSt "__init__" = some none)
    (x19 : PySem.W.nsIn K mainGlobals "NoLots" = some (some (.ref cNoLots)))
    (x20 : K.lookup cNoLots = some (excClassObj nmcNoLots qncNoLots cNoLots NScNoLots bscNoLots [.ref cTurnError, .type "ValueError", .type "Exception", .type "BaseException", .type "object"] hdcNoLots sncNoLots sbcNoLots abcNoLots colcNoLots ddcNoLots p0cNoLots p1cNoLots p2cNoLots p3cNoLots p5cNoLots "ValueError.__new__"))
    (x21 : K.lookup NScNoLots = some ⟨occNoLots, odcNoLots, .dict escNoLots epcNoLots, slcNoLots⟩)
    (x22 : escNoLots.toList.all strKey = true)
    (x23 : PySem.W.nsIn K NScNoLots "__init__" = some none)
    (x24 : PySem.W.subIn K (.ref cNoLots) (.type "BaseException") = some true)
    (x25 : PySem.W.typeIn K (.ref cNoLots) = some (.type "type"))
    (x26 : PySem.W.keepIn K (.ref cNoLots) = true)
    (y1 : PySem.W.nsIn K mainGlobals "min" = some none)
    (y2 : PySem.W.nsIn K mainGlobals "zip" = some none)
    (z1 : PySem.W.nsIn K mainGlobals "len" = some none) (z2 : PySem.W.nsIn K mainGlobals "abs" = some none) (z3 : PySem.W.nsIn K mainGlobals "tuple" = some none) (z4 : PySem.W.nsIn K mainGlobals "sorted" = some none) (z5 : PySem.W.nsIn K mainGlobals "isinstance" = some none) (z6 : PySem.W.nsIn K mainGlobals "int" = some none) (z7 : PySem.W.nsIn K mainGlobals "bool" = some none) (z8 : PySem.W.nsIn K mainGlobals "set" = some none) (z9 : PySem.W.nsIn K mainGlobals "all" = some none) (z10 : PySem.W.nsIn K mainGlobals "range" = some none) (z11 : PySem.W.nsIn K mainGlobals "enumerate" = some none) :
    ∀ base : Heap, K.In base → base.Ns mainGlobals mg → RunC l.prog w K mg base 9 fa (spLaw K) := by
  cases hfa.symm.trans (PySem.W.mg_of X G a21)
  have F1 := fun_mk (st := sIsClaim) l1 c1 k1
  have F2 := fun_mk (st := sNum) l2 c2 k2
  have F3 := fun_mk (st := sMask) l3 c3 k3
  have F4 := fun_mk (st := sTurned) l4 c4 k4
  have F5 := fun_mk (st := sWidth) l5 c5 k5
  have F6 := fun_mk (st := sTurnsBetween) l6 c6 k6
  have F7 := fun_mk (st := sJudge) l7 c7 k7
  have F8 := fun_mk (st := sPossibleTurns) l8 c8 k8
  have F9 := fun_mk (st := sLeastBlocked) l9 c9 k9
  have F10 := fun_mk (st := sJudgeHolds) l10 c10 k10
  have F11 := fun_mk (st := sSizesHold) l11 c11 k11
  have F12 := fun_mk (st := sBlocksHold) l12 c12 k12
  have F13 := fun_mk (st := sIsBlock) l13 c13 k13
  have F14 := fun_mk (st := sLeastTurned) l14 c14 k14
  have F15 := fun_mk (st := sTurnedLots) l15 c15 k15
  have F16 := fun_mk (st := sStream) l16 c16 k16
  have F17 := fun_mk (st := sDraw) l17 c17 k17
  have F18 := fun_mk (st := sDrawn) l18 c18 k18
  have F19 := fun_mk (st := sLike) l19 c19 k19
  have F20 := fun_mk (st := sLRight) l20 c20 k20
  have F21 := fun_mk (st := sLaw) l21 c21 k21
  have b1 := F1.binds (ps := ["value", "name", "many"]) fun _ _ _ _ _ _ us hl => match us, hl with | [_, _, _], _ => rfl
  have b2 := F2.binds (ps := ["value"]) fun _ _ _ _ _ _ us hl => match us, hl with | [_], _ => rfl
  have b3 := F3.binds (ps := ["value", "width"]) fun _ _ _ _ _ _ us hl => match us, hl with | [_, _], _ => rfl
  have b4 := F4.binds (ps := ["lot", "mask"]) fun _ _ _ _ _ _ us hl => match us, hl with | [_, _], _ => rfl
  have b5 := F5.binds (ps := ["lots"]) fun _ _ _ _ _ _ us hl => match us, hl with | [_], _ => rfl
  have b6 := F6.binds (ps := ["one", "other"]) fun _ _ _ _ _ _ us hl => match us, hl with | [_, _], _ => rfl
  have b7 := F7.binds (ps := ["one", "other"]) fun _ _ _ _ _ _ us hl => match us, hl with | [_, _], _ => rfl
  have b8 := F8.binds (ps := ["one", "other"]) fun _ _ _ _ _ _ us hl => match us, hl with | [_, _], _ => rfl
  have b9 := F9.binds (ps := ["one", "other", "mask"]) fun _ _ _ _ _ _ us hl => match us, hl with | [_, _, _], _ => rfl
  have b10 := F10.binds (ps := ["one", "other", "value"]) fun _ _ _ _ _ _ us hl => match us, hl with | [_, _, _], _ => rfl
  have b11 := F11.binds (ps := ["one", "other", "many", "more"]) fun _ _ _ _ _ _ us hl => match us, hl with | [_, _, _, _], _ => rfl
  have b12 := F12.binds (ps := ["one", "other", "rows"]) fun _ _ _ _ _ _ us hl => match us, hl with | [_, _, _], _ => rfl
  have b13 := F13.binds (ps := ["one", "other", "mask", "row"]) fun _ _ _ _ _ _ us hl => match us, hl with | [_, _, _, _], _ => rfl
  have b14 := F14.binds (ps := ["lot"]) fun _ _ _ _ _ _ us hl => match us, hl with | [_], _ => rfl
  have b15 := F15.binds (ps := ["lot"]) fun _ _ _ _ _ _ us hl => match us, hl with | [_], _ => rfl
  have b16 := F16.binds (ps := ["_law_script"]) fun _ _ _ _ _ _ us hl => match us, hl with | [_], _ => rfl
  have b17 := F17.binds (ps := ["_law_stream_here", "_law_many"]) fun _ _ _ _ _ _ us hl => match us, hl with | [_, _], _ => rfl
  have b18 := F18.binds (ps := ["_law_stream_here", "_law_most"]) fun _ _ _ _ _ _ us hl => match us, hl with | [_, _], _ => rfl
  have b19 := F19.binds (ps := ["_law_stream_here", "_law_lot"]) fun _ _ _ _ _ _ us hl => match us, hl with | [_, _], _ => rfl
  have b20 := F20.binds (ps := ["_law_one", "_law_other"]) fun _ _ _ _ _ _ us hl => match us, hl with | [_, _], _ => rfl
  have B : Bl mg := ⟨PySem.W.mg_none_of X G z1, PySem.W.mg_none_of X G z2, PySem.W.mg_none_of X G z3, PySem.W.mg_none_of X G z4, PySem.W.mg_none_of X G z5, PySem.W.mg_none_of X G z6, PySem.W.mg_none_of X G z7, PySem.W.mg_none_of X G z8, PySem.W.mg_none_of X G z9, PySem.W.mg_none_of X G z10, PySem.W.mg_none_of X G z11⟩
  intro base _ _
  have TCOtherWidth : OexC K cOtherWidth := ⟨⟨_, _, _, _, _, _, _, _, _, _, _, _, _, _, _, x2, x3⟩, x4, x11, x12, x13⟩
  have FICOtherWidth := fun_mk (st := sOW) x8 x9 x10
  have bICOtherWidth := FICOtherWidth.binds (ps := ["self", "index"]) fun _ _ _ _ _ _ us hl => match us, hl with | [_, _], _ => rfl
  have RCOtherWidth : ErrC l.prog w K mg base "OtherWidth" "index" cOtherWidth := ⟨TCOtherWidth, x5, ⟨fIcOtherWidth, _, _, x6, x7, ok_ow TCOtherWidth x5 FICOtherWidth, bICOtherWidth⟩, (PySem.W.mg_of X G x1)⟩
  have RNoLots : ErrN K mg "NoLots" cNoLots := ⟨⟨_, _, _, _, PySem.F.excBase_ValueError, excIn_of x20 (nsOk_of x21 x22) x23 x15 (nsOk_of x16 x17) x18⟩, x24, x25, x26, (PySem.W.mg_of X G x19)⟩
  have dd__law_draw_D : DefR l.prog w K mg base 1 "_law_draw" spDraw := .of (ok_draw F17 B.len) b17 (PySem.W.mg_of X G a17) k17
  have dd__law_draw_n : DefR l.prog w K mg base 1 "_law_draw" spDrawN := drawN (.of (ok_draw F17 B.len) b17 (PySem.W.mg_of X G a17) k17)
  have dd_common_width_X : DefX l.prog w K mg base 3 "common_width" (spWd K cNoLots cOtherWidth) := DefX.of (ok_wd B F5 RNoLots RCOtherWidth) b5 (PySem.W.mg_of X G a5) k5
  have dd_is_number_0 : DefR l.prog w K mg base 1 "is_number" spNum := .of (ok_num B F2) b2 (PySem.W.mg_of X G a2) k2
  have dd_is_mask_0 : DefR l.prog w K mg base 2 "is_mask" spMask := .of (ok_mask F3 dd_is_number_0) b3 (PySem.W.mg_of X G a3) k3
  have dd_turned : DefR l.prog w K mg base 3 "turned" spTurned := .of (ok_turned B F4 dd_is_mask_0) b4 (PySem.W.mg_of X G a4) k4
  have dd_turns_between_X : DefX l.prog w K mg base 4 "turns_between" (spFn cOtherWidth gTb) := DefX.of (ok_tbx B F6 dd_common_width_X dd_turned) b6 (PySem.W.mg_of X G a6) k6
  have dd_possible_turns : DefR l.prog w K mg base 1 "possible_turns" spPT := .of (ok_pt B F8) b8 (PySem.W.mg_of X G a8) k8
  have dd_least_blocked : DefR l.prog w K mg base 1 "least_blocked" spLb := .of (ok_lb (PySem.W.mg_none_of X G y1) F9) b9 (PySem.W.mg_of X G a9) k9
  have dd_judge_X : DefX l.prog w K mg base 5 "judge" (spFn cOtherWidth (gVer K)) := DefX.of (ok_jd B F7 dd_turns_between_X dd_possible_turns dd_least_blocked) b7 (PySem.W.mg_of X G a7) k7
  have dd_is_claim : DefR l.prog w K mg base 1 "is_claim" (spCl K) := .of (ok_cl B F1) b1 (PySem.W.mg_of X G a1) k1
  have dd_is_number : DefR l.prog w K mg base 1 "is_number" (spNumZ K) := .of (ok_numZ B F2) b2 (PySem.W.mg_of X G a2) k2
  have dd_is_mask_Z : DefR l.prog w K mg base 2 "is_mask" (spMaskZ K) := .of (ok_maskZ F3 dd_is_number) b3 (PySem.W.mg_of X G a3) k3
  have dd_sizes_hold : DefR l.prog w K mg base 2 "sizes_hold" (spSh K) := .of (ok_sh B F11 dd_is_number) b11 (PySem.W.mg_of X G a11) k11
  have dd_is_block : DefR l.prog w K mg base 2 "is_block" (spIb K) := .of (ok_ib B F13 dd_is_number) b13 (PySem.W.mg_of X G a13) k13
  have dd_blocks_hold : DefR l.prog w K mg base 3 "blocks_hold" (spBh K) := .of (ok_bh B (PySem.W.mg_none_of X G y2) F12 dd_possible_turns dd_is_block) b12 (PySem.W.mg_of X G a12) k12
  have dd_judge_holds_X : DefX l.prog w K mg base 4 "judge_holds" (spJh K cOtherWidth) := DefX.of (ok_jh B F10 dd_common_width_X dd_is_claim dd_is_mask_Z dd_turned dd_sizes_hold dd_blocks_hold) b10 (PySem.W.mg_of X G a10) k10
  have dd_turned_lots : DefR l.prog w K mg base 4 "turned_lots" spTls := .of (ok_tls B F15 dd_turned) b15 (PySem.W.mg_of X G a15) k15
  have dd_least_turned : DefR l.prog w K mg base 5 "least_turned" spLeast := .of (ok_least F14 dd_turned_lots) b14 (PySem.W.mg_of X G a14) k14
  exact run_it B F21 ⟨.of (ok_stream F16 B.len B.abs) b16 (PySem.W.mg_of X G a16) k16, drawN (.of (ok_draw F17 B.len) b17 (PySem.W.mg_of X G a17) k17), .of (ok_drawn B F18 dd__law_draw_n) b18 (PySem.W.mg_of X G a18) k18, .of (ok_like B F19 dd__law_draw_n) b19 (PySem.W.mg_of X G a19) k19, .of (ok_rt B F20 ⟨(DefX.of (ok_jd B F7 dd_turns_between_X dd_possible_turns dd_least_blocked) b7 (PySem.W.mg_of X G a7) k7), (DefX.of (ok_tbx B F6 dd_common_width_X dd_turned) b6 (PySem.W.mg_of X G a6) k6), (DefX.of (ok_jh B F10 dd_common_width_X dd_is_claim dd_is_mask_Z dd_turned dd_sizes_hold dd_blocks_hold) b10 (PySem.W.mg_of X G a10) k10), (.of (ok_least F14 dd_turned_lots) b14 (PySem.W.mg_of X G a14) k14)⟩) b20 (PySem.W.mg_of X G a20) k20⟩
end XT
open PySem PySem.W PyProof.Rows
set_option maxHeartbeats 0 in
theorem PySem.Challenge.cw_xorturns_k21_whole_one_answer_for_two_lo_holds : PySem.Challenge.rw_xorturns_k21_whole_one_answer_for_two_lo.Holds := by
  w_on; o_law; k_head; (case hw => w_witness2)
  k_fill
  refine XT.walk_ofC (l := PySem.Challenge.rw_xorturns_k21_whole_one_answer_for_two_lo) (n := 63) (k := 9) (sp := fun w => XT.spLaw _) rfl (by decide) rfl ⟨rfl, by decide, by decide⟩ (fun w h Y => PySem.W.kIn_of Y) ?F (fun _ _ a ns hl hS => ⟨a, ns, rfl, hS, hl, fun _ => rfl⟩)
  case F =>
    intro w mg fa h KX G hmg
    refine' XT.all_mk KX G hmg ?a1 ?l1 ?c1 ?k1 ?a2 ?l2 ?c2 ?k2 ?a3 ?l3 ?c3 ?k3 ?a4 ?l4 ?c4 ?k4 ?a5 ?l5 ?c5 ?k5 ?a6 ?l6 ?c6 ?k6 ?a7 ?l7 ?c7 ?k7 ?a8 ?l8 ?c8 ?k8 ?a9 ?l9 ?c9 ?k9 ?a10 ?l10 ?c10 ?k10 ?a11 ?l11 ?c11 ?k11 ?a12 ?l12 ?c12 ?k12 ?a13 ?l13 ?c13 ?k13 ?a14 ?l14 ?c14 ?k14 ?a15 ?l15 ?c15 ?k15 ?a16 ?l16 ?c16 ?k16 ?a17 ?l17 ?c17 ?k17 ?a18 ?l18 ?c18 ?k18 ?a19 ?l19 ?c19 ?k19 ?a20 ?l20 ?c20 ?k20 ?a21 ?l21 ?c21 ?k21 ?x1 ?x2 ?x3 ?x4 ?x5 ?x6 ?x7 ?x8 ?x9 ?x10 ?x11 ?x12 ?x13 ?x14 ?x15 ?x16 ?x17 ?x18 ?x19 ?x20 ?x21 ?x22 ?x23 ?x24 ?x25 ?x26 ?y1 ?y2 ?z1 ?z2 ?z3 ?z4 ?z5 ?z6 ?z7 ?z8 ?z9 ?z10 ?z11
    (case a1 => k_is); (case l1 => k_is); (case c1 => k_is); (case k1 => k_is); (case a2 => k_is); (case l2 => k_is); (case c2 => k_is); (case k2 => k_is); (case a3 => k_is); (case l3 => k_is); (case c3 => k_is); (case k3 => k_is); (case a4 => k_is); (case l4 => k_is); (case c4 => k_is); (case k4 => k_is); (case a5 => k_is); (case l5 => k_is); (case c5 => k_is); (case k5 => k_is); (case a6 => k_is); (case l6 => k_is); (case c6 => k_is); (case k6 => k_is); (case a7 => k_is); (case l7 => k_is); (case c7 => k_is); (case k7 => k_is); (case a8 => k_is); (case l8 => k_is); (case c8 => k_is); (case k8 => k_is); (case a9 => k_is); (case l9 => k_is); (case c9 => k_is); (case k9 => k_is); (case a10 => k_is); (case l10 => k_is); (case c10 => k_is); (case k10 => k_is); (case a11 => k_is); (case l11 => k_is); (case c11 => k_is); (case k11 => k_is); (case a12 => k_is); (case l12 => k_is); (case c12 => k_is); (case k12 => k_is); (case a13 => k_is); (case l13 => k_is); (case c13 => k_is); (case k13 => k_is); (case a14 => k_is); (case l14 => k_is); (case c14 => k_is); (case k14 => k_is); (case a15 => k_is); (case l15 => k_is); (case c15 => k_is); (case k15 => k_is); (case a16 => k_is); (case l16 => k_is); (case c16 => k_is); (case k16 => k_is); (case a17 => k_is); (case l17 => k_is); (case c17 => k_is); (case k17 => k_is); (case a18 => k_is); (case l18 => k_is); (case c18 => k_is); (case k18 => k_is); (case a19 => k_is); (case l19 => k_is); (case c19 => k_is); (case k19 => k_is); (case a20 => k_is); (case l20 => k_is); (case c20 => k_is); (case k20 => k_is); (case a21 => k_is); (case l21 => k_is); (case c21 => k_is); (case k21 => k_is); (case x1 => k_is); (case x2 => k_is); (case x3 => rfl); (case x4 => k_is); (case x5 => k_is); (case x6 => k_is); (case x7 => k_is); (case x8 => k_is); (case x9 => k_is); (case x10 => k_is); (case x11 => k_is); (case x12 => k_is); (case x13 => k_is); (case x14 => k_is); (case x15 => k_is); (case x16 => k_is); (case x17 => rfl); (case x18 => k_is); (case x19 => k_is); (case x20 => k_is); (case x21 => k_is); (case x22 => rfl); (case x23 => k_is); (case x24 => k_is); (case x25 => k_is); (case x26 => k_is); (case y1 => k_is); (case y2 => k_is); (case z1 => k_is); (case z2 => k_is); (case z3 => k_is); (case z4 => k_is); (case z5 => k_is); (case z6 => k_is); (case z7 => k_is); (case z8 => k_is); (case z9 => k_is); (case z10 => k_is); (case z11 => k_is)
