import PyProof.Rows.All
import Wide.All
import OpenK.AllK
import Wide.FinOn
import PyProof.EqAt
import PyProof.EqKinds
import PyProof.TupleCall
import HandS.ForMost
import HandS.Strs
import HandS.SetFor
import HandS.SortInts
import HandS.Star
import HandS.IsInst
import KE.GoesMore
import HandS.Codes
import PyProof.ReprRoads
import PyProof.StrLawsRepr
import PyProof.ReprLen
import HandS.Conv
import PyProof.FString3
import PyProof.Rows.StrBin
import PyProof.Rows.StrIntSpec
import HandS.FStr
import HandS.Text
import PyProof.WalksMore
import PyProof.Rows.SumAny
import HandS.TupAny
import HandS.TupSets
import HandS.SetBool
import PySem.Challenge.RW_xorturns_k36_whole_lots_and_signed_count
set_option Elab.async false
set_option linter.all false
set_option maxRecDepth 100000
set_option maxHeartbeats 4000000
namespace XT
open PySem PySem.Spec PyProof.Rows L2
/-! heaps -/
theorem same_new {H : Hp} {p : Addr} {o : HO} (h : H p = none) : Same H (upd H p o) := fun b x e => by
  rw [upd_ne (ne_of_none e h)]; exact e

/-- a stream: its own list, the list of its great cells, the list of its cells -/
structure Sm where
  s : Addr
  p : Addr
  q : Addr
  cs : List Int
structure StrmB (S : Sm) (H : Hp) (t : Int) (big : List Int) : Prop where
  hs : H S.s = some (.lst [.ref S.p, .ref S.q, .int t])
  hp : H S.p = some (.lst (big.map V.int))
  hq : H S.q = some (.lst (S.cs.map V.int))
  sp : S.s ≠ S.p
  sq : S.s ≠ S.q
  pq : S.p ≠ S.q
  ne : 0 < S.cs.length
  t0 : 0 ≤ t
def Strm (S : Sm) (H : Hp) (t : Int) : Prop := ∃ big, StrmB S H t big
def Keep (S : Sm) (H H' : Hp) : Prop := ∀ b o, b ≠ S.s → b ≠ S.p → H b = some o → H' b = some o
theorem Keep.refl (S : Sm) (H : Hp) : Keep S H H := fun _ _ _ _ h => h
theorem Keep.trans {S : Sm} {H H1 H2 : Hp} (a : Keep S H H1) (b : Keep S H1 H2) : Keep S H H2 := fun c o n1 n2 h => b c o n1 n2 (a c o n1 n2 h)
theorem Keep.of {S : Sm} {H H' : Hp} (a : Same H H') : Keep S H H' := fun c o _ _ h => a c o h
theorem StrmB.same {S : Sm} {H H' : Hp} {t : Int} {big : List Int} (h : StrmB S H t big) (e : Same H H') : StrmB S H' t big :=
  ⟨e _ _ h.hs, e _ _ h.hp, e _ _ h.hq, h.sp, h.sq, h.pq, h.ne, h.t0⟩
theorem Strm.same {S : Sm} {H H' : Hp} {t : Int} (h : Strm S H t) (e : Same H H') : Strm S H' t := let ⟨b, h⟩ := h; ⟨b, h.same e⟩
theorem Strm.ns {S : Sm} {H : Hp} {t : Int} {b : Addr} {xs : List V} (h : Strm S H t) (e : H b = some (.tup xs)) : b ≠ S.s := by
  obtain ⟨_, h⟩ := h
  exact ne_of e h.hs (by intro z; cases z)
theorem Strm.np {S : Sm} {H : Hp} {t : Int} {b : Addr} {xs : List V} (h : Strm S H t) (e : H b = some (.tup xs)) : b ≠ S.p := by
  obtain ⟨_, h⟩ := h
  exact ne_of e h.hp (by intro z; cases z)
theorem Keep.tup {S : Sm} {H H' : Hp} {t : Int} {b : Addr} {xs : List V} (k : Keep S H H') (h : Strm S H t) (e : H b = some (.tup xs)) : H' b = some (.tup xs) :=
  k b _ (h.ns e) (h.np e) e
theorem Keep.free {S : Sm} {H H' : Hp} {t : Int} {x : Addr} (k : Keep S H H') (h : Strm S H' t) (e : H' x = none) : H x = none := by
  obtain ⟨_, h⟩ := h
  cases q : H x with
  | none => rfl
  | some o =>
    by_cases h1 : x = S.s
    · rw [h1, h.hs] at e; cases e
    · by_cases h2 : x = S.p
      · rw [h2, h.hp] at e; cases e
      · rw [k x o h1 h2 q] at e; cases e
/-- a list of one's own, new behind H, is neither of the stream's -/
theorem Keep.mine {S : Sm} {H H' H2 : Hp} {t : Int} {x : Addr} {o : HO} (k : Keep S H' H2) (h : Strm S H t) (n : H x = none) (e : H' x = some o) : H2 x = some o := by
  obtain ⟨_, h⟩ := h
  refine k x o (fun z => ?_) (fun z => ?_) e
  · rw [z, h.hs] at n; cases n
  · rw [z, h.hp] at n; cases n

theorem dpInts {K : PySem.W.Frag} {H : Hp} : ∀ ns : List Int, DpAll K H (ns.map V.int) (ns.map PyData.int)
  | [] => .nil
  | n :: ns => .cons (.int n) (dpInts ns)
theorem ke_shaped (ns : List Int) : SeqAt.shaped (.list (ns.map PyData.int)) = true := by
  have h1 : ∀ ns : List Int, PyData.canLay0 (.list (ns.map PyData.int)) = true := by
    intro ns
    induction ns with
    | nil => rfl
    | cons n ns ih => simpa [PyData.canLay0, PyData.canLayAll0] using ih
  have h2 : ∀ ns : List Int, PyData.depth (.list (ns.map PyData.int)) ≤ 2 := by
    intro ns
    induction ns with
    | nil => decide
    | cons n ns ih => simp only [PyData.depth, PyData.depthAll, List.map] at ih ⊢; omega
  unfold SeqAt.shaped
  rw [h1 ns, decide_eq_true (Nat.le_trans (h2 ns) (by decide))]
  rfl
theorem ix0 {n : Nat} (h : 0 < n) : ixN n 0 = some 0 := by
  have h2 : (0 : Int) < n := by omega
  simp [ixN]; omega
theorem sq0 {n : Nat} (h : 0 < n) : seqIndex? 0 n = some 0 := (ixN_seq (ix0 h)).1
theorem pm31 {x : Int} : x % 2147483647 < 2147483647 ∧ 0 ≤ x % 2147483647 := ⟨Int.emod_lt_of_pos _ (by decide), Int.emod_nonneg _ (by decide)⟩
theorem pm87 {x : Int} : x % 2147483587 < 2147483587 ∧ 0 ≤ x % 2147483587 := ⟨Int.emod_lt_of_pos _ (by decide), Int.emod_nonneg _ (by decide)⟩

def spDraw : Sp := fun vs H Q _ => ∃ (S : Sm) (t m : Int), vs = [.ref S.s, .int m] ∧ Strm S H t ∧ 0 < m ∧ m < 1073741824 ∧ t < 1000000000000 ∧
  ∀ (H' : Hp) (r t' : Int), Keep S H H' → Strm S H' t' → t ≤ t' → t' ≤ t + 1 → 0 ≤ r → r < m → Q (.int r) H'
theorem sz {n : Nat} (h : n ≤ 1000) : n ≤ sizeLine := Nat.le_trans h (by decide)
theorem small64 {n : Nat} (h : n ≤ 1000) : n < sizeLine := Nat.lt_of_le_of_lt h (by decide)
def ab (i : Int) : Int := if i < 0 then -i else i
def spStream (K : PySem.W.Frag) : Sp := fun vs H Q _ => ∃ (a : Addr) (ns : List Int), vs = [.ref a] ∧ SqL K H a (ns.map V.int) ∧ ns.length ≤ 63 ∧
  ∀ (H' : Hp) (S : Sm), Same H H' → Strm S H' 0 → Q (.ref S.s) H'
end XT
namespace XT
open PySem PySem.Spec PyProof.Rows L2

/-! comprehensions whose turns only lay new things -/
theorem take_one {α β : Type} (f : α → β) (p : α → Bool) {xs : List α} {i : Nat} {x : α} (h : xs[i]? = some x) :
    ((xs.take (i + 1)).filter p).map f = ((xs.take i).filter p).map f ++ (if p x = true then [f x] else []) := by
  rw [List.take_add_one, h, List.filter_append, List.map_append]
  by_cases hp : p x = true
  · simp [hp]
  · simp [hp]
theorem flt_len {α β : Type} (f : α → β) (p : α → Bool) (xs : List α) (i : Nat) : (((xs.take i).filter p).map f).length ≤ i := by
  rw [List.length_map]
  exact Nat.le_trans (List.length_filter_le _ _) (by rw [List.length_take]; exact Nat.min_le_left _ _)

section
variable {K : PySem.W.Frag} {a : Addr} {g : TG} {tt : TT} {te : TE} {vs : List Nat} {σ : L2.St} {H1 : Hp} {D : Addr} {Qd : Hp → Prop}
/-- what one turn must do -/
def TurnP (g : TG) (tt : TT) (te : TE) (vs : List Nat) (σ : L2.St) (x y : V) (keep : Bool) (H : Hp) : Prop :=
  ∀ (R1 : Hp → Prop) (R2 : V → Hp → Prop), (keep = false → ∀ H3, Same H H3 → R1 H3) → (keep = true → ∀ H4, Same H H4 → R2 y H4) →
    g x (wipe σ vs) H fun σ2 H2 => wipe σ2 vs = wipe σ vs ∧ tt σ2 H2 fun b H3 => if b = true then te σ2 H3 R2 else R1 H3
/-- the invariant -/
def PvP (H1 : Hp) (D : Addr) (ys : List V) (H : Hp) : Prop := Same H1 H ∧ H D = some (.lst ys)
theorem pvp_turn {x y : V} {keep : Bool} {H : Hp} {ys : List V} (nD : H1 D = none) (h : PvP H1 D ys H) (hl : ys.length < sizeLine) (ht : TurnP g tt te vs σ x y keep H) (zs : List V) (ez : zs = ys ++ (if keep = true then [y] else [])) :
    g x (wipe σ vs) H fun σ2 H2 => wipe σ2 vs = wipe σ vs ∧ tt σ2 H2 fun b H3 =>
      if b = true then te σ2 H3 fun y H4 => ∃ acc, H4 D = some (.lst acc) ∧ acc.length < sizeLine ∧ PvP H1 D zs (upd H4 D (.lst (acc ++ [y]))) else PvP H1 D zs H3 := by
  obtain ⟨sm, hD⟩ := h
  refine ht _ _ (fun hk H3 s3 => ?_) (fun hk H4 s4 => ?_)
  · subst hk
    refine ⟨sm.trans s3, ?_⟩
    rw [ez, s3 _ _ hD]
    simp
  · subst hk
    refine ⟨ys, s4 _ _ hD, hl, fun b o e => ?_, ?_⟩
    · rw [upd_ne (ne_of_none e nD)]
      exact s4 _ _ (sm _ _ e)
    · rw [upd_same, ez]
      rfl
theorem lcp_list {xs : List V} (p : V → Bool) (f : V → V) (nD : H1 D = none) (hA : SqL K H1 a xs) (hz : xs.length < sizeLine) (ht : ∀ (i : Nat) x H, xs[i]? = some x → Same H1 H → TurnP g tt te vs σ x (f x) (p x) H)
    (hd : ∀ H, Same H1 H → H D = some (.lst ((xs.filter p).map f)) → Qd H) :
    ∃ W : Nat → Nat → Hp → Prop, (∃ m, W 0 m (upd H1 D (.lst []))) ∧ ∀ i m H, W i m H →
      ((Itl K a).stop i H ∧ Qd H) ∨ ((Itl K a).go i H ∧ ∃ Nx : Hp → Prop, (∀ H', Nx H' → ∃ m', m' < m ∧ W (i + 1) m' H') ∧ ∀ x H', (Itl K a).yld i H x H' → g x (wipe σ vs) H' fun σ2 H2 => wipe σ2 vs = wipe σ vs ∧ tt σ2 H2 fun b H3 =>
        if b = true then te σ2 H3 fun y H4 => ∃ acc, H4 D = some (.lst acc) ∧ acc.length < sizeLine ∧ Nx (upd H4 D (.lst (acc ++ [y]))) else Nx H3) := by
  refine lc_list (xs := xs) (fun i H => PvP H1 D (((xs.take i).filter p).map f) H) ⟨same_new nD, upd_same⟩ (fun i H _ h => h.1.seq hA) (fun i x H hx h => ?_) (fun H h => ?_)
  · have hi : i < xs.length := (List.getElem?_eq_some_iff.mp hx).1
    exact pvp_turn nD h (Nat.lt_of_le_of_lt (flt_len f p xs i) (Nat.lt_trans hi hz)) (ht i x H hx h.1) _ (take_one f p hx)
  · have h2 := h.2
    rw [List.take_length] at h2
    exact hd H h.1 h2
theorem Same.sqT {H H' : Hp} {a : Addr} {xs : List V} (e : Same H H') (h : SqT K H a xs) : SqT K H' a xs := by
  rcases h with (h | ⟨o, h⟩) | h
  · exact .inl (.inl (e _ _ h))
  · exact .inl (.inr ⟨o, e _ _ h⟩)
  · exact .inr h
theorem lcp_tup {xs : List V} (p : V → Bool) (f : V → V) (nD : H1 D = none) (hA : SqT K H1 a xs) (hz : xs.length < sizeLine) (ht : ∀ (i : Nat) x H, xs[i]? = some x → Same H1 H → TurnP g tt te vs σ x (f x) (p x) H)
    (hd : ∀ H, Same H1 H → H D = some (.lst ((xs.filter p).map f)) → Qd H) :
    ∃ W : Nat → Nat → Hp → Prop, (∃ m, W 0 m (upd H1 D (.lst []))) ∧ ∀ i m H, W i m H →
      ((Itt K a).stop i H ∧ Qd H) ∨ ((Itt K a).go i H ∧ ∃ Nx : Hp → Prop, (∀ H', Nx H' → ∃ m', m' < m ∧ W (i + 1) m' H') ∧ ∀ x H', (Itt K a).yld i H x H' → g x (wipe σ vs) H' fun σ2 H2 => wipe σ2 vs = wipe σ vs ∧ tt σ2 H2 fun b H3 =>
        if b = true then te σ2 H3 fun y H4 => ∃ acc, H4 D = some (.lst acc) ∧ acc.length < sizeLine ∧ Nx (upd H4 D (.lst (acc ++ [y]))) else Nx H3) := by
  refine lc_tup (xs := xs) (fun i H => PvP H1 D (((xs.take i).filter p).map f) H) ⟨same_new nD, upd_same⟩ (fun i H _ h => Same.sqT h.1 hA) (fun i x H hx h => ?_) (fun H h => ?_)
  · have hi : i < xs.length := (List.getElem?_eq_some_iff.mp hx).1
    exact pvp_turn nD h (Nat.lt_of_le_of_lt (flt_len f p xs i) (Nat.lt_trans hi hz)) (ht i x H hx h.1) _ (take_one f p hx)
  · have h2 := h.2
    rw [List.take_length] at h2
    exact hd H h.1 h2
theorem lcp_range {n : Nat} (p : Nat → Bool) (f : Nat → V) (nD : H1 D = none) (hz : n < sizeLine) (ht : ∀ (i : Nat) H, i < n → Same H1 H → TurnP g tt te vs σ (.int (0 + (i : Int))) (f i) (p i) H)
    (hd : ∀ H, Same H1 H → H D = some (.lst (((List.range n).filter p).map f)) → Qd H) :
    ∃ W : Nat → Nat → Hp → Prop, (∃ m, W 0 m (upd H1 D (.lst []))) ∧ ∀ i m H, W i m H →
      ((Itr 0 n).stop i H ∧ Qd H) ∨ ((Itr 0 n).go i H ∧ ∃ Nx : Hp → Prop, (∀ H', Nx H' → ∃ m', m' < m ∧ W (i + 1) m' H') ∧ ∀ x H', (Itr 0 n).yld i H x H' → g x (wipe σ vs) H' fun σ2 H2 => wipe σ2 vs = wipe σ vs ∧ tt σ2 H2 fun b H3 =>
        if b = true then te σ2 H3 fun y H4 => ∃ acc, H4 D = some (.lst acc) ∧ acc.length < sizeLine ∧ Nx (upd H4 D (.lst (acc ++ [y]))) else Nx H3) := by
  refine lc_range (lo := 0) (n := n) (fun i H => PvP H1 D ((((List.range n).take i).filter p).map f) H) ⟨same_new nD, upd_same⟩ (fun i H hi h => ?_) (fun H h => ?_)
  · have hx : (List.range n)[i]? = some i := List.getElem?_range hi
    exact pvp_turn nD h (Nat.lt_of_le_of_lt (flt_len f p _ i) (Nat.lt_trans hi hz)) (ht i H hi h.1) _ (take_one f p hx)
  · have h2 := h.2
    rw [List.take_of_length_le (by rw [List.length_range]; exact Nat.le_refl _)] at h2
    exact hd H h.1 h2
end
end XT
/-! set(list of ints); sorted(set of ints) of any number -/
namespace XT
open PySem PySem.Spec PyProof.Rows L2
abbrev newS (w : World) : Obj := { cls := .type "set", dict := none, data := .set #[] 0 (.fresh 0 0 (!w.params.followText "set-order")) }
section
variable {P : Program} {w : World} {A : Around} {E : Value → Shared → Prop} {s : Shared}
abbrev afterS (w : World) (s : Shared) (ns : List Int) (r : Value) (s2 : Shared) : Prop :=
  r = .none ∧ ∃ (hp : Heap) (tk c : Nat), s2 = { s with heap := hp, toks := tk } ∧ SetR w hp s.heap.objs.size (fun j => decide (j ∈ ns)) c ∧ c ≤ ns.length ∧ (∀ b o, s.heap.get? b = some o → hp.get? b = some o)
abbrev withS (w : World) (s : Shared) : Shared := { s with heap := s.heap.push (newS w) }
theorem items_at {items : Array Value} {ns : List Int} (hit : IntsAre items.toList ns) (hz : items.size = ns.length) (i : Nat) (v : Value) (hv : items[i]? = some v) : ∃ k t, ns[i]? = some k ∧ v = .int k t := by
  have hi : i < ns.length := by rw [← hz]; exact (Array.getElem?_eq_some_iff.mp hv).1
  obtain ⟨t, e⟩ := IntsAre.int_at hit i v (by rw [Array.getElem?_toList]; exact hv)
  exact ⟨ns[i], t, List.getElem?_eq_getElem hi, by rw [e, List.getD_eq_getElem?_getD, List.getElem?_eq_getElem hi] <;> rfl⟩
theorem set_listI {l : Addr} {items : Array Value} (ns : List Int) {Q : Value → Shared → Prop} (hh : A.handled = none) (hl : s.heap.IsList l items) (hit : IntsAre items.toList ns) (hb : ns.length + 1 < scanBound)
    (h : ∀ (hp : Heap) (tk c : Nat), SetR w hp s.heap.objs.size (fun j => decide (j ∈ ns)) c → c ≤ ns.length → (∀ b o, s.heap.get? b = some o → hp.get? b = some o) → Q (.ref s.heap.objs.size) { s with heap := hp, toks := tk }) :
    wpAny (model P w) A (call (.type "set") [.ref l]) Q E s := by
  have hz : items.size = ns.length := by
    have e := IntsAre.length hit
    rwa [Array.length_toList] at e
  obtain ⟨mc, mt, m0⟩ := F.called_set.mro
  have m1 := F.called_set.made
  have m2 := F.called_set.sub
  have m3 := F.called_set.notType
  have m4 := F.called_set.canCreate
  have m5 := F.typeCall_set_1 (.ref l)
  refine wpAny_call (codeAny_of_tree ?_)
  show wpAny _ _ (callAny (.type "set") _) _ _ _
  refine wpAny_pure ⟨Code.quiet_builtin _ (by decide +kernel), codeAny_builtin F.entry_type_call ?_⟩
  rw [Around.under_plain (weight_type_call_type "set" [.ref l] []) rfl]
  repeat (any_goals (first | assumption | wp_step))
  refine codeAny_mono (code_set_led1 (.ref l) (E := E) (Q₁ := fun v s1 => v = .ref s.heap.objs.size ∧ s1 = withS w s) ⟨rfl, rfl⟩) fun r s1 hr => ?_
  match r, hr with
  | .error e, hr => exact hr
  | .ok .next, hr => exact hr.elim
  | .ok .brk, hr => exact hr.elim
  | .ok .cont, hr => exact hr.elim
  | .ok (.ret v), hr =>
    obtain ⟨rfl, rfl⟩ := hr
    have g0 : (s.heap.push (newS w)).get? s.heap.objs.size = some (newS w) := Heap.get?_push_size _ rfl
    have g1 : Shared.TypeIs (withS w s) (.ref s.heap.objs.size) "set" := ⟨_, g0, rfl⟩
    have g2 := F.called_set.init.lookup
    have g3 := F.called_set.init.bind (.ref s.heap.objs.size)
    repeat (any_goals (first | assumption | wp_step))
    refine codeAny_mono (codeAny_call_builtin (R := wants (afterS w s ns) E) F.called_set.init.plain F.entry_set_init (check_set_init_1 g1 ?_)) fun r2 s2 hr2 => ?_
    · obtain ⟨ol, hol, hcl, nl, hdl⟩ := hl
      obtain ⟨oc, od, odt, osl⟩ := ol
      simp only at hcl hdl
      subst hcl hdl
      have hol1 : (s.heap.push (newS w)).get? l = some { cls := .type "list", dict := od, data := .seq items nl, slots := osl } := Heap.get?_push_of_some _ hol
      have n1 := F.sub_list_set
      have n2 := F.sub_list_frozenset
      have n3 : (Value.type "list" == Value.type "dict") = false := by decide
      have hl1 : (s.heap.push (newS w)).IsList l items := ⟨_, hol1, rfl, nl, rfl⟩
      have lS : l < s.heap.objs.size := Heap.lt_size hol
      have z1 : (s.heap.push (newS w)).objs.size = s.heap.objs.size + 1 := Heap.size_push ..
      unfold Builtin.«set.__init__» noKeywords Builtin.Frozenset.updateFrom
      generalize hPI : pyIter = PI
      wp_walk
      subst hPI
      refine wpAny_pyIter_list hl1 (wpAny_bind (wpAny_runValue ?_))
      refine set_update_ints ((Walks.list (by simp [hh]) _ l (by rw [z1]; exact Nat.ne_of_lt (Nat.lt_succ_of_lt lS)) items).toS) s.heap.objs.size (by rw [z1]; simp only [List.mem_cons, List.not_mem_nil, or_false, not_or]; exact ⟨Nat.ne_of_lt (Nat.lt_succ_self _), Nat.ne_of_gt lS⟩) ns hz hb (items_at hit hz) (items.size - 0) 0 _ (by omega) (Nat.zero_le _)
        ⟨⟨_, Heap.get?_push_size _ rfl, rfl, rfl⟩, hl1.push _⟩ ⟨0, Nat.le_refl 0, setR_new_at (Heap.get?_push_of_some _ g0)⟩ ?_
      intro s3 c hm hc hS
      obtain ⟨h3, ge, dr, tk, os⟩ := s3
      obtain rfl : ge = s.gens := hm.gens
      obtain rfl : dr = s.drawn := hm.drawn
      obtain rfl : os = s.os := hm.os
      show wpAny _ _ _ _ _ _
      refine wpAny_pure ?_
      show wpAny _ _ (ret Value.none) _ _ _
      rw [hz] at hc
      refine wpAny_pure ⟨rfl, h3, tk, c, rfl, hS, hc, fun b o e => ?_⟩
      have b0 : b < s.heap.objs.size := Heap.lt_size e
      exact hm.heap b o (by rw [z1]; simp only [List.mem_cons, List.not_mem_nil, or_false, not_or]; exact ⟨Nat.ne_of_lt b0, Nat.ne_of_lt (Nat.lt_succ_of_lt b0)⟩) (Heap.get?_push_of_some _ (Heap.get?_push_of_some _ e))
    · match r2, hr2 with
      | .error e, hr2 => exact hr2
      | .ok .next, hr2 => exact hr2.elim
      | .ok .brk, hr2 => exact hr2.elim
      | .ok .cont, hr2 => exact hr2.elim
      | .ok (.ret v), hr2 =>
        obtain ⟨rfl, hp, tk, c, rfl, hS, hc, hk⟩ := hr2
        repeat (any_goals (first | assumption | wp_step))
        exact h _ _ _ hS hc hk
end
end XT
namespace XT
open PySem PySem.Spec PyProof.Rows L2
section
variable {P : Program} {w : World} {A : Around} {E : Value → Shared → Prop} {s : Shared} {a : Addr}
theorem iv_raw (v : Value) (h : ∃ k t, v = Value.int k t) : SrtO.iv v = Builtin.Re.reRawOf v := by
  obtain ⟨k, t, rfl⟩ := h
  rfl
/-- sorted(set of ints), however many -/
theorem sorted_setN {S : Int → Bool} {n : Nat} {Q : Value → Shared → Prop} (R : SetR w s.heap a S n) (hh : A.handled = none)
    (hQ : ∀ s2 p (out : List Value) (c : Nat) (ns : List Int), (∀ b o, s.heap.get? b = some o → s2.heap.get? b = some o) → s2.gens = s.gens → s2.os = s.os → s.heap.objs.size ≤ p →
      s2.heap.get? p = some (seqObj "list" out.toArray c) → IntsAre out ns → ns.Pairwise (· < ·) → (∀ k, k ∈ ns ↔ S k = true) → ns.length = n → Q (.ref p) s2) :
    wpAny (model P w) A (call (.builtin "sorted") [.ref a]) Q E s := by
  obtain ⟨o, es, ep, t, ho, hex, hd, g, nd, hm, hb, hf, hn, hr, hl⟩ := R
  refine Calls.call_function_entry kind_sorted plain_sorted entry_sorted (args_sorted1 _) ?_
  unfold Builtin.«sorted»
  refine wpAny_bind (m := checkCount "sorted" 1 1 _) (wpAny_pure (wpAny_bind (collect_set (A := A.in1) hh ⟨o, ho, hex.1, hd⟩ hf hb hr hl fun s1 vs k1 hz g1 o1 pm => ?_)))
  have vl : vs.length = n := by rw [pm.length_eq, List.length_map, Array.length_toList]; exact hn
  have n0 : n ≤ sizeLine := by rw [sizeLine_eq]; unfold scanBound at hb; omega
  have allI : ∀ v ∈ vs, ∃ k t, v = Value.int k t := fun v hv => by
    obtain ⟨e, he, q⟩ := List.mem_map.mp (pm.mem_iff.mp hv)
    obtain ⟨k, tk, h1, _⟩ := g e he
    exact ⟨k, tk, by rw [← q]; exact h1⟩
  have hI : IntsAre vs (vs.map SrtO.iv) := SrtO.ints_iv allI
  have pk : (vs.map SrtO.iv).Perm (es.toList.map keyOf) := by
    have e1 : vs.map SrtO.iv = vs.map Builtin.Re.reRawOf := List.map_congr_left fun v hv => iv_raw v (allI v hv)
    have q := pm.map Builtin.Re.reRawOf
    rw [List.map_map] at q
    rw [e1]
    exact q
  refine wpAny_bind (wpAny_newList ?_ (by rw [vl]; exact n0))
  have hoL : (s1.heap.push (seqObj "list" vs.toArray 0)).get? s1.heap.objs.size = some (seqObj "list" vs.toArray 0) := Heap.get?_push_size _ rfl
  refine wpAny_bind (wpAny_holding (wpAny_call_entry slot_list_sort ⟨_, hoL, rfl⟩ entry_list_sort (SrtO.list_sort_ord SrtO.swo_int hoL (by rw [vl]; exact n0) (fun h2 => SrtO.ints_sortable hI h2) fun out a1 a2 => ⟨_, rfl, ?_⟩) (args_list_sort _)))
  obtain ⟨j1, j2, j3⟩ := SrtO.ints_out hI a1 a2
  obtain ⟨c, hc⟩ := sortedHeap_at (vs := vs) (out := out.toArray) hoL
  have pn := j2.trans pk
  refine wpAny_pure ⟨_, rfl, hQ _ s1.heap.objs.size out c _ (fun b u e => ?_) g1 o1 hz hc j1 (lt_of_le_nodup _ j3 (pn.nodup_iff.mpr nd)) (fun k => by rw [pn.mem_iff, ← hm k]) ?_⟩
  · have q := k1 b u e
    have lt := Heap.lt_size q
    show (sortedHeap (s1.heap.push (seqObj "list" vs.toArray 0)) s1.heap.objs.size vs out.toArray).get? b = some u
    rw [sortedHeap_old (Nat.ne_of_lt lt) (by rw [size_push']; exact Nat.lt_succ_of_lt lt)]
    exact Heap.get?_push_of_some _ q
  · rw [pn.length_eq, List.length_map, Array.length_toList]; exact hn
end
section
variable {X : Cx}
/-- set(xs), a list of ints -/
def rSetL (K : PySem.W.Frag) (w : World) : List V → Hp → VK → Prop := fun vs H Q => ∃ (a : Addr) (ns : List Int), vs = [V.ref a] ∧ SqL K H a (ns.map V.int) ∧ ns.length ≤ 1000 ∧
  ∀ (p : Addr) (c : Nat), H p = none → Q (.ref p) (upd H p (SetO w p (fun j => decide (j ∈ ns)) c))
theorem cr_setL (hc : X.calm = true) : CallR X (.type "set") (XT.rSetL X.K X.w) := by
  intro pins s σ H vs us Q I r h
  obtain ⟨a, ns, rfl, hs, hn, q⟩ := h
  obtain ⟨its, rv, hl, hz⟩ := I.list hs
  rw [Vals.ref1 r]
  refine set_listI ns (I.ok.hd hc) hl.isList (by simpa using rv.ints) (by unfold scanBound; omega) fun hp tk c hS hcn hk => ?_
  exact ⟨.ref _, _, I.laid (t' := tk) hk (Nat.le_refl _) (setO_new hS), rfl, q _ c (I.hok.fresh (Nat.le_refl _))⟩
/-- sorted(found) -/
def rSortS (w : World) : List V → Hp → VK → Prop := fun vs H Q => ∃ (a : Addr) (S : Int → Bool) (n : Nat), vs = [V.ref a] ∧ H a = some (SetO w a S n) ∧
  ∀ (ns : List Int) (p : Addr), ns.Pairwise (· < ·) → (∀ k : Int, k ∈ ns ↔ S k = true) → H p = none → Q (.ref p) (upd H p (.lst (ns.map V.int)))
theorem cr_sortS (hc : X.calm = true) : CallR X (.builtin "sorted") (rSortS X.w) := by
  intro pins s σ H vs us Q I r h
  obtain ⟨a, S, n, rfl, ha, q⟩ := h
  have R := setO_get I ha
  have n0 : n ≤ sizeLine := by
    obtain ⟨_, _, _, _, _, _, _, _, _, _, hb, _, hn, _⟩ := R
    rw [sizeLine_eq]; unfold scanBound at hb; omega
  rw [Vals.ref1 r]
  refine sorted_setN R (I.ok.hd hc) fun s2 p out c ns k g o hp hg hi hs hm hl => ?_
  have hn : H p = none := I.hok.fresh hp
  have J : Inv X pins σ (upd H p (.lst (ns.map V.int))) { s with heap := s2.heap, gens := s2.gens, drawn := s2.drawn, toks := s2.toks } :=
    I.call (ch := []) (Un.laid k hp hn) (I.hok.laid k hp ⟨by rw [List.length_map, hl]; exact n0, out, c, vals_of_ints hi, hg⟩) (by rw [g]; exact I.bare) (fun _ z => nomatch z)
  have e : s2 = { s with heap := s2.heap, gens := s2.gens, drawn := s2.drawn, toks := s2.toks } := by
    cases s2; cases s; cases o; rfl
  rw [e]
  exact ⟨.ref p, _, J, rfl, q ns p hs hm hn⟩
end
end XT
/-! for i, x in enumerate(t), t a tuple -/
namespace XT
open PySem PySem.Spec PyProof.Rows L2
abbrev enO (it : Addr) : Obj := { cls := .type "enumerate", data := .fields #[.none, .bool false, .ref it, rawInt 0, .none, .none] }
abbrev tiO (t : Addr) : Obj := { cls := .type "tuple_iterator", data := .fields #[.ref t, .int 0 0] }
theorem newEnumT (t : Addr) (items : Array Value) : Meets (Builtin.«enumerate.__new__» ⟨[.type "enumerate", .ref t], []⟩)
    (fun _ R s => s.heap.IsTuple t items ∧ R (.ok (.ret (.ref (s.heap.push (tiO t)).objs.size))) { s with heap := (s.heap.push (tiO t)).push (enO s.heap.objs.size) }) :=
  .of_wp fun prog w A R s h => by
    obtain ⟨hp, ge, dr, tk, os⟩ := s
    obtain ⟨h1, h2⟩ := h
    have sb := sub_enumerate
    have q : ∀ {A2 : Around} {E : Value → Shared → Prop} {Q : Value → Shared → Prop}, Q (.ref hp.objs.size) ⟨hp.push (tiO t), ge, dr, tk, os⟩ → wpAny (model prog w) A2 (pyIter (.ref t)) Q E ⟨hp, ge, dr, tk, os⟩ :=
      fun z => wpAny_pyIter_tuple (s := ⟨hp, ge, dr, tk, os⟩) h1 z
    wp_walk using q
    refine wpAny_stack_any fun st => wpAny_pure ?_
    split
    · rename_i c _ _ _ _ _
      cases (c == Value.type "enumerate") <;> (wp_walk using q; exact ⟨_, rfl, h2⟩)
    · wp_walk using q
      exact ⟨_, rfl, h2⟩
section
variable {prog : Program} {w : World} {A : Around} {E : Value → Shared → Prop} {s : Shared}
theorem call_enumT {t : Addr} {items : Array Value} {Q : Value → Shared → Prop} (hT : s.heap.IsTuple t items)
    (h : ∀ hp, IsEnum hp (s.heap.objs.size + 1) s.heap.objs.size 0 .none → hp.IsTupleIter s.heap.objs.size t 0 → (∀ b o, s.heap.get? b = some o → hp.get? b = some o) → Q (.ref (s.heap.objs.size + 1)) { s with heap := hp }) :
    wpAny (model prog w) A (call (.type "enumerate") [.ref t]) Q E s := by
  refine callType_new F.called_enumerate (by decide) (F.typeCall_enumerate_1 _) (F.newCall_enumerate_1 _) (fun obj => F.args_object_init_2 obj _) F.entry_enumerate_new (newEnumT t items) ⟨hT, ?_⟩
  have z : (s.heap.push (tiO t)).objs.size = s.heap.objs.size + 1 := Heap.size_push ..
  have e0 := Heap.get?_push_size (s.heap.push (tiO t)) (o := enO s.heap.objs.size) rfl
  rw [z] at e0
  show _ ∧ _
  rw [z]
  exact ⟨⟨_, e0, rfl⟩, h _ e0 ⟨_, Heap.get?_push_of_some _ (Heap.get?_push_size _ rfl), rfl, rfl⟩ fun b o x => Heap.get?_push_of_some _ (Heap.get?_push_of_some _ x)⟩
end
/-- the tuple at a, its items in new pairs with their places -/
def ItT (K : PySem.W.Frag) (a : Addr) : It :=
  ⟨fun i H => ∃ (xs : List V) (x : V), SqT K H a xs ∧ xs[i]? = some x,
   fun i H v H2 => ∃ T x, v = .ref T ∧ H T = none ∧ H2 = upd H T (.tup [.int (i : Nat), x]) ∧ ∀ xs, SqT K H a xs → xs[i]? = some x,
   fun i H => ∃ xs : List V, SqT K H a xs ∧ xs.length = i⟩
theorem turn_enumT {P : Program} {w : World} {K : PySem.W.Frag} {elts : List Expr} {kk : Nat} {tpos : Pos} (a e it : Addr) (hne : e ≠ it) (hai : a ≠ it) (hae : e ≠ a) :
    Turn P w K (.Tuple elts kk tpos) (ItT K a) [e, it] e (fun i h => (∃ old, IsEnum h e it ((i : Nat) : Int) old) ∧ h.IsTupleIter it a i) where
  mem := List.mem_cons_self
  obj := fun i h st b hb => by
    obtain ⟨⟨old, he⟩, ⟨o, ho, hc, hd⟩⟩ := st
    rcases List.mem_cons.mp hb with z | z
    · rw [z]; exact ⟨_, he, fun v q => nomatch q⟩
    · rw [List.mem_singleton.mp z]; exact ⟨o, ho, fun v q => by rw [hd] at q; cases q⟩
  keep := fun i h h2 st k => ⟨let ⟨old, he⟩ := st.1; ⟨old, k e (by simp) _ he⟩, st.2.at fun o q => k it (by simp) o q⟩
  item := by
    intro X hP hw hK hc i pins s σ H E I hf st hg
    subst hP hw hK
    obtain ⟨⟨old, he⟩, hit⟩ := st
    obtain ⟨xs, x, hq, hx⟩ := hg
    obtain ⟨its, rv, p, hz⟩ := I.tuple hq
    obtain ⟨u, hu, ru⟩ := rv.get hx
    have p' : s.heap.IsTuple a its.toArray := p
    have el : e < s.heap.objs.size := Heap.lt_size he
    have il : it < s.heap.objs.size := by obtain ⟨_, q, _⟩ := hit; exact Heap.lt_size q
    have hi : i < its.toArray.size := by
      rw [List.size_toArray]; exact (List.getElem?_eq_some_iff.mp hu).1
    refine wpAny_pyNext_enum_itemD (Draws.tuple (A := X.A.in1) (I.ok.hd hc) it a hai its.toArray) he ⟨hit, p'⟩ hi hne (by simp [hne, hae]) fun y h1 tk hy ho hit1 hT hsz hk => ?_
    have ey : y = u := by
      have q : its.toArray[i]? = some u := by simpa using hu
      exact Option.some.inj (hy.symm.trans q)
    subst ey
    refine ⟨_, rfl, wpAny_letOwnedTupleGo_enum (s := { s with heap := h1, toks := tk + 1 }) ho fun h2 he2 sb => ?_⟩
    have gT : h2.get? s.heap.objs.size = some { cls := .type "tuple", data := .seq #[.int i tk, y] } := (sb.2 _ (Nat.ne_of_gt el)).trans hT
    have new : ObjOk X.prog X.w (upd H s.heap.objs.size (.tup [.int (i : Nat), x])) h2 s.heap.objs.size (.tup [.int (i : Nat), x]) :=
      ⟨sz (n := 2) (by decide), [.int i tk, y], .cons ⟨_, rfl⟩ (.cons ru .nil), ⟨_, gT, rfl, _, rfl⟩⟩
    have J := I.turnedNew (t' := tk + 1) (ch := [e, it]) (fun b ob hb q => (sb.2 b (fun z => hb (by simp [z]))).trans (hk b ob (fun z => hb (by simp [z])) (fun z => hb (by simp [z])) q)) hf (Nat.le_refl _) new
    refine ⟨.ref s.heap.objs.size, _, J, rfl, ⟨_, x, rfl, I.hok.fresh (Nat.le_refl _), rfl, fun ys hy => by rw [I.tuple_inj hy hq]; exact hx⟩, ⟨⟨y, ?_⟩, hit1.1.at fun o q => (sb.2 it (Ne.symm hne)).trans q⟩, fun b hb => ?_⟩
    · rw [show ((i + 1 : Nat) : Int) = (i : Int) + 1 by omega]; exact he2
    · have hb2 : b < s.heap.objs.size := by
        rcases List.mem_cons.mp hb with z | z
        · rw [z]; exact el
        · rw [List.mem_singleton.mp z]; exact il
      rw [upd_ne (Nat.ne_of_lt hb2)]
      exact (hf b hb).1
  done := by
    intro X hP hw hK hc i pins s σ H E I hf st hg
    subst hP hw hK
    obtain ⟨⟨old, he⟩, hit⟩ := st
    obtain ⟨xs, hq, hx⟩ := hg
    obtain ⟨its, rv, p, hz⟩ := I.tuple hq
    obtain ⟨f0, f1, f2, f3, f4, f5⟩ := hf it (by simp)
    have hl : its.toArray.size = i := by rw [List.size_toArray, ← rv.length]; exact hx
    have D := Draws.tuple (prog := X.prog) (w := X.w) (A := X.A.in1) (I.ok.hd hc) it a hai its.toArray
    rw [hl] at D
    exact wpAny_pyNext_enum_endD D he ⟨hit, p⟩ fun h2 eb => ⟨rfl, I.turned (t' := s.toks) (fun b o hb q => eb b o hb q) f0 f1 f3 f4 f5⟩
  self := fun A i s Q E st h => let ⟨⟨_, he⟩, _⟩ := st; wpAny_pyIter_enum he h
def iEnT (K : PySem.W.Frag) (ta : TA) : TI := fun σ H R => ta σ H fun vs H1 => ∃ a xs, vs = [.ref a] ∧ SqT K H1 a xs ∧ R (ItT K a) H1
theorem pi_enumT {X : Cx} {e : Expr} {ta : TA} {p pos tpos : Pos} {elts : List Expr} {kk : Nat} (hg : Gl X "enumerate") (hm : X.mg "enumerate" = none) (ha : PA X [e] ta) (hs : starEach [e] X.env = [(false, eval e X.env)] := by rfl) :
    PI X (.Tuple elts kk tpos) (.Call (.Name "enumerate" p) [e] [] pos) (iEnT X.K ta) := by
  refine ⟨fun pins s σ H R I h => Call_ (ld_blt I hg hm boot_enumerate (callWith_type1 (thn (ha.run pos pins s σ H _ I h) fun us s1 ⟨vs, H1, I1, r1, q1⟩ => ?_) hs rfl))⟩
  obtain ⟨a, xs, ex, hq, q⟩ := q1
  subst ex
  obtain ⟨u, rfl, ru⟩ := vals1 r1
  cases (show u = Value.ref a from ru)
  obtain ⟨its, rv, p2, hz⟩ := I1.tuple hq
  have al : a < s1.heap.objs.size := by obtain ⟨o, ho, _⟩ := p2; exact Heap.lt_size ho
  refine call_enumT (items := its.toArray) p2 fun hp he hit hk => wpAny_pyIter_enum he ?_
  have I2 : Inv X pins σ H1 { s1 with heap := hp } := I1.kept (t' := s1.toks) hk
  refine ⟨s1.heap.objs.size + 1, [s1.heap.objs.size + 1, s1.heap.objs.size], _, _, H1, rfl, I2, turn_enumT a (s1.heap.objs.size + 1) s1.heap.objs.size (Nat.succ_ne_self _) (Nat.ne_of_lt al) (Nat.ne_of_gt (Nat.lt_succ_of_lt al)), ⟨⟨.none, he⟩, hit⟩, fun b hb => ?_, q⟩
  have hle : s1.heap.objs.size ≤ b := by
    rcases List.mem_cons.mp hb with z | z
    · rw [z]; exact Nat.le_succ _
    · rw [List.mem_singleton.mp z]; exact Nat.le_refl _
  exact I1.fpOk hle (I1.hok.fresh hle)
end XT
/-! lots as lists of numbers -/
namespace XT
open PySem PySem.Spec PyProof.Rows L2
def lotOf (w : Nat) (P : Nat → Bool) : List Nat := (List.range (2 ^ w)).filter P
def vm (ms : List Nat) : List V := ms.map fun (m : Nat) => V.int (m : Int)
theorem mem_lot {w : Nat} {P : Nat → Bool} {m : Nat} : m ∈ lotOf w P ↔ m < 2 ^ w ∧ P m = true := by
  unfold lotOf
  rw [List.mem_filter, List.mem_range]
theorem lot_congr {w : Nat} {P P' : Nat → Bool} (h : ∀ m, m < 2 ^ w → P m = P' m) : lotOf w P = lotOf w P' := by
  unfold lotOf
  exact List.filter_congr fun m hm => h m (List.mem_range.mp hm)
theorem pow6 {w : Nat} (h : w ≤ 6) : 2 ^ w ≤ 64 := by
  have : w = 0 ∨ w = 1 ∨ w = 2 ∨ w = 3 ∨ w = 4 ∨ w = 5 ∨ w = 6 := by omega
  rcases this with rfl | rfl | rfl | rfl | rfl | rfl | rfl <;> decide
theorem pow0 (w : Nat) : 0 < 2 ^ w := Nat.pow_pos (by decide)
theorem lot_len {w : Nat} (h : w ≤ 6) (P : Nat → Bool) : (lotOf w P).length ≤ 64 := by
  refine Nat.le_trans (List.length_filter_le _ _) ?_
  rw [List.length_range]
  exact pow6 h
theorem vm_len (ms : List Nat) : (vm ms).length = ms.length := List.length_map _
/-- two rising lists with the same members are one -/
theorem rising_eq : ∀ {l m : List Int}, l.Pairwise (· < ·) → m.Pairwise (· < ·) → (∀ k, k ∈ l ↔ k ∈ m) → l = m
  | [], [], _, _, _ => rfl
  | [], b :: m, _, _, h => absurd ((h b).mpr List.mem_cons_self) (by simp)
  | a :: l, [], _, _, h => absurd ((h a).mp List.mem_cons_self) (by simp)
  | a :: l, b :: m, hl, hm, h => by
    obtain ⟨l1, l2⟩ := List.pairwise_cons.mp hl
    obtain ⟨m1, m2⟩ := List.pairwise_cons.mp hm
    have e : a = b := by
      rcases List.mem_cons.mp ((h a).mp List.mem_cons_self) with e | e
      · exact e
      · rcases List.mem_cons.mp ((h b).mpr List.mem_cons_self) with e' | e'
        · exact e'.symm
        · have := m1 a e
          have := l1 b e'
          omega
    subst e
    congr 1
    refine rising_eq l2 m2 fun k => ⟨fun hk => ?_, fun hk => ?_⟩
    · rcases List.mem_cons.mp ((h k).mp (List.mem_cons_of_mem _ hk)) with e | e
      · have := l1 k hk
        omega
      · exact e
    · rcases List.mem_cons.mp ((h k).mpr (List.mem_cons_of_mem _ hk)) with e | e
      · have := m1 k hk
        omega
      · exact e
theorem range_rising (n : Nat) : ((List.range n).map fun (m : Nat) => (m : Int)).Pairwise (· < ·) := by
  rw [List.pairwise_map]
  exact List.pairwise_lt_range.imp fun h => by omega
theorem lot_rising (w : Nat) (P : Nat → Bool) : ((lotOf w P).map fun (m : Nat) => (m : Int)).Pairwise (· < ·) := by
  unfold lotOf
  have h := List.pairwise_map.mp (range_rising (2 ^ w))
  rw [List.pairwise_map]
  exact h.filter _
theorem rising_lot {w : Nat} {P : Nat → Bool} {ns : List Int} (h : ns.Pairwise (· < ·)) (hm : ∀ k, k ∈ ns ↔ ∃ m : Nat, k = m ∧ m < 2 ^ w ∧ P m = true) : ns.map V.int = vm (lotOf w P) := by
  have e : ns = (lotOf w P).map fun (m : Nat) => (m : Int) := rising_eq h (lot_rising w P) fun k => by
    rw [hm k, List.mem_map]
    constructor
    · rintro ⟨m, rfl, h1, h2⟩
      exact ⟨m, mem_lot.mpr ⟨h1, h2⟩, rfl⟩
    · rintro ⟨m, h1, rfl⟩
      exact ⟨m, rfl, mem_lot.mp h1⟩
  rw [e, List.map_map]
  rfl
theorem vm_ints (ms : List Nat) : vm ms = (ms.map fun (m : Nat) => (m : Int)).map V.int := by
  unfold vm
  rw [List.map_map]
  rfl
theorem vm_flat (ms : List Nat) : (vm ms).all flatV = true := by
  rw [List.all_eq_true]
  intro v hv
  obtain ⟨m, _, rfl⟩ := List.mem_map.mp hv
  rfl
theorem in_vm (k : Nat) (ms : List Nat) : inV (.int (k : Int)) (vm ms) = decide (k ∈ ms) := by
  rw [Bool.eq_iff_iff, decide_eq_true_iff]
  unfold inV
  rw [List.any_eq_true]
  constructor
  · rintro ⟨v, hv, e⟩
    obtain ⟨m, hm, rfl⟩ := List.mem_map.mp hv
    have e' : ((m : Int) == (k : Int)) = true := e
    have : (m : Int) = k := by simpa using e'
    have : m = k := by omega
    rw [← this]
    exact hm
  · intro h
    exact ⟨_, List.mem_map.mpr ⟨k, h, rfl⟩, by show ((k : Int) == (k : Int)) = true; simp⟩
theorem in_lot {w : Nat} {P : Nat → Bool} {k : Nat} (hk : k < 2 ^ w) : inV (.int (k : Int)) (vm (lotOf w P)) = P k := by
  rw [in_vm, Bool.eq_iff_iff, decide_eq_true_iff, mem_lot]
  exact ⟨fun h => h.2, fun h => ⟨hk, h⟩⟩
/-- a lot -/
def LotAt (H : Hp) (v : V) (w : Nat) (P : Nat → Bool) : Prop := ∃ p q, v = .ref p ∧ H p = some (.tup [.int (w : Int), .ref q]) ∧ H q = some (.tup (vm (lotOf w P)))
theorem LotAt.same {H H' : Hp} {v : V} {w : Nat} {P : Nat → Bool} (h : LotAt H v w P) (e : Same H H') : LotAt H' v w P := by
  obtain ⟨p, q, rfl, h1, h2⟩ := h
  exact ⟨p, q, rfl, e _ _ h1, e _ _ h2⟩
theorem LotAt.keep {S : Sm} {H H' : Hp} {t : Int} {v : V} {w : Nat} {P : Nat → Bool} (h : LotAt H v w P) (k : Keep S H H') (st : Strm S H t) : LotAt H' v w P := by
  obtain ⟨p, q, rfl, h1, h2⟩ := h
  exact ⟨p, q, rfl, k.tup st h1, k.tup st h2⟩
theorem LotAt.congr {H : Hp} {v : V} {w : Nat} {P P' : Nat → Bool} (h : LotAt H v w P) (e : ∀ m, m < 2 ^ w → P m = P' m) : LotAt H v w P' := by
  obtain ⟨p, q, rfl, h1, h2⟩ := h
  exact ⟨p, q, rfl, h1, by rw [← lot_congr e]; exact h2⟩
def dLot (w : Nat) (P : Nat → Bool) : PyData := .tuple [.int (w : Int), .tuple ((lotOf w P).map fun (m : Nat) => .int (m : Int))]
theorem dpVm {K : PySem.W.Frag} {H : Hp} : ∀ ms : List Nat, DpAll K H (vm ms) (ms.map fun (m : Nat) => .int (m : Int))
  | [] => .nil
  | m :: ms => .cons (.int m) (dpVm ms)
theorem LotAt.dp {K : PySem.W.Frag} {H : Hp} {v : V} {w : Nat} {P : Nat → Bool} (h : LotAt H v w P) : Dp K H v (dLot w P) := by
  obtain ⟨p, q, rfl, h1, h2⟩ := h
  exact .tup (SqT.of h1) (.cons (.int _) (.cons (.tup (SqT.of h2) (dpVm _)) .nil))
theorem ints_lay : ∀ ms : List Nat, PyData.canLayAll0 (ms.map fun (m : Nat) => PyData.int (m : Int)) = true
  | [] => rfl
  | m :: ms => by
    have h := ints_lay ms
    simpa [PyData.canLayAll0, PyData.canLay0] using h
theorem ints_depth : ∀ ms : List Nat, PyData.depthAll (ms.map fun (m : Nat) => PyData.int (m : Int)) ≤ 1
  | [] => by decide
  | m :: ms => by
    have h := ints_depth ms
    simp only [PyData.depthAll, PyData.depth, List.map] at h ⊢
    omega
theorem dLot_shaped (w : Nat) (P : Nat → Bool) : SeqAt.shaped (dLot w P) = true := by
  have h1 : PyData.canLay0 (dLot w P) = true := by
    have h := ints_lay (lotOf w P)
    simp [dLot, PyData.canLay0, PyData.canLayAll0, h]
  have h2 : PyData.depth (dLot w P) ≤ 64 := by
    have h := ints_depth (lotOf w P)
    simp only [dLot, PyData.depth, PyData.depthAll]
    omega
  unfold SeqAt.shaped
  rw [h1, decide_eq_true h2]
  rfl
theorem eqv_ints : ∀ ms : List Nat, PyData.eqvAll (ms.map fun (m : Nat) => PyData.int (m : Int)) (ms.map fun (m : Nat) => PyData.int (m : Int)) = true
  | [] => rfl
  | m :: ms => by
    have h := eqv_ints ms
    simp [PyData.eqvAll, PyData.eqv, h]
theorem eqv_lot {w : Nat} {P P' : Nat → Bool} (h : ∀ m, m < 2 ^ w → P m = P' m) : PyData.eqv (dLot w P) (dLot w P') = true := by
  unfold dLot
  rw [lot_congr h]
  simp [PyData.eqv, PyData.eqvAll, eqv_ints]
/-- a != b, two lots that are one -/
theorem ne_lot {K : PySem.W.Frag} {H : Hp} {x y : V} {w : Nat} {P P' : Nat → Bool} {Q : VK} (hx : LotAt H x w P) (hy : LotAt H y w P') (h : ∀ m, m < 2 ^ w → P m = P' m) (q : Q (.bl false) H) : rNeD K x y H Q := by
  refine ⟨_, _, hx.dp, hy.dp, dLot_shaped _ _, dLot_shaped _ _, ?_⟩
  rw [eqv_lot h]
  exact q
end XT
/-! the program's own defs -/
namespace XT
open PySem PySem.Spec PyProof.Rows L2
def DefR (P : Program) (w : World) (K : PySem.W.Frag) (mg : Str → Option Value) (base : Heap) (k : Nat) (x : Str) (sp : Sp) : Prop :=
  ∃ f, FnR P w K mg base CX0 k f sp ∧ mg x = some (.ref f) ∧ PySem.W.keepIn K (.ref f) = true
theorem DefR.of {P : Program} {w : World} {K : PySem.W.Frag} {mg : Str → Option Value} {base : Heap} {k : Nat} {x : Str} {sp : Sp} {f : Addr} {fd : FuncData} {ps : List Str}
    (F : FnOk P w K mg base CX0 k f fd ps sp) (b : Binds K fd ps []) (hm : mg x = some (.ref f)) (hk : PySem.W.keepIn K (.ref f) = true) : DefR P w K mg base k x sp :=
  ⟨f, (FnOk.raw F b .nil).imp fun vs H Q E h => by rw [List.append_nil]; exact h, hm, hk⟩
section
variable {X : Cx}
/-- f(e, ..) -/
theorem pe_def {j : Nat} {x : Str} {sp : Sp} {e : Expr} {es : List Expr} {t : TA} {p pos : Pos} (D : DefR X.prog X.w X.K X.mg X.base j x sp) (hr : Room j X.A) (hg : Gl X x) (ha : PA X (e :: es) t)
    (hdb : (x == ("__debug__" : Str)) = false := by decide) (he : starEach (e :: es) X.env = (false, eval e X.env) :: starEach es X.env := by rfl) (hpl : (backTo pos (starEach es X.env)).any (·.1) = false := by rfl) :
    PE X (.Call (.Name x p) (e :: es) [] pos) (fun σ H Q => t σ H fun vs H1 => sp vs H1 Q E0) := by
  obtain ⟨f, F, hm, hk⟩ := D
  refine ⟨fun pins s σ H Q I h => wpAny_Call_Name_kw (ld_glob I hg hm ?_ hdb)⟩
  refine PySem.W.callWith_K (h₀ := X.base) I.ok.mod.kin hk (thn (ha.run pos pins s σ H _ I h) fun us s1 ⟨vs, H1, I1, r, q⟩ => ⟨I1.kIn, ?_⟩) he hpl
  refine wpAny_call (codeAny_mono (run_fnR F hr pass0 I1 r q) fun r s2 z => ?_)
  match r, z with
  | .ok (.ret v), z => exact z
  | .ok .next, z => exact z.elim
  | .ok .brk, z => exact z.elim
  | .ok .cont, z => exact z.elim
  | .error e, z => exact z
end
theorem bT : bootBuiltins "tuple" = some (.type "tuple") := by decide +kernel
theorem bS : bootBuiltins "sorted" = some (.builtin "sorted") := by decide +kernel
theorem bI : bootBuiltins "isinstance" = some (.builtin "isinstance") := by decide +kernel
theorem bInt : bootBuiltins "int" = some (.type "int") := by decide +kernel
theorem bBool : bootBuiltins "bool" = some (.type "bool") := by decide +kernel
theorem bSet : bootBuiltins "set" = some (.type "set") := by decide +kernel
theorem bAll : bootBuiltins "all" = some (.builtin "all") := by decide +kernel

section
variable {P : Program} {w : World} {K : PySem.W.Frag} {mg : Str → Option Value} {base : Heap}
/-- the module's names that are still the built-in ones -/
structure Bl (mg : Str → Option Value) : Prop where
  len : mg "len" = none
  abs : mg "abs" = none
  tuple : mg "tuple" = none
  sorted : mg "sorted" = none
  isinstance : mg "isinstance" = none
  int : mg "int" = none
  bool : mg "bool" = none
  set : mg "set" = none
  all : mg "all" = none
  range : mg "range" = none
  enumerate : mg "enumerate" = none

theorem shl1 (n : Nat) : (1 : Int) * 2 ^ ((n : Int).toNat) = ((2 ^ n : Nat) : Int) := by
  rw [Int.toNat_natCast, Int.one_mul]
  norm_cast
theorem cpow {n : Nat} (h : n ≤ 6) : CPow 1 (n : Int) := ⟨by omega, by omega, by decide⟩
theorem xor_lt {a b n : Nat} (ha : a < 2 ^ n) (hb : b < 2 ^ n) : a ^^^ b < 2 ^ n := Nat.xor_lt_two_pow ha hb
theorem bx (a b : Nat) : Builtin.bitXor (a : Int) (b : Int) = ((a ^^^ b : Nat) : Int) := by
  rw [Bits.bitXor_pp (by omega) (by omega)]
  rfl
end
end XT
namespace XT
open PySem PySem.Spec PyProof.Rows L2
theorem lot_filter (n : Nat) (p q : Nat → Bool) : (lotOf n p).filter q = lotOf n (fun m => p m && q m) := by
  unfold lotOf
  rw [List.filter_filter]
  refine List.filter_congr fun m _ => ?_
  rw [Bool.and_comm]
theorem vm_filter (ms : List Nat) (q : Nat → Bool) (r : V → Bool) (h : ∀ m ∈ ms, r (.int (m : Int)) = q m) : ((vm ms).filter r).map id = vm (ms.filter q) := by
  unfold vm
  rw [List.map_id, List.filter_map]
  congr 1
  exact List.filter_congr fun m hm => h m hm
theorem mem_vm {ms : List Nat} {i : Nat} {v : V} (h : (vm ms)[i]? = some v) : ∃ m, ms[i]? = some m ∧ v = .int (m : Int) := by
  unfold vm at h
  rw [List.getElem?_map] at h
  obtain ⟨m, h1, h2⟩ := Option.map_eq_some_iff.mp h
  exact ⟨m, h1, h2.symm⟩
/-- for i, x in enumerate(t) -/
theorem for_enumT {K : PySem.W.Frag} {a : Addr} {xs : List V} {g : TG} {tb : TS} {D : Ends} {σ : L2.St} {H : Hp} (Pv : Nat → L2.St → Hp → Prop) (h0 : Pv 0 σ H) (hl : ∀ i σ H, i ≤ xs.length → Pv i σ H → SqT K H a xs)
    (hs : ∀ i x σ H T, xs[i]? = some x → Pv i σ H → H T = none → g (.ref T) σ (upd H T (.tup [.int (i : Nat), x])) fun σ2 H2 => tb { D with nx := Pv (i + 1), ct := Pv (i + 1), bk := D.nx } σ2 H2) (hd : ∀ σ H, Pv xs.length σ H → D.nx σ H) :
    ∃ W : Nat → Nat → L2.St → Hp → Prop, (∃ m, W 0 m σ H) ∧ ∀ i m σ H, W i m σ H →
      ((ItT K a).stop i H ∧ D.nx σ H) ∨ ((ItT K a).go i H ∧ ∃ N : L2.St → Hp → Prop, (∀ σ' H', N σ' H' → ∃ m', m' < m ∧ W (i + 1) m' σ' H') ∧ ∀ x H', (ItT K a).yld i H x H' → g x σ H' fun σ2 H2 => tb { D with nx := N, ct := N, bk := D.nx } σ2 H2) := by
  refine ⟨fun i m σ H => m = xs.length - i ∧ i ≤ xs.length ∧ Pv i σ H, ⟨xs.length, by simp, Nat.zero_le _, h0⟩, ?_⟩
  rintro i m σ H ⟨rfl, hi, p⟩
  have q := hl i σ H hi p
  rcases Nat.lt_or_ge i xs.length with lt | ge
  · refine .inr ⟨⟨xs, xs[i], q, List.getElem?_eq_getElem lt⟩, Pv (i + 1), fun σ' H' p' => ⟨xs.length - (i + 1), by omega, rfl, lt, p'⟩, fun v H' y => ?_⟩
    obtain ⟨T, x, rfl, nT, rfl, fx⟩ := y
    exact hs i x σ H T (fx xs q) p nT
  · have e : i = xs.length := by omega
    subst e
    exact .inl ⟨⟨xs, q, rfl⟩, hd σ H p⟩
theorem r62 {n : Nat} (h : n ≤ 6) : ((2 ^ n : Nat) : Int) < 2 ^ 62 := by
  have := pow6 h
  omega
theorem l62 {n : Nat} : -(2 ^ 62) ≤ ((2 ^ n : Nat) : Int) := Int.le_trans (by decide : -(2 ^ 62) ≤ (0 : Int)) (Int.natCast_nonneg _)
end XT
/-! draws within comprehensions; the lots that the law draws -/
namespace XT
open PySem PySem.Spec PyProof.Rows L2
/-- the stream's time goes on, all else stays -/
structure Step (S : Sm) (H : Hp) (t : Int) (H' : Hp) (t' : Int) (n : Nat) : Prop where
  keep : Keep S H H'
  st : Strm S H' t'
  lo : t ≤ t'
  hi : t' ≤ t + n
def spDrawN : Sp := fun vs H Q _ => ∃ (S : Sm) (t : Int) (m : Nat), vs = [.ref S.s, .int (m : Int)] ∧ Strm S H t ∧ 0 < m ∧ m ≤ 1000 ∧ t < 100000000 ∧
  ∀ (H' : Hp) (r : Nat) (t' : Int), Step S H t H' t' 1 → r < m → Q (.int (r : Int)) H'
theorem drawN {P : Program} {w : World} {K : PySem.W.Frag} {mg : Str → Option Value} {base : Heap} {k : Nat} {x : Str} (D : DefR P w K mg base k x spDraw) : DefR P w K mg base k x spDrawN := by
  obtain ⟨f, F, h1, h2⟩ := D
  refine ⟨f, F.imp fun vs H Q E ⟨S, t, m, ev, st, m0, m1, t1, q⟩ => ⟨S, t, m, ev, st, by omega, by omega, by omega, fun H' r t' k s a b r0 r1 => ?_⟩, h1, h2⟩
  obtain ⟨n, rfl⟩ := Int.eq_ofNat_of_zero_le r0
  exact q H' n t' ⟨k, s, a, b⟩ (by omega)
theorem Step.refl {S : Sm} {H : Hp} {t : Int} (h : Strm S H t) : Step S H t H t 0 := ⟨Keep.refl S H, h, Int.le_refl _, by omega⟩
theorem Step.trans {S : Sm} {H H1 H2 : Hp} {t t1 t2 : Int} {n m : Nat} (a : Step S H t H1 t1 n) (b : Step S H1 t1 H2 t2 m) : Step S H t H2 t2 (n + m) := ⟨a.keep.trans b.keep, b.st, Int.le_trans a.lo b.lo, by have := a.hi; have := b.hi; omega⟩
theorem Step.same {S : Sm} {H H1 H2 : Hp} {t t1 : Int} {n : Nat} (a : Step S H t H1 t1 n) (b : Same H1 H2) : Step S H t H2 t1 n := ⟨a.keep.trans (Keep.of b), a.st.same b, a.lo, a.hi⟩
theorem Step.mono {S : Sm} {H H1 : Hp} {t t1 : Int} {n m : Nat} (a : Step S H t H1 t1 n) (h : n ≤ m) : Step S H t H1 t1 m := ⟨a.keep, a.st, a.lo, by have := a.hi; omega⟩
section
variable {K : PySem.W.Frag} {a : Addr} {g : TG} {tt : TT} {te : TE} {vs : List Nat} {σ : L2.St} {H1 : Hp} {D : Addr} {Qd : Hp → Prop} {S : Sm} {t0 : Int} {c : Nat}
/-- what one turn must do: the stream is drawn from at most d times, and what is kept is a number below c -/
def TurnS (S : Sm) (c d : Nat) (g : TG) (tt : TT) (te : TE) (vs : List Nat) (σ : L2.St) (x : V) (H : Hp) (t : Int) : Prop :=
  ∀ (R1 : Hp → Prop) (R2 : V → Hp → Prop), (∀ H3 t3, Step S H t H3 t3 d → R1 H3) → (∀ (k : Nat) H4 t4, Step S H t H4 t4 d → k < c → R2 (.int (k : Int)) H4) →
    g x (wipe σ vs) H fun σ2 H2 => wipe σ2 vs = wipe σ vs ∧ tt σ2 H2 fun b H3 => if b = true then te σ2 H3 R2 else R1 H3
def PvS (S : Sm) (c d : Nat) (H1 : Hp) (t0 : Int) (D : Addr) (i : Nat) (H : Hp) : Prop := ∃ (ks : List Nat) (t : Int), Step S H1 t0 H t (d * i) ∧ H D = some (.lst (vm ks)) ∧ (∀ k ∈ ks, k < c) ∧ ks.length ≤ i
theorem pvs_start (st : Strm S H1 t0) (nD : H1 D = none) (d : Nat) : PvS S c d H1 t0 D 0 (upd H1 D (.lst [])) := ⟨[], t0, ((Step.refl st).same (same_new nD)).mono (Nat.zero_le _), upd_same, by simp, by simp⟩
theorem pvs_turn {d i : Nat} {x : V} {H : Hp} (st0 : Strm S H1 t0) (nD : H1 D = none) (hi : i ≤ 1000) (h : PvS S c d H1 t0 D i H) (ht : ∀ t, Step S H1 t0 H t (d * i) → TurnS S c d g tt te vs σ x H t) :
    g x (wipe σ vs) H fun σ2 H2 => wipe σ2 vs = wipe σ vs ∧ tt σ2 H2 fun b H3 =>
      if b = true then te σ2 H3 fun y H4 => ∃ acc, H4 D = some (.lst acc) ∧ acc.length < sizeLine ∧ PvS S c d H1 t0 D (i + 1) (upd H4 D (.lst (acc ++ [y]))) else PvS S c d H1 t0 D (i + 1) H3 := by
  obtain ⟨ks, t, stp, hD, hk, hl⟩ := h
  refine ht t stp _ _ (fun H3 t3 s3 => ?_) (fun k H4 t4 s4 hkc => ?_)
  · exact ⟨ks, t3, (stp.trans s3).mono (by rw [Nat.mul_succ]; exact Nat.le_refl _), s3.keep.mine st0 nD hD, hk, by omega⟩
  · have hD4 := s4.keep.mine st0 nD hD
    refine ⟨_, hD4, small64 (by rw [vm_len]; omega), ks ++ [k], t4, ?_, ?_, ?_, ?_⟩
    · have z := stp.trans s4
      have nDs : D ≠ S.s := fun e => by obtain ⟨_, h⟩ := st0; rw [e, h.hs] at nD; cases nD
      have nDp : D ≠ S.p := fun e => by obtain ⟨_, h⟩ := st0; rw [e, h.hp] at nD; cases nD
      have nDq : D ≠ S.q := fun e => by obtain ⟨_, h⟩ := st0; rw [e, h.hq] at nD; cases nD
      refine ⟨fun b o n1 n2 e => ?_, ?_, z.lo, by have := z.hi; rw [Nat.mul_succ]; exact this⟩
      · rw [upd_ne (ne_of_none e nD)]
        exact z.keep b o n1 n2 e
      · obtain ⟨big, hb⟩ := z.st
        refine ⟨big, ?_, ?_, ?_, hb.sp, hb.sq, hb.pq, hb.ne, hb.t0⟩
        · rw [upd_ne nDs.symm]; exact hb.hs
        · rw [upd_ne nDp.symm]; exact hb.hp
        · rw [upd_ne nDq.symm]; exact hb.hq
    · rw [upd_same]; unfold vm; rw [List.map_append]; rfl
    · intro j hj
      rcases List.mem_append.mp hj with hj | hj
      · exact hk j hj
      · rw [List.mem_singleton.mp hj]; exact hkc
    · rw [List.length_append]; simp; exact hl
theorem lcs_range {n d : Nat} (st0 : Strm S H1 t0) (nD : H1 D = none) (hn : n ≤ 1000) (ht : ∀ (i : Nat) H t, i < n → Step S H1 t0 H t (d * i) → TurnS S c d g tt te vs σ (.int (0 + (i : Int))) H t) (hd : ∀ H, PvS S c d H1 t0 D n H → Qd H) :
    ∃ W : Nat → Nat → Hp → Prop, (∃ m, W 0 m (upd H1 D (.lst []))) ∧ ∀ i m H, W i m H →
      ((Itr 0 n).stop i H ∧ Qd H) ∨ ((Itr 0 n).go i H ∧ ∃ Nx : Hp → Prop, (∀ H', Nx H' → ∃ m', m' < m ∧ W (i + 1) m' H') ∧ ∀ x H', (Itr 0 n).yld i H x H' → g x (wipe σ vs) H' fun σ2 H2 => wipe σ2 vs = wipe σ vs ∧ tt σ2 H2 fun b H3 =>
        if b = true then te σ2 H3 fun y H4 => ∃ acc, H4 D = some (.lst acc) ∧ acc.length < sizeLine ∧ Nx (upd H4 D (.lst (acc ++ [y]))) else Nx H3) :=
  lc_range (lo := 0) (n := n) (fun i H => PvS S c d H1 t0 D i H) (pvs_start st0 nD d) (fun i H hi h => pvs_turn st0 nD (by omega) h fun t s => ht i H t hi s) hd
theorem lcs_list {ms : List Nat} {d : Nat} (st0 : Strm S H1 t0) (nD : H1 D = none) (hA : H1 a = some (.lst (vm ms))) (as : a ≠ S.s) (ap : a ≠ S.p) (hn : ms.length ≤ 1000)
    (ht : ∀ (i : Nat) (m : Nat) H t, ms[i]? = some m → Step S H1 t0 H t (d * i) → TurnS S c d g tt te vs σ (.int (m : Int)) H t) (hd : ∀ H, PvS S c d H1 t0 D ms.length H → Qd H) :
    ∃ W : Nat → Nat → Hp → Prop, (∃ m, W 0 m (upd H1 D (.lst []))) ∧ ∀ i m H, W i m H →
      ((Itl K a).stop i H ∧ Qd H) ∨ ((Itl K a).go i H ∧ ∃ Nx : Hp → Prop, (∀ H', Nx H' → ∃ m', m' < m ∧ W (i + 1) m' H') ∧ ∀ x H', (Itl K a).yld i H x H' → g x (wipe σ vs) H' fun σ2 H2 => wipe σ2 vs = wipe σ vs ∧ tt σ2 H2 fun b H3 =>
        if b = true then te σ2 H3 fun y H4 => ∃ acc, H4 D = some (.lst acc) ∧ acc.length < sizeLine ∧ Nx (upd H4 D (.lst (acc ++ [y]))) else Nx H3) := by
  refine lc_list (xs := vm ms) (fun i H => PvS S c d H1 t0 D i H) (pvs_start st0 nD d) (fun i H _ h => ?_) (fun i x H hx h => ?_) (fun H h => ?_)
  · obtain ⟨_, _, s, _⟩ := h
    exact SqL.of (s.keep a _ as ap hA)
  · obtain ⟨m, hm, rfl⟩ := mem_vm hx
    have hi : i < ms.length := (List.getElem?_eq_some_iff.mp hm).1
    exact pvs_turn st0 nD (by omega) h fun t s => ht i m H t hm s
  · rw [vm_len] at h
    exact hd H h
end
end XT
/-! the law's own call, where no repr is under way; repr of data -/
namespace XT
open PySem PySem.Spec PyProof.Rows L2
def RunC (P : Program) (w : World) (K : PySem.W.Frag) (mg : Str → Option Value) (base : Heap) (k : Nat) (f : Addr) (sp : Sp) : Prop :=
  ∀ (s : Shared) (H : Hp) (u : Value) (v : V) (Q : VK), Room k callerA → Env0 P w K mg base callerA [] s H → RelV v u → sp [v] H Q E0 → codeAny (model P w) callerA (.call (.ref f) ⟨[u], []⟩) (CR CX0 [] P w H s Q E0) s
section
variable {P : Program} {w : World} {K : PySem.W.Frag} {mg : Str → Option Value} {base : Heap}
theorem run_law {x par : Str} {st : Stmt} {f : Addr} {fd : FuncData} {N : List Str} {k : Nat} {sp : Sp} (F : Fun K x x st f fd) (S : FnScope N [par] (defScope st))
    (hb : ∀ (kV doc pm : Value) (an : Option Addr) (cdv ct u : Value), bindArgs (PySem.W.fnOf x x (defArgs st) (defBody st) (defScope st) .none kV doc pm an cdv ct) ⟨[u], []⟩ = pure [(par, u)])
    (hbody : ∀ (cdv : Value) (s : Shared) (H : Hp) (v : V) (Q : VK), Room k (callerA.deeper (envOfC x (defScope st) s.heap.objs.size f cdv)) → sp [v] H Q E0 →
      ∃ t, PSs (cxOf CX0 P w K mg base N x (defScope st) f cdv callerA [] s H E0).nox (defBody st) t ∧ t { nx := fun _ H' => Q .non H', rt := Q } (start N [v]) H) : RunC P w K mg base (k + 1) f sp := by
  obtain ⟨oc, od, kV, doc, pm, an, cdv, ct, osl, rfl, lk, hcd⟩ := F.ex
  intro s H u v Q hr e0 rv hsp
  refine StX.run_bnd lk hcd S hr e0 (G := fun vs H2 => vs = [v] ∧ H2 = H) (fun A2 Ex Q2 h => ?_) fun s2 H2 vs ⟨ev, eH⟩ hr2 => ?_
  · rw [hb kV doc pm an cdv ct u]
    exact wpAny_pure (h s H [v] [u] e0 Un.refl rfl (fun _ _ z => z) (.cons rv .nil) rfl ⟨rfl, rfl⟩)
  · subst ev eH
    obtain ⟨t, h1, h2⟩ := hbody cdv s2 H2 v Q hr2 hsp
    exact ⟨t, h1.nox, h2⟩
/-- from the law's promise to what the row asks of its call -/
theorem law_end {mb : Str → Option Value} {k : Nat} {fa a : Addr} {sp : Sp} {s1 : Shared} {vs : List Value} {ns : List Int} (KX : K.In s1.heap) (hns : s1.heap.Ns mainGlobals mg) (hb : s1.heap.Ns builtinsNs mb)
    (hbb : ∀ x : Str, x ≠ "__name__" → mb x = bootBuiltins x) (hlim : s1.heap.NoLimit) (hg : s1.gens = #[]) (ha : s1.heap.get? a = some { cls := .type "list", data := .seq vs.toArray }) (hi : IntsAre vs ns) (hl : ns.length ≤ sizeLine)
    (hr : Room k callerA) (F : ∀ base : Heap, K.In base → base.Ns mainGlobals mg → RunC P w K mg base k fa sp) (hsp : ∀ H : Hp, SqL K H a (ns.map V.int) → sp [.ref a] H (fun v _ => v = .bl true) E0) :
    codeAny (model P w) callerA (.call (.ref fa) ⟨[.ref a], []⟩) (fun r s2 => r = .ok (.ret (.bool true)) ∧ OldK s1.heap s2.heap ∧ s2.os = s1.os ∧ AllBare s2.gens) s1 := by
  have rv : Vals (ns.map V.int) vs := vals_of_ints hi
  have nl := hi.length
  have go : ∀ H : Hp, SqL K H a (ns.map V.int) → HOk P w H s1.heap → (∀ b, H b = none ∨ (b = a ∧ K.lookup a = none ∧ ∃ o xs, H b = some (.frz o (.lst xs)))) →
      codeAny (model P w) callerA (.call (.ref fa) ⟨[.ref a], []⟩) (fun r s2 => r = .ok (.ret (.bool true)) ∧ OldK s1.heap s2.heap ∧ s2.os = s1.os ∧ AllBare s2.gens) s1 := by
    intro H hS hok hO
    have nsK : ∀ {b : Addr} {m : Str → Option Value}, s1.heap.Ns b m → (hidT s1.heap H).Ns b m := fun {b m} ⟨o, es, ep, e, d, r⟩ => by
      refine ⟨o, es, ep, hidT_get e ?_, d, r⟩
      rcases hO b with z | ⟨z, _, _⟩
      · exact z
      · rw [z, ha] at e
        cases e
        have d2 : Data.seq vs.toArray _ = Data.dict es ep := d
        cases d2
    have kb : K.In (hidT s1.heap H) := fun b o e => by
      refine hidT_get (KX b o e) ?_
      rcases hO b with z | ⟨z, y, _⟩
      · exact z
      · rw [z, y] at e; cases e
    have M : Mod K mg (hidT s1.heap H) := ⟨kb, nsK hns, ⟨mb, nsK hb, hbb⟩, let ⟨mc, h1, h2⟩ := hlim; ⟨mc, nsK h1, h2⟩⟩
    have e0 : Env0 P w K mg (hidT s1.heap H) callerA [] s1 H := ⟨rfl, M, fun b o e => of_hidT e, Nat.le_of_eq (hidT_size _ _), trivial, fun b z => absurd (show b ∈ ([] : List Addr) from z) (by simp), hok, .of_eq hg⟩
    refine codeAny_mono (F _ kb (nsK hns) s1 H (.ref a) (.ref a) _ hr e0 rfl (hsp H hS)) fun r s2 z => ?_
    match r, z with
    | .error e, z => exact z.elim
    | .ok .next, z => exact z.elim
    | .ok .brk, z => exact z.elim
    | .ok .cont, z => exact z.elim
    | .ok (.ret u), z =>
      obtain ⟨v, H2, os, bare, un, hok2, rr, q⟩ := z
      have q : v = .bl true := q
      subst q
      obtain rfl : u = Value.bool true := rr
      refine ⟨rfl, OldK.of_keep fun b o e => ?_, os, bare⟩
      rcases hO b with y | ⟨_, _, ob, xs, y⟩
      · exact un.keep b o e y (fun z => absurd (show b ∈ ([] : List Addr) from z) (by simp)) (by simp)
      · obtain ⟨g1, _⟩ := hok b _ y
        obtain ⟨g2, _⟩ := hok2 b _ (un.frzs b ob _ y)
        rw [e] at g1
        cases g1
        exact g2
  cases hk : K.lookup a with
  | some o =>
    have e := KX a o hk
    rw [ha] at e
    cases e
    exact go (fun _ => none) (.inr ⟨_, vs.toArray, _, hk, rfl, rfl, rfl, by rw [List.size_toArray, nl]; exact hl, by simpa using rv⟩) (fun b u z => nomatch z) fun _ => .inl rfl
  | none =>
    refine go (upd (fun _ => none) a (.frz { cls := .type "list", data := .seq vs.toArray } (.lst (ns.map V.int)))) (.inl (.inr ⟨_, upd_same⟩)) (fun b u z => ?_) fun b => ?_
    · by_cases e : b = a
      · subst e
        rw [upd_same] at z
        cases z
        exact ⟨ha, by rw [List.length_map]; exact hl, vs, _, rv, ha⟩
      · rw [upd_ne e] at z
        cases z
    · by_cases e : b = a
      · exact .inr ⟨e, hk, _, _, by rw [e]; exact upd_same⟩
      · exact .inl (upd_ne e)
end
theorem walk_ofC {l : PySem.W.OpenLaw} {n k : Nat} {q : Program} {loose : List Str} {XP : (Str → Option Value) → Heap → Prop} {YP : World → Heap → Prop} {d : DefRec} {K : Params → PySem.W.Frag} {sp : World → Sp}
    (hn : l.most = some n) (hn2 : n ≤ sizeLine) (hdf : d.params.defaults = []) (hr : Room k callerA) (hY : ∀ (w : World) (h : Heap), YP w h → (K w.params).In h)
    (F : ∀ (w : World) (mg : Str → Option Value) (fa : Addr) (h : Heap), (K w.params).In h → h.Ns mainGlobals mg → mg d.name = some (.ref fa) → ∀ base : Heap, (K w.params).In base → base.Ns mainGlobals mg → RunC l.prog w (K w.params) mg base k fa (sp w))
    (hsp : ∀ (w : World) (H : Hp) (a : Addr) (ns : List Int), ns.length ≤ n → SqL (K w.params) H a (ns.map V.int) → sp w [.ref a] H (fun v _ => v = .bl true) E0) :
    PySem.W.WalkO q loose XP YP l.row.toRowW d [] (fun f vs => PySem.call f vs) :=
  Att.attach_call hn hdf fun w s0 s1 mg mb fa o pm cd doc a vs ns G Y ho hd hcd hmg hobj hints hlen hg =>
    law_end (hY w _ Y) G.T.g G.T.b G.T.builtins G.T.nolimit hg hobj hints (Nat.le_trans hlen hn2) hr (F w mg fa _ (hY w _ Y) G.T.g hmg) fun H hS => hsp w H a ns hlen hS
/-! repr -/
section
variable {X : Cx}
def rRepr (K : PySem.W.Frag) : List V → Hp → VK → Prop := fun xs H Q => ∃ (a : Addr) (d : PyData), xs = [.ref a] ∧ Dp K H (.ref a) d ∧ SeqAt.shaped d = true ∧ d.showable = true ∧ d.shown.length ≤ sizeLine ∧ Q (.str d.shown) H
theorem cr_repr (hg : X.A.guards = some []) (hu : X.A.units + 128 < cLine) : CallR X (.builtin "repr") (rRepr X.K) := by
  intro pins s σ H xs us Q I r h
  obtain ⟨a, d, rfl, hd, hs, hw, hz, q⟩ := h
  rw [Vals.ref1 r]
  obtain ⟨as, rd⟩ := Dp.reads I d (.ref a) (.ref a) hd rfl
  have nd : d.hasDict = false := PyData.hasDict_of_canLay d (SeqAt.canLay_of_shaped hs)
  have dp := SeqAt.depth_of_shaped hs
  refine repr_of_reads' rd hw (PyData.noDict_hsm nd) hg (by omega) (fun _ _ e => e) (fun h2 u tk k => ?_) hz
  exact ⟨.str d.shown, H, I.kept (t' := tk) k, ⟨u, rfl⟩, q⟩
end
end XT
/-! how long data are when shown -/
namespace XT
open PySem PySem.Spec PyProof.Rows L2
structure Shw (d : PyData) (n k : Nat) : Prop where
  lay : PyData.canLay0 d = true
  dep : PyData.depth d ≤ k
  shw : PyData.showable d = true
  len : (PyData.shown d).length ≤ n
structure ShwAll (ds : List PyData) (n k : Nat) : Prop where
  lay : PyData.canLayAll0 ds = true
  dep : PyData.depthAll ds ≤ k
  shw : PyData.showableAll ds = true
  len : ((PyData.shownAll ds).map (·.length)).sum + 2 * (PyData.shownAll ds).length ≤ n
theorem ShwAll.nil {k : Nat} : ShwAll [] 0 k := ⟨rfl, Nat.zero_le _, rfl, Nat.le_refl _⟩
theorem ShwAll.cons {d : PyData} {ds : List PyData} {n m k : Nat} (h : Shw d n k) (t : ShwAll ds m k) : ShwAll (d :: ds) (n + 2 + m) k := by
  refine ⟨?_, ?_, ?_, ?_⟩
  · simp only [PyData.canLayAll0, h.lay, t.lay, Bool.and_self]
  · simp only [PyData.depthAll]
    exact Nat.max_le.mpr ⟨h.dep, t.dep⟩
  · simp only [PyData.showableAll, h.shw, t.shw, Bool.and_self]
  · have h1 := h.len
    have h2 := t.len
    simp only [PyData.shownAll, List.map_cons, List.sum_cons, List.length_cons]
    omega
theorem Shw.mono {d : PyData} {n m k j : Nat} (h : Shw d n k) (a : n ≤ m) (b : k ≤ j) : Shw d m j := ⟨h.lay, Nat.le_trans h.dep b, h.shw, Nat.le_trans h.len a⟩
theorem ShwAll.mono {d : List PyData} {n m k j : Nat} (h : ShwAll d n k) (a : n ≤ m) (b : k ≤ j) : ShwAll d m j := ⟨h.lay, Nat.le_trans h.dep b, h.shw, Nat.le_trans h.len a⟩
theorem ShwAll.list {ds : List PyData} {n k : Nat} (h : ShwAll ds n k) : Shw (.list ds) (n + 3) (k + 1) := by
  refine ⟨by simpa only [PyData.canLay0] using h.lay, ?_, by simpa only [PyData.showable] using h.shw, ?_⟩
  · simp only [PyData.depth]
    have := h.dep
    omega
  · simp only [PyData.shown]
    have := listText_len_le (PyData.shownAll ds)
    have := h.len
    omega
theorem ShwAll.tuple {ds : List PyData} {n k : Nat} (h : ShwAll ds n k) : Shw (.tuple ds) (n + 3) (k + 1) := by
  refine ⟨by simpa only [PyData.canLay0] using h.lay, ?_, by simpa only [PyData.showable] using h.shw, ?_⟩
  · simp only [PyData.depth]
    have := h.dep
    omega
  · simp only [PyData.shown]
    have := tupleText_len_le (PyData.shownAll ds)
    have := h.len
    omega
theorem shw_nat {m : Nat} (h : m < 1000000) : Shw (.int (m : Int)) 13 0 := by
  refine ⟨rfl, Nat.le_refl _, ?_, PyData.shown_int_le (by omega)⟩
  show decide ((m : Int).natAbs.log2 < 1920) = true
  rw [decide_eq_true_iff, Int.natAbs_natCast]
  by_cases h0 : m = 0
  · subst h0; decide
  · exact Nat.lt_of_lt_of_le ((Nat.log2_lt h0).mpr (show m < 2 ^ 20 by omega)) (by decide)
theorem shw_nats : ∀ {ms : List Nat}, (∀ m ∈ ms, m < 1000000) → ShwAll (ms.map fun (m : Nat) => PyData.int (m : Int)) (15 * ms.length) 0
  | [], _ => ShwAll.nil
  | m :: ms, h => by
    have := ShwAll.cons (shw_nat (h m List.mem_cons_self)) (shw_nats (ms := ms) fun x hx => h x (List.mem_cons_of_mem _ hx))
    exact this.mono (by rw [List.length_cons]; omega) (Nat.le_refl _)
theorem shw_lot {n : Nat} (hn : n ≤ 6) (p : Nat → Bool) : Shw (dLot n p) 1000 2 := by
  have h6 := pow6 (w := n) hn
  have hl := lot_len hn p
  have h := (shw_nats (ms := lotOf n p) fun m hm => by have := (mem_lot.mp hm).1; omega).tuple
  have := (ShwAll.cons ((shw_nat (m := n) (by omega)).mono (Nat.le_refl _) (Nat.zero_le 1)) (ShwAll.cons (h.mono (Nat.le_refl _) (by omega)) ShwAll.nil)).tuple
  exact this.mono (by omega) (by omega)
theorem shw_width (i : Nat) (h : i < 1000000) : Shw (.list [.str "width", .int (i : Int)]) 1000 2 := by
  have hs : Shw (.str "width") 10 0 := ⟨by decide +kernel, Nat.le_refl _, rfl, by decide +kernel⟩
  exact (ShwAll.cons hs (ShwAll.cons (shw_nat h) ShwAll.nil)).list.mono (by omega) (by omega)
theorem shw_two {a b : PyData} {n m k : Nat} (ha : Shw a n k) (hb : Shw b m k) : Shw (.list [a, b]) (n + m + 7) (k + 1) := (ShwAll.cons ha (ShwAll.cons hb ShwAll.nil)).list.mono (by omega) (by omega)
theorem Shw.shaped {d : PyData} {n k : Nat} (hs : Shw d n k) (hk : k ≤ 64) : SeqAt.shaped d = true := by
  unfold SeqAt.shaped
  rw [hs.lay, decide_eq_true (Nat.le_trans hs.dep hk)]
  rfl
theorem Shw.sz {d : PyData} {n k : Nat} (hs : Shw d n k) (hn : n ≤ 10000000) : d.shown.length ≤ sizeLine := by
  rw [sizeLine_eq]
  have := hs.len
  omega
end XT
/-! lots with their widths; a comprehension of drawn lots; when two lots are equal -/
namespace XT
open PySem PySem.Spec PyProof.Rows L2
abbrev rXor : R2 := rI0 fun i j => .int (Builtin.bitXor i j)
/-- f(..) by its promise, as pe_def reads it -/
abbrev tDf (sp : Sp) (t : TA) : TE := fun σ H Q => t σ H fun vs H1 => sp vs H1 Q E0
structure Lt where
  v : V
  n : Nat
  p : Nat → Bool
def LtAt (H : Hp) (l : Lt) : Prop := LotAt H l.v l.n l.p ∧ 1 ≤ l.n ∧ l.n ≤ 6
theorem LtAt.same {H H' : Hp} {l : Lt} (h : LtAt H l) (e : Same H H') : LtAt H' l := ⟨h.1.same e, h.2⟩
theorem lt_keep {S : Sm} {H H' : Hp} {t : Int} {l : Lt} (h : LtAt H l) (k : Keep S H H') (st : Strm S H t) : LtAt H' l := ⟨h.1.keep k st, h.2⟩
theorem at_ne' {H : Hp} {a b : Addr} {x y : HO} (h1 : H a = some x) (h2 : H b = some y) (n : x ≠ y) : b ≠ a := fun e => by
  rw [e, h1] at h2
  exact n (Option.some.inj h2)
theorem lot_upd {H : Hp} {R : Addr} {xs ys : List V} {v : V} {n : Nat} {p : Nat → Bool} (hR : H R = some (.lst xs)) (h : LotAt H v n p) : LotAt (upd H R (.lst ys)) v n p := by
  obtain ⟨x, y, rfl, hx, hy⟩ := h
  exact ⟨x, y, rfl, by rw [upd_ne (at_ne' hR hx (by simp))]; exact hx, by rw [upd_ne (at_ne' hR hy (by simp))]; exact hy⟩
theorem strm_upd {S : Sm} {H : Hp} {t : Int} {R : Addr} {o : HO} (h : Strm S H t) (n1 : R ≠ S.s) (n2 : R ≠ S.p) (n3 : R ≠ S.q) : Strm S (upd H R o) t := by
  obtain ⟨big, s⟩ := h
  exact ⟨big, by rw [upd_ne (Ne.symm n1)]; exact s.hs, by rw [upd_ne (Ne.symm n2)]; exact s.hp, by rw [upd_ne (Ne.symm n3)]; exact s.hq, s.sp, s.sq, s.pq, s.ne, s.t0⟩
theorem strm_ne {S : Sm} {H : Hp} {t : Int} {R : Addr} (h : Strm S H t) (n : H R = none) : R ≠ S.s ∧ R ≠ S.p ∧ R ≠ S.q := by
  obtain ⟨big, s⟩ := h
  exact ⟨(ne_of_none s.hs n).symm, (ne_of_none s.hp n).symm, (ne_of_none s.hq n).symm⟩
mutual
theorem Dp_same {K : PySem.W.Frag} {H H' : Hp} (e : Same H H') : ∀ {v : V} {d : PyData}, Dp K H v d → Dp K H' v d
  | _, _, .non => .non
  | _, _, .bl b => .bl b
  | _, _, .int i => .int i
  | _, _, .str x => .str x
  | _, _, .lst h a => .lst (e.seq h) (DpAll_same e a)
  | _, _, .tup h a => .tup (Same.sqT e h) (DpAll_same e a)
theorem DpAll_same {K : PySem.W.Frag} {H H' : Hp} (e : Same H H') : ∀ {vs : List V} {ds : List PyData}, DpAll K H vs ds → DpAll K H' vs ds
  | _, _, .nil => .nil
  | _, _, .cons h a => .cons (Dp_same e h) (DpAll_same e a)
end
/-! a list of one's own is changed: what was there before it is still there -/
theorem same_upd {H0 H : Hp} {R : Addr} {o : HO} (h : Same H0 H) (n : H0 R = none) : Same H0 (upd H R o) := fun b x e => by
  rw [upd_ne (ne_of_none e n)]
  exact h b x e
/-! tuples of masks -/
def TupAt (H : Hp) (v : V) (ms : List Nat) : Prop := ∃ q, v = .ref q ∧ H q = some (.tup (vm ms))
theorem TupAt.same {H H' : Hp} {v : V} {ms : List Nat} (h : TupAt H v ms) (e : Same H H') : TupAt H' v ms := by
  obtain ⟨q, rfl, h⟩ := h
  exact ⟨q, rfl, e _ _ h⟩
theorem TupAt.dp {K : PySem.W.Frag} {H : Hp} {v : V} {ms : List Nat} (h : TupAt H v ms) : Dp K H v (.tuple (ms.map fun (m : Nat) => .int (m : Int))) := by
  obtain ⟨q, rfl, h⟩ := h
  exact .tup (SqT.of h) (dpVm _)
theorem shw_tup {n : Nat} (hn : n ≤ 6) (p : Nat → Bool) : Shw (.tuple ((lotOf n p).map fun (m : Nat) => PyData.int (m : Int))) 1000 1 := by
  have h6 := pow6 (w := n) hn
  have hl := lot_len hn p
  have h := (shw_nats (ms := lotOf n p) fun m hm => by have := (mem_lot.mp hm).1; omega).tuple
  exact h.mono (by omega) (by omega)
/-! when two lists of numbers, two lots are equal -/
theorem eqv_nats : ∀ ms ks : List Nat, PyData.eqvAll (ms.map fun (m : Nat) => PyData.int (m : Int)) (ks.map fun (m : Nat) => PyData.int (m : Int)) = decide (ms = ks)
  | [], [] => rfl
  | [], k :: ks => by simp [PyData.eqvAll]
  | m :: ms, [] => by simp [PyData.eqvAll]
  | m :: ms, k :: ks => by
    have h := eqv_nats ms ks
    simp only [List.map_cons, PyData.eqvAll, PyData.eqv, h]
    rw [Bool.eq_iff_iff]
    simp only [Bool.and_eq_true, decide_eq_true_iff, beq_iff_eq, List.cons.injEq]
    constructor
    · rintro ⟨a, b⟩
      exact ⟨by omega, b⟩
    · rintro ⟨a, b⟩
      exact ⟨by omega, b⟩
theorem lot_eq_iff {n : Nat} {p r : Nat → Bool} : lotOf n p = lotOf n r ↔ ∀ m, m < 2 ^ n → p m = r m := by
  refine ⟨fun h m hm => ?_, lot_congr⟩
  have h2 : m ∈ lotOf n p ↔ m ∈ lotOf n r := by rw [h]
  rw [mem_lot, mem_lot] at h2
  rw [Bool.eq_iff_iff]
  exact ⟨fun z => (h2.mp ⟨hm, z⟩).2, fun z => (h2.mpr ⟨hm, z⟩).2⟩
theorem eqv_lots (n : Nat) (p r : Nat → Bool) : PyData.eqv (dLot n p) (dLot n r) = decide (∀ m, m < 2 ^ n → p m = r m) := by
  simp only [dLot, PyData.eqv, PyData.eqvAll, eqv_nats]
  rw [Bool.eq_iff_iff]
  simp [lot_eq_iff]
/-- what one turn must do: the stream is drawn from at most d times, and what is kept is a lot -/
def TurnL (S : Sm) (d : Nat) (g : TG) (tt : TT) (te : TE) (vs : List Nat) (σ : L2.St) (x : V) (H : Hp) (t : Int) : Prop :=
  ∀ (R1 : Hp → Prop) (R2 : V → Hp → Prop), (∀ (l : Lt) H4 t4, Step S H t H4 t4 d → LtAt H4 l → R2 l.v H4) →
    g x (wipe σ vs) H fun σ2 H2 => wipe σ2 vs = wipe σ vs ∧ tt σ2 H2 fun b H3 => if b = true then te σ2 H3 R2 else R1 H3
def PvL (S : Sm) (d : Nat) (H1 : Hp) (t0 : Int) (D : Addr) (i : Nat) (H : Hp) : Prop := ∃ (ls : List Lt) (t : Int), Step S H1 t0 H t (d * i) ∧ H D = some (.lst (ls.map (·.v))) ∧ (∀ l ∈ ls, LtAt H l) ∧ ls.length = i
theorem lcl_range {g : TG} {tt : TT} {te : TE} {vs : List Nat} {σ : L2.St} {H1 : Hp} {D : Addr} {Qd : Hp → Prop} {S : Sm} {t0 : Int} {n d : Nat} (st0 : Strm S H1 t0) (nD : H1 D = none) (hn : n ≤ 1000)
    (ht : ∀ (i : Nat) H t, i < n → Step S H1 t0 H t (d * i) → TurnL S d g tt te vs σ (.int (0 + (i : Int))) H t) (hd : ∀ H, PvL S d H1 t0 D n H → Qd H) :
    ∃ W : Nat → Nat → Hp → Prop, (∃ m, W 0 m (upd H1 D (.lst []))) ∧ ∀ i m H, W i m H →
      ((Itr 0 n).stop i H ∧ Qd H) ∨ ((Itr 0 n).go i H ∧ ∃ Nx : Hp → Prop, (∀ H', Nx H' → ∃ m', m' < m ∧ W (i + 1) m' H') ∧ ∀ x H', (Itr 0 n).yld i H x H' → g x (wipe σ vs) H' fun σ2 H2 => wipe σ2 vs = wipe σ vs ∧ tt σ2 H2 fun b H3 =>
        if b = true then te σ2 H3 fun y H4 => ∃ acc, H4 D = some (.lst acc) ∧ acc.length < sizeLine ∧ Nx (upd H4 D (.lst (acc ++ [y]))) else Nx H3) := by
  refine lc_range (lo := 0) (n := n) (fun i H => PvL S d H1 t0 D i H) ⟨[], t0, ((Step.refl st0).same (same_new nD)).mono (Nat.zero_le _), upd_same, by simp, rfl⟩ (fun i H hi h => ?_) hd
  obtain ⟨ls, t, stp, hD, hall, hl⟩ := h
  refine ht i H t hi stp _ _ (fun l H4 t4 s4 hl4 => ?_)
  have hD4 := s4.keep.mine st0 nD hD
  refine ⟨_, hD4, small64 (by rw [List.length_map]; omega), ls ++ [l], t4, ?_, ?_, ?_, ?_⟩
  · have z := stp.trans s4
    obtain ⟨nDs, nDp, nDq⟩ := strm_ne st0 nD
    refine ⟨fun b o n1 n2 e => ?_, strm_upd z.st nDs nDp nDq, z.lo, by have := z.hi; rw [Nat.mul_succ]; exact this⟩
    rw [upd_ne (ne_of_none e nD)]
    exact z.keep b o n1 n2 e
  · rw [upd_same, List.map_append]; rfl
  · intro j hj
    have h6 : LtAt H4 j := by
      rcases List.mem_append.mp hj with hj | hj
      · exact lt_keep (hall j hj) s4.keep stp.st
      · rw [List.mem_singleton.mp hj]; exact hl4
    exact ⟨lot_upd hD4 h6.1, h6.2⟩
  · rw [List.length_append, hl]; rfl
end XT
/-! more of lots, of lists and tuples of masks -/
namespace XT
open PySem PySem.Spec PyProof.Rows L2
theorem bList : bootBuiltins "list" = some (.type "list") := by decide +kernel
theorem bSum : bootBuiltins "sum" = some (.builtin "sum") := by decide +kernel
theorem bMin : bootBuiltins "min" = some (.builtin "min") := by decide +kernel
theorem bMax : bootBuiltins "max" = some (.builtin "max") := by decide +kernel
theorem lot_none (n : Nat) : lotOf n (fun _ => false) = [] := by
  unfold lotOf
  rw [List.filter_eq_nil_iff]
  intro m _
  decide
theorem lot_nil_iff {n : Nat} {p : Nat → Bool} : lotOf n p = [] ↔ ∀ m, m < 2 ^ n → p m = false := by
  unfold lotOf
  rw [List.filter_eq_nil_iff]
  simp
theorem range_lot (n : Nat) : rgV 0 ((2 ^ n : Nat) : Int) = vm (lotOf n fun _ => true) := by
  unfold rgV vm lotOf
  rw [List.filter_eq_self.mpr (fun _ _ => rfl), Int.sub_zero]
  show List.map (fun (i : Nat) => V.int (0 + (i : Int))) (List.range (2 ^ n)) = _
  exact List.map_congr_left fun m _ => by rw [Int.zero_add]
theorem lot_take {n : Nat} {p : Nat → Bool} {i : Nat} (hi : i < 2 ^ n) : ((List.range (2 ^ n)).take (i + 1)).filter p = ((List.range (2 ^ n)).take i).filter p ++ (if p i = true then [i] else []) := by
  have h := take_one (id : Nat → Nat) p (xs := List.range (2 ^ n)) (i := i) (x := i) (List.getElem?_range hi)
  simpa using h
theorem nats_shaped (ns : List Nat) : SeqAt.shaped (.list (ns.map fun (m : Nat) => PyData.int (m : Int))) = true := by
  have h := ke_shaped (ns.map fun (m : Nat) => (m : Int))
  rw [List.map_map] at h
  exact h
theorem tupN_shaped (ms : List Nat) : SeqAt.shaped (.tuple (ms.map fun (m : Nat) => PyData.int (m : Int))) = true := by
  have h1 : PyData.canLay0 (.tuple (ms.map fun (m : Nat) => PyData.int (m : Int))) = true := by
    have h := ints_lay ms
    simp [PyData.canLay0, h]
  have h2 : PyData.depth (.tuple (ms.map fun (m : Nat) => PyData.int (m : Int))) ≤ 64 := by
    have h := ints_depth ms
    simp only [PyData.depth]
    omega
  unfold SeqAt.shaped
  rw [h1, decide_eq_true h2]
  rfl
theorem eqv_lstN (ms ks : List Nat) : PyData.eqv (.list (ms.map fun (m : Nat) => PyData.int (m : Int))) (.list (ks.map fun (m : Nat) => PyData.int (m : Int))) = decide (ms = ks) := by
  have h := eqv_nats ms ks
  simpa [PyData.eqv] using h
theorem eqv_tupN (ms ks : List Nat) : PyData.eqv (.tuple (ms.map fun (m : Nat) => PyData.int (m : Int))) (.tuple (ks.map fun (m : Nat) => PyData.int (m : Int))) = decide (ms = ks) := by
  have h := eqv_nats ms ks
  simpa [PyData.eqv] using h
theorem eqv_nilN (ms : List Nat) : PyData.eqv (.list (ms.map fun (m : Nat) => PyData.int (m : Int))) (.list []) = decide (ms = []) := eqv_lstN ms []
/-- a list of masks -/
def LsN (H : Hp) (v : V) (ms : List Nat) : Prop := ∃ q, v = .ref q ∧ H q = some (.lst (vm ms))
theorem LsN.same {H H' : Hp} {v : V} {ms : List Nat} (h : LsN H v ms) (e : Same H H') : LsN H' v ms := by
  obtain ⟨q, rfl, h⟩ := h
  exact ⟨q, rfl, e _ _ h⟩
theorem LsN.dp {K : PySem.W.Frag} {H : Hp} {v : V} {ms : List Nat} (h : LsN H v ms) : Dp K H v (.list (ms.map fun (m : Nat) => .int (m : Int))) := by
  obtain ⟨q, rfl, h⟩ := h
  exact .lst (SqL.of h) (dpVm _)
/-- a != b of tuples, of lists of masks -/
theorem ne_tupN {K : PySem.W.Frag} {H : Hp} {x y : V} {ms ks : List Nat} {Q : VK} (hx : TupAt H x ms) (hy : TupAt H y ks) (q : Q (.bl (!decide (ms = ks))) H) : rNeD K x y H Q := by
  refine ⟨_, _, hx.dp, hy.dp, tupN_shaped _, tupN_shaped _, ?_⟩
  rw [eqv_tupN]
  exact q
theorem eq_tupN {K : PySem.W.Frag} {H : Hp} {x y : V} {ms ks : List Nat} {Q : VK} (hx : TupAt H x ms) (hy : TupAt H y ks) (q : Q (.bl (decide (ms = ks))) H) : rEqD K x y H Q := by
  refine ⟨_, _, hx.dp, hy.dp, tupN_shaped _, tupN_shaped _, ?_⟩
  rw [eqv_tupN]
  exact q
theorem ne_lstN {K : PySem.W.Frag} {H : Hp} {x y : V} {ms ks : List Nat} {Q : VK} (hx : LsN H x ms) (hy : LsN H y ks) (q : Q (.bl (!decide (ms = ks))) H) : rNeD K x y H Q := by
  refine ⟨_, _, hx.dp, hy.dp, nats_shaped _, nats_shaped _, ?_⟩
  rw [eqv_lstN]
  exact q
theorem eq_lstN {K : PySem.W.Frag} {H : Hp} {x y : V} {ms ks : List Nat} {Q : VK} (hx : LsN H x ms) (hy : LsN H y ks) (q : Q (.bl (decide (ms = ks))) H) : rEqD K x y H Q := by
  refine ⟨_, _, hx.dp, hy.dp, nats_shaped _, nats_shaped _, ?_⟩
  rw [eqv_lstN]
  exact q
theorem ne_lots {K : PySem.W.Frag} {H : Hp} {x y : V} {w : Nat} {P P' : Nat → Bool} {Q : VK} (hx : LotAt H x w P) (hy : LotAt H y w P') (q : Q (.bl (!decide (∀ m, m < 2 ^ w → P m = P' m))) H) : rNeD K x y H Q := by
  refine ⟨_, _, hx.dp, hy.dp, dLot_shaped _ _, dLot_shaped _ _, ?_⟩
  rw [eqv_lots]
  exact q
theorem eq_lots {K : PySem.W.Frag} {H : Hp} {x y : V} {w : Nat} {P P' : Nat → Bool} {Q : VK} (hx : LotAt H x w P) (hy : LotAt H y w P') (q : Q (.bl (decide (∀ m, m < 2 ^ w → P m = P' m))) H) : rEqD K x y H Q := by
  refine ⟨_, _, hx.dp, hy.dp, dLot_shaped _ _, dLot_shaped _ _, ?_⟩
  rw [eqv_lots]
  exact q
theorem nodup_lot (n : Nat) (p : Nat → Bool) : (lotOf n p).Nodup := by
  unfold lotOf
  exact List.Pairwise.filter _ (List.nodup_range)
theorem nodup_xor (a : Nat) {l : List Nat} (h : l.Nodup) : (l.map fun (m : Nat) => ((m ^^^ a : Nat) : Int)).Nodup := by
  unfold List.Nodup at h ⊢
  rw [List.pairwise_map]
  refine h.imp fun {x y} hxy e => hxy ?_
  have e2 : x ^^^ a = y ^^^ a := by omega
  have e3 := congrArg (· ^^^ a) e2
  simpa [Nat.xor_assoc] using e3
theorem xor_back (m a : Nat) : m ^^^ a ^^^ a = m := by rw [Nat.xor_assoc, Nat.xor_self, Nat.xor_zero]
/-- sorted([x ^ a for x in lot]) -/
theorem sort_xor {n a : Nat} {p : Nat → Bool} {ns : List Int} (ha : a < 2 ^ n) (perm : ns.Perm ((lotOf n p).map fun (m : Nat) => ((m ^^^ a : Nat) : Int))) (asc : ns.Pairwise (· ≤ ·)) : ns.map V.int = vm (lotOf n fun m => p (m ^^^ a)) := by
  have nd : ns.Nodup := by
    rw [perm.nodup_iff]
    exact nodup_xor a (nodup_lot n p)
  refine rising_lot (lt_of_le_nodup ns asc nd) fun k => ?_
  rw [perm.mem_iff, List.mem_map]
  constructor
  · rintro ⟨m, hm, rfl⟩
    obtain ⟨h1, h2⟩ := mem_lot.mp hm
    exact ⟨m ^^^ a, rfl, xor_lt h1 ha, by rw [xor_back]; exact h2⟩
  · rintro ⟨m, rfl, h1, h2⟩
    exact ⟨m ^^^ a, mem_lot.mpr ⟨xor_lt h1 ha, h2⟩, by rw [xor_back]⟩
theorem iteNT {A B : Prop} {b : Bool} (h : b = false) (x : B) : if b = true then A else B := by rw [h]; exact x
end XT
/-! comprehensions whose turns lay new things, of which something is known -/
namespace XT
open PySem PySem.Spec PyProof.Rows L2
section
variable {K : PySem.W.Frag} {a : Addr} {g : TG} {tt : TT} {te : TE} {vs : List Nat} {σ : L2.St} {H1 : Hp} {D : Addr} {Qd : Hp → Prop} {G : Nat → V → Hp → Prop}
/-- what is known stays when new things are laid, and when a list is changed -/
structure Stay (G : Nat → V → Hp → Prop) : Prop where
  same : ∀ {j y H H'}, G j y H → Same H H' → G j y H'
  put : ∀ {j y H D xs ys}, G j y H → H D = some (.lst xs) → G j y (upd H D (.lst ys))
def TurnG (G : Nat → V → Hp → Prop) (g : TG) (tt : TT) (te : TE) (vs : List Nat) (σ : L2.St) (i : Nat) (x : V) (H : Hp) : Prop :=
  ∀ (R1 : Hp → Prop) (R2 : V → Hp → Prop), (∀ y H4, Same H H4 → G i y H4 → R2 y H4) →
    g x (wipe σ vs) H fun σ2 H2 => wipe σ2 vs = wipe σ vs ∧ tt σ2 H2 fun b H3 => if b = true then te σ2 H3 R2 else R1 H3
def PvG (H1 : Hp) (D : Addr) (G : Nat → V → Hp → Prop) (i : Nat) (H : Hp) : Prop := Same H1 H ∧ ∃ ys, H D = some (.lst ys) ∧ ys.length = i ∧ ∀ j y, ys[j]? = some y → G j y H
theorem pvg_turn {i : Nat} {x : V} {H : Hp} (hG : Stay G) (nD : H1 D = none) (hi : i ≤ 1000) (h : PvG H1 D G i H) (ht : TurnG G g tt te vs σ i x H) :
    g x (wipe σ vs) H fun σ2 H2 => wipe σ2 vs = wipe σ vs ∧ tt σ2 H2 fun b H3 =>
      if b = true then te σ2 H3 fun y H4 => ∃ acc, H4 D = some (.lst acc) ∧ acc.length < sizeLine ∧ PvG H1 D G (i + 1) (upd H4 D (.lst (acc ++ [y]))) else PvG H1 D G (i + 1) H3 := by
  obtain ⟨sm, ys, hD, hl, hall⟩ := h
  refine ht _ _ fun y H4 s4 gy => ⟨ys, s4 _ _ hD, small64 (by omega), same_upd (sm.trans s4) nD, ys ++ [y], upd_same, by rw [List.length_append, hl]; rfl, fun j z hz => hG.put ?_ (s4 _ _ hD)⟩
  rcases Nat.lt_or_ge j ys.length with lt | ge
  · rw [List.getElem?_append_left lt] at hz
    exact hG.same (hall j z hz) s4
  · rw [List.getElem?_append_right ge] at hz
    obtain ⟨h1, h2⟩ := List.getElem?_eq_some_iff.mp hz
    have e : j = i := by simp at h1; omega
    subst e
    have e2 : y = z := by simpa using h2
    rw [← e2]
    exact gy
theorem lcg_tup {xs : List V} (hG : Stay G) (nD : H1 D = none) (hA : SqT K H1 a xs) (hz : xs.length ≤ 1000) (ht : ∀ (i : Nat) x H, xs[i]? = some x → Same H1 H → TurnG G g tt te vs σ i x H) (hd : ∀ H, PvG H1 D G xs.length H → Qd H) :
    ∃ W : Nat → Nat → Hp → Prop, (∃ m, W 0 m (upd H1 D (.lst []))) ∧ ∀ i m H, W i m H →
      ((Itt K a).stop i H ∧ Qd H) ∨ ((Itt K a).go i H ∧ ∃ Nx : Hp → Prop, (∀ H', Nx H' → ∃ m', m' < m ∧ W (i + 1) m' H') ∧ ∀ x H', (Itt K a).yld i H x H' → g x (wipe σ vs) H' fun σ2 H2 => wipe σ2 vs = wipe σ vs ∧ tt σ2 H2 fun b H3 =>
        if b = true then te σ2 H3 fun y H4 => ∃ acc, H4 D = some (.lst acc) ∧ acc.length < sizeLine ∧ Nx (upd H4 D (.lst (acc ++ [y]))) else Nx H3) :=
  lc_tup (xs := xs) (fun i H => PvG H1 D G i H) ⟨same_new nD, [], upd_same, rfl, fun j y h => by simp at h⟩ (fun i H _ h => Same.sqT h.1 hA) (fun i x H hx h => pvg_turn hG nD (by have := (List.getElem?_eq_some_iff.mp hx).1; omega) h (ht i x H hx h.1)) hd
theorem lcg_list {xs : List V} (hG : Stay G) (nD : H1 D = none) (hA : SqL K H1 a xs) (hz : xs.length ≤ 1000) (ht : ∀ (i : Nat) x H, xs[i]? = some x → Same H1 H → TurnG G g tt te vs σ i x H) (hd : ∀ H, PvG H1 D G xs.length H → Qd H) :
    ∃ W : Nat → Nat → Hp → Prop, (∃ m, W 0 m (upd H1 D (.lst []))) ∧ ∀ i m H, W i m H →
      ((Itl K a).stop i H ∧ Qd H) ∨ ((Itl K a).go i H ∧ ∃ Nx : Hp → Prop, (∀ H', Nx H' → ∃ m', m' < m ∧ W (i + 1) m' H') ∧ ∀ x H', (Itl K a).yld i H x H' → g x (wipe σ vs) H' fun σ2 H2 => wipe σ2 vs = wipe σ vs ∧ tt σ2 H2 fun b H3 =>
        if b = true then te σ2 H3 fun y H4 => ∃ acc, H4 D = some (.lst acc) ∧ acc.length < sizeLine ∧ Nx (upd H4 D (.lst (acc ++ [y]))) else Nx H3) :=
  lc_list (xs := xs) (fun i H => PvG H1 D G i H) ⟨same_new nD, [], upd_same, rfl, fun j y h => by simp at h⟩ (fun i H _ h => h.1.seq hA) (fun i x H hx h => pvg_turn hG nD (by have := (List.getElem?_eq_some_iff.mp hx).1; omega) h (ht i x H hx h.1)) hd
theorem lcg_range {n : Nat} (hG : Stay G) (nD : H1 D = none) (hz : n ≤ 1000) (ht : ∀ (i : Nat) H, i < n → Same H1 H → TurnG G g tt te vs σ i (.int (0 + (i : Int))) H) (hd : ∀ H, PvG H1 D G n H → Qd H) :
    ∃ W : Nat → Nat → Hp → Prop, (∃ m, W 0 m (upd H1 D (.lst []))) ∧ ∀ i m H, W i m H →
      ((Itr 0 n).stop i H ∧ Qd H) ∨ ((Itr 0 n).go i H ∧ ∃ Nx : Hp → Prop, (∀ H', Nx H' → ∃ m', m' < m ∧ W (i + 1) m' H') ∧ ∀ x H', (Itr 0 n).yld i H x H' → g x (wipe σ vs) H' fun σ2 H2 => wipe σ2 vs = wipe σ vs ∧ tt σ2 H2 fun b H3 =>
        if b = true then te σ2 H3 fun y H4 => ∃ acc, H4 D = some (.lst acc) ∧ acc.length < sizeLine ∧ Nx (upd H4 D (.lst (acc ++ [y]))) else Nx H3) :=
  lc_range (lo := 0) (n := n) (fun i H => PvG H1 D G i H) ⟨same_new nD, [], upd_same, rfl, fun j y h => by simp at h⟩ (fun i H hi h => pvg_turn hG nD (by omega) h (ht i H hi h.1)) hd
end
theorem stay_lot (n : Nat) (p : Nat → Nat → Bool) : Stay (fun j y H => LotAt H y n (p j)) := ⟨fun h e => h.same e, fun h e => lot_upd e h⟩
end XT
/-! pair counts -/
namespace XT
open PySem PySem.Spec PyProof.Rows L2
def pcN (n : Nat) (p : Nat → Bool) (m : Nat) : Nat := ((lotOf n p).filter fun x => p (x ^^^ m)).length
def pcL (n : Nat) (p : Nat → Bool) : List Nat := (List.range (2 ^ n)).map (pcN n p)
def spPc : Sp := fun vs H Q _ => ∃ (v : V) (n : Nat) (p : Nat → Bool), vs = [v] ∧ LotAt H v n p ∧ n ≤ 6 ∧ ∀ H' z, Same H H' → TupAt H' z (pcL n p) → Q z H'
abbrev ttPc (K : PySem.W.Frag) : TT := tTest (tOp (rIn K false) (tOp rXor (tVar 4) (tVar 3)) (tVar 2))
abbrev rLenK (K : PySem.W.Frag) : List V → Hp → VK → Prop := fun vs H R => ∃ a zs, vs = [.ref a] ∧ (SqL K H a zs ∨ SqT K H a zs) ∧ R (.int zs.length) H
abbrev tePc (K : PySem.W.Frag) : TE := tCB (rLenK K) (tCons (tLc (iTup K (tVar 2)) (gName 4) (ttPc K) (tVar 4) [4]) tNil)
theorem pc_walk {K : PySem.W.Frag} {n : Nat} {p : Nat → Bool} {y : Addr} {H : Hp} {v1 : V} {z1 z3 z4 : Option V} {D : Addr} {Qd : Hp → Prop} (hn : n ≤ 6) (hy : H y = some (.tup (vm (lotOf n p)))) (nD : H D = none)
    (hd : ∀ H3, Same H H3 → H3 D = some (.lst (vm (pcL n p))) → Qd H3) :
    ∃ W : Nat → Nat → Hp → Prop, (∃ m, W 0 m (upd H D (.lst []))) ∧ ∀ i m H, W i m H →
      ((Itr 0 (2 ^ n)).stop i H ∧ Qd H) ∨ ((Itr 0 (2 ^ n)).go i H ∧ ∃ Nx : Hp → Prop, (∀ H', Nx H' → ∃ m', m' < m ∧ W (i + 1) m' H') ∧ ∀ x H', (Itr 0 (2 ^ n)).yld i H x H' → gName 3 x (wipe [some v1, z1, some (.ref y), z3, z4] [3]) H' fun σ2 H2 => wipe σ2 [3] = wipe [some v1, z1, some (.ref y), z3, z4] [3] ∧ tYes σ2 H2 fun c H3 =>
        if c = true then tePc K σ2 H3 fun y H4 => ∃ acc, H4 D = some (.lst acc) ∧ acc.length < sizeLine ∧ Nx (upd H4 D (.lst (acc ++ [y]))) else Nx H3) := by
  have h6 := pow6 hn
  have hl := lot_len hn p
  refine lcp_range (n := 2 ^ n) (p := fun _ => true) (f := fun m => .int (pcN n p m : Int)) nD (small64 (by omega)) (fun i H3 hi s3 => ?_) (fun H3 s3 hD => hd H3 s3 ?_)
  · intro R1 R2 h1 h2
    have hy3 := s3 _ _ hy
    refine ⟨rfl, iteT (B := R1 H3) ⟨.ref y, rfl, y, rfl, ⟨_, SqT.of hy3⟩, fun B2 nB => ?_⟩⟩
    refine lcp_tup (p := fun v => match v with | .int k => p (k.toNat ^^^ i) | _ => false) (f := id) nB (SqT.of hy3) (small64 (by rw [vm_len]; omega)) (fun k z H4 hz s4 => ?_) (fun H4 s4 hD2 => ?_)
    · intro R3 R4 h3 h4
      obtain ⟨m, hm, rfl⟩ := mem_vm hz
      have hm2 := (mem_lot.mp (List.mem_of_getElem? hm)).1
      refine ⟨rfl, _, rfl, _, rfl, (m : Int), 0 + (i : Int), rfl, rfl, .ref y, rfl, y, _, rfl, .inr (SqT.of (s4 _ _ hy3)), rfl, vm_flat _, _, rfl, ?_⟩
      have e : inV (.int (Builtin.bitXor (m : Int) (0 + (i : Int)))) (vm (lotOf n p)) = p (m ^^^ i) := by
        rw [Int.zero_add, bx, in_lot (xor_lt hm2 hi)]
      show if inV (.int (Builtin.bitXor (m : Int) (0 + (i : Int)))) (vm (lotOf n p)) = true then _ else _
      rw [e]
      refine ite2 (fun z => ?_) (fun z => ?_)
      · exact ⟨_, rfl, h4 z _ (Same.refl _)⟩
      · exact h3 (by simpa using z) _ (Same.refl _)
    · rw [vm_filter (lotOf n p) (fun m => p (m ^^^ i)) _ fun m hm => rfl] at hD2
      refine ⟨B2, _, rfl, .inl (SqL.of hD2), ?_⟩
      rw [vm_len]
      exact h2 rfl _ s4
  · rw [hD, List.filter_eq_self.mpr (fun _ _ => rfl)]
    unfold pcL vm
    rw [List.map_map]
    rfl
end XT
/-! f"{m:b}" -/
namespace XT
open PySem PySem.Spec PyProof.Rows L2 Builtin
def binL (m : Nat) : List Nat := (Nat.toDigits 2 m).map Char.toNat
def binS (m : Nat) : Str := ⟨(binL m).toArray⟩
def sB : Str := ⟨#[98]⟩
def fB : Float.FormatSpec := { align := 62, type := some 98 }
theorem binL_ne (m : Nat) : (binL m).isEmpty = false := by
  have h := toDigits_len_ge 2 m
  unfold binL
  cases e : Nat.toDigits 2 m with
  | nil => rw [e] at h; simp at h
  | cons a b => rfl
theorem field_b (m : Nat) : intField' fB false [] (binL m) [] 4 = binS m := by
  unfold intField' binS
  have h := binL_ne m
  have h1 : 1 ≤ (binL m).length := by
    cases e : binL m with
    | nil => rw [e] at h; simp at h
    | cons a b => simp
  simp only [h, fB]
  simp
theorem gives_b (m : Nat) (t u : Tok) : Gives («int.__format__» ⟨[.int (m : Int) t, .str sB u], []⟩) (.str (binS m)) := by
  intro prog w A R s hq
  unfold Builtin.«int.__format__»
  simp only [selfAndOne, noKeywords, Int.intOfSelf, asInt?, asStr?, pure_bind, bind_pure, bind_assoc, List.isEmpty_nil, if_true, show (Value.str sB u == Value.none) = false from rfl, Bool.false_eq_true, if_false]
  refine wpAny_bind (wpAny_typeNameOf (T := "str") (typeIs_str s sB u) (by decide) fun _ => ?_)
  rw [if_neg (by decide), if_neg (by decide)]
  refine wpAny_bind (wpAny_typeNameOfCut_int ?_)
  have hp : Float.parseFormatSpec sB.cps.toList "int" 62 = .ok fB := rfl
  rw [hp]
  dsimp only
  have ht : fB.type.getD (if (sB.cps.back? == some 0) = true then 0 else 100) = 98 := rfl
  rw [ht, if_pos (by decide)]
  show wpAny _ _ (retStr _) _ _ _
  unfold retStr
  have hneg : decide ((m : Int) < 0) = false := decide_eq_false (by omega)
  rw [hneg]
  change wpAny _ _ (mkStr (intField' fB false [] (binL m) [] 4) >>= fun d => ret d) _ _ _
  rw [field_b]
  exact wpAny_bind (wpAny_mkStr (wpAny_pure hq.2) hq.1)
/-- {m:b} -/
def tFmtB (te : TE) : TE := fun σ H Q => te σ H fun x H1 => ∃ m : Nat, x = .int (m : Int) ∧ m < 2 ^ 900 ∧ Q (.str (binS m)) H1
theorem binL_len {m k : Nat} (hk : 1 ≤ k) (h : m < 2 ^ k) : (binL m).length ≤ k := by
  unfold binL
  rw [List.length_map]
  exact toDigits_len_pow (by decide) hk h
theorem binS_len (m : Nat) : (binS m).length = (binL m).length := by
  unfold binS Str.length
  simp
section
variable {X : Cx}
theorem pe_fmtB {e : Expr} {te : TE} {pos p1 p2 : Pos} {j : Nat} {b : Str} (hb : b = sB) (he : PE X e te) : PE X (.FormattedValue e (-1) (some (.JoinedStr [.Constant (.str b) j p1] p2)) pos) (tFmtB te) := by
  subst hb
  have hs : PE X (.JoinedStr [.Constant (.str sB) j p1] p2) (tC (.str sB)) := pe_joined1 pe_str
  refine ⟨fun pins s σ H Q I h => ?_⟩
  refine wpAny_FormattedValue_spec (thn (he.run pins s σ H _ I h) fun v s1 hv => ?_)
  obtain ⟨x, H1, I1, r1, m, rfl, hm, q⟩ := hv
  obtain ⟨t, rfl⟩ := r1
  refine thn (hs.run pins s1 σ H1 (fun x H2 => x = .str sB ∧ H2 = H1) I1 ⟨rfl, rfl⟩) fun r s2 hr => ?_
  obtain ⟨y, H2, I2, ry, ey, eH⟩ := hr
  subst ey eH
  obtain ⟨t2, rfl⟩ := ry
  refine ⟨sB, t2, rfl, wpAny_formatField_spec (by decide) (fun s' => typeIs_int s' _ _) PySem.F.slot_int_format PySem.F.entry_int_format PySem.F.args_int_format_2 (fun u => gives_b m t u) ⟨.str (binS m), H2, I2.tok _, ⟨_, rfl⟩, q⟩ (by decide) ?_⟩
  rw [binS_len]
  exact Nat.le_trans (binL_len (by decide) hm) (sz (by decide))
end
end XT
/-! how many ones a number has -/
namespace XT
open PySem PySem.Spec PyProof.Rows L2 Builtin Builtin.Str
def pop (m : Nat) : Nat := (binL m).count 49
theorem pop_lt {m : Nat} (h : m < 2) : pop m = m := by
  have : m = 0 ∨ m = 1 := by omega
  rcases this with rfl | rfl <;> decide
theorem pop_half (m : Nat) : pop m = pop (m / 2) + m % 2 := by
  by_cases h : m < 2
  · have : m = 0 ∨ m = 1 := by omega
    rcases this with rfl | rfl <;> decide
  · unfold pop binL
    rw [Nat.toDigits_of_base_le (by decide) (by omega), List.map_append, List.count_append]
    congr 1
    have : m % 2 = 0 ∨ m % 2 = 1 := by omega
    rcases this with e | e <;> rw [e] <;> decide
theorem occ_count (s : PySem.Str) (c limit : Nat) : ∀ (k a : Nat) (st : Array Nat × Nat), st.snd ≤ a → st.fst.size + k ≤ limit →
    (forIn (List.range' a k) st (StrLaws.occBody s ⟨#[c]⟩ s.length limit)).run.fst.size = st.fst.size + ((List.range' a k).filter fun i => decide (s.cps.toList[i]? = some c)).length
  | 0, a, st, _, _ => by simp
  | k + 1, a, st, h1, h2 => by
    rw [List.range'_succ, List.forIn_cons, List.filter_cons]
    unfold StrLaws.occBody
    have hs := StrLaws.subAt_one s c a
    by_cases hc : s.cps.toList[a]? = some c
    · obtain ⟨q1, q2⟩ := hs.mpr hc
      have hif : ((st.fst.size < limit ∧ st.snd ≤ a) ∧ a + (⟨#[c]⟩ : PySem.Str).length ≤ s.length) ∧ subAt s ⟨#[c]⟩ a = true := ⟨⟨⟨by omega, h1⟩, q1⟩, q2⟩
      rw [if_pos hif, if_pos (decide_eq_true hc)]
      have ih := occ_count s c limit k (a + 1) (st.fst.push a, a + 1) (Nat.le_refl _) (by simp; omega)
      rw [Array.size_push] at ih
      rw [List.length_cons]
      refine Eq.trans ih ?_
      omega
    · have hif : ¬(((st.fst.size < limit ∧ st.snd ≤ a) ∧ a + (⟨#[c]⟩ : PySem.Str).length ≤ s.length) ∧ subAt s ⟨#[c]⟩ a = true) := fun z => hc (hs.mp ⟨z.1.2, z.2⟩)
      rw [if_neg hif, if_neg (by simpa using hc)]
      exact occ_count s c limit k (a + 1) st (by omega) (by omega)
theorem count_list (c : Nat) : ∀ l : List Nat, ((List.range' 0 (l.length + 1)).filter fun i => decide (l[i]? = some c)).length = l.count c
  | [] => by simp [List.range'_succ]
  | x :: l => by
    have ih := count_list c l
    have e : List.range' 0 ((x :: l).length + 1) = 0 :: (List.range' 0 (l.length + 1)).map (· + 1) := by
      rw [List.length_cons, List.range'_succ]
      congr 1
      rw [List.range'_eq_map_range, List.range'_eq_map_range, List.map_map]
      refine List.map_congr_left fun i _ => ?_
      show 0 + 1 + i = 0 + i + 1
      omega
    rw [e, List.filter_cons, List.filter_map, List.count_cons]
    have e2 : ((fun i => decide ((x :: l)[i]? = some c)) ∘ fun x => x + 1) = fun i => decide (l[i]? = some c) := by
      funext i
      simp
    rw [e2]
    by_cases hx : x = c
    · subst hx
      simp [ih]
    · simp [hx, ih]
theorem count_one (m : Nat) : (occurrences (binS m) ⟨#[49]⟩ 0 (binS m).length ((binS m).length + 1)).length = pop m := by
  rw [StrLaws.occ_eq, Array.length_toList]
  have h := occ_count (binS m) 49 ((binS m).length + 1) ((binS m).length + 1) 0 (#[], 0) (Nat.le_refl _) (by simp)
  have h2 := count_list 49 (binL m)
  have e : (binS m).cps.toList = binL m := by unfold binS; simp
  rw [e, binS_len] at h
  simp only [Nat.sub_zero]
  rw [binS_len]
  refine h.trans ?_
  rw [h2]
  show 0 + pop m = pop m
  omega
/-- the sign of two numbers -/
def sgn (a b : Nat) : Int := if pop (a &&& b) % 2 = 0 then 1 else -1
theorem and_half (a b : Nat) : (a &&& b) / 2 = a / 2 &&& b / 2 := Nat.and_div_two
theorem and_mod (a b : Nat) : (a &&& b) % 2 = a % 2 * (b % 2) := by
  have e : (a &&& b) &&& 1 = (a &&& 1) &&& (b &&& 1) := by
    apply Nat.eq_of_testBit_eq
    intro i
    simp only [Nat.testBit_and]
    cases a.testBit i <;> cases b.testBit i <;> cases (1 : Nat).testBit i <;> rfl
  rw [Nat.and_one_is_mod, Nat.and_one_is_mod, Nat.and_one_is_mod] at e
  rw [e]
  have h1 : a % 2 = 0 ∨ a % 2 = 1 := by omega
  have h2 : b % 2 = 0 ∨ b % 2 = 1 := by omega
  rcases h1 with h1 | h1 <;> rcases h2 with h2 | h2 <;> rw [h1, h2] <;> rfl
theorem sgn_step (a b : Nat) : sgn a b = (if a % 2 = 1 ∧ b % 2 = 1 then -1 else 1) * sgn (a / 2) (b / 2) := by
  unfold sgn
  rw [pop_half (a &&& b), and_half, and_mod]
  have h1 : a % 2 = 0 ∨ a % 2 = 1 := by omega
  have h2 : b % 2 = 0 ∨ b % 2 = 1 := by omega
  rcases h1 with h1 | h1 <;> rcases h2 with h2 | h2 <;> simp only [h1, h2] <;> simp <;> split <;> split <;> omega
theorem sgn_zeroL (b : Nat) : sgn 0 b = 1 := by
  unfold sgn
  rw [Nat.zero_and]
  decide
theorem sgn_comm (a b : Nat) : sgn a b = sgn b a := by
  unfold sgn
  rw [Nat.and_comm]
theorem sgn_zeroR (a : Nat) : sgn a 0 = 1 := by rw [sgn_comm, sgn_zeroL]
end XT
/-! signed counts -/
namespace XT
open PySem PySem.Spec PyProof.Rows L2
def scI (n : Nat) (p : Nat → Bool) (u : Nat) : Int := ((lotOf n p).map fun x => sgn u x).sum
def scL (n : Nat) (p : Nat → Bool) : List Int := (List.range (2 ^ n)).map (scI n p)
def TupI (H : Hp) (v : V) (is : List Int) : Prop := ∃ q, v = .ref q ∧ H q = some (.tup (is.map V.int))
theorem TupI.same {H H' : Hp} {v : V} {is : List Int} (h : TupI H v is) (e : Same H H') : TupI H' v is := by
  obtain ⟨q, rfl, h⟩ := h
  exact ⟨q, rfl, e _ _ h⟩
def spSc : Sp := fun vs H Q _ => ∃ (v : V) (n : Nat) (p : Nat → Bool), vs = [v] ∧ LotAt H v n p ∧ n ≤ 6 ∧ ∀ H' z, Same H H' → TupI H' z (scL n p) → Q z H'
def spSgn : Sp := fun vs H Q _ => ∃ a b : Nat, vs = [.int (a : Int), .int (b : Int)] ∧ a < 2 ^ 900 ∧ b < 2 ^ 900 ∧ ∀ H', Same H H' → Q (.int (sgn a b)) H'
abbrev teSc (K : PySem.W.Frag) : TE := tCB (rSum K) (tCons (tLc (iTup K (tVar 2)) (gName 4) tYes (tDf spSgn (tCons (tVar 3) (tCons (tVar 4) tNil))) [4]) tNil)
theorem lt900 {a : Nat} (h : a < 64) : a < 2 ^ 900 := Nat.lt_of_lt_of_le h (by decide)
theorem sc_walk {K : PySem.W.Frag} {n : Nat} {p : Nat → Bool} {y : Addr} {H : Hp} {v1 : V} {z1 z3 z4 : Option V} {D : Addr} {Qd : Hp → Prop} (hn : n ≤ 6) (hy : H y = some (.tup (vm (lotOf n p)))) (nD : H D = none)
    (hd : ∀ H3, Same H H3 → H3 D = some (.lst ((scL n p).map V.int)) → Qd H3) :
    ∃ W : Nat → Nat → Hp → Prop, (∃ m, W 0 m (upd H D (.lst []))) ∧ ∀ i m H, W i m H →
      ((Itr 0 (2 ^ n)).stop i H ∧ Qd H) ∨ ((Itr 0 (2 ^ n)).go i H ∧ ∃ Nx : Hp → Prop, (∀ H', Nx H' → ∃ m', m' < m ∧ W (i + 1) m' H') ∧ ∀ x H', (Itr 0 (2 ^ n)).yld i H x H' → gName 3 x (wipe [some v1, z1, some (.ref y), z3, z4] [3]) H' fun σ2 H2 => wipe σ2 [3] = wipe [some v1, z1, some (.ref y), z3, z4] [3] ∧ tYes σ2 H2 fun c H3 =>
        if c = true then teSc K σ2 H3 fun y H4 => ∃ acc, H4 D = some (.lst acc) ∧ acc.length < sizeLine ∧ Nx (upd H4 D (.lst (acc ++ [y]))) else Nx H3) := by
  have h6 := pow6 hn
  have hl := lot_len hn p
  refine lcp_range (n := 2 ^ n) (p := fun _ => true) (f := fun m => .int (scI n p m)) nD (small64 (by omega)) (fun i H3 hi s3 => ?_) (fun H3 s3 hD => hd H3 s3 ?_)
  · intro R1 R2 h1 h2
    have hy3 := s3 _ _ hy
    refine ⟨rfl, iteT (B := R1 H3) ⟨.ref y, rfl, y, rfl, ⟨_, SqT.of hy3⟩, fun B2 nB => ?_⟩⟩
    refine lcp_tup (p := fun _ => true) (f := fun v => match v with | .int k => .int (sgn i k.toNat) | v => v) nB (SqT.of hy3) (small64 (by rw [vm_len]; omega)) (fun k z H4 hz s4 => ?_) (fun H4 s4 hD2 => ?_)
    · intro R3 R4 h3 h4
      obtain ⟨m, hm, rfl⟩ := mem_vm hz
      have hm2 := (mem_lot.mp (List.mem_of_getElem? hm)).1
      exact ⟨rfl, iteT (B := R3 H4) ⟨_, rfl, _, rfl, i, m, congrArg (fun z => [V.int z, V.int (m : Int)]) (Int.zero_add _), lt900 (by omega), lt900 (by omega), fun H5 s5 => h4 rfl _ s5⟩⟩
    · have e : (((vm (lotOf n p)).filter fun _ => true).map fun v => match v with | .int k => V.int (sgn i k.toNat) | v => v) = ((lotOf n p).map fun x => sgn i x).map V.int := by
        rw [List.filter_eq_self.mpr (fun _ _ => rfl)]
        unfold vm
        rw [List.map_map, List.map_map]
        rfl
      rw [e] at hD2
      exact ⟨B2, _, rfl, SqL.of hD2, h2 rfl _ s4⟩
  · rw [hD, List.filter_eq_self.mpr (fun _ _ => rfl)]
    unfold scL
    rw [List.map_map]
    rfl
end XT
namespace XT
open PySem PySem.Spec PyProof.Rows L2

def topS (i : Nat) : Stmt := PySem.Challenge.pw_xorturns_k36_whole_lots_and_signed_count.main.body.getD i (.Pass ⟨0, 0, 0, 0⟩)
def sOW : Stmt := match topS 3 with | .ClassDef _ _ _ (s :: _) .. => s | _ => topS 3
abbrev sNum : Stmt := topS 5
abbrev sRest : Stmt := topS 6
abbrev sUnited : Stmt := topS 7
abbrev sShared : Stmt := topS 8
abbrev sWidth : Stmt := topS 9
abbrev sCountOnes : Stmt := topS 11
abbrev sSign : Stmt := topS 12
abbrev sSignedCounts : Stmt := topS 13
abbrev sLotWith : Stmt := topS 14
abbrev sStream : Stmt := topS 16
abbrev sDraw : Stmt := topS 17
abbrev sLPick : Stmt := topS 18
abbrev sDrawn : Stmt := topS 19
abbrev sLike : Stmt := topS 20
abbrev sLOneRight : Stmt := topS 21
abbrev sLAll : Stmt := topS 22
abbrev sLBothRight : Stmt := topS 23
abbrev sLaw : Stmt := topS 24

theorem scD : FnScope ["_law_stream_here", "_law_many", "_law_rest", "_law_turn", "_law_cell", "_law_mixed"] ["_law_stream_here", "_law_many"] (defScope sDraw) := ⟨rfl, rfl, rfl, by decide +kernel, rfl, by decide +kernel, by decide +kernel⟩
section
variable {P : Program} {w : World} {K : PySem.W.Frag} {mg : Str → Option Value} {base : Heap}
theorem ok_draw {f : Addr} {fd : FuncData} {k : Nat} (F : Fun K "_law_draw" "_law_draw" sDraw f fd) (ml : mg "len" = none) : FnOk P w K mg base CX0 (k + 1) f fd ["_law_stream_here", "_law_many"] spDraw := by
  refine F.ok scD (fun vs H Q E h => ?_) (fun cdv A outer s H vs Q E hr h => ?_)
  · obtain ⟨S, t, m, rfl, _⟩ := h
    rfl
  · obtain ⟨S, t, m, rfl, ⟨big0, hS0⟩, m0, m1, t1, q⟩ := h
    refine ⟨_, pss_cons (ps_while PassesOwn.never
        (pt_cmpR (op_neD hr.units) (pe_ix ix_list (pv 0) pe_int (fun _ _ => rfl)) (pe_lst pa_nil) (nomark _))
        (pss_cons (ps_set (i := 2) scD.nd rfl (.inl rfl) (pe_ix ix_list (pe_ix ix_list (pv 0) pe_int (fun _ _ => rfl)) pe_int (fun _ _ => rfl)))
        (pss_cons (ps_if (pt_cmpR op_gt (pv 2) pe_int (nomark _))
          (pss_cons (ps_asg (pe_op op_fdiv (pv 2) (pv 1)) (pg_sub (pe_ix ix_list (pv 0) pe_int (fun _ _ => rfl)) pe_int set_list))
          (pss_one (ps_ret (pe_op op_mod (pv 2) (pv 1))))) pss_nil)
        (pss_one (ps_expr (pe_bm PySem.F.plainAttrs_list PySem.F.slot_list_pop PySem.F.type_list_pop mt_popAt (pe_ix ix_list (pv 0) pe_int (fun _ _ => rfl)) (pa_cons pe_int pa_nil)))))))
      (pss_cons (ps_set (i := 3) scD.nd rfl (.inl rfl) (pe_op op_add (pe_ix ix_list (pv 0) pe_int (fun _ _ => rfl)) pe_int))
      (pss_cons (ps_asg (pv 3) (pg_sub (pv 0) pe_int set_list))
      (pss_cons (ps_set (i := 4) scD.nd rfl (.inl rfl) (pe_op op_mod (pe_ix ix_list (pe_ix ix_list (pv 0) pe_int (fun _ _ => rfl)) (pe_op op_mod (pv 3) (pe_callB call_len_seq (by rfl) ml PySem.boot_len (pa_cons (pe_ix ix_list (pv 0) pe_int (fun _ _ => rfl)) pa_nil))) (fun _ _ => rfl)) pe_int))
      (pss_cons (ps_set (i := 5) scD.nd rfl (.inl rfl) (pe_op op_mod (pe_op op_add (pe_op op_add (pe_op op_mul (pv 4) (pe_op op_add pe_int (pe_op op_mul pe_int (pv 3)))) (pe_op op_mul (pe_op op_mul pe_int (pv 3)) (pv 3))) pe_int) pe_int))
      (pss_one (ps_ret (pe_op op_mod (pe_op op_fdiv (pe_op op_mod (pe_op op_mul (pv 5) (pv 5)) pe_int) pe_int) (pv 1)))))))), ?_⟩
    refine ⟨fun n σ H1 => ∃ big y2, σ = [some (.ref S.s), some (.int m), y2, none, none, none] ∧ n = big.length ∧ StrmB S H1 t big ∧ Keep S H H1,
      ⟨big0.length, big0, none, rfl, rfl, hS0, Keep.refl S H⟩, ?_⟩
    rintro n σ H1 ⟨big, y2, rfl, rfl, hS, hk⟩
    -- while stream[0] != []
    refine ⟨.ref S.s, rfl, S.s, _, 0, .ref S.p, rfl, rfl, SqL.of hS.hs, rfl, Nat.zero_le _, fun z nz => ?_⟩
    have sm : Same H1 (upd H1 z (.lst [])) := same_new nz
    have hz : (upd H1 z (.lst [])) z = some (.lst []) := upd_same
    have hS' := hS.same sm
    have hk' : Keep S H (upd H1 z (.lst [])) := hk.trans (Keep.of sm)
    generalize upd H1 z (.lst []) = H2 at *
    clear hS hk sm nz
    refine ⟨_, _, .lst (SqL.of hS'.hp) (dpInts big), .lst (SqL.of hz) .nil, ke_shaped big, rfl, _, rfl, ?_⟩
    cases big with
    | cons x rest =>
      have e : (!PyData.eqv (.list ((x :: rest).map PyData.int)) (.list [])) = true := rfl
      rw [e]
      refine iteT ?_
      refine ⟨fun σ' H' => ∃ y2, σ' = [some (.ref S.s), some (.int m), y2, none, none, none] ∧ StrmB S H' t rest ∧ Keep S H H', ?_, ?_⟩
      · rintro σ' H' ⟨y, rfl, h1, h2⟩
        exact ⟨rest.length, Nat.lt_succ_self _, rest, y, rfl, rfl, h1, h2⟩
      · refine ⟨.ref S.s, rfl, S.s, _, 0, .ref S.p, rfl, rfl, SqL.of hS'.hs, rfl, S.p, _, 0, .int x, rfl, rfl, SqL.of hS'.hp, atI_nat (j := 0) rfl, ?_⟩
        refine ⟨.int x, rfl, x, 0, rfl, rfl, _, rfl, ite2 (fun hx => ?_) (fun hx => ?_)⟩
        · refine ⟨.int x, rfl, .int m, rfl, x, m, rfl, rfl, ⟨m0, m1⟩, ?_⟩
          refine ⟨.ref S.s, rfl, S.s, _, 0, .ref S.p, rfl, rfl, SqL.of hS'.hs, rfl, S.p, _, 0, 0, rfl, rfl, hS'.hp, ix0 (Nat.succ_pos _), ?_⟩
          refine ⟨.int x, rfl, .int m, rfl, x, m, rfl, rfl, m0, ?_⟩
          refine q _ _ t (fun b o n1 n2 eb => ?_) ⟨(x / m) :: rest, ?_⟩ (Int.le_refl _) (by omega) (Int.emod_nonneg _ (by omega)) (Int.emod_lt_of_pos _ m0)
          · rw [upd_ne n2]; exact hk' b o n1 n2 eb
          · refine ⟨?_, upd_same, ?_, hS'.sp, hS'.sq, hS'.pq, hS'.ne, hS'.t0⟩
            · rw [upd_ne hS'.sp]; exact hS'.hs
            · rw [upd_ne hS'.pq.symm]; exact hS'.hq
        · refine ⟨.ref S.s, rfl, S.s, _, 0, .ref S.p, rfl, rfl, SqL.of hS'.hs, rfl, .inl ⟨rfl, _, SqL.of hS'.hp⟩, S.p, _, 0, 0, .int x, rfl, rfl, hS'.hp, by decide, by decide, sq0 (Nat.succ_pos _), rfl, ?_⟩
          refine ⟨_, rfl, ⟨?_, upd_same, ?_, hS'.sp, hS'.sq, hS'.pq, hS'.ne, hS'.t0⟩, fun b o n1 n2 eb => ?_⟩
          · rw [upd_ne hS'.sp]; exact hS'.hs
          · rw [upd_ne hS'.pq.symm]; exact hS'.hq
          · rw [upd_ne n2]; exact hk' b o n1 n2 eb
    | nil =>
      have e : (!PyData.eqv (.list (([] : List Int).map PyData.int)) (.list [])) = false := rfl
      rw [e]
      refine iteF ?_
      have t0 := hS'.t0
      -- turn = stream[2] + 1; stream[2] = turn
      refine ⟨.ref S.s, rfl, S.s, _, 2, .int t, rfl, rfl, SqL.of hS'.hs, rfl, t, 1, rfl, rfl, ?_⟩
      refine ⟨.int (t + 1), rfl, .ref S.s, rfl, S.s, _, 2, 2, rfl, rfl, hS'.hs, rfl, ?_⟩
      generalize hH3 : upd H2 S.s (.lst ([V.ref S.p, .ref S.q, .int t].set 2 (.int (t + 1)))) = H3
      have hS3 : StrmB S H3 (t + 1) [] := by
        subst hH3
        refine ⟨upd_same, ?_, ?_, hS'.sp, hS'.sq, hS'.pq, hS'.ne, by omega⟩
        · rw [upd_ne hS'.sp.symm]; exact hS'.hp
        · rw [upd_ne hS'.sq.symm]; exact hS'.hq
      have hk3 : Keep S H H3 := fun b o n1 n2 eb => by
        subst hH3
        rw [upd_ne n1]; exact hk' b o n1 n2 eb
      clear hH3
      -- cell
      have hl : (0 : Int) < ((S.cs.map V.int).length : Nat) := by rw [List.length_map]; have := hS'.ne; omega
      have hm1 : (t + 1) % ((S.cs.map V.int).length : Nat) < ((S.cs.map V.int).length : Nat) := Int.emod_lt_of_pos _ hl
      have hm0 : 0 ≤ (t + 1) % ((S.cs.map V.int).length : Nat) := Int.emod_nonneg _ (by omega)
      obtain ⟨j, hj⟩ : ∃ j : Nat, (t + 1) % ((S.cs.map V.int).length : Nat) = j := ⟨_, (Int.toNat_of_nonneg hm0).symm⟩
      have hjl : j < S.cs.length := by rw [List.length_map] at hm1 hj; omega
      have hat : atI (S.cs.map V.int) ((t + 1) % ((S.cs.map V.int).length : Nat)) = some (.int S.cs[j]) := by
        rw [hj]
        refine atI_nat ?_
        rw [List.getElem?_map, List.getElem?_eq_getElem hjl]
        rfl
      refine ⟨.ref S.s, rfl, S.s, _, 1, .ref S.q, rfl, rfl, SqL.of hS3.hs, rfl, .int (t + 1), rfl, .ref S.s, rfl, S.s, _, 1, .ref S.q, rfl, rfl, SqL.of hS3.hs, rfl, S.q, _, rfl, .inl (SqL.of hS3.hq), _, _, rfl, rfl, hl, ?_⟩
      have k87 : (0 : Int) < 2147483587 := by decide
      have k47 : (0 : Int) < 2147483647 := by decide
      have k29 : (0 : Int) < 2147483629 := by decide
      refine ⟨S.q, _, _, .int S.cs[j], rfl, rfl, SqL.of hS3.hq, hat, S.cs[j], _, rfl, rfl, k87, ?_⟩
      obtain ⟨c1, c0⟩ := pm87 (x := S.cs[j])
      obtain ⟨c, hc⟩ : ∃ c, S.cs[j] % 2147483587 = c := ⟨_, rfl⟩
      rw [hc] at c1 c0
      -- mixed
      refine ⟨.int c, congrArg (fun x => some (some (V.int x))) hc, .int (t + 1), rfl, 40692, t + 1, rfl, rfl, .inl ⟨by decide, by decide⟩, 69621, 40692 * (t + 1), rfl, rfl, c, 69621 + 40692 * (t + 1), rfl, rfl, .inl ⟨by omega, by omega⟩, ?_⟩
      refine ⟨.int (t + 1), rfl, 48271, t + 1, rfl, rfl, .inl ⟨by decide, by decide⟩, .int (t + 1), rfl, 48271 * (t + 1), t + 1, rfl, rfl, .inr ⟨by omega, by omega⟩, c * (69621 + 40692 * (t + 1)), 48271 * (t + 1) * (t + 1), rfl, rfl, _, 47, rfl, rfl, c * (69621 + 40692 * (t + 1)) + 48271 * (t + 1) * (t + 1) + 47, 2147483647, rfl, rfl, k47, ?_⟩
      obtain ⟨d1, d0⟩ := pm31 (x := c * (69621 + 40692 * (t + 1)) + 48271 * (t + 1) * (t + 1) + 47)
      obtain ⟨d, hd⟩ : ∃ d, (c * (69621 + 40692 * (t + 1)) + 48271 * (t + 1) * (t + 1) + 47) % 2147483647 = d := ⟨_, rfl⟩
      rw [hd] at d1 d0
      have ed : some (some (V.int ((c * (69621 + 40692 * (t + 1)) + 48271 * (t + 1) * (t + 1) + 47) % 2147483647))) = some (some (V.int d)) := congrArg (fun x => some (some (V.int x))) hd
      refine ⟨.int d, ed, .int d, ed, d, d, rfl, rfl, .inl ⟨by omega, by omega⟩, d * d, 2147483629, rfl, rfl, k29, d * d % 2147483629, 16, rfl, rfl, ⟨by decide, by decide⟩, .int m, rfl, _, m, rfl, rfl, m0, ?_⟩
      exact q _ _ (t + 1) hk3 ⟨_, hS3⟩ (by omega) (Int.le_refl _) (Int.emod_nonneg _ (by omega)) (Int.emod_lt_of_pos _ m0)
end
end XT
namespace XT
open PySem PySem.Spec PyProof.Rows L2
section
variable {P : Program} {w : World} {K : PySem.W.Frag} {mg : Str → Option Value} {base : Heap}
abbrev nSc : List Str := ["lot", "width", "masks", "mask", "x"]
theorem scSc : FnScope nSc ["lot"] (defScope sSignedCounts) := ⟨rfl, rfl, rfl, by decide +kernel, rfl, by decide +kernel, by decide +kernel⟩
def outSci : Scope := match (defBody sSignedCounts).getD 1 (.Pass ⟨0, 0, 0, 0⟩) with
  | .Return (some (.Call _ [.ListComp _ _ sc _] _ _)) _ => sc
  | _ => defScope sSignedCounts
theorem ok_Sc {f : Addr} {fd : FuncData} {k : Nat} (B : Bl mg) (mS : mg "sum" = none) (F : Fun K "signed_counts" "signed_counts" sSignedCounts f fd) (dS : DefR P w K mg base 2 "sign" spSgn) : FnOk P w K mg base CX0 (k + 3) f fd ["lot"] spSc := by
  refine F.ok scSc (fun vs H Q E h => ?_) (fun cdv A outer s H vs Q E hr h => ?_)
  · obtain ⟨v, n, p, rfl, _⟩ := h
    rfl
  · obtain ⟨v, n, p, rfl, ⟨x, y, rfl, hx, hy⟩, hn, q⟩ := h
    refine ⟨_, pss_cons (ps_asg (pv 0) (pg_tup rfl (pgs_cons (pg_name (i := 1) scSc.nd rfl (by first | exact Or.inl rfl | exact Or.inr rfl)) (pgs_cons (pg_name (i := 2) scSc.nd rfl (by first | exact Or.inl rfl | exact Or.inr rfl)) pgs_nil))))
      (pss_one (ps_ret (pe_callTy call_tuple_of (by rfl) B.tuple bT (pa_cons
        (pe_lc (own := [("mask", 3)]) (g := gName 3) (tt := tYes) (te := teSc K)
          rfl scSc.nd (pi_range1 (by rfl) B.range (pa_cons (pe_op op_shl pe_int (pv 1)) pa_nil))
          (blkOk_by (own := [("mask", 3)]) (N := nSc) (sc := defScope sSignedCounts) (by decide +kernel))
          (fun _ _ _ _ _ => pg_name (i := 3) scSc.nd rfl (Or.inr rfl)) (fun _ _ _ _ _ => pts_nil)
          (fun _ _ _ _ _ => pe_callB (cr_sum rfl) (by rfl) mS bSum (pa_cons
            (pe_lc (own := [("x", 4)]) (g := gName 4) (tt := tYes) (te := tDf spSgn (tCons (tVar 3) (tCons (tVar 4) tNil))) rfl scSc.nd (pi_tup (pv 2))
              (blkOk_by (own := [("x", 4)]) (N := nSc) (sc := relS outSci (defScope sSignedCounts)) (by decide +kernel))
              (fun _ _ _ _ _ => pg_name (i := 4) scSc.nd rfl (Or.inl rfl)) (fun _ _ _ _ _ => pts_nil) (fun _ _ _ _ _ => pe_def dS (hr.mono (by omega)) (by rfl) (pa_cons (pv 3) (pa_cons (pv 4) pa_nil)))) pa_nil))) pa_nil)))), ?_⟩
    refine ⟨.ref x, rfl, x, _, rfl, SqT.of hx, rfl, _, _, rfl, _, _, rfl, rfl, ?_⟩
    refine ⟨.int n, rfl, 1, n, rfl, rfl, cpow hn, ((2 ^ n : Nat) : Int), congrArg (fun z => [V.int z]) (shl1 n), l62, r62 hn, fun D nD => ?_⟩
    exact sc_walk hn hy nD (fun H3 s3 hD => ⟨D, _, rfl, .inl ⟨SqL.of hD, fun L nL => q _ _ (s3.trans (same_new nL)) ⟨L, rfl, upd_same⟩⟩⟩)
end
end XT
/-! sums of lots as numbers -/
namespace XT
open PySem PySem.Spec PyProof.Rows L2
/-- how many numbers below N the set has -/
def cnt (N : Nat) (S : Int → Bool) : Nat := ((List.range N).filter fun (m : Nat) => S (m : Int)).length
theorem cnt_le (N : Nat) (S : Int → Bool) : cnt N S ≤ N := by
  unfold cnt
  refine Nat.le_trans (List.length_filter_le _ _) ?_
  rw [List.length_range]
  exact Nat.le_refl _
theorem cnt_succ (N : Nat) (S : Int → Bool) : cnt (N + 1) S = cnt N S + if S (N : Int) = true then 1 else 0 := by
  unfold cnt
  rw [List.range_succ, List.filter_append, List.length_append]
  by_cases h : S (N : Int) = true
  · simp [h]
  · simp [h]
theorem cnt_old {N m : Nat} (S : Int → Bool) (h : N ≤ m) : cnt N (fun j => S j || decide (j = (m : Int))) = cnt N S := by
  unfold cnt
  congr 1
  refine List.filter_congr fun x hx => ?_
  have h2 := List.mem_range.mp hx
  show (S (x : Int) || decide ((x : Int) = (m : Int))) = S (x : Int)
  rw [decide_eq_false (by omega), Bool.or_false]
theorem cnt_add {m : Nat} (S : Int → Bool) : ∀ {N : Nat}, m < N → cnt N (fun j => S j || decide (j = (m : Int))) = if S (m : Int) = true then cnt N S else cnt N S + 1
  | 0, h => absurd h (Nat.not_lt_zero _)
  | N + 1, h => by
    rw [cnt_succ, cnt_succ]
    by_cases e : m = N
    · subst e
      rw [cnt_old S (Nat.le_refl _)]
      by_cases hS : S (m : Int) = true
      · simp [hS]
      · simp [hS]
    · rw [cnt_add S (show m < N by omega), decide_eq_false (show ¬((N : Int) = (m : Int)) by omega), Bool.or_false]
      by_cases hS : S (m : Int) = true
      · simp [hS]
      · simp [hS]; omega
/-- the sum of two lots -/
def addB (n : Nat) (p r : Nat → Bool) (m : Nat) : Bool := (List.range (2 ^ n)).any fun x => p x && r (x ^^^ m)
theorem add_iff {n : Nat} {p r : Nat → Bool} {m : Nat} : addB n p r m = true ↔ ∃ x, x < 2 ^ n ∧ p x = true ∧ r (x ^^^ m) = true := by
  unfold addB
  rw [List.any_eq_true]
  constructor
  · rintro ⟨x, h1, h2⟩
    rw [Bool.and_eq_true] at h2
    exact ⟨x, List.mem_range.mp h1, h2.1, h2.2⟩
  · rintro ⟨x, h1, h2, h3⟩
    exact ⟨x, List.mem_range.mpr h1, by rw [h2, h3]; rfl⟩
def zeroB (m : Nat) : Bool := decide (m = 0)
def sumB (n : Nat) (ps : List (Nat → Bool)) : Nat → Bool := ps.foldl (addB n) zeroB
theorem lot_zero (n : Nat) : lotOf n zeroB = [0] := by
  have h : ∀ N, 0 < N → (List.range N).filter zeroB = [0] := by
    intro N hN
    obtain ⟨k, rfl⟩ : ∃ k, N = k + 1 := ⟨N - 1, by omega⟩
    rw [List.range_succ_eq_map, List.filter_cons]
    have e : (List.filter zeroB (List.map Nat.succ (List.range k))) = [] := by
      rw [List.filter_eq_nil_iff]
      intro a ha
      obtain ⟨b, _, rfl⟩ := List.mem_map.mp ha
      simp [zeroB]
    rw [e]
    rfl
  exact h _ (pow0 n)
theorem sum_take {n : Nat} {ps : List (Nat → Bool)} {i : Nat} {p : Nat → Bool} (h : ps[i]? = some p) : sumB n (ps.take (i + 1)) = addB n (sumB n (ps.take i)) p := by
  unfold sumB
  rw [List.take_add_one, h, List.foldl_append]
  rfl
theorem add_congr {n : Nat} {p p' r r' : Nat → Bool} {m : Nat} (hm : m < 2 ^ n) (h1 : ∀ x, x < 2 ^ n → p x = p' x) (h2 : ∀ x, x < 2 ^ n → r x = r' x) : addB n p r m = addB n p' r' m := by
  rw [Bool.eq_iff_iff, add_iff, add_iff]
  constructor
  · rintro ⟨x, a, b, c⟩
    exact ⟨x, a, by rw [← h1 x a]; exact b, by rw [← h2 _ (xor_lt a hm)]; exact c⟩
  · rintro ⟨x, a, b, c⟩
    exact ⟨x, a, by rw [h1 x a]; exact b, by rw [h2 _ (xor_lt a hm)]; exact c⟩
theorem add_zero' {n : Nat} {p : Nat → Bool} {m : Nat} (hm : m < 2 ^ n) : addB n zeroB p m = p m := by
  rw [Bool.eq_iff_iff, add_iff]
  constructor
  · rintro ⟨x, a, b, c⟩
    have : x = 0 := of_decide_eq_true b
    subst this
    rwa [Nat.zero_xor] at c
  · intro h
    exact ⟨0, pow0 n, rfl, by rw [Nat.zero_xor]; exact h⟩
theorem add_comm' {n : Nat} {p r : Nat → Bool} {m : Nat} (hm : m < 2 ^ n) : addB n p r m = addB n r p m := by
  have go : ∀ {p r : Nat → Bool}, addB n p r m = true → addB n r p m = true := fun {p r} h => by
    obtain ⟨x, a, b, c⟩ := add_iff.mp h
    exact add_iff.mpr ⟨x ^^^ m, xor_lt a hm, c, by rw [xor_back]; exact b⟩
  rw [Bool.eq_iff_iff]
  exact ⟨go, go⟩
theorem add_assoc' {n : Nat} {p r o : Nat → Bool} {m : Nat} (hm : m < 2 ^ n) : addB n (addB n p r) o m = addB n p (addB n r o) m := by
  rw [Bool.eq_iff_iff, add_iff, add_iff]
  constructor
  · rintro ⟨x, a, b, c⟩
    obtain ⟨y, a2, b2, c2⟩ := add_iff.mp b
    refine ⟨y, a2, b2, add_iff.mpr ⟨y ^^^ x, xor_lt a2 a, c2, ?_⟩⟩
    have e : y ^^^ x ^^^ (y ^^^ m) = x ^^^ m := by rw [Nat.xor_comm y x, Nat.xor_assoc, ← Nat.xor_assoc y y m, Nat.xor_self, Nat.zero_xor]
    rw [e]
    exact c
  · rintro ⟨y, a2, b2, c⟩
    obtain ⟨z, a, c2, c3⟩ := add_iff.mp c
    refine ⟨y ^^^ z, xor_lt a2 a, add_iff.mpr ⟨y, a2, b2, ?_⟩, ?_⟩
    · have e : y ^^^ (y ^^^ z) = z := by rw [← Nat.xor_assoc, Nat.xor_self, Nat.zero_xor]
      rw [e]
      exact c2
    · have e : y ^^^ z ^^^ m = z ^^^ (y ^^^ m) := by rw [Nat.xor_comm y z, Nat.xor_assoc]
      rw [e]
      exact c3
/-- the greatest addend of p for r -/
def gaB (n : Nat) (p r : Nat → Bool) (m : Nat) : Bool := (lotOf n p).all fun x => r (x ^^^ m)
theorem ga_iff {n : Nat} {p r : Nat → Bool} {m : Nat} : gaB n p r m = true ↔ ∀ x, x < 2 ^ n → p x = true → r (x ^^^ m) = true := by
  unfold gaB
  rw [List.all_eq_true]
  exact ⟨fun h x a b => h x (mem_lot.mpr ⟨a, b⟩), fun h x hx => h x (mem_lot.mp hx).1 (mem_lot.mp hx).2⟩
/-! sums as numbers -/
theorem sum1 {n : Nat} {p : Nat → Bool} {m : Nat} (hm : m < 2 ^ n) : sumB n [p] m = p m := add_zero' hm
theorem sum2 {n : Nat} {p r : Nat → Bool} {m : Nat} (hm : m < 2 ^ n) : sumB n [p, r] m = addB n p r m := add_congr hm (fun _ h => add_zero' h) fun _ _ => rfl
theorem sum3 {n : Nat} {p r o : Nat → Bool} {m : Nat} (hm : m < 2 ^ n) : sumB n [p, r, o] m = addB n (addB n p r) o m := add_congr hm (fun _ h => sum2 h) fun _ _ => rfl
theorem add_or {n : Nat} {p r o : Nat → Bool} {m : Nat} : addB n p (fun x => r x || o x) m = (addB n p r m || addB n p o m) := by
  rw [Bool.eq_iff_iff, Bool.or_eq_true, add_iff, add_iff, add_iff]
  constructor
  · rintro ⟨x, a, b, c⟩
    rcases Bool.or_eq_true_iff.mp c with c | c
    · exact .inl ⟨x, a, b, c⟩
    · exact .inr ⟨x, a, b, c⟩
  · rintro (⟨x, a, b, c⟩ | ⟨x, a, b, c⟩)
    · exact ⟨x, a, b, by rw [c]; rfl⟩
    · exact ⟨x, a, b, by rw [c, Bool.or_true]⟩
def oneB (a m : Nat) : Bool := decide (m = a)
theorem lot_one {n a : Nat} (ha : a < 2 ^ n) : vm (lotOf n (oneB a)) = [.int (a : Int)] := by
  refine (rising_lot (ns := [(a : Int)]) (by simp) fun k => ?_).symm
  constructor
  · intro h
    have : k = (a : Int) := by simpa using h
    exact ⟨a, this, ha, decide_eq_true rfl⟩
  · rintro ⟨m, h1, h2, h3⟩
    have : m = a := of_decide_eq_true h3
    rw [h1, this]
    exact List.mem_singleton.mpr rfl
theorem add_one {n a : Nat} {p : Nat → Bool} {m : Nat} (ha : a < 2 ^ n) (hm : m < 2 ^ n) : addB n (oneB a) p m = p (m ^^^ a) := by
  rw [Bool.eq_iff_iff, add_iff]
  constructor
  · rintro ⟨x, a', b, c⟩
    have : x = a := of_decide_eq_true b
    subst this
    rwa [Nat.xor_comm] at c
  · intro h
    exact ⟨a, ha, decide_eq_true rfl, by rw [Nat.xor_comm]; exact h⟩
theorem lot_mono {n : Nat} {p r : Nat → Bool} (h : ∀ m, m < 2 ^ n → p m = true → r m = true) : (lotOf n p).length ≤ (lotOf n r).length := by
  unfold lotOf
  rw [← List.countP_eq_length_filter, ← List.countP_eq_length_filter]
  exact List.countP_mono_left fun m hm => h m (List.mem_range.mp hm)
theorem nodup_le : ∀ {l m : List Nat}, l.Nodup → l ⊆ m → l.length ≤ m.length
  | [], _, _, _ => Nat.zero_le _
  | x :: l, m, h, s => by
    obtain ⟨h1, h2⟩ := List.nodup_cons.mp h
    have hx : x ∈ m := s List.mem_cons_self
    have h3 := nodup_le (l := l) (m := m.erase x) h2 fun y hy => (List.mem_erase_of_ne (fun e => h1 (by rw [← e]; exact hy))).mpr (s (List.mem_cons_of_mem _ hy))
    rw [List.length_erase_of_mem hx] at h3
    have h4 : 0 < m.length := List.length_pos_of_mem hx
    rw [List.length_cons]
    omega
theorem lot_len_xor {n a : Nat} {p : Nat → Bool} (ha : a < 2 ^ n) : (lotOf n fun m => p (m ^^^ a)).length = (lotOf n p).length := by
  have sub : ∀ {p : Nat → Bool}, (lotOf n p).length ≤ (lotOf n fun m => p (m ^^^ a)).length := fun {p} => by
    have h1 : ((lotOf n p).map fun (m : Nat) => m ^^^ a).Nodup := by
      have h := nodup_lot n p
      unfold List.Nodup at h ⊢
      rw [List.pairwise_map]
      refine h.imp fun {x y} hxy e => hxy ?_
      have e3 := congrArg (· ^^^ a) e
      simpa [Nat.xor_assoc] using e3
    have h2 : ((lotOf n p).map fun (m : Nat) => m ^^^ a) ⊆ (lotOf n fun m => p (m ^^^ a)) := by
      intro z hz
      obtain ⟨m, hm, rfl⟩ := List.mem_map.mp hz
      obtain ⟨h3, h4⟩ := mem_lot.mp hm
      exact mem_lot.mpr ⟨xor_lt h3 ha, by rw [xor_back]; exact h4⟩
    have h3 := nodup_le h1 h2
    rw [List.length_map] at h3
    exact h3
  refine Nat.le_antisymm ?_ sub
  have h := sub (p := fun m => p (m ^^^ a))
  have e : (lotOf n fun m => p (m ^^^ a ^^^ a)) = lotOf n p := lot_congr fun m _ => by rw [xor_back]
  rw [e] at h
  exact h
end XT
/-! signed counts determine the lot -/
namespace XT
open PySem PySem.Spec PyProof.Rows L2
theorem xor_half (x y : Nat) : (x ^^^ y) / 2 = x / 2 ^^^ y / 2 := Nat.xor_div_two
theorem xor_mod (x y : Nat) : (x ^^^ y) % 2 = (x % 2 + y % 2) % 2 := by
  have e : (x ^^^ y) &&& 1 = (x &&& 1) ^^^ (y &&& 1) := by
    apply Nat.eq_of_testBit_eq
    intro i
    simp only [Nat.testBit_and, Nat.testBit_xor]
    cases x.testBit i <;> cases y.testBit i <;> cases (1 : Nat).testBit i <;> rfl
  rw [Nat.and_one_is_mod, Nat.and_one_is_mod, Nat.and_one_is_mod] at e
  rw [e]
  have h1 : x % 2 = 0 ∨ x % 2 = 1 := by omega
  have h2 : y % 2 = 0 ∨ y % 2 = 1 := by omega
  rcases h1 with h1 | h1 <;> rcases h2 with h2 | h2 <;> rw [h1, h2] <;> rfl
theorem sgn_xor : ∀ (u x y : Nat), sgn u (x ^^^ y) = sgn u x * sgn u y
  | 0, x, y => by rw [sgn_zeroL, sgn_zeroL, sgn_zeroL]; rfl
  | u + 1, x, y => by
    have ih := sgn_xor ((u + 1) / 2) (x / 2) (y / 2)
    rw [sgn_step (u + 1) (x ^^^ y), sgn_step (u + 1) x, sgn_step (u + 1) y, xor_half, ih, xor_mod]
    have h1 : (u + 1) % 2 = 0 ∨ (u + 1) % 2 = 1 := by omega
    have h2 : x % 2 = 0 ∨ x % 2 = 1 := by omega
    have h3 : y % 2 = 0 ∨ y % 2 = 1 := by omega
    generalize sgn ((u + 1) / 2) (x / 2) = A
    generalize sgn ((u + 1) / 2) (y / 2) = C
    rcases h1 with h1 | h1 <;> rcases h2 with h2 | h2 <;> rcases h3 with h3 | h3 <;> simp [h1, h2, h3, Int.neg_mul, Int.mul_neg]
  termination_by u => u
  decreasing_by omega
def orthB (n : Nat) : Bool := (List.range (2 ^ n)).all fun z => decide (((List.range (2 ^ n)).map fun u => sgn u z).sum = if z = 0 then ((2 ^ n : Nat) : Int) else 0)
theorem orth_all : ∀ n, n ≤ 6 → orthB n = true := by
  intro n hn
  have : n = 0 ∨ n = 1 ∨ n = 2 ∨ n = 3 ∨ n = 4 ∨ n = 5 ∨ n = 6 := by omega
  rcases this with rfl | rfl | rfl | rfl | rfl | rfl | rfl <;> decide +kernel
theorem orth {n z : Nat} (hn : n ≤ 6) (hz : z < 2 ^ n) : ((List.range (2 ^ n)).map fun u => sgn u z).sum = if z = 0 then ((2 ^ n : Nat) : Int) else 0 :=
  of_decide_eq_true (List.all_eq_true.mp (orth_all n hn) z (List.mem_range.mpr hz))
/-! sums -/
theorem sum_add (f g : Nat → Int) : ∀ l : List Nat, (l.map fun x => f x + g x).sum = (l.map f).sum + (l.map g).sum
  | [] => rfl
  | x :: l => by
    have ih := sum_add f g l
    simp only [List.map_cons, List.sum_cons, ih]
    omega
theorem sum_mul (c : Int) (f : Nat → Int) : ∀ l : List Nat, (l.map fun x => c * f x).sum = c * (l.map f).sum
  | [] => by simp
  | x :: l => by
    have ih := sum_mul c f l
    simp only [List.map_cons, List.sum_cons, ih, Int.mul_add]
theorem sum_zero : ∀ l : List Nat, (l.map fun _ => (0 : Int)).sum = 0
  | [] => rfl
  | x :: l => by
    have ih := sum_zero l
    simp only [List.map_cons, List.sum_cons, ih]
    rfl
theorem sum_swap (f : Nat → Nat → Int) : ∀ l m : List Nat, (l.map fun x => (m.map fun y => f x y).sum).sum = (m.map fun y => (l.map fun x => f x y).sum).sum
  | [], m => by simp [sum_zero]
  | x :: l, m => by
    have ih := sum_swap f l m
    simp only [List.map_cons, List.sum_cons, ih]
    rw [← sum_add]
theorem sum_congr {f g : Nat → Int} {l : List Nat} (h : ∀ x ∈ l, f x = g x) : (l.map f).sum = (l.map g).sum := by rw [List.map_congr_left h]
theorem sum_perm {l m : List Int} (h : l.Perm m) : l.sum = m.sum := by
  induction h with
  | nil => rfl
  | cons x _ ih => simp only [List.sum_cons, ih]
  | swap x y l => simp only [List.sum_cons]; omega
  | trans _ _ i1 i2 => rw [i1, i2]
theorem sum_one {c : Int} {y : Nat} : ∀ {l : List Nat}, l.Nodup → (l.map fun x => if x = y then c else 0).sum = if y ∈ l then c else 0
  | [], _ => by simp
  | x :: l, h => by
    obtain ⟨h1, h2⟩ := List.nodup_cons.mp h
    have ih := sum_one (c := c) (y := y) h2
    simp only [List.map_cons, List.sum_cons, ih]
    by_cases e : x = y
    · subst e
      simp [h1]
    · have e2 : ¬ y = x := fun z => e z.symm
      simp [e, e2]
theorem perm_nodup {l m : List Nat} (hl : l.Nodup) (hm : m.Nodup) (h : ∀ x, x ∈ l ↔ x ∈ m) : l.Perm m := by
  rw [List.perm_iff_count]
  intro a
  by_cases ha : a ∈ l
  · rw [List.Nodup.count hl, List.Nodup.count hm, if_pos ha, if_pos ((h a).mp ha)]
  · rw [List.Nodup.count hl, List.Nodup.count hm, if_neg ha, if_neg (fun z => ha ((h a).mpr z))]
/-- the signed counts lead back to the lot -/
theorem inv {n y : Nat} {p : Nat → Bool} (hn : n ≤ 6) (hy : y < 2 ^ n) : ((List.range (2 ^ n)).map fun u => scI n p u * sgn u y).sum = if p y = true then ((2 ^ n : Nat) : Int) else 0 := by
  have e1 : ((List.range (2 ^ n)).map fun u => scI n p u * sgn u y).sum = ((List.range (2 ^ n)).map fun u => ((lotOf n p).map fun x => sgn u (x ^^^ y)).sum).sum := by
    refine sum_congr fun u _ => ?_
    unfold scI
    rw [Int.mul_comm, ← sum_mul]
    exact sum_congr fun x _ => by rw [sgn_xor, Int.mul_comm]
  rw [e1, sum_swap]
  have e2 : ((lotOf n p).map fun x => ((List.range (2 ^ n)).map fun u => sgn u (x ^^^ y)).sum).sum = ((lotOf n p).map fun x => if x = y then ((2 ^ n : Nat) : Int) else 0).sum := by
    refine sum_congr fun x hx => ?_
    rw [orth hn (xor_lt (mem_lot.mp hx).1 hy)]
    by_cases e : x = y
    · rw [if_pos e, if_pos (by rw [e, Nat.xor_self])]
    · rw [if_neg e, if_neg (fun z => e ?_)]
      have h := congrArg (· ^^^ y) z
      simpa [Nat.xor_assoc] using h
  rw [e2, sum_one (nodup_lot n p)]
  by_cases h : p y = true
  · rw [if_pos h, if_pos (mem_lot.mpr ⟨hy, h⟩)]
  · rw [if_neg h, if_neg (fun z => h (mem_lot.mp z).2)]
/-- a turned lot's signed counts -/
theorem sc_turn {n m u : Nat} {p : Nat → Bool} (hm : m < 2 ^ n) : scI n (fun x => p (x ^^^ m)) u = sgn u m * scI n p u := by
  unfold scI
  have pm : (lotOf n fun x => p (x ^^^ m)).Perm ((lotOf n p).map (· ^^^ m)) := by
    refine perm_nodup (nodup_lot _ _) ?_ fun x => ?_
    · have h := nodup_lot n p
      unfold List.Nodup at h ⊢
      rw [List.pairwise_map]
      refine h.imp fun {x y} hxy e => hxy ?_
      have e3 := congrArg (· ^^^ m) e
      simpa [Nat.xor_assoc] using e3
    · rw [List.mem_map, mem_lot]
      constructor
      · rintro ⟨h1, h2⟩
        exact ⟨x ^^^ m, mem_lot.mpr ⟨xor_lt h1 hm, h2⟩, xor_back x m⟩
      · rintro ⟨y, hy, rfl⟩
        obtain ⟨h1, h2⟩ := mem_lot.mp hy
        exact ⟨xor_lt h1 hm, by rw [xor_back]; exact h2⟩
  rw [sum_perm (pm.map fun x => sgn u x), List.map_map, ← sum_mul]
  exact sum_congr fun x _ => by
    show sgn u (x ^^^ m) = _
    rw [sgn_xor, Int.mul_comm]
end XT
/-! pair counts and the squares of the signed counts -/
namespace XT
open PySem PySem.Spec PyProof.Rows L2
theorem sum_flt (q : Nat → Bool) (f : Nat → Int) : ∀ l : List Nat, ((l.filter q).map f).sum = (l.map fun x => if q x = true then f x else 0).sum
  | [] => rfl
  | x :: l => by
    have ih := sum_flt q f l
    by_cases h : q x = true
    · simp only [List.filter_cons, h, if_true, List.map_cons, List.sum_cons, ih]
    · simp only [List.filter_cons, h, List.map_cons, List.sum_cons]
      simpa using ih
theorem len_sum {α : Type} (q : α → Bool) : ∀ l : List α, ((l.filter q).length : Int) = (l.map fun x => if q x = true then (1 : Int) else 0).sum
  | [] => rfl
  | x :: l => by
    have ih := len_sum q l
    by_cases h : q x = true
    · simp only [List.filter_cons, h, if_true, List.map_cons, List.sum_cons, List.length_cons, ← ih]
      omega
    · simp only [List.filter_cons, h, List.map_cons, List.sum_cons]
      simpa using ih
theorem pc_sq {n u : Nat} {p : Nat → Bool} : ((List.range (2 ^ n)).map fun d => sgn u d * (pcN n p d : Int)).sum = scI n p u * scI n p u := by
  have e1 : ((List.range (2 ^ n)).map fun d => sgn u d * (pcN n p d : Int)).sum = ((List.range (2 ^ n)).map fun d => ((lotOf n p).map fun x => if p (x ^^^ d) = true then sgn u d else 0).sum).sum := by
    refine sum_congr fun d _ => ?_
    unfold pcN
    rw [len_sum, ← sum_mul]
    refine sum_congr fun x _ => ?_
    by_cases h : p (x ^^^ d) = true
    · rw [if_pos h, if_pos h, Int.mul_one]
    · rw [if_neg h, if_neg h, Int.mul_zero]
  rw [e1, sum_swap]
  have e2 : ((lotOf n p).map fun x => ((List.range (2 ^ n)).map fun d => if p (x ^^^ d) = true then sgn u d else 0).sum).sum = ((lotOf n p).map fun x => scI n p u * sgn u x).sum := by
    refine sum_congr fun x hx => ?_
    rw [Int.mul_comm, ← sc_turn (mem_lot.mp hx).1]
    unfold scI
    rw [show lotOf n (fun d => p (d ^^^ x)) = (List.range (2 ^ n)).filter (fun d => p (d ^^^ x)) from rfl, sum_flt]
    refine sum_congr fun d _ => ?_
    rw [Nat.xor_comm]
  rw [e2, sum_mul]
  rfl
theorem sq_pc {n u : Nat} {p : Nat → Bool} (hn : n ≤ 6) (hu : u < 2 ^ n) : ((List.range (2 ^ n)).map fun d => sgn u d * (scI n p d * scI n p d)).sum = ((2 ^ n : Nat) : Int) * (pcN n p u : Int) := by
  have e1 : ((List.range (2 ^ n)).map fun d => sgn u d * (scI n p d * scI n p d)).sum = ((List.range (2 ^ n)).map fun d => ((List.range (2 ^ n)).map fun e => (pcN n p e : Int) * sgn d (e ^^^ u)).sum).sum := by
    refine sum_congr fun d _ => ?_
    rw [← pc_sq, ← sum_mul]
    refine sum_congr fun e _ => ?_
    rw [sgn_xor, sgn_comm u d, Int.mul_comm (sgn d u), Int.mul_comm (sgn d e), Int.mul_assoc]
  rw [e1, sum_swap]
  have e2 : ((List.range (2 ^ n)).map fun e => ((List.range (2 ^ n)).map fun d => (pcN n p e : Int) * sgn d (e ^^^ u)).sum).sum = ((List.range (2 ^ n)).map fun e => if e = u then ((2 ^ n : Nat) : Int) * (pcN n p u : Int) else 0).sum := by
    refine sum_congr fun e he => ?_
    rw [sum_mul, orth hn (xor_lt (List.mem_range.mp he) hu)]
    by_cases h : e = u
    · rw [if_pos h, if_pos (by rw [h, Nat.xor_self]), h, Int.mul_comm]
    · rw [if_neg h, if_neg (fun z => h ?_), Int.mul_zero]
      have h2 := congrArg (· ^^^ u) z
      simpa [Nat.xor_assoc] using h2
  rw [e2, sum_one List.nodup_range, if_pos (List.mem_range.mpr hu)]
theorem pc_zero {n : Nat} {p : Nat → Bool} : pcN n p 0 = (lotOf n p).length := by
  unfold pcN
  rw [List.filter_eq_self.mpr]
  intro x hx
  rw [Nat.xor_zero]
  exact (mem_lot.mp hx).2
theorem sc_zero {n : Nat} {p : Nat → Bool} : scI n p 0 = ((lotOf n p).length : Int) := by
  unfold scI
  have : ∀ l : List Nat, (l.map fun x => sgn 0 x).sum = (l.length : Int) := fun l => by
    induction l with
    | nil => rfl
    | cons x l ih => rw [List.map_cons, List.sum_cons, ih, sgn_zeroL, List.length_cons]; omega
  exact this _
theorem pc_all {n : Nat} {p : Nat → Bool} : ((List.range (2 ^ n)).map fun d => (pcN n p d : Int)).sum = ((lotOf n p).length : Int) * (lotOf n p).length := by
  have h := pc_sq (n := n) (u := 0) (p := p)
  rw [sc_zero] at h
  rw [← h]
  exact sum_congr fun d _ => by rw [sgn_zeroL, Int.one_mul]
theorem sq_all {n : Nat} {p : Nat → Bool} (hn : n ≤ 6) : ((List.range (2 ^ n)).map fun d => scI n p d * scI n p d).sum = ((2 ^ n : Nat) : Int) * ((lotOf n p).length : Int) := by
  have h := sq_pc (n := n) (u := 0) (p := p) hn (pow0 n)
  rw [pc_zero] at h
  rw [← h]
  exact sum_congr fun d _ => by rw [sgn_zeroL, Int.one_mul]
end XT
namespace XT
open PySem PySem.Spec PyProof.Rows L2
/-! lists of ints, sums with signs -/
theorem at_pc {n i : Nat} {p : Nat → Bool} (hi : i < 2 ^ n) : (vm (pcL n p))[i]? = some (.int (pcN n p i : Int)) := by
  unfold vm pcL
  rw [List.getElem?_map, List.getElem?_map, List.getElem?_range hi]
  rfl
def mulF (c : Nat → Int) : Nat → V → V := fun i v => match v with | .int z => V.int (c i * z) | v => v
theorem mapIdx_sum (f : Nat → Int) (c : Nat → Int) (n : Nat) : (((List.range n).map f).map V.int).mapIdx (mulF c) = ((List.range n).map fun i => c i * f i).map V.int := by
  apply List.ext_getElem?
  intro i
  rw [List.getElem?_mapIdx]
  by_cases hi : i < n
  · simp [mulF, List.getElem?_range hi]
  · simp [List.getElem?_eq_none (show (List.range n).length ≤ i by rw [List.length_range]; omega)]
theorem pcI {n : Nat} {p : Nat → Bool} : vm (pcL n p) = ((List.range (2 ^ n)).map fun d => (pcN n p d : Int)).map V.int := by
  unfold vm pcL
  rw [List.map_map, List.map_map]
  rfl
theorem sgn_pm (a b : Nat) : sgn a b = 1 ∨ sgn a b = -1 := by
  unfold sgn
  split
  · exact .inl rfl
  · exact .inr rfl
theorem sum_abs (u : Nat) : ∀ l : List Nat, -(l.length : Int) ≤ (l.map fun x => sgn u x).sum ∧ (l.map fun x => sgn u x).sum ≤ (l.length : Int)
  | [] => by simp
  | x :: l => by
    have ih := sum_abs u l
    rw [List.map_cons, List.sum_cons, List.length_cons]
    rcases sgn_pm u x with h | h <;> rw [h] <;> omega
theorem sc_abs {n u : Nat} {p : Nat → Bool} (hn : n ≤ 6) : -64 ≤ scI n p u ∧ scI n p u ≤ 64 := by
  have h := sum_abs u (lotOf n p)
  have l := lot_len hn p
  unfold scI
  omega
theorem nne {i j : Int} (h : i = j) : (!decide (V.int i = V.int j)) = false := by
  rw [h, decide_eq_true rfl]
  rfl
theorem nxt {X : L2.St → Hp → Prop} {r : VK} {b c : L2.St → Hp → Prop} {σ : L2.St} {H : Hp} (h : X σ H) : tNext { nx := X, rt := r, bk := b, ct := c } σ H := h
theorem seq_if {t : TT} {ta tb : TE} {g : TG} {b : TS} {D : Ends} {σ : L2.St} {H : Hp} (R : Addr → Hp → Prop) (hQ : ∀ p H', R p H' → tAsg (fun _ H Q => Q (.ref p) H) g { D with nx := b D } σ H') (h : (∀ p H', R p H' → tAsg (fun _ H Q => Q (.ref p) H) g { D with nx := b D } σ H') → tSeq (tAsg (tIf t ta tb) g) b D σ H) : tSeq (tAsg (tIf t ta tb) g) b D σ H := h hQ
theorem rg_vm (n : Nat) : rgV 0 ((n : Nat) : Int) = vm (List.range n) := by
  unfold rgV vm
  rw [Int.sub_zero, Int.toNat_natCast]
  exact List.map_congr_left fun i _ => by rw [Int.zero_add]
theorem eqv_intsI : ∀ ms ks : List Int, PyData.eqvAll (ms.map PyData.int) (ks.map PyData.int) = decide (ms = ks)
  | [], [] => rfl
  | [], k :: ks => by simp [PyData.eqvAll]
  | m :: ms, [] => by simp [PyData.eqvAll]
  | m :: ms, k :: ks => by
    have ih := eqv_intsI ms ks
    simp only [List.map_cons, PyData.eqvAll, ih]
    by_cases h : m = k
    · subst h
      by_cases h2 : ms = ks
      · subst h2; simp [PyData.eqv]
      · simp [PyData.eqv, h2]
    · simp [PyData.eqv, h]
/-- a == b, a != b of lists of ints -/
theorem eq_lstI {K : PySem.W.Frag} {H : Hp} {q r : Addr} {ms ks : List Int} {Q : VK} (hx : H q = some (.lst (ms.map V.int))) (hy : H r = some (.lst (ks.map V.int))) (k : Q (.bl (decide (ms = ks))) H) : rEqD K (.ref q) (.ref r) H Q := by
  refine ⟨_, _, .lst (SqL.of hx) (dpInts _), .lst (SqL.of hy) (dpInts _), ke_shaped _, ke_shaped _, ?_⟩
  rw [show PyData.eqv (.list (ms.map PyData.int)) (.list (ks.map PyData.int)) = decide (ms = ks) by have h := eqv_intsI ms ks; simpa [PyData.eqv] using h]
  exact k
end XT
/-! counts that are some lot's signed counts -/
namespace XT
open PySem PySem.Spec PyProof.Rows L2
def suW (n : Nat) (cs : List Int) (x : Nat) : Int := ((List.range (2 ^ n)).map fun u => cs.getD u 0 * sgn u x).sum
def okW (n : Nat) (cs : List Int) : Bool := (List.range (2 ^ n)).all fun x => decide (suW n cs x = 0) || decide (suW n cs x = ((2 ^ n : Nat) : Int))
def pW (n : Nat) (cs : List Int) (x : Nat) : Bool := decide (suW n cs x = ((2 ^ n : Nat) : Int))
theorem getD_sc {n u : Nat} {p : Nat → Bool} (hu : u < 2 ^ n) : (scL n p).getD u 0 = scI n p u := by
  unfold scL
  rw [List.getD_eq_getElem?_getD, List.getElem?_map, List.getElem?_range hu]
  rfl
theorem su_sc {n x : Nat} {p : Nat → Bool} (hn : n ≤ 6) (hx : x < 2 ^ n) : suW n (scL n p) x = if p x = true then ((2 ^ n : Nat) : Int) else 0 := by
  unfold suW
  rw [sum_congr (g := fun u => scI n p u * sgn u x) fun u hu => by rw [getD_sc (List.mem_range.mp hu)]]
  exact inv hn hx
theorem ok_sc {n : Nat} {p : Nat → Bool} (hn : n ≤ 6) : okW n (scL n p) = true := by
  unfold okW
  rw [List.all_eq_true]
  intro x hx
  rw [su_sc hn (List.mem_range.mp hx)]
  by_cases h : p x = true <;> simp [h]
theorem p_sc {n x : Nat} {p : Nat → Bool} (hn : n ≤ 6) (hx : x < 2 ^ n) : pW n (scL n p) x = p x := by
  unfold pW
  rw [su_sc hn hx]
  have h2 : (0 : Int) < ((2 ^ n : Nat) : Int) := by have := Nat.two_pow_pos n; omega
  by_cases h : p x = true
  · rw [if_pos h, h]; exact decide_eq_true rfl
  · rw [if_neg h]
    have hf : p x = false := by simpa using h
    rw [hf]
    exact decide_eq_false (fun z => by omega)
theorem sum_filter (p : Nat → Bool) (f : Nat → Int) : ∀ l : List Nat, ((l.filter p).map f).sum = (l.map fun x => if p x = true then f x else 0).sum
  | [] => rfl
  | x :: l => by
    rw [List.filter_cons, List.map_cons, List.sum_cons, ← sum_filter p f l]
    by_cases h : p x = true
    · rw [if_pos h, if_pos h, List.map_cons, List.sum_cons]
    · rw [if_neg h, if_neg h, Int.zero_add]
theorem sc_of {n : Nat} {cs : List Int} (hn : n ≤ 6) (hl : cs.length = 2 ^ n) (ho : okW n cs = true) : scL n (pW n cs) = cs := by
  have hN : (0 : Int) < ((2 ^ n : Nat) : Int) := by have := Nat.two_pow_pos n; omega
  have key : ∀ u, u < 2 ^ n → scI n (pW n cs) u = cs.getD u 0 := fun u hu => by
    refine Int.eq_of_mul_eq_mul_left (Int.ne_of_gt hN) ?_
    have e1 : ((2 ^ n : Nat) : Int) * scI n (pW n cs) u = ((List.range (2 ^ n)).map fun x => suW n cs x * sgn u x).sum := by
      unfold scI
      rw [← sum_mul]
      unfold lotOf
      rw [sum_filter]
      refine sum_congr fun x hx => ?_
      have h := List.all_eq_true.mp ho x hx
      rw [Bool.or_eq_true, decide_eq_true_iff, decide_eq_true_iff] at h
      by_cases hp : pW n cs x = true
      · rw [if_pos hp]
        have h2 : suW n cs x = ((2 ^ n : Nat) : Int) := of_decide_eq_true hp
        rw [h2]
      · rw [if_neg hp]
        rcases h with h | h
        · rw [h, Int.zero_mul]
        · exact absurd (decide_eq_true h) hp
    rw [e1]
    have e2 : ((List.range (2 ^ n)).map fun x => suW n cs x * sgn u x).sum = ((List.range (2 ^ n)).map fun x => ((List.range (2 ^ n)).map fun v => cs.getD v 0 * sgn x (v ^^^ u)).sum).sum := by
      refine sum_congr fun x _ => ?_
      unfold suW
      rw [Int.mul_comm, ← sum_mul]
      refine sum_congr fun v _ => ?_
      rw [sgn_xor, sgn_comm v x, sgn_comm u x, Int.mul_comm, Int.mul_assoc]
    rw [e2, sum_swap]
    have e3 : ((List.range (2 ^ n)).map fun v => ((List.range (2 ^ n)).map fun x => cs.getD v 0 * sgn x (v ^^^ u)).sum).sum = ((List.range (2 ^ n)).map fun v => if v = u then ((2 ^ n : Nat) : Int) * cs.getD u 0 else 0).sum := by
      refine sum_congr fun v hv => ?_
      rw [sum_mul, orth hn (xor_lt (List.mem_range.mp hv) hu)]
      by_cases e : v = u
      · rw [if_pos e, if_pos (by rw [e, Nat.xor_self]), e, Int.mul_comm]
      · rw [if_neg e, if_neg (fun z => e ?_), Int.mul_zero]
        have h := congrArg (· ^^^ u) z
        simpa [Nat.xor_assoc] using h
    rw [e3, sum_one List.nodup_range, if_pos (List.mem_range.mpr hu)]
  refine List.ext_getElem? fun i => ?_
  rcases Nat.lt_or_ge i (2 ^ n) with h | h
  · unfold scL
    rw [List.getElem?_map, List.getElem?_range h]
    show some (scI n (pW n cs) i) = _
    rw [key i h, List.getD_eq_getElem?_getD, List.getElem?_eq_getElem (by omega)]
    rfl
  · rw [List.getElem?_eq_none (by unfold scL; rw [List.length_map, List.length_range]; exact h), List.getElem?_eq_none (by omega)]
end XT
/-! sum(t) of a tuple; a comprehension over enumerate of a list and of a tuple -/
namespace XT
open PySem PySem.Spec PyProof.Rows L2
section
variable {prog : Program} {w : World} {A : Around} {E : Value → Shared → Prop} {s : Shared} {l : Addr}
theorem sum_tupRaw {its : List Value} {ns : List Int} {Q : Value → Shared → Prop} (hh : A.handled = none) (hl : s.heap.IsTuple l its.toArray) (hi : IntsAre its ns)
    (h : ∀ h' tk t', (∀ b o, s.heap.get? b = some o → h'.get? b = some o) → Q (.int ns.sum t') { s with heap := h', toks := tk }) : wpAny (model prog w) A (call (.builtin "sum") [.ref l]) Q E s := by
  obtain ⟨xs, e⟩ := hi.allInts.items
  have hn : numsOf (intItems xs).toList = ns := by rw [← e]; exact hi.numsOf
  rw [nums_intItems] at hn
  rw [e] at hl
  have hlt : l < s.heap.objs.size := by obtain ⟨_, e, _⟩ := hl; exact Heap.lt_size e
  have hl2 : (s.heap.push { cls := .type "tuple_iterator", data := .fields #[.ref l, .int 0 0] }).IsTuple l (intItems xs) := by
    obtain ⟨o, ho, hc⟩ := hl
    exact ⟨o, Heap.get?_push_of_some _ ho, hc⟩
  refine call_sum_walkG (wpAny_pyIter_tuple hl ?_)
  refine ⟨_, _, _, _, _, _, numAt xs, rfl, Walks.tuple (A := A.in1) hh _ l (Nat.ne_of_lt hlt) (intItems xs), ⟨⟨_, Heap.get?_push_size _ rfl, rfl, rfl⟩, hl2⟩, (fun b hb => ?_), (fun _ _ => intItems_at), fun h' tk t' hk => ?_⟩
  · show b < (s.heap.push _).objs.size
    rw [Heap.size_push]
    rcases List.mem_cons.mp hb with rfl | hb
    · exact Nat.lt_succ_self _
    · rcases List.mem_cons.mp hb with rfl | hb
      · exact Nat.lt_succ_of_lt hlt
      · cases hb
  · have := h h' tk t' (fun b o e => by
      refine hk b o (fun hm => ?_) (Heap.get?_push_of_some _ e)
      rcases List.mem_cons.mp hm with e1 | hm
      · exact absurd (e1 ▸ Heap.lt_size e) (Nat.lt_irrefl _)
      · cases hm)
    rw [← hn] at this
    have e2 : preSum (numAt xs) xs.size = (xs.toList.map (·.1)).sum := by rw [preSum_eq, List.take_of_length_le (by simp)]
    rw [show (intItems xs).size = xs.size by simp [intItems], e2]
    exact this
end
def rSumT (K : PySem.W.Frag) : List V → Hp → VK → Prop := fun vs H Q => ∃ (a : Addr) (ns : List Int), vs = [V.ref a] ∧ SqT K H a (ns.map V.int) ∧ Q (.int ns.sum) H
theorem cr_sumT {X : Cx} (hc : X.calm = true) : CallR X (.builtin "sum") (rSumT X.K) := by
  intro pins s σ H vs us Q I r h
  obtain ⟨a, ns, rfl, hs, q⟩ := h
  obtain ⟨its, rv, hl, _⟩ := I.tuple hs
  rw [Vals.ref1 r]
  exact sum_tupRaw (I.ok.hd hc) hl rv.ints fun h' tk t' hk => ⟨.int _, H, I.kept hk, ⟨_, rfl⟩, q⟩
section
variable {K : PySem.W.Frag} {a : Addr} {xs : List V} {g : TG} {tt : TT} {te : TE} {vs : List Nat} {σ : L2.St} {H1 : Hp} {D : Addr} {Qd : Hp → Prop}
theorem pvp_new {ys : List V} {T : Addr} {o : HO} {H : Hp} (h : PvP H1 D ys H) (hT : H T = none) : PvP H1 D ys (upd H T o) :=
  ⟨h.1.trans (same_new hT), (same_new hT) _ _ h.2⟩
theorem mapIdx_take (f : Nat → V → V) {i : Nat} {x : V} (h : xs[i]? = some x) : (xs.take (i + 1)).mapIdx f = (xs.take i).mapIdx f ++ [f i x] := by
  have hi : i < xs.length := (List.getElem?_eq_some_iff.mp h).1
  rw [List.take_add_one, h, Option.toList_some, List.mapIdx_append, List.length_take, Nat.min_eq_left (Nat.le_of_lt hi)]
  simp
/-- a comprehension over enumerate(list), enumerate(tuple) whose turns leave what was laid -/
theorem lce_list (f : Nat → V → V) (nD : H1 D = none) (hA : SqL K H1 a xs) (hz : xs.length < sizeLine)
    (ht : ∀ (i : Nat) x T H, xs[i]? = some x → Same H1 H → H T = some (.tup [.int (i : Nat), x]) → TurnP g tt te vs σ (.ref T) (f i x) true H)
    (hd : ∀ H, Same H1 H → H D = some (.lst (xs.mapIdx f)) → Qd H) :
    ∃ W : Nat → Nat → Hp → Prop, (∃ m, W 0 m (upd H1 D (.lst []))) ∧ ∀ i m H, W i m H →
      ((Ite K a).stop i H ∧ Qd H) ∨ ((Ite K a).go i H ∧ ∃ Nx : Hp → Prop, (∀ H', Nx H' → ∃ m', m' < m ∧ W (i + 1) m' H') ∧ ∀ x H', (Ite K a).yld i H x H' → g x (wipe σ vs) H' fun σ2 H2 => wipe σ2 vs = wipe σ vs ∧ tt σ2 H2 fun c H3 =>
        if c = true then te σ2 H3 fun y H4 => ∃ acc, H4 D = some (.lst acc) ∧ acc.length < sizeLine ∧ Nx (upd H4 D (.lst (acc ++ [y]))) else Nx H3) := by
  refine ⟨fun i m H => m = xs.length - i ∧ i ≤ xs.length ∧ PvP H1 D ((xs.take i).mapIdx f) H, ⟨xs.length, rfl, Nat.zero_le _, same_new nD, upd_same⟩, ?_⟩
  rintro i m H ⟨rfl, hi, p⟩
  have qx : SqL K H a xs := p.1.seq hA
  rcases Nat.lt_or_ge i xs.length with lt | ge
  · have hx : xs[i]? = some xs[i] := List.getElem?_eq_getElem lt
    refine .inr ⟨⟨xs, _, qx, hx⟩, fun H' => PvP H1 D ((xs.take (i + 1)).mapIdx f) H', fun H' p' => ⟨xs.length - (i + 1), by omega, rfl, lt, p'⟩, fun v H' z => ?_⟩
    obtain ⟨T, x', rfl, hT, rfl, f1⟩ := z
    have hx' := f1 xs qx
    exact pvp_turn nD (pvp_new p hT) (by rw [List.length_mapIdx, List.length_take]; omega) (ht i x' T _ hx' (p.1.trans (same_new hT)) upd_same) _ (mapIdx_take f hx')
  · have e : i = xs.length := by omega
    subst e
    refine .inl ⟨⟨xs, qx, Nat.le_refl _⟩, hd H p.1 ?_⟩
    have := p.2
    rwa [List.take_length] at this
theorem lce_tup (f : Nat → V → V) (nD : H1 D = none) (hA : SqT K H1 a xs) (hz : xs.length < sizeLine)
    (ht : ∀ (i : Nat) x T H, xs[i]? = some x → Same H1 H → H T = some (.tup [.int (i : Nat), x]) → TurnP g tt te vs σ (.ref T) (f i x) true H)
    (hd : ∀ H, Same H1 H → H D = some (.lst (xs.mapIdx f)) → Qd H) :
    ∃ W : Nat → Nat → Hp → Prop, (∃ m, W 0 m (upd H1 D (.lst []))) ∧ ∀ i m H, W i m H →
      ((ItT K a).stop i H ∧ Qd H) ∨ ((ItT K a).go i H ∧ ∃ Nx : Hp → Prop, (∀ H', Nx H' → ∃ m', m' < m ∧ W (i + 1) m' H') ∧ ∀ x H', (ItT K a).yld i H x H' → g x (wipe σ vs) H' fun σ2 H2 => wipe σ2 vs = wipe σ vs ∧ tt σ2 H2 fun c H3 =>
        if c = true then te σ2 H3 fun y H4 => ∃ acc, H4 D = some (.lst acc) ∧ acc.length < sizeLine ∧ Nx (upd H4 D (.lst (acc ++ [y]))) else Nx H3) := by
  refine ⟨fun i m H => m = xs.length - i ∧ i ≤ xs.length ∧ PvP H1 D ((xs.take i).mapIdx f) H, ⟨xs.length, rfl, Nat.zero_le _, same_new nD, upd_same⟩, ?_⟩
  rintro i m H ⟨rfl, hi, p⟩
  have qx : SqT K H a xs := Same.sqT p.1 hA
  rcases Nat.lt_or_ge i xs.length with lt | ge
  · have hx : xs[i]? = some xs[i] := List.getElem?_eq_getElem lt
    refine .inr ⟨⟨xs, _, qx, hx⟩, fun H' => PvP H1 D ((xs.take (i + 1)).mapIdx f) H', fun H' p' => ⟨xs.length - (i + 1), by omega, rfl, lt, p'⟩, fun v H' z => ?_⟩
    obtain ⟨T, x', rfl, hT, rfl, f1⟩ := z
    have hx' := f1 xs qx
    exact pvp_turn nD (pvp_new p hT) (by rw [List.length_mapIdx, List.length_take]; omega) (ht i x' T _ hx' (p.1.trans (same_new hT)) upd_same) _ (mapIdx_take f hx')
  · have e : i = xs.length := by omega
    subst e
    refine .inl ⟨⟨xs, qx, rfl⟩, hd H p.1 ?_⟩
    have := p.2
    rwa [List.take_length] at this
end
end XT
namespace XT
open PySem PySem.Spec PyProof.Rows L2
section
variable {P : Program} {w : World} {K : PySem.W.Frag} {mg : Str → Option Value} {base : Heap}
theorem scNum : FnScope ["value"] ["value"] (defScope sNum) := ⟨rfl, rfl, rfl, by decide +kernel, rfl, by decide +kernel, by decide +kernel⟩
def spNum : Sp := fun vs H Q _ => ∃ i, vs = [.int i] ∧ Q (.bl true) H
theorem ok_num {f : Addr} {fd : FuncData} {k : Nat} (B : Bl mg) (F : Fun K "is_number" "is_number" sNum f fd) : FnOk P w K mg base CX0 (k + 1) f fd ["value"] spNum := by
  refine F.ok scNum (fun vs H Q E h => ?_) (fun cdv A outer s H vs Q E hr h => ?_)
  · obtain ⟨i, rfl, _⟩ := h
    rfl
  · obtain ⟨i, rfl, q⟩ := h
    refine ⟨_, pss_one (ps_ret (pe_and (pe_callB call_isi (by rfl) B.isinstance bI (pa_cons (pv 0) (pa_cons (pe_bltn (v := .ty "int") (by rfl) B.int bInt rfl) pa_nil)))
      (pe_one (pe_not (pe_callB call_isi (by rfl) B.isinstance bI (pa_cons (pv 0) (pa_cons (pe_bltn (v := .ty "bool") (by rfl) B.bool bBool rfl) pa_nil))))))), ?_⟩
    refine ⟨.int i, rfl, .int i, .ty "int", _, _, true, rfl, .ty _, .base (.int i), kit_ty (by decide +kernel), true, rfl, iteT ?_⟩
    refine ⟨.int i, rfl, .int i, .ty "bool", _, _, false, rfl, .ty _, .base (.int i), kit_ty (by decide +kernel), false, rfl, ?_⟩
    exact q
end
end XT
/-! count_ones, sign -/
namespace XT
open PySem PySem.Spec PyProof.Rows L2
section
variable {P : Program} {w : World} {K : PySem.W.Frag} {mg : Str → Option Value} {base : Heap}
theorem scOn : FnScope ["mask"] ["mask"] (defScope sCountOnes) := ⟨rfl, rfl, rfl, by decide +kernel, rfl, by decide +kernel, by decide +kernel⟩
def spOnes : Sp := fun vs H Q _ => ∃ m : Nat, vs = [.int (m : Int)] ∧ m < 2 ^ 900 ∧ Q (.int (pop m : Int)) H
theorem ok_ones {f : Addr} {fd : FuncData} {k : Nat} (F : Fun K "count_ones" "count_ones" sCountOnes f fd) : FnOk P w K mg base CX0 (k + 1) f fd ["mask"] spOnes := by
  refine F.ok scOn (fun vs H Q E h => ?_) (fun cdv A outer s H vs Q E hr h => ?_)
  · obtain ⟨m, rfl, _⟩ := h
    rfl
  · obtain ⟨m, rfl, hm, q⟩ := h
    refine ⟨_, pss_one (ps_ret (pe_bm PySem.F.plainAttrs_str PySem.F.slot_str_count PySem.F.type_str_count mt_count (pe_joined1 (pe_fmtB (by decide +kernel) (pv 0))) (pa_cons pe_str pa_nil))), ?_⟩
    refine ⟨.int m, rfl, m, rfl, hm, rfl, _, _, rfl, rfl, ?_⟩
    have e : Txt.count (binS m) (Str.ofString "1") = (pop m : Int) := by
      have e1 : Str.ofString "1" = ⟨#[49]⟩ := by decide +kernel
      rw [e1]
      exact congrArg Int.ofNat (count_one m)
    show Q (.int (Txt.count (binS m) (Str.ofString "1"))) H
    rw [e]
    exact q
theorem scSg : FnScope ["one", "other"] ["one", "other"] (defScope sSign) := ⟨rfl, rfl, rfl, by decide +kernel, rfl, by decide +kernel, by decide +kernel⟩
theorem ok_sign {f : Addr} {fd : FuncData} {k : Nat} (F : Fun K "sign" "sign" sSign f fd) (dO : DefR P w K mg base 1 "count_ones" spOnes) : FnOk P w K mg base CX0 (k + 2) f fd ["one", "other"] spSgn := by
  refine F.ok scSg (fun vs H Q E h => ?_) (fun cdv A outer s H vs Q E hr h => ?_)
  · obtain ⟨a, b, rfl, _⟩ := h
    rfl
  · obtain ⟨a, b, rfl, ha, hb, q⟩ := h
    refine ⟨_, pss_one (ps_ret (pe_ifExp (pt_cmpR op_eq (pe_op op_mod (pe_def dO (hr.mono (by omega)) (by rfl) (pa_cons (pe_op op_and (pv 0) (pv 1)) pa_nil)) pe_int) pe_int (nomark _)) pe_int (pe_un un_neg pe_int))), ?_⟩
    have e : Builtin.bitAnd (a : Int) (b : Int) = ((a &&& b : Nat) : Int) := by
      rw [bitAnd_pp (by omega) (by omega)]
      rfl
    have hq := q H (Same.refl _)
    refine ⟨.int a, rfl, .int b, rfl, (a : Int), (b : Int), rfl, rfl, a &&& b, congrArg (fun z => [V.int z]) e, Nat.lt_of_le_of_lt Nat.and_le_left ha, (pop (a &&& b) : Int), 2, rfl, rfl, (by decide : (0 : Int) < 2), rfl, _, rfl, ?_⟩
    unfold sgn at hq
    refine ite2 (fun z => ?_) (fun z => ?_)
    · have z2 := V.int.inj (of_decide_eq_true z)
      rw [if_pos (by omega)] at hq
      exact hq
    · have z2 : ¬((pop (a &&& b) : Int) % 2 = 0) := fun e => z (decide_eq_true (congrArg V.int e))
      rw [if_neg (by omega)] at hq
      exact ⟨1, rfl, hq⟩
end
end XT
/-! lot_with, at tuples of ints -/
namespace XT
open PySem PySem.Spec PyProof.Rows L2
def mulG (c : Nat → Int) : Nat → V → V := fun i v => match v with | .int z => V.int (z * c i) | v => v
theorem cs_mul {cs : List Int} {n : Nat} (c : Nat → Int) (hl : cs.length = n) : (cs.map V.int).mapIdx (mulG c) = ((List.range n).map fun i => cs.getD i 0 * c i).map V.int := by
  apply List.ext_getElem?
  intro i
  rw [List.getElem?_mapIdx]
  by_cases hi : i < n
  · rw [List.getElem?_map, List.getElem?_map, List.getElem?_map, List.getElem?_range hi, List.getElem?_eq_getElem (by omega)]
    show some (mulG c i (V.int cs[i])) = some (V.int (cs.getD i 0 * c i))
    rw [List.getD_eq_getElem?_getD, List.getElem?_eq_getElem (by omega)]
    rfl
  · rw [List.getElem?_eq_none (by rw [List.length_map]; omega), List.getElem?_eq_none (by rw [List.length_map, List.length_map, List.length_range]; omega)]
    rfl
def LwAt (H : Hp) (z : V) (n : Nat) (cs : List Int) : Prop := (okW n cs = true ∧ LotAt H z n (pW n cs)) ∨ (okW n cs = false ∧ z = .non)
def spLw : Sp := fun vs H Q _ => ∃ (n : Nat) (v : V) (cs : List Int), vs = [.int n, v] ∧ TupI H v cs ∧ n ≤ 6 ∧ cs.length = 2 ^ n ∧ ∀ H' z, Same H H' → LwAt H' z n cs → Q z H'
section
variable {P : Program} {w : World} {K : PySem.W.Frag} {mg : Str → Option Value} {base : Heap}
abbrev nWi : List Str := ["width", "value", "many", "sums", "x", "mask", "count", "total"]
theorem scWi : FnScope nWi ["width", "value"] (defScope sLotWith) := ⟨rfl, rfl, rfl, by decide +kernel, rfl, by decide +kernel, by decide +kernel⟩
def outWi : Scope := match (defBody sLotWith).getD 2 (.Pass ⟨0, 0, 0, 0⟩) with
  | .Assign _ (.ListComp _ _ sc _) _ => sc
  | _ => defScope sLotWith
abbrev teMu : TE := tOp (rI CMul fun i j => .int (i * j)) (tVar 6) (tDf spSgn (tCons (tVar 5) (tCons (tVar 4) tNil)))
abbrev teWi (K : PySem.W.Frag) : TE := tCB (rSum K) (tCons (tLc (iEnT K (tCons (tVar 1) tNil)) (gTup K 2 (gCons (gName 5) (gCons (gName 6) gNil))) tYes teMu [5, 6]) tNil)
theorem ok_lw {f : Addr} {fd : FuncData} {k : Nat} (B : Bl mg) (mS : mg "sum" = none) (F : Fun K "lot_with" "lot_with" sLotWith f fd) (dN : DefR P w K mg base 1 "is_number" spNum) (dS : DefR P w K mg base 2 "sign" spSgn) : FnOk P w K mg base CX0 (k + 3) f fd ["width", "value"] spLw := by
  refine F.ok scWi (fun vs H Q E h => ?_) (fun cdv A outer s H vs Q E hr h => ?_)
  · obtain ⟨n, v, cs, rfl, _⟩ := h
    rfl
  · obtain ⟨n, v, cs, rfl, ⟨a, rfl, ha⟩, hn, hl, q⟩ := h
    have h6 := pow6 hn
    have hln : (cs.map V.int).length = 2 ^ n := by rw [List.length_map]; exact hl
    refine ⟨_, pss_cons (ps_set (i := 2) scWi.nd rfl (by first | exact Or.inl rfl | exact Or.inr rfl) (pe_op op_shl pe_int (pv 0)))
      (pss_cons (ps_if (PW.pt (pw_or (pt_not (pt_val (pe_callB call_isi (by rfl) B.isinstance bI (pa_cons (pv 1) (pa_cons (pe_bltn (v := .ty "tuple") (by rfl) B.tuple bT rfl) pa_nil))))) (pw_or (pt_cmpR op_ne (pe_callB call_len_seq (by rfl) B.len PySem.boot_len (pa_cons (pv 1) pa_nil)) (pv 2) (nomark _))
          (pw_or1 (pt_not (pt_val (pe_callB (cr_all rfl) (by rfl) B.all bAll (pa_cons
            (pe_lc (own := [("count", 6)]) (g := gName 6) (tt := tYes) (te := tDf spNum (tCons (tVar 6) tNil)) rfl scWi.nd (pi_tup (pv 1)) (blkOk_by (own := [("count", 6)]) (N := nWi) (sc := defScope sLotWith) (by decide +kernel))
              (fun _ _ _ _ _ => pg_name (i := 6) scWi.nd rfl (Or.inl rfl)) (fun _ _ _ _ _ => pts_nil) (fun _ _ _ _ _ => pe_def dN (hr.mono (by omega)) (by rfl) (pa_cons (pv 6) pa_nil))) pa_nil)))))))) (pss_one (ps_ret pe_non)) pss_nil)
      (pss_cons (ps_set (i := 3) scWi.nd rfl (by first | exact Or.inl rfl | exact Or.inr rfl) (pe_lc (own := [("x", 4)]) (g := gName 4) (tt := tYes) (te := teWi K) rfl scWi.nd (pi_range1 (by rfl) B.range (pa_cons (pv 2) pa_nil)) (blkOk_by (own := [("x", 4)]) (N := nWi) (sc := defScope sLotWith) (by decide +kernel))
          (fun _ _ _ _ _ => pg_name (i := 4) scWi.nd rfl (by first | exact Or.inl rfl | exact Or.inr rfl)) (fun _ _ _ _ _ => pts_nil)
          (fun _ _ _ _ _ => pe_callB (cr_sum rfl) (by rfl) mS bSum (pa_cons
            (pe_lc (own := [("mask", 5), ("count", 6)]) (g := gTup K 2 (gCons (gName 5) (gCons (gName 6) gNil))) (tt := tYes) (te := teMu) rfl scWi.nd (pi_enumT (by rfl) B.enumerate (pa_cons (pv 1) pa_nil)) (blkOk_by (own := [("mask", 5), ("count", 6)]) (N := nWi) (sc := relS outWi (defScope sLotWith)) (by decide +kernel))
              (fun _ _ _ _ _ => pg_tup rfl (pgs_cons (pg_name (i := 5) scWi.nd rfl (Or.inl rfl)) (pgs_cons (pg_name (i := 6) scWi.nd rfl (Or.inl rfl)) pgs_nil))) (fun _ _ _ _ _ => pts_nil) (fun _ _ _ _ _ => pe_op op_mul (pv 6) (pe_def dS (hr.mono (by omega)) (by rfl) (pa_cons (pv 5) (pa_cons (pv 4) pa_nil))))) pa_nil))))
      (pss_cons (ps_if (pt_not (pt_val (pe_callB (cr_all rfl) (by rfl) B.all bAll (pa_cons
            (pe_lc (own := [("total", 7)]) (g := gName 7) (tt := tYes) (te := tOp (rIn K false) (tVar 7) (tTup (tCons (tC (.int 0)) (tCons (tVar 2) tNil)))) rfl scWi.nd (pi_list (pv 3)) (blkOk_by (own := [("total", 7)]) (N := nWi) (sc := defScope sLotWith) (by decide +kernel))
              (fun _ _ _ _ _ => pg_name (i := 7) scWi.nd rfl (Or.inl rfl)) (fun _ _ _ _ _ => pts_nil) (fun _ _ _ _ _ => pe_cmpR op_in_seq (pv 7) (pe_tup (pa_cons pe_int (pa_cons (pv 2) pa_nil))) (by rfl))) pa_nil)))) (pss_one (ps_ret pe_non)) pss_nil)
      (pss_one (ps_ret (pe_tup (pa_cons (pv 0) (pa_cons (pe_callTy call_tuple_of (by rfl) B.tuple bT (pa_cons
            (pe_lc (own := [("x", 4)]) (g := gName 4) (tt := tTest (tOp rEq (tOp (rIxL K) (tVar 3) (tVar 4)) (tVar 2))) (te := tVar 4) rfl scWi.nd (pi_range1 (by rfl) B.range (pa_cons (pv 2) pa_nil)) (blkOk_by (own := [("x", 4)]) (N := nWi) (sc := defScope sLotWith) (by decide +kernel))
              (fun _ _ _ _ _ => pg_name (i := 4) scWi.nd rfl (by first | exact Or.inl rfl | exact Or.inr rfl)) (fun _ _ _ _ _ => pts_one (pt_cmpR op_eq (pe_ix ix_list (pv 3) (pv 4) (fun _ _ => rfl)) (pv 2) (nomark _))) (fun _ _ _ _ _ => pv 4)) pa_nil)) pa_nil)))))))), ?_⟩
    refine ⟨.int n, rfl, 1, n, rfl, rfl, cpow hn, ?_⟩
    rw [show (fun (i j : Int) => V.int (i * 2 ^ j.toNat)) 1 (n : Int) = V.int ((2 ^ n : Nat) : Int) from congrArg V.int (shl1 n)]
    refine ⟨.ref a, rfl, .ref a, .ty "tuple", _, _, true, rfl, .ty _, .base (.tup ha), kit_ty (by decide +kernel), true, rfl, iteF ?_⟩
    refine ⟨.ref a, rfl, a, _, rfl, .inr (SqT.of ha), .int ((2 ^ n : Nat) : Int), rfl, rfl, _, rfl, iteNT (nne (by rw [hln])) ?_⟩
    refine ⟨.ref a, rfl, a, rfl, ⟨_, SqT.of ha⟩, fun D nD => ?_⟩
    refine lcp_tup (p := fun _ => true) (f := fun _ => .bl true) nD (SqT.of ha) (small64 (by omega)) (fun i z H2 hz s2 => ?_) (fun H2 s2 hD => ?_)
    · intro R1 R2 h1 h2
      rw [List.getElem?_map] at hz
      obtain ⟨c, hc, rfl⟩ := Option.map_eq_some_iff.mp hz
      exact ⟨rfl, iteT (B := R1 H2) ⟨_, rfl, c, rfl, h2 rfl _ (Same.refl _)⟩⟩
    refine ⟨D, List.replicate (2 ^ n) true, rfl, SqL.of ?_, ?_⟩
    · rw [hD, List.filter_eq_self.mpr (fun _ _ => rfl), List.map_replicate, List.map_const', hln]
    rw [show (List.replicate (2 ^ n) true).all id = true by simp]
    refine ⟨true, rfl, iteF ?_⟩
    have ha2 := s2 _ _ ha
    refine ⟨.int ((2 ^ n : Nat) : Int), rfl, ((2 ^ n : Nat) : Int), rfl, l62, r62 hn, fun D2 nD2 => ?_⟩
    refine lcp_range (n := 2 ^ n) (p := fun _ => true) (f := fun x => .int (suW n cs x)) nD2 (small64 (by omega)) (fun x H3 hx s3 => ?_) (fun H3 s3 hD2 => ?_)
    · intro R1 R2 h1 h2
      have ha3 := s3 _ _ ha2
      refine ⟨rfl, iteT (B := R1 H3) ⟨.ref a, rfl, a, _, rfl, SqT.of ha3, fun B2 nB => ?_⟩⟩
      refine lce_tup (f := mulG fun u => sgn u x) nB (SqT.of ha3) (small64 (by omega)) (fun u z T H4 hz s4 hT => ?_) (fun H4 s4 hB => ?_)
      · intro R3 R4 h3 h4
        have hu : u < 2 ^ n := by
          have := (List.getElem?_eq_some_iff.mp hz).1
          omega
        rw [List.getElem?_map] at hz
        obtain ⟨c, hc, rfl⟩ := Option.map_eq_some_iff.mp hz
        refine ⟨T, _, rfl, SqT.of hT, rfl, _, _, rfl, _, _, rfl, rfl, rfl, iteT (B := R3 H4) ⟨_, rfl, _, rfl, _, rfl, u, x, congrArg (fun z => [V.int (u : Int), V.int z]) (Int.zero_add _), lt900 (by omega), lt900 (by omega), fun H5 s5 => ⟨c, sgn u x, rfl, rfl, .inr ?_, h4 rfl _ s5⟩⟩⟩
        rcases sgn_pm u x with z | z <;> rw [z] <;> decide
      · rw [cs_mul (fun u => sgn u x) hl] at hB
        exact ⟨B2, _, rfl, SqL.of hB, h2 rfl _ s4⟩
    rw [List.filter_eq_self.mpr (fun _ _ => rfl)] at hD2
    refine ⟨.ref D2, rfl, D2, rfl, ⟨_, SqL.of hD2⟩, fun D3 nD3 => ?_⟩
    refine lcp_list (p := fun _ => true) (f := fun v => match v with | .int z => .bl (decide (z = 0) || decide (z = ((2 ^ n : Nat) : Int))) | v => v) nD3 (SqL.of hD2) (small64 (by rw [List.length_map, List.length_range]; omega)) (fun x z H4 hz s4 => ?_) (fun H4 s4 hD3 => ?_)
    · intro R1 R2 h1 h2
      rw [List.getElem?_map] at hz
      obtain ⟨y, hy, rfl⟩ := Option.map_eq_some_iff.mp hz
      refine ⟨rfl, iteT (B := R1 H4) ⟨_, rfl, .int ((2 ^ n : Nat) : Int), rfl, sz (n := 2) (by decide), fun T nT => ⟨T, _, rfl, .inr (SqT.of upd_same), rfl, rfl, ?_⟩⟩⟩
      have e : inV (.int (suW n cs y)) [V.int 0, .int ((2 ^ n : Nat) : Int)] = (decide (suW n cs y = 0) || decide (suW n cs y = ((2 ^ n : Nat) : Int))) := by
        have e0 : ∀ i j : Int, eqV (.int i) (.int j) = decide (j = i) := fun i j => by
          show decide (i = j) = decide (j = i)
          rw [Bool.eq_iff_iff, decide_eq_true_iff, decide_eq_true_iff]
          exact ⟨Eq.symm, Eq.symm⟩
        show (eqV (.int 0) (.int (suW n cs y)) || (eqV (.int ((2 ^ n : Nat) : Int)) (.int (suW n cs y)) || false)) = _
        rw [e0, e0, Bool.or_false]
      show R2 (.bl (inV (.int (suW n cs y)) [V.int 0, .int ((2 ^ n : Nat) : Int)])) _
      rw [e]
      exact h2 rfl _ (same_new nT)
    have eb : (((List.range (2 ^ n)).map fun x => V.int (suW n cs x)).filter fun _ => true).map (fun v => match v with | .int z => V.bl (decide (z = 0) || decide (z = ((2 ^ n : Nat) : Int))) | v => v) = ((List.range (2 ^ n)).map fun x => decide (suW n cs x = 0) || decide (suW n cs x = ((2 ^ n : Nat) : Int))).map V.bl := by
      rw [List.filter_eq_self.mpr (fun _ _ => rfl), List.map_map, List.map_map]
      rfl
    rw [eb] at hD3
    have eo : ((List.range (2 ^ n)).map fun x => decide (suW n cs x = 0) || decide (suW n cs x = ((2 ^ n : Nat) : Int))).all id = okW n cs := by
      unfold okW
      rw [List.all_map]
      rfl
    refine ⟨D3, _, rfl, SqL.of hD3, ?_⟩
    rw [eo]
    have sm := (s2.trans s3).trans s4
    refine ⟨_, rfl, ?_⟩
    cases ho : okW n cs with
    | false => exact iteT (q _ _ sm (.inr ⟨ho, rfl⟩))
    | true =>
      have hD4 := s4 _ _ hD2
      refine iteF ⟨.int n, rfl, .int ((2 ^ n : Nat) : Int), rfl, ((2 ^ n : Nat) : Int), rfl, l62, r62 hn, fun D5 nD5 => ?_⟩
      refine lcp_range (n := 2 ^ n) (p := pW n cs) (f := fun x => .int (x : Int)) nD5 (small64 (by omega)) (fun x H5 hx s5 => ?_) (fun H5 s5 hD5 => ?_)
      · intro R1 R2 h1 h2
        refine ⟨rfl, .ref D2, rfl, _, rfl, D2, _, x, .int (suW n cs x), rfl, congrArg V.int (Int.zero_add _), SqL.of (s5 _ _ hD4), atI_nat (by rw [List.getElem?_map, List.getElem?_range hx]; rfl), .int ((2 ^ n : Nat) : Int), rfl, rfl, _, rfl, ?_⟩
        have e : decide (V.int (suW n cs x) = V.int ((2 ^ n : Nat) : Int)) = pW n cs x := by
          unfold pW
          rw [Bool.eq_iff_iff, decide_eq_true_iff, decide_eq_true_iff]
          exact ⟨V.int.inj, congrArg V.int⟩
        rw [e]
        refine ite2 (fun z => ⟨_, rfl, ?_⟩) (fun z => h1 (by simpa using z) _ (Same.refl _))
        rw [Int.zero_add]
        exact h2 z _ (Same.refl _)
      · refine ⟨D5, _, rfl, .inl ⟨SqL.of hD5, fun T nT => ⟨sz (n := 2) (by decide), fun U nU => ?_⟩⟩⟩
        refine q _ _ (((sm.trans s5).trans (same_new nT)).trans (same_new nU)) (.inl ⟨ho, U, T, rfl, upd_same, ?_⟩)
        rw [upd_ne (ne_of_none upd_same nU), upd_same]
        rfl
end
end XT
/-! len(set(list of tuples of ints)) -/
namespace XT
open PySem PySem.Spec PyProof.Rows L2
def rLenT (K : PySem.W.Frag) (P : Program) (w : World) : List V → Hp → VK → Prop := fun vs H Q => ∃ (a : Addr) (L : List (Addr × List Int)), vs = [.ref a] ∧ H a = some (SetTO P w a L) ∧ (∀ p ∈ L, SqT K H p.1 (p.2.map V.int)) ∧ ((L.map (·.2)).Nodup → Q (.int (L.length : Nat)) H)
theorem cr_lenT {X : Cx} : CallR X (.builtin "len") (rLenT X.K X.prog X.w) := by
  intro pins s σ H vs us Q I r h
  obtain ⟨a, L, rfl, ha, hL, q⟩ := h
  rw [Vals.ref1 r]
  have R0 : SetT0 X.prog X.w s.heap a L := (I.hok a _ ha).1
  obtain ⟨es, ep, t, R⟩ := R0.full fun p hp => I.isT (hL p hp)
  obtain ⟨o, ho, hex, hd⟩ := R.ob
  have hs := R.size
  have hf := R.few
  refine call_len_set ho hex hd R.fits (by omega) ⟨.int (L.length : Nat), H, I.tok _, ⟨_, by rw [hs]⟩, q R.nd⟩
theorem perm_nd {α : Type} [DecidableEq α] {l m : List α} (hl : l.Nodup) (hm : m.Nodup) (h : ∀ x, x ∈ l ↔ x ∈ m) : l.Perm m := by
  rw [List.perm_iff_count]
  intro x
  rw [hl.count, hm.count]
  by_cases hx : x ∈ l
  · rw [if_pos hx, if_pos ((h x).mp hx)]
  · rw [if_neg hx, if_neg fun z => hx ((h x).mpr z)]
/-- a set of tuples, all different -/
theorem set_len {ks L : List (Addr × List Int)} (hk : (ks.map (·.2)).Nodup) (hL : (L.map (·.2)).Nodup) (h1 : ∀ p ∈ L, p ∈ ks) (h2 : ∀ p ∈ ks, p.2 ∈ L.map (·.2)) : L.length = ks.length := by
  have h : (L.map (·.2)).Perm (ks.map (·.2)) := perm_nd hL hk fun x => by
    constructor
    · intro hx
      obtain ⟨p, hp, rfl⟩ := List.mem_map.mp hx
      exact List.mem_map.mpr ⟨p, h1 p hp, rfl⟩
    · intro hx
      obtain ⟨p, hp, rfl⟩ := List.mem_map.mp hx
      exact h2 p hp
  have := h.length_eq
  rwa [List.length_map, List.length_map] at this
/-! signed counts of a lot and of the rest, of two lots -/
theorem sc_filter {n u : Nat} {p : Nat → Bool} : scI n p u = ((List.range (2 ^ n)).map fun x => if p x = true then sgn u x else 0).sum := by
  unfold scI lotOf
  exact sum_filter p (fun x => sgn u x) _
theorem sc_rest {n u : Nat} {p : Nat → Bool} (hn : n ≤ 6) (hu : u < 2 ^ n) : scI n p u + scI n (fun x => !p x) u = if u = 0 then ((2 ^ n : Nat) : Int) else 0 := by
  rw [sc_filter, sc_filter, ← sum_add, ← orth hn hu]
  refine sum_congr fun x _ => ?_
  rw [sgn_comm x u]
  cases p x <;> simp
theorem sc_both {n u : Nat} {p r : Nat → Bool} : scI n p u + scI n r u = scI n (fun x => p x || r x) u + scI n (fun x => p x && r x) u := by
  rw [sc_filter, sc_filter, sc_filter, sc_filter, ← sum_add, ← sum_add]
  refine sum_congr fun x _ => ?_
  cases p x <;> cases r x <;> simp
theorem sc_inj {n : Nat} {p r : Nat → Bool} (hn : n ≤ 6) : scL n p = scL n r ↔ ∀ m, m < 2 ^ n → p m = r m := by
  constructor
  · intro h m hm
    rw [← p_sc (p := p) hn hm, h, p_sc hn hm]
  · intro h
    unfold scL scI
    rw [lot_congr h]
end XT
namespace XT
open PySem PySem.Spec PyProof.Rows L2
theorem LwAt.same {H H' : Hp} {z : V} {n : Nat} {cs : List Int} (h : LwAt H z n cs) (e : Same H H') : LwAt H' z n cs := by
  rcases h with ⟨h1, h2⟩ | h
  · exact .inl ⟨h1, h2.same e⟩
  · exact .inr h
theorem lw_sc {H : Hp} {z : V} {n : Nat} {p : Nat → Bool} (hn : n ≤ 6) (h : LwAt H z n (scL n p)) : LotAt H z n p := by
  rcases h with ⟨_, h⟩ | ⟨h, _⟩
  · exact LotAt.congr h fun m hm => p_sc hn hm
  · rw [ok_sc hn] at h
    cases h
theorem sc_len {n : Nat} {p : Nat → Bool} : (scL n p).length = 2 ^ n := by
  unfold scL
  rw [List.length_map, List.length_range]
theorem at_sc {n u : Nat} {p : Nat → Bool} (hu : u < 2 ^ n) : ((scL n p).map V.int)[u]? = some (.int (scI n p u)) := by
  unfold scL
  rw [List.getElem?_map, List.getElem?_map, List.getElem?_range hu]
  rfl
theorem tupI_dp {K : PySem.W.Frag} {H : Hp} {v : V} {is : List Int} (h : TupI H v is) : Dp K H v (.tuple (is.map PyData.int)) := by
  obtain ⟨q, rfl, h⟩ := h
  exact .tup (SqT.of h) (dpInts _)
theorem ints_shaped (is : List Int) : SeqAt.shaped (.tuple (is.map PyData.int)) = true := by
  have h := ke_shaped is
  simp only [SeqAt.shaped, PyData.canLay0, PyData.depth] at h ⊢
  exact h
theorem eqv_tupI (ms ks : List Int) : PyData.eqv (.tuple (ms.map PyData.int)) (.tuple (ks.map PyData.int)) = decide (ms = ks) := by
  have h := eqv_intsI ms ks
  simpa [PyData.eqv] using h
theorem eq_tupI {K : PySem.W.Frag} {H : Hp} {x y : V} {ms ks : List Int} {Q : VK} (hx : TupI H x ms) (hy : TupI H y ks) (q : Q (.bl (decide (ms = ks))) H) : rEqD K x y H Q := by
  refine ⟨_, _, tupI_dp hx, tupI_dp hy, ints_shaped _, ints_shaped _, ?_⟩
  rw [eqv_tupI]
  exact q
theorem TupI.keep {S : Sm} {H H' : Hp} {t : Int} {v : V} {is : List Int} (h : TupI H v is) (k : Keep S H H') (st : Strm S H t) : TupI H' v is := by
  obtain ⟨q, rfl, h⟩ := h
  exact ⟨q, rfl, k.tup st h⟩
end XT
namespace XT
open PySem PySem.Spec PyProof.Rows L2
section
variable {P : Program} {w : World} {K : PySem.W.Frag} {mg : Str → Option Value} {base : Heap}
theorem scRest : FnScope ["lot", "width", "masks", "x"] ["lot"] (defScope sRest) := ⟨rfl, rfl, rfl, by decide +kernel, rfl, by decide +kernel, by decide +kernel⟩
def spRest : Sp := fun vs H Q _ => ∃ (v : V) (n : Nat) (p : Nat → Bool), vs = [v] ∧ LotAt H v n p ∧ n ≤ 6 ∧ ∀ H' r, Same H H' → LotAt H' r n (fun m => !p m) → Q r H'
theorem ok_rest {f : Addr} {fd : FuncData} {k : Nat} (B : Bl mg) (F : Fun K "rest_of" "rest_of" sRest f fd) : FnOk P w K mg base CX0 (k + 1) f fd ["lot"] spRest := by
  refine F.ok scRest (fun vs H Q E h => ?_) (fun cdv A outer s H vs Q E hr h => ?_)
  · obtain ⟨v, n, p, rfl, _⟩ := h
    rfl
  · obtain ⟨v, n, p, rfl, ⟨x, y, rfl, hx, hy⟩, hn, q⟩ := h
    refine ⟨_, pss_cons (ps_asg (pv 0) (pg_tup rfl (pgs_cons (pg_name (i := 1) scRest.nd rfl (.inl rfl)) (pgs_cons (pg_name (i := 2) scRest.nd rfl (.inr rfl)) pgs_nil))))
      (pss_one (ps_ret (pe_tup (pa_cons (pv 1) (pa_cons (pe_callTy call_tuple_of (by rfl) B.tuple bT (pa_cons
        (pe_lc (own := [("x", 3)]) (g := gName 3) (tt := tTest (tOp (rIn K true) (tVar 3) (tVar 2))) rfl scRest.nd (pi_range1 (by rfl) B.range (pa_cons (pe_op op_shl pe_int (pv 1)) pa_nil)) (blkOk_by (own := [("x", 3)]) (N := ["lot", "width", "masks", "x"]) (sc := defScope sRest) (by decide +kernel))
          (fun _ _ _ _ _ => pg_name (i := 3) scRest.nd rfl (Or.inl rfl)) (fun _ _ _ _ _ => pts_one (pt_cmpR op_notIn_seq (pv 3) (pv 2) (by rfl))) (fun _ _ _ _ _ => pv 3)) pa_nil)) pa_nil))))), ?_⟩
    refine ⟨.ref x, rfl, x, _, rfl, SqT.of hx, rfl, _, _, rfl, _, _, rfl, rfl, ?_⟩
    refine ⟨.int n, rfl, .int n, rfl, 1, n, rfl, rfl, cpow hn, ((2 ^ n : Nat) : Int), congrArg (fun z => [V.int z]) (shl1 n), l62, r62 hn, fun D nD => ?_⟩
    have h6 := pow6 hn
    refine lcp_range (n := 2 ^ n) (p := fun m => !p m) (f := fun m => .int (m : Int)) nD (small64 (by omega)) (fun i H3 hi sm => ?_) (fun H3 sm hD => ?_)
    · intro R1 R2 h1 h2
      refine ⟨rfl, _, rfl, .ref y, rfl, y, _, rfl, .inr (SqT.of (sm _ _ hy)), rfl, vm_flat _, _, rfl, ?_⟩
      have e : inV (.int (0 + (i : Int))) (vm (lotOf n p)) = p i := by
        rw [Int.zero_add]; exact in_lot hi
      show if (!inV (.int (0 + (i : Int))) (vm (lotOf n p))) = true then _ else _
      rw [e]
      refine ite2 (fun z => ?_) (fun z => ?_)
      · refine ⟨.int (0 + (i : Int)), rfl, ?_⟩
        rw [Int.zero_add]
        exact h2 z _ (Same.refl _)
      · exact h1 (by simpa using z) _ (Same.refl _)
    · refine ⟨D, _, rfl, .inl ⟨SqL.of hD, fun T nT => ⟨sz (n := 2) (by decide), fun U nU => ?_⟩⟩⟩
      refine q _ _ ((sm.trans (same_new nT)).trans (same_new nU)) ⟨U, T, rfl, upd_same, ?_⟩
      rw [upd_ne (ne_of_none upd_same nU), upd_same]
      rfl
end
end XT
/-! _law_one_right -/
namespace XT
open PySem PySem.Spec PyProof.Rows L2
section
variable {P : Program} {w : World} {K : PySem.W.Frag} {mg : Str → Option Value} {base : Heap}
abbrev nOr : List Str := ["_law_some", "_law_counts", "_law_rest", "_law_k"]
theorem scOr : FnScope nOr ["_law_some"] (defScope sLOneRight) := ⟨rfl, rfl, rfl, by decide +kernel, rfl, by decide +kernel, by decide +kernel⟩
def spOr : Sp := fun vs H Q _ => ∃ (v : V) (n : Nat) (p : Nat → Bool), vs = [v] ∧ LotAt H v n p ∧ n ≤ 6 ∧ ∀ H', Same H H' → Q (.bl true) H'
theorem ok_or {f : Addr} {fd : FuncData} {k : Nat} (B : Bl mg) (F : Fun K "_law_one_right" "_law_one_right" sLOneRight f fd) (dS : DefR P w K mg base 3 "signed_counts" spSc) (dR : DefR P w K mg base 1 "rest_of" spRest) (dL : DefR P w K mg base 3 "lot_with" spLw) : FnOk P w K mg base CX0 (k + 4) f fd ["_law_some"] spOr := by
  refine F.ok scOr (fun vs H Q E h => ?_) (fun cdv A outer s H vs Q E hr h => ?_)
  · obtain ⟨v, n, p, rfl, _⟩ := h
    rfl
  · obtain ⟨v, n, p, rfl, l, hn, q⟩ := h
    have h6 := pow6 hn
    have h0 := pow0 n
    have hr3 := hr.mono (show 3 ≤ k + 3 by omega)
    refine ⟨_, pss_cons (ps_asg (pe_tup (pa_cons (pe_def dS hr3 (by rfl) (pa_cons (pv 0) pa_nil)) (pa_cons (pe_def dS hr3 (by rfl) (pa_cons (pe_def dR (hr.mono (by omega)) (by rfl) (pa_cons (pv 0) pa_nil)) pa_nil)) pa_nil))) (pg_tup rfl (pgs_cons (pg_name (i := 1) scOr.nd rfl (by first | exact Or.inl rfl | exact Or.inr rfl)) (pgs_cons (pg_name (i := 2) scOr.nd rfl (by first | exact Or.inl rfl | exact Or.inr rfl)) pgs_nil))))
      (pss_cons (ps_if (PW.pt (pw_or (pt_cmpR (op_neD hr.units) (pe_def dL hr3 (by rfl) (pa_cons (pe_ix ix_tup (pv 0) pe_int (fun _ _ => rfl)) (pa_cons (pv 1) pa_nil))) (pv 0) (nomark _)) (pw_or (pt_cmpR op_ne (pe_ix ix_tup (pv 1) pe_int (fun _ _ => rfl)) (pe_callB call_len_seq (by rfl) B.len PySem.boot_len (pa_cons (pe_ix ix_tup (pv 0) pe_int (fun _ _ => rfl)) pa_nil)) (nomark _)) (pw_or1 (pt_cmpR op_ne (pe_op op_add (pe_ix ix_tup (pv 1) pe_int (fun _ _ => rfl)) (pe_ix ix_tup (pv 2) pe_int (fun _ _ => rfl))) (pe_op op_shl pe_int (pe_ix ix_tup (pv 0) pe_int (fun _ _ => rfl))) (nomark _)))))) pss_never pss_nil)
      (pss_one (ps_ret (pe_cmpR (op_eqD hr.units) (pe_lc (own := [("_law_k", 3)]) (g := gName 3) (tt := (tTest (tOp rNe (tOp (rI0 fun i j => .int (i + j)) (tOp (rIxT K) (tVar 1) (tVar 3)) (tOp (rIxT K) (tVar 2) (tVar 3))) (tC (.int 0))))) (te := (tVar 3)) rfl scOr.nd (pi_range2 (by rfl) B.range (pa_cons pe_int (pa_cons (pe_callB call_len_seq (by rfl) B.len PySem.boot_len (pa_cons (pv 1) pa_nil)) pa_nil))) (blkOk_by (own := [("_law_k", 3)]) (N := nOr) (sc := defScope sLOneRight) (by decide +kernel))
          (fun _ _ _ _ _ => pg_name (i := 3) scOr.nd rfl (Or.inl rfl)) (fun _ _ _ _ _ => pts_one (pt_cmpR op_ne (pe_op op_add (pe_ix ix_tup (pv 1) (pv 3) (fun _ _ => rfl)) (pe_ix ix_tup (pv 2) (pv 3) (fun _ _ => rfl))) pe_int (nomark _))) (fun _ _ _ _ _ => pv 3)) (pe_lst pa_nil) (nomark _))))), ?_⟩
    refine ⟨v, rfl, v, n, p, rfl, l, hn, fun H1 c1 s1 g1 => ⟨v, rfl, v, n, p, rfl, l.same s1, hn, fun H2 rl s2 lr => ⟨rl, n, _, rfl, lr, hn, fun H3 c2 s3 g2 => ⟨sz (n := 2) (by decide), fun T nT => ⟨T, _, rfl, SqT.of upd_same, rfl, _, _, rfl, _, _, rfl, rfl, ?_⟩⟩⟩⟩⟩
    have sT := same_new (o := .tup [c1, c2]) nT
    have sA := ((s1.trans s2).trans s3).trans sT
    have g1 := ((g1.same s2).same s3).same sT
    have g2 := g2.same sT
    have lA := l.same sA
    obtain ⟨x, y, ev, hx, hy⟩ := id lA
    refine ⟨v, rfl, x, _, 0, .int n, ev, rfl, SqT.of hx, rfl, c1, rfl, n, c1, scL n p, rfl, g1, hn, sc_len, fun H5 z s5 g5 => ⟨v, rfl, ne_lots (lw_sc hn g5) (lA.same s5) ⟨_, rfl, iteNT (congrArg not (decide_eq_true fun _ _ => rfl)) ?_⟩⟩⟩
    obtain ⟨q1, e1, hq1⟩ := g1.same s5
    obtain ⟨q2, e2, hq2⟩ := g2.same s5
    have hx5 := s5 _ _ hx
    have hy5 := s5 _ _ hy
    refine ⟨c1, rfl, q1, _, 0, .int (scI n p 0), e1, rfl, SqT.of hq1, atI_nat (at_sc h0), v, rfl, x, _, 1, .ref y, ev, rfl, SqT.of hx5, rfl, y, _, rfl, .inr (SqT.of hy5), rfl, _, rfl, iteNT (nne (by rw [sc_zero, vm_len])) ?_⟩
    refine ⟨c1, rfl, q1, _, 0, .int (scI n p 0), e1, rfl, SqT.of hq1, atI_nat (at_sc h0), c2, rfl, q2, _, 0, .int (scI n _ 0), e2, rfl, SqT.of hq2, atI_nat (at_sc h0), _, _, rfl, rfl, v, rfl, x, _, 0, .int n, ev, rfl, SqT.of hx5, rfl, 1, n, rfl, rfl, cpow hn, rfl, _, rfl, iteNT (nne ?_) ?_⟩
    · rw [sc_rest hn h0, if_pos rfl]
      exact (shl1 n).symm
    refine ⟨c1, rfl, q1, _, e1 ▸ rfl, .inr (SqT.of hq1), 1, _, rfl, ⟨by decide, by decide, by rw [List.length_map, sc_len]; omega, by rw [List.length_map, sc_len]; omega⟩, fun C nC => ?_⟩
    refine lc_range (lo := 1) (fun i H' => PvP H5 C [] H') ⟨same_new nC, upd_same⟩ (fun i H6 hi h => ?_) (fun H6 h => ?_)
    · rw [List.length_map, sc_len] at hi
      have hi2 : i + 1 < 2 ^ n := by omega
      refine ⟨rfl, c1, rfl, .int (1 + (i : Int)), rfl, q1, _, (i + 1 : Nat), _, e1, congrArg V.int (by omega), SqT.of (h.1 _ _ hq1), atI_nat (at_sc hi2), c2, rfl, .int (1 + (i : Int)), rfl, q2, _, (i + 1 : Nat), _, e2, congrArg V.int (by omega), SqT.of (h.1 _ _ hq2), atI_nat (at_sc hi2), _, _, rfl, rfl, rfl, _, rfl, ?_⟩
      refine iteNT (nne ?_) h
      rw [sc_rest hn hi2, if_neg (by omega)]
    · refine ⟨sz (n := 0) (by decide), fun Y nY => eq_lstN (ms := []) (ks := []) ⟨C, rfl, same_new nY _ _ h.2⟩ ⟨Y, rfl, upd_same⟩ (q _ (((sA.trans s5).trans h.1).trans (same_new nY)))⟩
def spPl : Sp := fun vs H Q _ => ∃ (S : Sm) (t : Int) (L : Addr) (us : List V) (n : Nat), vs = [.ref S.s, .ref L] ∧ Strm S H t ∧ H L = some (.lst us) ∧ L ≠ S.s ∧ L ≠ S.p ∧ 0 < us.length ∧ us.length ≤ 1000 ∧ (∀ v ∈ us, ∃ p, LotAt H v n p) ∧ t < 100000000 ∧
  ∀ (H' : Hp) (v : V) (p : Nat → Bool) (t' : Int), Step S H t H' t' 1 → LotAt H' v n p → Q v H'
theorem scPk : FnScope ["_law_stream_here", "_law_items"] ["_law_stream_here", "_law_items"] (defScope sLPick) := ⟨rfl, rfl, rfl, by decide +kernel, rfl, by decide +kernel, by decide +kernel⟩
theorem ok_pl {f : Addr} {fd : FuncData} {k : Nat} (B : Bl mg) (F : Fun K "_law_pick" "_law_pick" sLPick f fd) (dD : DefR P w K mg base 1 "_law_draw" spDrawN) : FnOk P w K mg base CX0 (k + 2) f fd ["_law_stream_here", "_law_items"] spPl := by
  refine F.ok scPk (fun vs H Q E h => ?_) (fun cdv A outer s H vs Q E hr h => ?_)
  · obtain ⟨S, t, L, us, n, rfl, _⟩ := h
    rfl
  · obtain ⟨S, t, L, us, n, rfl, st, hL, n1, n2, h0, h1, hall, ht, q⟩ := h
    refine ⟨_, pss_one (ps_ret (pe_ix ix_list (pv 1) (pe_def dD (hr.mono (by omega)) (by rfl) (pa_cons (pv 0) (pa_cons (pe_callB call_len_seq (by rfl) B.len PySem.boot_len (pa_cons (pv 1) pa_nil)) pa_nil))) (fun _ _ => rfl))), ?_⟩
    refine ⟨.ref L, rfl, .ref S.s, rfl, .ref L, rfl, L, _, rfl, .inl (SqL.of hL), S, t, us.length, rfl, st, h0, by omega, ht, fun H' r t' stp hr' => ?_⟩
    obtain ⟨p, lp⟩ := hall _ (List.getElem_mem hr')
    exact ⟨L, _, r, us[r], rfl, rfl, SqL.of (stp.keep L _ n1 n2 hL), atI_nat (List.getElem?_eq_getElem hr'), q H' us[r] p t' stp (lp.keep stp.keep st)⟩
end
end XT
/-! common_width, at lots of one width -/
namespace XT
open PySem PySem.Spec PyProof.Rows L2
section
variable {P : Program} {w : World} {K : PySem.W.Frag} {mg : Str → Option Value} {base : Heap}
theorem scWidth : FnScope ["lots", "width", "index", "lot"] ["lots"] (defScope sWidth) := ⟨rfl, rfl, rfl, by decide +kernel, rfl, by decide +kernel, by decide +kernel⟩
abbrev Lots := List (V × (Nat → Bool))
def LotsAt (H : Hp) (ls : Lots) (n : Nat) : Prop := ls ≠ [] ∧ ls.length ≤ 8 ∧ n ≤ 6 ∧ ∀ l ∈ ls, LotAt H l.1 n l.2
theorem LotsAt.same {H H' : Hp} {ls : Lots} {n : Nat} (h : LotsAt H ls n) (e : Same H H') : LotsAt H' ls n := ⟨h.1, h.2.1, h.2.2.1, fun l hl => (h.2.2.2 l hl).same e⟩
def spWidth (K : PySem.W.Frag) : Sp := fun vs H Q _ => ∃ (t : Addr) (ls : Lots) (n : Nat), vs = [.ref t] ∧ SqT K H t (ls.map (·.1)) ∧ LotsAt H ls n ∧ ∀ H', Same H H' → Q (.int (n : Int)) H'
theorem ok_width {f : Addr} {fd : FuncData} {k : Nat} (B : Bl mg) (F : Fun K "common_width" "common_width" sWidth f fd) : FnOk P w K mg base CX0 (k + 1) f fd ["lots"] (spWidth K) := by
  refine F.ok scWidth (fun vs H Q E h => ?_) (fun cdv A outer s H vs Q E hr h => ?_)
  · obtain ⟨t, ls, n, rfl, _⟩ := h
    rfl
  · obtain ⟨t, ls, n, rfl, ht, hL, q⟩ := h
    refine ⟨_, pss_cons (ps_if (pt_cmpR op_eq (pe_callB call_len_seq (by rfl) B.len PySem.boot_len (pa_cons (pv 0) pa_nil)) pe_int (nomark _)) pss_never pss_nil)
      (pss_cons (ps_set (i := 1) scWidth.nd rfl (.inl rfl) (pe_ix ix_tup (pe_ix ix_tup (pv 0) pe_int (fun _ _ => rfl)) pe_int (fun _ _ => rfl)))
      (pss_cons (ps_for PassesOwn.never rfl (pi_enumT (by rfl) B.enumerate (pa_cons (pv 0) pa_nil)) (pg_tup rfl (pgs_cons (pg_name (i := 2) scWidth.nd rfl (.inl rfl)) (pgs_cons (pg_name (i := 3) scWidth.nd rfl (.inl rfl)) pgs_nil)))
        (pss_one (ps_if (pt_cmpR op_ne (pe_ix ix_tup (pv 3) pe_int (fun _ _ => rfl)) (pv 1) (nomark _)) pss_never pss_nil)))
      (pss_one (ps_ret (pv 1))))), ?_⟩
    obtain ⟨hne, hlen, hn, hall⟩ := hL
    obtain ⟨l0, ls', rfl⟩ : ∃ l0 ls', ls = l0 :: ls' := by
      cases ls with
      | nil => exact absurd rfl hne
      | cons a b => exact ⟨a, b, rfl⟩
    refine ⟨.ref t, rfl, t, _, rfl, .inr ht, rfl, _, rfl, ?_⟩
    have e0 : decide (V.int (((l0 :: ls').map (·.1)).length : Nat) = V.int 0) = false := by
      rw [decide_eq_false]
      intro z
      have z2 := V.int.inj z
      rw [List.map_cons, List.length_cons] at z2
      omega
    rw [e0]
    refine iteF ?_
    obtain ⟨x0, y0, e1, hx0, hy0⟩ := hall l0 List.mem_cons_self
    refine ⟨.ref t, rfl, t, _, 0, l0.1, rfl, rfl, ht, atI_nat (j := 0) rfl, x0, _, 0, .int n, e1, rfl, SqT.of hx0, rfl, ?_⟩
    refine ⟨.ref t, rfl, t, _, rfl, ht, for_enumT (K := K) (xs := (l0 :: ls').map (·.1)) (fun i σ H' => Same H H' ∧ ∃ a b, σ = [some (.ref t), some (.int (n : Int)), a, b]) ⟨Same.refl H, none, none, rfl⟩ (fun i σ H' _ h => Same.sqT h.1 ht) (fun i v σ H' T hv h nT => ?_) (fun σ H' h => ?_)⟩
    · obtain ⟨sm, a, b, rfl⟩ := h
      have sT := same_new (o := .tup [.int (i : Nat), v]) nT
      rw [List.getElem?_map] at hv
      obtain ⟨l, hl, rfl⟩ := Option.map_eq_some_iff.mp hv
      obtain ⟨x, y, ev, hx, hy⟩ := hall l (List.mem_of_getElem? hl)
      refine ⟨T, _, rfl, SqT.of upd_same, rfl, _, _, rfl, _, _, rfl, rfl, ?_⟩
      refine ⟨l.1, rfl, x, _, 0, .int n, ev, rfl, SqT.of (sT _ _ (sm _ _ hx)), rfl, .int n, rfl, rfl, _, rfl, iteNS rfl ?_⟩
      exact ⟨sm.trans sT, _, _, rfl⟩
    · obtain ⟨sm, a, b, rfl⟩ := h
      exact ⟨.int n, rfl, q H' sm⟩
theorem lots2 {H : Hp} {u v : V} {n : Nat} {p r : Nat → Bool} (hu : LotAt H u n p) (hv : LotAt H v n r) (hn : n ≤ 6) : LotsAt H [(u, p), (v, r)] n :=
  ⟨by simp, (by decide : 2 ≤ 8), hn, fun l hl => by
    rcases List.mem_cons.mp hl with rfl | hl
    · exact hu
    · rw [List.mem_singleton.mp hl]; exact hv⟩
end
end XT
namespace XT
open PySem PySem.Spec PyProof.Rows L2
section
variable {P : Program} {w : World} {K : PySem.W.Frag} {mg : Str → Option Value} {base : Heap}
/-- def f( *lots): by its body -/
theorem star_ok {x : Str} {st : Stmt} {f : Addr} {fd : FuncData} {N : List Str} {k : Nat} {sp : Sp} {pv : Str} (F : Fun K x x st f fd) (S : FnScope N [pv] (defScope st))
    (hb : ∀ (kV doc pm : Value) (an : Option Addr) (cdv ct : Value) (rest : List Value), bindArgs (PySem.W.fnOf x x (defArgs st) (defBody st) (defScope st) .none kV doc pm an cdv ct) ⟨rest, []⟩ = (newTuple rest >>= fun t => pure [(pv, t)]))
    (hbody : ∀ (cdv : Value) (A : Around) (outer : List Env) (s : Shared) (H : Hp) (vs : List V) (Q : VK) (E : XK), Room k (A.deeper (envOfC x (defScope st) s.heap.objs.size f cdv)) → sp vs H Q E →
      ∃ t, PSs (cxOf CX0 P w K mg base N x (defScope st) f cdv A outer s H E).nox (defBody st) t ∧ t { nx := fun _ H' => Q .non H', rt := Q } (start N vs) H) :
    FnR P w K mg base CX0 (k + 1) f (fun vs H Q E => vs.length ≤ 1000 ∧ ∀ p, H p = none → sp [V.ref p] (upd H p (.tup vs)) Q E) := by
  obtain ⟨oc, od, kV, doc, pm, an, cdv, ct, osl, rfl, lk, hcd⟩ := F.ex
  refine (StX.fn_star (ps := []) (sp := sp) lk hcd S StX.cxUp_none (fun us rest hl => ?_) fun A outer s H vs Q E hr hsp => ?_).imp fun vs H Q E h => ⟨[], vs, rfl, rfl, sz h.1, h.2⟩
  · have e : us = [] := List.eq_nil_of_length_eq_zero hl
    subst e
    exact hb kV doc pm an cdv ct rest
  · obtain ⟨t, h1, h2⟩ := hbody cdv A outer s H vs Q E hr hsp
    exact ⟨t, h1.nox, h2⟩
def spMany (op : List Bool → Bool) : Sp := fun vs H Q _ => ∃ (ls : Lots) (n : Nat), vs = ls.map (·.1) ∧ LotsAt H ls n ∧ ∀ H' r, Same H H' → LotAt H' r n (fun m => op (ls.map fun l => l.2 m)) → Q r H'
def spManyT (K : PySem.W.Frag) (op : List Bool → Bool) : Sp := fun vs H Q _ => ∃ (t : Addr) (ls : Lots) (n : Nat), vs = [.ref t] ∧ SqT K H t (ls.map (·.1)) ∧ LotsAt H ls n ∧ ∀ H' r, Same H H' → LotAt H' r n (fun m => op (ls.map fun l => l.2 m)) → Q r H'
theorem many_of {op : List Bool → Bool} {k : Nat} {f : Addr} (h : FnR P w K mg base CX0 k f (fun vs H Q E => vs.length ≤ 1000 ∧ ∀ p, H p = none → spManyT K op [V.ref p] (upd H p (.tup vs)) Q E)) : FnR P w K mg base CX0 k f (spMany op) :=
  h.imp fun vs H Q E ⟨ls, n, ev, hL, q⟩ => by
    subst ev
    refine ⟨by rw [List.length_map]; exact Nat.le_trans hL.2.1 (by decide), fun p np => ⟨p, ls, n, rfl, SqT.of upd_same, hL.same (same_new np), fun H' r sm => q H' r ((same_new np).trans sm)⟩⟩
end
end XT
/-! {e for a in s for b in t}, ints -/
namespace XT
open PySem PySem.Spec PyProof.Rows L2
abbrev C2 (elt ta ia tb ib : Expr) (sc : Scope) (pos : Pos) : Expr := .SetComp elt [⟨ta, ia, [], 0⟩, ⟨tb, ib, [], 0⟩] sc pos
section
variable {prog : Program} {w : World} {A : Around} {R : Result → Shared → Prop} {s : Shared} {elt ta ia tb ib : Expr} {sc : Scope} {pos : Pos} {it acc : Value} {env : Env}
theorem c2_first : compTurn (C2 elt ta ia tb ib sc pos) 0 it acc env = (do
    standAt ia.pos
    match ← pyNext it with
    | none => pure (.done .next)
    | some v =>
      letOwnedTupleGo ta it v
      assign ta env v
      let x ← eval ib env
      standAt ib.pos
      let x ← foldedSetIterable ib env x
      let _ ← runOwn (.compStart (C2 elt ta ia tb ib sc pos) 1 (← holding [x] (pyIter x)) acc env) env
      again (.compLoop (C2 elt ta ia tb ib sc pos) 0 it acc env)) := by rfl
theorem c2_second : compTurn (C2 elt ta ia tb ib sc pos) 1 it acc env = (do
    standAt ib.pos
    match ← pyNext it with
    | none => pure (.done .next)
    | some v =>
      letOwnedTupleGo tb it v
      assign tb env v
      (do let v ← eval elt env; standAt elt.pos; let _ ← call (.builtin "set.add") [acc, v])
      again (.compLoop (C2 elt ta ia tb ib sc pos) 1 it acc env)) := by rfl
abbrev Out (R : Result → Shared → Prop) (M : Model) (A : Around) (env : Env) : Value → Shared → Prop := notedBy M A env fun e s2 => R (.error e) s2
theorem c2_loop0 (hs : ∀ x, foldedSetIterable ib env x = pure x) (J : Nat → Shared → Prop)
    (turn : ∀ n s, J n s → wpAny (model prog w) A (pyNext it) (fun r s1 => match r with
      | none => R (.ok .next) s1
      | some v => wpAny (model prog w) A (letOwnedTupleGo ta it v) (fun _ s2 => wpAny (model prog w) A (assign ta env v) (fun _ s3 => wpAny (model prog w) A (eval ib env) (fun x s4 => wpAny (model prog w) A (pyIter x) (fun it1 s5 =>
          codeAny (model prog w) A (.compStart (C2 elt ta ia tb ib sc pos) 1 it1 acc env) (fun r s6 => match r with
            | .ok _ => ∃ m, m < n ∧ J m s6
            | .error _ => False) s5) (Out R (model prog w) A env) s4) (Out R (model prog w) A env) s3) (Out R (model prog w) A env) s2) (Out R (model prog w) A env) s1) (Out R (model prog w) A env) s) (n : Nat) (h : J n s) :
    codeAny (model prog w) A (.compLoop (C2 elt ta ia tb ib sc pos) 0 it acc env) R s := by
  refine codeAny_loop rfl J (fun n s hJ => ?_) n h
  show wpAny _ A ((compTurn (C2 elt ta ia tb ib sc pos) 0 it acc env).onRaise (fun x => do noteFrame x env; theTreesLotGoes x)) _ _ s
  refine wpAny_noted ?_
  rw [c2_first]
  refine wpAny_bind (wpAny_standAt (wpAny_bind (wpAny_mono (turn n s hJ) (fun r s1 h1 => ?_) fun _ _ z => z)))
  match r, h1 with
  | none, h1 => exact wpAny_pure h1
  | some v, h1 =>
    refine wpAny_bind (wpAny_mono h1 (fun _ s2 h2 => wpAny_bind (wpAny_mono h2 (fun _ s3 h3 => wpAny_bind (wpAny_mono h3 (fun x s4 h4 => ?_) fun _ _ z => z)) fun _ _ z => z)) fun _ _ z => z)
    refine wpAny_bind (wpAny_standAt (wpAny_bind (wpAny_of_eq (hs x) (wpAny_bind (wpAny_holding (wpAny_mono h4 (fun it1 s5 h5 => ?_) fun _ _ z => z))))))
    refine wpAny_bind (wpAny_runOwn ?_)
    rw [Around.mark_none]
    refine codeAny_mono h5 fun r s6 hr => ?_
    match r, hr with
    | .ok f, hr => exact wpAny_pure ⟨rfl, hr⟩
    | .error e, hr => exact hr.elim
theorem c2_loop1 (J : Nat → Shared → Prop)
    (turn : ∀ n s, J n s → wpAny (model prog w) A (pyNext it) (fun r s1 => match r with
      | none => R (.ok .next) s1
      | some v => wpAny (model prog w) A (letOwnedTupleGo tb it v) (fun _ s2 => wpAny (model prog w) A (assign tb env v) (fun _ s3 => wpAny (model prog w) A (eval elt env) (fun x s4 =>
          wpAny (model prog w) A (call (.builtin "set.add") [acc, x]) (fun _ s5 => ∃ m, m < n ∧ J m s5) (Out R (model prog w) A env) s4) (Out R (model prog w) A env) s3) (Out R (model prog w) A env) s2) (Out R (model prog w) A env) s1) (Out R (model prog w) A env) s) (n : Nat) (h : J n s) :
    codeAny (model prog w) A (.compLoop (C2 elt ta ia tb ib sc pos) 1 it acc env) R s := by
  refine codeAny_loop rfl J (fun n s hJ => ?_) n h
  show wpAny _ A ((compTurn (C2 elt ta ia tb ib sc pos) 1 it acc env).onRaise (fun x => do noteFrame x env; theTreesLotGoes x)) _ _ s
  refine wpAny_noted ?_
  rw [c2_second]
  refine wpAny_bind (wpAny_standAt (wpAny_bind (wpAny_mono (turn n s hJ) (fun r s1 h1 => ?_) fun _ _ z => z)))
  match r, h1 with
  | none, h1 => exact wpAny_pure h1
  | some v, h1 =>
    refine wpAny_bind (wpAny_mono h1 (fun _ s2 h2 => wpAny_bind (wpAny_mono h2 (fun _ s3 h3 => ?_) fun _ _ z => z)) fun _ _ z => z)
    exact wpAny_bind (wpAny_bind (wpAny_mono h3 (fun x s4 h4 => wpAny_bind (wpAny_standAt (wpAny_bind (wpAny_mono h4 (fun _ s5 h5 => wpAny_pure (wpAny_pure ⟨rfl, h5⟩)) fun _ _ z => z)))) fun _ _ z => z))
theorem c2_start (k : Nat) (hk : k = 0 ∨ k = 1) (h0 : codeAny (model prog w) A (.compLoop (C2 elt ta ia tb ib sc pos) k it acc env) R s)
    (h : wpAny (model prog w) A (pyIter it) (fun it2 s2 => codeAny (model prog w) A (.compLoop (C2 elt ta ia tb ib sc pos) k it2 acc env) R s2) (Out R (model prog w) A env) s) :
    codeAny (model prog w) A (.compStart (C2 elt ta ia tb ib sc pos) k it acc env) R s := by
  rcases hk with rfl | rfl
  · refine codeAny_of_tree ?_
    show wpAny _ _ ((compStart (C2 elt ta ia tb ib sc pos) 0 it acc env).onRaise (fun x => do noteFrame x env; standAt theWindowsPlace)) _ _ s
    refine wpAny_notedAt ?_
    unfold compStart
    show wpAny _ _ (ask >>= _) _ _ s
    refine wpAny_bind (wpAny_askSetting (wpAny_ite ?_))
    split
    · exact wpAny_pure (And.intro rfl h0)
    · refine wpAny_bind (wpAny_rule ?_)
      show wpAny _ _ (standAt ia.pos >>= _) _ _ s
      exact wpAny_bind (wpAny_standAt (wpAny_bind (wpAny_mono h (fun it2 s2 h2 => wpAny_pure (And.intro rfl h2)) fun _ _ x => x)))
  · refine codeAny_of_tree ?_
    show wpAny _ _ ((compStart (C2 elt ta ia tb ib sc pos) 1 it acc env).onRaise (fun x => do noteFrame x env; standAt theWindowsPlace)) _ _ s
    refine wpAny_notedAt ?_
    unfold compStart
    show wpAny _ _ (ask >>= _) _ _ s
    refine wpAny_bind (wpAny_askSetting (wpAny_ite ?_))
    split
    · exact wpAny_pure (And.intro rfl h0)
    · refine wpAny_bind (wpAny_rule ?_)
      show wpAny _ _ (standAt ib.pos >>= _) _ _ s
      exact wpAny_bind (wpAny_standAt (wpAny_bind (wpAny_mono h (fun it2 s2 h2 => wpAny_pure (And.intro rfl h2)) fun _ _ x => x)))
end
end XT
namespace XT
open PySem PySem.Spec PyProof.Rows L2
section
variable {X : Cx}
/-- {elt for ta in ia for tb in ib}, elt an int: D the new set; vs: the block's names, vb: those of the second target -/
def tSc2 (w : World) (wa : TI) (ga : TG) (wb : TI) (gb : TG) (te : TE) (vs vb : List Nat) : TE := fun σ H Q => wa σ H fun J H1 => ∀ D, H1 D = none →
  ∃ W : Nat → Nat → Hp → Prop, (∃ m, W 0 m (upd H1 D (SetO w D (fun _ => false) 0))) ∧ ∀ i m H, W i m H →
    (J.stop i H ∧ Q (.ref D) H) ∨ (J.go i H ∧ ∃ N : Hp → Prop, (∀ H', N H' → ∃ m', m' < m ∧ W (i + 1) m' H') ∧ ∀ x H', J.yld i H x H' → ga x (wipe σ vs) H' fun σ2 H2 => wipe σ2 vs = wipe σ vs ∧
      wb σ2 H2 fun J1 H4 => ∃ W1 : Nat → Nat → Hp → Prop, (∃ m, W1 0 m H4) ∧ ∀ j k H, W1 j k H →
        (J1.stop j H ∧ N H) ∨ (J1.go j H ∧ ∃ N1 : Hp → Prop, (∀ H', N1 H' → ∃ k', k' < k ∧ W1 (j + 1) k' H') ∧ ∀ x H', J1.yld j H x H' → gb x (wipe σ2 vb) H' fun σ3 H5 => wipe σ3 vb = wipe σ2 vb ∧
          te σ3 H5 fun y H6 => rSAdd w (.ref D) [y] H6 fun _ H7 => N1 H7))
abbrev Blk (X : Cx) (sc : Scope) (p : Cx → Prop) : Prop := ∀ (s : Shared) (H : Hp) (C : Addr) (cl : List (Str × Addr)) (fp : List Addr), p (X.blk s H sc (compEnvC sc cl C X.env) fp)
theorem pe_sc2 {elt ta ia tb ib : Expr} {sc : Scope} {own : List (Str × Nat)} {vb : List Nat} {pos : Pos} {wa wb : TI} {ga gb : TG} {te : TE} (hc : X.calm = true) (hN : X.N.Nodup) (hi : PI X ta ia wa) (ok : BlkOk X.N X.env.scope sc own) (hv : ∀ i ∈ vb, i ∈ own.map (·.2))
    (hg : Blk X sc fun Y => PG Y ta ga) (hib : Blk X sc fun Y => PI Y tb ib wb) (hgb : Blk X sc fun Y => PG Y tb gb) (he : Blk X sc fun Y => PE Y elt te)
    (hs : ∀ x, foldedSetIterable ia X.env x = pure x := by intro _; rfl) (hs1 : ∀ env x, foldedSetIterable ib env x = pure x := by intro _ _; rfl) :
    PE X (C2 elt ta ia tb ib sc pos) (tSc2 X.w wa ga wb gb te (own.map (·.2)) vb) := by
  refine ⟨fun pins s σ H Q I h => ?_⟩
  rw [PpSet.eval_SetComp]
  have hfree : ∀ y ∈ sc.names, y.2 = .free → ∃ c, X.env.cells.lookup y.1 = some c := fun y hy e => (ok.free y hy e).elim (fun k => I.ok.has _ (.inl k)) fun k => I.ok.has _ (.inr k)
  refine wpAny_comprehension_free (use := none) rfl hs (closure_ok hfree) ok.kind (fun y hy e => by rw [ok.uniq y hy, e]) (thn (hi.run pins s σ H _ I h) fun xv s1 hx => thn hx fun itv s2 h2 => ?_)
  obtain ⟨it, fp, tn, J, H2, e, I2, T, st2, f2, q⟩ := h2
  subst e
  refine PpSet.newSet_ok (newEnv_comp ?_)
  generalize hD : s2.heap.objs.size = D
  have hDn : H2 D = none := I2.hok.fresh (Nat.le_of_eq hD)
  obtain ⟨W, ⟨m0, w0⟩, turn⟩ := q D hDn
  generalize hs3 : ({ s2 with heap := s2.heap.push (newS X.w) } : Shared) = s3
  have h3 : s3.heap = s2.heap.push (newS X.w) := by rw [← hs3]
  have I3 : Inv X pins σ (upd H2 D (SetO X.w D (fun _ => false) 0)) s3 := by
    rw [← hs3]
    refine I2.laid (t' := s2.toks) (fun b o e => Heap.get?_push_of_some _ e) (Nat.le_of_eq hD) ?_
    rw [← hD]
    exact setO_new (setR_fresh X.w)
  have f3 : ∀ b ∈ fp, FpOk X pins (upd H2 D (SetO X.w D (fun _ => false) 0)) b ∧ b < s3.heap.objs.size := fun b hb => by
    obtain ⟨o, e, _⟩ := T.obj _ _ st2 b hb
    have lt := Heap.lt_size e
    refine ⟨⟨?_, (f2 b hb).2⟩, by rw [h3, Heap.size_push]; exact Nat.lt_succ_of_lt lt⟩
    rw [upd_ne (by rw [← hD]; exact Nat.ne_of_lt lt)]
    exact (f2 b hb).1
  have st3 : tn 0 s3.heap := T.keep _ _ _ st2 fun b _ o e => by rw [h3]; exact Heap.get?_push_of_some _ e
  have I4 := block_start I3 ok hN f3
  have pg := hg s3 (upd H2 D (SetO X.w D (fun _ => false) 0)) s3.heap.objs.size (cellsFrom (s3.heap.objs.size + 1) sc.names (cloFrom X.env.cells sc.names [])) fp
  have pb := hib s3 (upd H2 D (SetO X.w D (fun _ => false) 0)) s3.heap.objs.size (cellsFrom (s3.heap.objs.size + 1) sc.names (cloFrom X.env.cells sc.names [])) fp
  have pgb := hgb s3 (upd H2 D (SetO X.w D (fun _ => false) 0)) s3.heap.objs.size (cellsFrom (s3.heap.objs.size + 1) sc.names (cloFrom X.env.cells sc.names [])) fp
  have pe := he s3 (upd H2 D (SetO X.w D (fun _ => false) 0)) s3.heap.objs.size (cellsFrom (s3.heap.objs.size + 1) sc.names (cloFrom X.env.cells sc.names [])) fp
  show codeAny _ _ (.compStart (C2 elt ta ia tb ib sc pos) 0 (.ref it) (.ref D) (compEnvC sc (cellsFrom (s3.heap.objs.size + 1) sc.names (cloFrom X.env.cells sc.names [])) s3.heap.objs.size X.env)) (compPost (model X.prog X.w) X.A X.xe none (EP X pins σ Q) (.ref D) s3.heap.objs.size) { s3 with heap := pushCells (s3.heap.push { cls := .type "dict", data := .dict #[] }) sc.names }
  have nfp : ∀ b ∈ fp, (upd H2 D (SetO X.w D (fun _ => false) 0)) b = none := fun b hb => (f3 b hb).1.1
  generalize hce : compEnvC sc (cellsFrom (s3.heap.objs.size + 1) sc.names (cloFrom X.env.cells sc.names [])) s3.heap.objs.size X.env = ce at I4 pg pb pgb pe ⊢
  have cL : ce.locals = s3.heap.objs.size := by subst hce; rfl
  generalize hH3 : upd H2 D (SetO X.w D (fun _ => false) 0) = H3 at I3 I4 pg pb pgb pe w0 nfp f3
  generalize hs4 : ({ s3 with heap := pushCells (s3.heap.push { cls := .type "dict", data := .dict #[] }) sc.names } : Shared) = s4 at I4 ⊢
  have st4 : tn 0 s4.heap := T.keep _ _ _ st3 fun b _ o e => by rw [← hs4]; exact pushCells_keeps _ _ _ _ (Heap.get?_push_of_some _ e)
  have stat : ∀ {σ' : L2.St} {H' : Hp} {s' : Shared}, Inv (X.blk s3 H3 sc ce fp) [] σ' H' s' → (∀ b ∈ fp, H' b = none) → ∀ b ∈ fp, FpOk (X.blk s3 H3 sc ce fp) [] H' b := fun {σ' H' s'} K' hn b hb =>
    ⟨hn b hb, (K'.ok.exf b hb).1, K'.ok.exfs b hb, .inl hb, fun x c e => (K'.ok.exf b hb).2 x c e, fun p hp => absurd (show p ∈ ([] : List (Addr × Obj)) ++ [] from hp) (by simp)⟩
  have loop : codeAny (model X.prog X.w) X.A (.compLoop (C2 elt ta ia tb ib sc pos) 0 (.ref it) (.ref D) ce) (compPost (model X.prog X.w) X.A X.xe none (EP X pins σ Q) (.ref D) s3.heap.objs.size) s4 := by
    refine c2_loop0 (hs1 ce) (fun n s' => ∃ i H', Inv (X.blk s3 H3 sc ce fp) [] (wipe σ (own.map (·.2))) H' s' ∧ tn i s'.heap ∧ (∀ b ∈ fp, H' b = none) ∧ W i n H') ?_ m0 ⟨0, H3, I4, st4, nfp, w0⟩
    rintro n s5 ⟨i, H5, I5, st5, n5, w5⟩
    rcases turn i n H5 w5 with ⟨stop, qq⟩ | ⟨go, N, hNx, step⟩
    · refine thnF (T.done (X.blk s3 H3 sc ce fp) rfl rfl rfl hc i [] s5 _ H5 (fun _ _ => False) I5 (stat I5 n5) st5 stop) fun r s6 ⟨hr, I6⟩ => ?_
      subst hr
      have I7 : Inv X pins σ H5 s6 := I3.call' (ch := fp) I6.os I6.base I6.hok I6.bare fun b hb => ⟨(f3 b hb).1.2.2.2.1, (f3 b hb).1.2.1, (f3 b hb).1.2.2.2.2.1, (f3 b hb).1.2.2.2.2.2⟩
      have nC : H5 s3.heap.objs.size = none := by
        have z : H5 ce.locals = none := I6.free
        rwa [cL] at z
      obtain ⟨m, hn, _⟩ := I6.loc
      have hn : s6.heap.Ns ce.locals m := hn
      rw [cL] at hn
      obtain ⟨z0, z1, z2, z3, z4, z5⟩ := I3.fpOk (H' := H5) (Nat.le_refl s3.heap.objs.size) nC
      exact ⟨m, hn, fun h9 sb => ⟨.ref D, H5, I7.turned (t' := s6.toks) (fun b o hb e => (sb.2 b hb).trans e) z0 z1 z3 z4 z5, rfl, qq⟩⟩
    · refine thnF (T.item (X.blk s3 H3 sc ce fp) rfl rfl rfl hc i [] s5 _ H5 (fun _ _ => False) I5 (stat I5 n5) st5 go) fun r s6 ⟨u, hr, h6⟩ => ?_
      subst hr
      refine thnF h6 fun _ s7 ⟨x, H7, I7, r7, y7, st7, n7⟩ => ?_
      refine thnF (pg.run _ s7 _ H7 x u _ (I7.pinned (stat I7 n7) (T.obj _ _ st7)) r7 (step x H7 y7)) fun _ s8 ⟨σ8, H8, I8, hw8, q8⟩ => ?_
      have len8 : (wipe σ (own.map (·.2))).length = σ8.length := by rw [← hw8, wipe_length]
      have more8 : ∀ (j : Nat) v, (wipe σ (own.map (·.2)))[j]? = some (some v) → (wipe σ8 vb)[j]? = some (some v) := fun j v e => by
        rw [← hw8] at e
        obtain ⟨e1, e2⟩ := wipe_some e
        rw [wipe_out fun z => e2 (hv j z)]
        exact e1
      have fin : ∀ {s' : Shared} {H' : Hp}, Inv (X.blk s3 H3 sc ce fp) ([] ++ pinsAt fp s7.heap) (wipe σ8 vb) H' s' → N H' →
          ∃ m, m < n ∧ ∃ i H', Inv (X.blk s3 H3 sc ce fp) [] (wipe σ (own.map (·.2))) H' s' ∧ tn i s'.heap ∧ (∀ b ∈ fp, H' b = none) ∧ W i m H' := fun {s' H'} K' nx => by
        obtain ⟨m1, hm, w1⟩ := hNx H' nx
        have old : ∀ b ∈ fp, ∀ o, s7.heap.get? b = some o → s'.heap.get? b = some o ∧ H' b = none := fun b hb o e =>
          have z := K'.pin (b, o) (List.mem_append_right _ (List.mem_append_right _ (mem_pinsAt hb e)))
          ⟨z.1, z.2.1⟩
        refine ⟨m1, hm, i + 1, H', (K'.unpinned (pins := [])).weak (by rw [wipe_length σ8 vb]; exact len8) more8, T.keep _ _ _ st7 fun b hb o e => (old b hb o e).1, fun b hb => ?_, w1⟩
        obtain ⟨o, e, _⟩ := T.obj _ _ st7 b hb
        exact (old b hb o e).2
      refine thnF (pb.run _ s8 σ8 H8 _ I8 q8) fun xv s10 hx => thnF hx fun itv s11 h11 => ?_
      obtain ⟨it1, fp1, tn1, J1, H11, e1, I11, T1, st11, f11, W1, ⟨m1, w1⟩, turn1⟩ := h11
      subst e1
      have stat1 : ∀ {H' : Hp}, (∀ b ∈ fp1, H' b = none) → ∀ b ∈ fp1, FpOk (X.blk s3 H3 sc ce fp) ([] ++ pinsAt fp s7.heap) H' b := fun hn b hb => ⟨hn b hb, (f11 b hb).2⟩
      have inner : codeAny (model X.prog X.w) X.A (.compLoop (C2 elt ta ia tb ib sc pos) 1 (.ref it1) (.ref D) ce) (fun r s' => match r with
          | .ok _ => ∃ m, m < n ∧ ∃ i H', Inv (X.blk s3 H3 sc ce fp) [] (wipe σ (own.map (·.2))) H' s' ∧ tn i s'.heap ∧ (∀ b ∈ fp, H' b = none) ∧ W i m H'
          | .error _ => False) s11 := by
        refine c2_loop1 (fun k s' => ∃ j H', Inv (X.blk s3 H3 sc ce fp) ([] ++ pinsAt fp s7.heap) (wipe σ8 vb) H' s' ∧ tn1 j s'.heap ∧ (∀ b ∈ fp1, H' b = none) ∧ W1 j k H') ?_ m1 ⟨0, H11, I11.weak (wipe_length _ _) (fun j v e => (wipe_some e).1), st11, fun b hb => (f11 b hb).1, w1⟩
        rintro k s12 ⟨j, H12, I12, st12, n12, w12⟩
        rcases turn1 j k H12 w12 with ⟨stop1, nx1⟩ | ⟨go1, N1, hN1, step1⟩
        · refine thnF (T1.done (X.blk s3 H3 sc ce fp) rfl rfl rfl hc j _ s12 (wipe σ8 vb) H12 (fun _ _ => False) I12 (stat1 n12) st12 stop1) fun r s13 ⟨hr, I13⟩ => ?_
          subst hr
          exact fin I13 nx1
        · refine thnF (T1.item (X.blk s3 H3 sc ce fp) rfl rfl rfl hc j _ s12 (wipe σ8 vb) H12 (fun _ _ => False) I12 (stat1 n12) st12 go1) fun r s13 ⟨u1, hr, h13⟩ => ?_
          subst hr
          refine thnF h13 fun _ s14 ⟨x1, H14, I14, r14, y14, st14, n14⟩ => ?_
          refine thnF (pgb.run _ s14 (wipe σ8 vb) H14 x1 u1 _ (I14.pinned (stat1 n14) (T1.obj _ _ st14)) r14 (step1 x1 H14 y14)) fun _ s15 ⟨σ15, H15, I15, hw15, q15⟩ => ?_
          refine thnF (pe.run _ s15 σ15 H15 _ I15 q15) fun z s17 ⟨yv, H17, I17, r17, q17⟩ => ?_
          refine thnF (mt_sadd (X := X.blk s3 H3 sc ce fp) _ s17 σ15 H17 (.ref D) [yv] (.ref D) [z] _ I17 rfl (.cons r17 .nil) q17) fun v s18 ⟨_, H18, I18, _, nx⟩ => ?_
          obtain ⟨m2, hm2, w2⟩ := hN1 H18 nx
          have old1 : ∀ b ∈ fp1, ∀ o, s14.heap.get? b = some o → s18.heap.get? b = some o ∧ H18 b = none := fun b hb o e =>
            have z := I18.pin (b, o) (List.mem_append_right _ (List.mem_append_right _ (mem_pinsAt hb e)))
            ⟨z.1, z.2.1⟩
          refine ⟨m2, hm2, j + 1, H18, I18.unpinned.weak (by rw [← hw15, wipe_length]) (fun j v e => by rw [← hw15] at e; exact (wipe_some e).1), T1.keep _ _ _ st14 fun b hb o e => (old1 b hb o e).1, fun b hb => ?_, w2⟩
          obtain ⟨o, e, _⟩ := T1.obj _ _ st14 b hb
          exact (old1 b hb o e).2
      exact c2_start 1 (.inr rfl) inner (T1.self X.A 0 _ _ _ st11 inner)
  exact c2_start 0 (.inl rfl) loop (T.self X.A 0 _ _ _ st4 loop)
end
end XT
namespace XT
open PySem PySem.Spec PyProof.Rows L2
section
variable {P : Program} {w : World} {K : PySem.W.Frag} {mg : Str → Option Value} {base : Heap}
theorem scUnited : FnScope ["lots", "width", "lot", "x"] ["lots"] (defScope sUnited) := ⟨rfl, rfl, rfl, by decide +kernel, rfl, by decide +kernel, by decide +kernel⟩
def HasM (n : Nat) (ls : Lots) (z : Int) : Prop := ∃ l ∈ ls, ∃ m : Nat, z = m ∧ m ∈ lotOf n l.2
theorem hasM_take {n : Nat} {ls : Lots} {i : Nat} {l : V × (Nat → Bool)} (h : ls[i]? = some l) (z : Int) : HasM n (ls.take (i + 1)) z ↔ HasM n (ls.take i) z ∨ ∃ m : Nat, z = m ∧ m ∈ lotOf n l.2 := by
  unfold HasM
  rw [List.take_add_one, h]
  constructor
  · rintro ⟨x, hx, m, h1, h2⟩
    rcases List.mem_append.mp hx with hx | hx
    · exact .inl ⟨x, hx, m, h1, h2⟩
    · have e : x = l := by simpa using hx
      subst e
      exact .inr ⟨m, h1, h2⟩
  · rintro (⟨x, hx, m, h1, h2⟩ | ⟨m, h1, h2⟩)
    · exact ⟨x, List.mem_append_left _ hx, m, h1, h2⟩
    · exact ⟨l, List.mem_append_right _ (by simp), m, h1, h2⟩
theorem ok_united {f : Addr} {fd : FuncData} {k : Nat} (B : Bl mg) (F : Fun K "united" "united" sUnited f fd) (dW : DefR P w K mg base 1 "common_width" (spWidth K)) : FnR P w K mg base CX0 (k + 2) f (spMany (fun bs => bs.any id)) := by
  refine many_of (star_ok F scUnited (fun _ _ _ _ _ _ rest => by cases rest <;> rfl) fun cdv A outer s H vs Q E hr h => ?_)
  obtain ⟨t, ls, n, rfl, ht, hL, q⟩ := h
  refine ⟨_, pss_cons (ps_set (i := 1) scUnited.nd rfl (.inl rfl) (pe_def dW (hr.mono (by omega)) (by rfl) (pa_cons (pv 0) pa_nil)))
      (pss_one (ps_ret (pe_tup (pa_cons (pv 1) (pa_cons (pe_callTy call_tuple_of (by rfl) B.tuple bT (pa_cons (pe_callB (cr_sortS rfl) (by rfl) B.sorted bS (pa_cons
        (pe_sc2 (own := [("lot", 2), ("x", 3)]) (vb := [3]) (ga := gName 2) (gb := gName 3) (wb := iTup K (tOp (rIxT K) (tVar 2) (tC (.int 1)))) (te := tVar 3) rfl scUnited.nd (pi_tup (pv 0))
          (blkOk_by (own := [("lot", 2), ("x", 3)]) (N := ["lots", "width", "lot", "x"]) (sc := defScope sUnited) (by decide +kernel)) (by decide)
          (fun _ _ _ _ _ => pg_name (i := 2) scUnited.nd rfl (Or.inl rfl)) (fun _ _ _ _ _ => pi_tup (pe_ix ix_tup (pv 2) pe_int (fun _ _ => rfl))) (fun _ _ _ _ _ => pg_name (i := 3) scUnited.nd rfl (Or.inl rfl)) (fun _ _ _ _ _ => pv 3)) pa_nil)) pa_nil)) pa_nil))))), ?_⟩
  refine ⟨.ref t, rfl, t, ls, n, rfl, ht, hL, fun H1 s1 => ?_⟩
  have ht1 := Same.sqT s1 ht
  have hL1 := hL.same s1
  obtain ⟨hne, hlen, hn, hall⟩ := hL1
  refine ⟨.int n, rfl, .ref t, rfl, t, rfl, ⟨_, ht1⟩, fun D nD => ?_⟩
  refine ⟨fun i m H => m = ls.length - i ∧ i ≤ ls.length ∧ Same H1 H ∧ ∃ S c, H D = some (SetO w D S c) ∧ c ≤ 64 * i ∧ ∀ z, S z = true ↔ HasM n (ls.take i) z, ⟨ls.length, by simp, Nat.zero_le _, same_new nD, _, 0, upd_same, by simp, fun z => by simp [HasM]⟩, ?_⟩
  rintro i m H2 ⟨rfl, hi, s2, S, c, hD, hc, hS⟩
  have ht2 := Same.sqT s2 ht1
  rcases Nat.lt_or_ge i ls.length with lt | ge
  · have gl : (ls.map (·.1))[i]? = some (ls[i].1) := by rw [List.getElem?_map, List.getElem?_eq_getElem lt]; rfl
    refine .inr ⟨⟨_, _, ht2, gl⟩, fun H' => Same H1 H' ∧ ∃ S c, H' D = some (SetO w D S c) ∧ c ≤ 64 * (i + 1) ∧ ∀ z, S z = true ↔ HasM n (ls.take (i + 1)) z, ?_, ?_⟩
    · rintro H' ⟨a, S', c', b⟩
      exact ⟨ls.length - (i + 1), by omega, rfl, lt, a, S', c', b⟩
    · rintro v H' ⟨rfl, fv⟩
      have ev : v = ls[i].1 := Option.some.inj ((fv _ ht2).symm.trans gl)
      subst ev
      obtain ⟨x, y, ex, hx, hy⟩ := hall ls[i] (List.getElem_mem lt)
      have hx2 := s2 _ _ hx
      have hy2 := s2 _ _ hy
      refine ⟨rfl, ls[i].1, rfl, x, _, 1, .ref y, ex, rfl, SqT.of hx2, rfl, y, rfl, ⟨_, SqT.of hy2⟩, ?_⟩
      have hlm := lot_len hn ls[i].2
      refine ⟨fun j k H => k = (lotOf n ls[i].2).length - j ∧ j ≤ (lotOf n ls[i].2).length ∧ Same H1 H ∧ ∃ S c, H D = some (SetO w D S c) ∧ c ≤ 64 * i + j ∧ ∀ z, S z = true ↔ HasM n (ls.take i) z ∨ ∃ m : Nat, z = m ∧ m ∈ (lotOf n ls[i].2).take j,
        ⟨_, rfl, Nat.zero_le _, s2, S, c, hD, hc, fun z => by rw [hS z]; simp⟩, ?_⟩
      rintro j k H3 ⟨rfl, hj, s3, S3, c3, hD3, hc3, hS3⟩
      have hy3 := s3 _ _ hy
      rcases Nat.lt_or_ge j (lotOf n ls[i].2).length with lt2 | ge2
      · have gm : (vm (lotOf n ls[i].2))[j]? = some (.int ((lotOf n ls[i].2)[j] : Int)) := by unfold vm; rw [List.getElem?_map, List.getElem?_eq_getElem lt2]; rfl
        refine .inr ⟨⟨_, _, SqT.of hy3, gm⟩, fun H' => Same H1 H' ∧ ∃ S c, H' D = some (SetO w D S c) ∧ c ≤ 64 * i + (j + 1) ∧ ∀ z, S z = true ↔ HasM n (ls.take i) z ∨ ∃ m : Nat, z = m ∧ m ∈ (lotOf n ls[i].2).take (j + 1), ?_, ?_⟩
        · rintro H' ⟨a, S', c', b⟩
          exact ⟨(lotOf n ls[i].2).length - (j + 1), by omega, rfl, lt2, a, S', c', b⟩
        · rintro u H' ⟨rfl, fu⟩
          have eu : u = .int ((lotOf n ls[i].2)[j] : Int) := Option.some.inj ((fu _ (SqT.of hy3)).symm.trans gm)
          subst eu
          refine ⟨rfl, _, rfl, D, _, S3, c3, rfl, rfl, hD3, ?_, ?_⟩
          · unfold scanBound; omega
          · refine ⟨fun b o e => ?_, _, _, upd_same, ?_, fun z => ?_⟩
            · rw [upd_ne (ne_of_none e nD)]
              exact s3 _ _ e
            · split <;> omega
            · rw [Bool.or_eq_true, hS3 z, decide_eq_true_iff, List.take_add_one, List.getElem?_eq_getElem lt2]
              constructor
              · rintro ((h | ⟨m, h1, h2⟩) | h)
                · exact .inl h
                · exact .inr ⟨m, h1, List.mem_append_left _ h2⟩
                · exact .inr ⟨_, h, List.mem_append_right _ (by simp)⟩
              · rintro (h | ⟨m, h1, h2⟩)
                · exact .inl (.inl h)
                · rcases List.mem_append.mp h2 with h2 | h2
                  · exact .inl (.inr ⟨m, h1, h2⟩)
                  · have e : m = (lotOf n ls[i].2)[j] := by simpa using h2
                    exact .inr (by rw [h1, e])
      · have e : j = (lotOf n ls[i].2).length := by omega
        refine .inl ⟨⟨_, SqT.of hy3, by rw [vm_len]; omega⟩, s3, S3, c3, hD3, by omega, fun z => ?_⟩
        rw [hS3 z, hasM_take (List.getElem?_eq_getElem lt), show (lotOf n ls[i].2).take j = lotOf n ls[i].2 from List.take_of_length_le (by omega)]
  · have e : i = ls.length := by omega
    refine .inl ⟨⟨_, ht2, by rw [List.length_map]; omega⟩, D, S, c, rfl, hD, fun ns L asc hm nL => ?_⟩
    have s3 := same_new (o := .lst (ns.map V.int)) nL
    refine ⟨L, _, rfl, .inl ⟨SqL.of upd_same, fun T nT => ⟨sz (n := 2) (by decide), fun U nU => ?_⟩⟩⟩
    refine q _ _ ((((s1.trans s2).trans s3).trans (same_new nT)).trans (same_new nU)) ⟨U, T, rfl, upd_same, ?_⟩
    rw [upd_ne (ne_of_none upd_same nU), upd_same, rising_lot (w := n) (P := fun m => (ls.map fun l => l.2 m).any id) asc fun z => ?_]
    rw [hm z, hS z, e, List.take_length]
    unfold HasM
    constructor
    · rintro ⟨l, hl, m, h1, h2⟩
      obtain ⟨h3, h4⟩ := mem_lot.mp h2
      exact ⟨m, h1, h3, by rw [List.any_eq_true]; exact ⟨true, List.mem_map.mpr ⟨l, hl, h4⟩, rfl⟩⟩
    · rintro ⟨m, h1, h3, h4⟩
      obtain ⟨b, hb, hb2⟩ := List.any_eq_true.mp h4
      obtain ⟨l, hl, rfl⟩ := List.mem_map.mp hb
      exact ⟨l, hl, m, h1, mem_lot.mpr ⟨h3, hb2⟩⟩
end
end XT
namespace XT
open PySem PySem.Spec PyProof.Rows L2
section
variable {P : Program} {w : World} {K : PySem.W.Frag} {mg : Str → Option Value} {base : Heap}
theorem scShared : FnScope ["lots", "width", "x", "lot"] ["lots"] (defScope sShared) := ⟨rfl, rfl, rfl, by decide +kernel, rfl, by decide +kernel, by decide +kernel⟩
def outSc : Scope := match (defBody sShared).getD 1 (.Pass ⟨0, 0, 0, 0⟩) with
  | .Return (some (.Tuple [_, .Call _ [.ListComp _ _ sc _] _ _] _ _)) _ => sc
  | _ => defScope sShared
theorem ok_shared {f : Addr} {fd : FuncData} {k : Nat} (B : Bl mg) (F : Fun K "shared" "shared" sShared f fd) (dW : DefR P w K mg base 1 "common_width" (spWidth K)) : FnR P w K mg base CX0 (k + 2) f (spMany (fun bs => bs.all id)) := by
  refine many_of (star_ok F scShared (fun _ _ _ _ _ _ rest => by cases rest <;> rfl) fun cdv A outer s H vs Q E hr h => ?_)
  obtain ⟨t, ls, n, rfl, ht, hL, q⟩ := h
  refine ⟨_, pss_cons (ps_set (i := 1) scShared.nd rfl (.inl rfl) (pe_def dW (hr.mono (by omega)) (by rfl) (pa_cons (pv 0) pa_nil)))
      (pss_one (ps_ret (pe_tup (pa_cons (pv 1) (pa_cons (pe_callTy call_tuple_of (by rfl) B.tuple bT (pa_cons
        (pe_lc (own := [("x", 2)]) (g := gName 2) (te := tVar 2)
          (tt := tTest (tCB (rAll K) (tCons (tLc (iTup K (tVar 0)) (gName 3) tYes (tOp (rIn K false) (tVar 2) (tOp (rIxT K) (tVar 3) (tC (.int 1)))) [3]) tNil)))
          rfl scShared.nd (pi_tup (pe_ix ix_tup (pe_ix ix_tup (pv 0) pe_int (fun _ _ => rfl)) pe_int (fun _ _ => rfl)))
          (blkOk_by (own := [("x", 2)]) (N := ["lots", "width", "x", "lot"]) (sc := defScope sShared) (by decide +kernel))
          (fun _ _ _ _ _ => pg_name (i := 2) scShared.nd rfl (Or.inr rfl))
          (fun _ _ _ _ _ => pts_one (pt_val (pe_callB (cr_all rfl) (by rfl) B.all bAll (pa_cons
            (pe_lc (own := [("lot", 3)]) (g := gName 3) (tt := tYes) (te := tOp (rIn K false) (tVar 2) (tOp (rIxT K) (tVar 3) (tC (.int 1)))) rfl scShared.nd (pi_tup (pv 0))
              (blkOk_by (own := [("lot", 3)]) (N := ["lots", "width", "x", "lot"]) (sc := relS outSc (defScope sShared)) (by decide +kernel))
              (fun _ _ _ _ _ => pg_name (i := 3) scShared.nd rfl (Or.inl rfl)) (fun _ _ _ _ _ => pts_nil) (fun _ _ _ _ _ => pe_cmpR op_in_seq (pv 2) (pe_ix ix_tup (pv 3) pe_int (fun _ _ => rfl)) (by rfl))) pa_nil))))
          (fun _ _ _ _ _ => pv 2)) pa_nil)) pa_nil))))), ?_⟩
  refine ⟨.ref t, rfl, t, ls, n, rfl, ht, hL, fun H1 s1 => ?_⟩
  have ht1 := Same.sqT s1 ht
  have hL1 := hL.same s1
  obtain ⟨hne, hlen, hn, hall⟩ := hL1
  obtain ⟨l0, ls', rfl⟩ : ∃ l0 ls', ls = l0 :: ls' := by
    cases ls with
    | nil => exact absurd rfl hne
    | cons a b => exact ⟨a, b, rfl⟩
  obtain ⟨x0, y0, e1, hx0, hy0⟩ := hall l0 List.mem_cons_self
  have hl0 := lot_len hn l0.2
  refine ⟨.int n, rfl, .ref t, rfl, t, _, 0, l0.1, rfl, rfl, ht1, atI_nat (j := 0) rfl, x0, _, 1, .ref y0, e1, rfl, SqT.of hx0, rfl, y0, rfl, ⟨_, SqT.of hy0⟩, fun D nD => ?_⟩
  let ls : Lots := l0 :: ls'
  refine lcp_tup (p := fun v => match v with | .int i => (ls.map fun l => l.2 i.toNat).all id | _ => false) (f := id) nD (SqT.of hy0) (small64 (by rw [vm_len]; omega)) (fun i z H3 hz s3 => ?_) (fun H3 s3 hD => ?_)
  · intro R1 R2 h1 h2
    obtain ⟨m, hm, rfl⟩ := mem_vm hz
    have hm2 : m < 2 ^ n := (mem_lot.mp (List.mem_of_getElem? hm)).1
    have ht3 := Same.sqT s3 ht1
    refine ⟨rfl, .ref t, rfl, t, rfl, ⟨_, ht3⟩, fun B2 nB => ?_⟩
    refine lc_tup (K := K) (xs := ls.map (·.1)) (fun i H => PvP H3 B2 ((ls.take i).map fun l => V.bl (l.2 m)) H) ⟨same_new nB, upd_same⟩ (fun i H _ h => Same.sqT h.1 ht3) (fun i v H4 hv h => ?_) (fun H4 h => ?_)
    · rw [List.getElem?_map] at hv
      obtain ⟨l, hl, rfl⟩ := Option.map_eq_some_iff.mp hv
      obtain ⟨x, y, ex, hx, hy⟩ := hall l (List.mem_of_getElem? hl)
      refine pvp_turn (y := .bl (l.2 m)) (keep := true) nB h ?_ ?_ _ ?_
      · rw [List.length_map, List.length_take]
        exact small64 (Nat.le_trans (Nat.min_le_right _ _) (Nat.le_trans hlen (by decide)))
      · intro R3 R4 h3 h4
        refine ⟨rfl, iteT (B := R3 H4) ⟨_, rfl, l.1, rfl, x, _, 1, .ref y, ex, rfl, SqT.of (h.1 _ _ (s3 _ _ hx)), rfl, y, _, rfl, .inr (SqT.of (h.1 _ _ (s3 _ _ hy))), rfl, vm_flat _, ?_⟩⟩
        show R4 (.bl (inV (.int (m : Int)) (vm (lotOf n l.2)))) H4
        rw [in_lot hm2]
        exact h4 rfl _ (Same.refl _)
      · rw [List.take_add_one, hl, List.map_append]
        rfl
    · have hB := h.2
      rw [List.length_map, List.take_length] at hB
      refine ⟨B2, ls.map fun l => l.2 m, rfl, SqL.of ?_, _, rfl, ite2 (fun z => ?_) (fun z => ?_)⟩
      · rw [hB, List.map_map]
        rfl
      · exact ⟨_, rfl, h2 z _ h.1⟩
      · exact h1 (by simpa using z) _ h.1
  · have e : ((vm (lotOf n l0.2)).filter fun v => match v with | .int i => (ls.map fun l => l.2 i.toNat).all id | _ => false).map id = vm (lotOf n fun m => (ls.map fun l => l.2 m).all id) := by
      rw [vm_filter (lotOf n l0.2) (fun m => (ls.map fun l => l.2 m).all id) _ fun m hm => rfl, lot_filter]
      congr 1
      refine lot_congr fun m _ => ?_
      show (l0.2 m && (l0.2 m && (ls'.map fun l => l.2 m).all id)) = (l0.2 m && (ls'.map fun l => l.2 m).all id)
      cases l0.2 m <;> rfl
    rw [e] at hD
    refine ⟨D, _, rfl, .inl ⟨SqL.of hD, fun T nT => ⟨sz (n := 2) (by decide), fun U nU => ?_⟩⟩⟩
    refine q _ _ (((s1.trans s3).trans (same_new nT)).trans (same_new nU)) ⟨U, T, rfl, upd_same, ?_⟩
    rw [upd_ne (ne_of_none upd_same nU), upd_same]
end
end XT
/-! _law_both_right -/
namespace XT
open PySem PySem.Spec PyProof.Rows L2
def rCatB : R2 := fun x y H Q => ∃ l b xs zs, x = .ref l ∧ y = .ref b ∧ H l = some (.lst xs) ∧ H b = some (.lst zs) ∧ xs.length + zs.length ≤ sizeLine ∧ ∀ p, H p = none → Q (.ref p) (upd H p (.lst (xs ++ zs)))
theorem op_catB {X : L2.Cx} : OpR X (binaryOp .Add) rCatB := by
  intro pins s σ H x y v u Q I rx ry h
  obtain ⟨l, b, xs, zs, rfl, rfl, hH, hB, hz, q⟩ := h
  cases rx
  cases ry
  obtain ⟨z, its, n, r, hl, e⟩ := I.lstM hH
  obtain ⟨z2, its2, n2, r2, hl2, e2⟩ := I.lstM hB
  refine PySem.P.add_list e e2 ?_ (by rw [List.size_toArray, List.size_toArray]; omega)
  have ea : its.toArray ++ its2.toArray = (its ++ its2).toArray := by simp
  rw [ea]
  exact ⟨.ref _, _, I.lnew (t' := s.toks) (r.append r2) (by rw [List.length_append]; omega), rfl, q _ I.fresh⟩
def rLnS (K : PySem.W.Frag) : List V → Hp → VK → Prop := fun vs H Q => ∃ p xs, vs = [.ref p] ∧ (SqL K H p xs ∨ SqT K H p xs) ∧ Q (.int xs.length) H
theorem len_s {X : Cx} : CallR X (.builtin "len") (rLnS X.K) := call_len_seq
theorem szq {k : Nat} (h : k ≤ 1000) : k ≤ sizeLine := by rw [sizeLine_eq]; omega
section
variable {P : Program} {w : World} {K : PySem.W.Frag} {mg : Str → Option Value} {base : Heap}
abbrev nBr : List Str := ["_law_one", "_law_other", "_law_parts", "_law_sums", "_law_k", "_law_place"]
theorem scBr : FnScope nBr ["_law_one", "_law_other"] (defScope sLBothRight) := ⟨rfl, rfl, rfl, by decide +kernel, rfl, by decide +kernel, by decide +kernel⟩
def outBr : Scope := match (defBody sLBothRight).getD 2 (.Pass ⟨0, 0, 0, 0⟩) with
  | .Assign _ (.ListComp _ _ sc _) _ => sc
  | _ => defScope sLBothRight
abbrev teB (K : PySem.W.Frag) : TE := tOp (rI0 fun i j => .int (i + j)) (tOp (rIxT K) (tOp (rIxL K) (tVar 2) (tVar 4)) (tVar 5)) (tOp (rIxT K) (tOp (rIxL K) (tVar 2) (tOp (rI0 fun i j => .int (i + j)) (tVar 4) (tC (.int 1)))) (tVar 5))
abbrev teO (K : PySem.W.Frag) : TE := tLc (iRng1 (tCons (tCB (rLnS K) (tCons (tOp (rIxL K) (tVar 2) (tC (.int 0))) tNil)) tNil)) (gName 5) tYes (teB K) [5]
def spBr : Sp := fun vs H Q _ => ∃ (v u : V) (n : Nat) (p r : Nat → Bool), vs = [v, u] ∧ LotAt H v n p ∧ LotAt H u n r ∧ n ≤ 6 ∧ ∀ H', Same H H' → Q (.bl true) H'
theorem ok_br {f : Addr} {fd : FuncData} {k : Nat} (B : Bl mg) (F : Fun K "_law_both_right" "_law_both_right" sLBothRight f fd) (dS : DefR P w K mg base 3 "signed_counts" spSc) (dU : DefR P w K mg base 2 "united" (spMany fun bs => bs.any id)) (dH : DefR P w K mg base 2 "shared" (spMany fun bs => bs.all id)) : FnOk P w K mg base CX0 (k + 4) f fd ["_law_one", "_law_other"] spBr := by
  refine F.ok scBr (fun vs H Q E h => ?_) (fun cdv A outer s H vs Q E hr h => ?_)
  · obtain ⟨v, u, n, p, r, rfl, _⟩ := h
    rfl
  · obtain ⟨v, u, n, p, r, rfl, lv, lu, hn, q⟩ := h
    have h6 := pow6 hn
    have h0 := pow0 n
    have hr3 := hr.mono (show 3 ≤ k + 3 by omega)
    have hr2 := hr.mono (show 2 ≤ k + 3 by omega)
    refine ⟨_, pss_cons (ps_set (i := 2) scBr.nd rfl (by first | exact Or.inl rfl | exact Or.inr rfl) (pe_lst (pa_cons (pe_def dS hr3 (by rfl) (pa_cons (pv 0) pa_nil)) (pa_cons (pe_def dS hr3 (by rfl) (pa_cons (pv 1) pa_nil)) pa_nil))))
      (pss_cons (ps_set (i := 2) scBr.nd rfl (by first | exact Or.inl rfl | exact Or.inr rfl) (pe_op op_catB (pv 2) (pe_lst (pa_cons (pe_def dS hr3 (by rfl) (pa_cons (pe_def dU hr2 (by rfl) (pa_cons (pv 0) (pa_cons (pv 1) pa_nil))) pa_nil)) (pa_cons (pe_def dS hr3 (by rfl) (pa_cons (pe_def dH hr2 (by rfl) (pa_cons (pv 0) (pa_cons (pv 1) pa_nil))) pa_nil)) pa_nil)))))
      (pss_cons (ps_setLc (i := 3) (own := [("_law_k", 4)]) (g := gName 4) (tt := tYes) (te := teO K) rfl scBr.nd rfl rfl (sw_true rfl rfl rfl (by decide +kernel)) (pi_tup (pe_tup (pa_cons pe_int (pa_cons pe_int pa_nil)))) (blkOk_by (own := [("_law_k", 4)]) (N := nBr) (sc := defScope sLBothRight) (by decide +kernel))
          (fun _ _ _ _ _ => pg_name (i := 4) scBr.nd rfl (by first | exact Or.inl rfl | exact Or.inr rfl)) (fun _ _ _ _ _ => pts_nil) (fun _ _ _ _ _ => (pe_lc (own := [("_law_place", 5)]) (g := gName 5) (tt := tYes) (te := teB K) rfl scBr.nd (pi_range1 (by rfl) B.range (pa_cons (pe_callB len_s (by rfl) B.len PySem.boot_len (pa_cons (pe_ix ix_list (pv 2) pe_int (fun _ _ => rfl)) pa_nil)) pa_nil)) (blkOk_by (own := [("_law_place", 5)]) (N := nBr) (sc := relS outBr (defScope sLBothRight)) (by decide +kernel))
          (fun _ _ _ _ _ => pg_name (i := 5) scBr.nd rfl (Or.inl rfl)) (fun _ _ _ _ _ => pts_nil) (fun _ _ _ _ _ => pe_op op_add (pe_ix ix_tup (pe_ix ix_list (pv 2) (pv 4) (fun _ _ => rfl)) (pv 5) (fun _ _ => rfl)) (pe_ix ix_tup (pe_ix ix_list (pv 2) (pe_op op_add (pv 4) pe_int) (fun _ _ => rfl)) (pv 5) (fun _ _ => rfl))))))
      (pss_one (ps_ret (pe_and (pe_cmpR (op_eqD hr.units) (pe_ix ix_list (pv 3) pe_int (fun _ _ => rfl)) (pe_ix ix_list (pv 3) pe_int (fun _ _ => rfl)) (nomark _)) (pe_one (pe_cmpR op_eq (pe_cmpR (op_eqD hr.units) (pe_ix ix_list (pv 2) pe_int (fun _ _ => rfl)) (pe_ix ix_list (pv 2) pe_int (fun _ _ => rfl)) (nomark _)) (pe_cmpR (op_eqD hr.units) (pv 0) (pv 1) (nomark _)) (nomark _)))))))), ?_⟩
    refine ⟨v, rfl, v, n, p, rfl, lv, hn, fun H1 c1 s1 g1 => ⟨u, rfl, u, n, r, rfl, lu.same s1, hn, fun H2 c2 s2 g2 => ⟨sz (n := 2) (by decide), fun L1 nL1 => ?_⟩⟩⟩
    have sL1 := same_new (o := .lst [c1, c2]) nL1
    have sA := (s1.trans s2).trans sL1
    have two : ∀ {H' : Hp}, Same H H' → LotsAt H' [(v, p), (u, r)] n := fun e => ⟨by simp, by simp, hn, fun l hl => by
      rcases List.mem_cons.mp hl with rfl | hl
      · exact lv.same e
      · rw [List.mem_singleton.mp hl]; exact lu.same e⟩
    refine ⟨.ref L1, rfl, v, rfl, u, rfl, [(v, p), (u, r)], n, rfl, two sA, fun H3 uz s3 lz => ⟨uz, n, _, rfl, lz, hn, fun H4 c3 s4 g3 => ⟨v, rfl, u, rfl, [(v, p), (u, r)], n, rfl, two ((sA.trans s3).trans s4), fun H5 hz s5 lh => ⟨hz, n, _, rfl, lh, hn, fun H6 c4 s6 g4 => ⟨sz (n := 2) (by decide), fun L2 nL2 => ?_⟩⟩⟩⟩⟩
    have sL2 := same_new (o := .lst [c3, c4]) nL2
    have sB := (((s3.trans s4).trans s5).trans s6).trans sL2
    refine ⟨L1, L2, _, _, rfl, rfl, sB _ _ upd_same, upd_same, szq (show 2 + 2 ≤ 1000 by decide), fun Pl nPl => ?_⟩
    have sP := same_new (o := .lst ([c1, c2] ++ [c3, c4])) nPl
    have sC := (sA.trans sB).trans sP
    have g1 := (((g1.same s2).same sL1).same sB).same sP
    have g2 := ((g2.same sL1).same sB).same sP
    have g3 := ((((g3.same s5).same s6).same sL2).same sP)
    have g4 := (g4.same sL2).same sP
    have e3 : scL n (fun m => [p m, r m].any id) = scL n (fun m => p m || r m) := (sc_inj hn).mpr fun m _ => by
      show (p m || (r m || false)) = _
      rw [Bool.or_false]
    have e4 : scL n (fun m => [p m, r m].all id) = scL n (fun m => p m && r m) := (sc_inj hn).mpr fun m _ => by
      show (p m && (r m && true)) = _
      rw [Bool.and_true]
    have g3 : TupI _ c3 (scL n (fun m => p m || r m)) := e3 ▸ g3
    have g4 : TupI _ c4 (scL n (fun m => p m && r m)) := e4 ▸ g4
    refine ⟨sz (n := 2) (by decide), fun T nT => ⟨T, rfl, ⟨_, SqT.of upd_same⟩, ?_⟩⟩
    have sT := same_new (o := .tup [V.int 0, .int 2]) nT
    have hT : (upd (upd (upd H6 L2 (.lst [c3, c4])) Pl (.lst ([c1, c2] ++ [c3, c4]))) T (.tup [V.int 0, .int 2])) T = some (.tup [V.int 0, .int 2]) := upd_same
    have hPl := sT _ _ (upd_same (H := upd H6 L2 (.lst [c3, c4])) (a := Pl) (o := .lst ([c1, c2] ++ [c3, c4])))
    have g1 := g1.same sT
    have g2 := g2.same sT
    have g3 := g3.same sT
    have g4 := g4.same sT
    have sD := sC.trans sT
    generalize (upd (upd (upd H6 L2 (.lst [c3, c4])) Pl (.lst ([c1, c2] ++ [c3, c4]))) T (.tup [V.int 0, .int 2])) = H7 at hT hPl g1 g2 g3 g4 sD ⊢
    intro D nD
    obtain ⟨SL, eSL⟩ : ∃ SL, SL = (List.range (2 ^ n)).map fun u => scI n p u + scI n r u := ⟨_, rfl⟩
    refine lc_tup (K := K) (xs := [V.int 0, .int 2]) (fun i H' => Same H7 H' ∧ ∃ us, H' D = some (.lst us) ∧ us.length = i ∧ ∀ z ∈ us, ∃ q, z = V.ref q ∧ q ≠ D ∧ H' q = some (.lst (SL.map V.int))) ⟨same_new nD, [], upd_same, rfl, by simp⟩ (fun i H' _ h => SqT.of (h.1 _ _ hT)) (fun i z H8 hz h => ?_) (fun H8 h => ?_)
    · obtain ⟨s8, us, hD, hus, hall⟩ := h
      have hPl8 := s8 _ _ hPl
      obtain ⟨j, va, vb, p', r', ez, hva, hvb, ga, gb, hsum, hi2⟩ : ∃ (j : Nat) (va vb : V) (p' r' : Nat → Bool), z = .int (j : Int) ∧ [c1, c2, c3, c4][j]? = some va ∧ [c1, c2, c3, c4][j + 1]? = some vb ∧ TupI H7 va (scL n p') ∧ TupI H7 vb (scL n r') ∧ (∀ u, scI n p' u + scI n r' u = scI n p u + scI n r u) ∧ i < 2 := by
        match i, hz with
        | 0, hz => cases hz; exact ⟨0, c1, c2, p, r, rfl, rfl, rfl, g1, g2, fun _ => rfl, by decide⟩
        | 1, hz => cases hz; exact ⟨2, c3, c4, _, _, rfl, rfl, rfl, g3, g4, fun u => sc_both.symm, by decide⟩
      subst ez
      obtain ⟨q1, e1, hq1⟩ := id (g1.same s8)
      refine ⟨rfl, iteT (B := False) ⟨.ref Pl, rfl, Pl, _, 0, c1, rfl, rfl, SqL.of hPl8, rfl, q1, _, congrArg (fun z => [z]) e1, .inr (SqT.of hq1), ((2 ^ n : Nat) : Int), congrArg (fun z : Nat => [V.int (z : Int)]) (by rw [List.length_map, sc_len]), l62, r62 hn, fun C nC => ?_⟩⟩
      refine lcp_range (n := 2 ^ n) (p := fun _ => true) (f := fun x => .int (scI n p' x + scI n r' x)) nC (small64 (by omega)) (fun x H9 hx s9 => ?_) (fun H9 s9 hC => ?_)
      · intro R1 R2 h1 h2
        obtain ⟨qa, ea, hqa⟩ := id ((ga.same s8).same s9)
        obtain ⟨qb, eb, hqb⟩ := id ((gb.same s8).same s9)
        refine ⟨rfl, iteT (B := R1 H9) ⟨.ref Pl, rfl, .int (j : Int), rfl, Pl, _, j, va, rfl, rfl, SqL.of (s9 _ _ hPl8), atI_nat hva, .int (0 + (x : Int)), rfl, qa, _, x, _, ea, congrArg V.int (Int.zero_add _), SqT.of hqa, atI_nat (at_sc hx), .ref Pl, rfl, .int (j : Int), rfl, j, 1, rfl, rfl, Pl, _, (j + 1 : Nat), vb, rfl, rfl, SqL.of (s9 _ _ hPl8), atI_nat hvb, .int (0 + (x : Int)), rfl, qb, _, x, _, eb, congrArg V.int (Int.zero_add _), SqT.of hqb, atI_nat (at_sc hx), _, _, rfl, rfl, h2 rfl _ (Same.refl _)⟩⟩
      · have eC : H9 C = some (.lst (SL.map V.int)) := by
          rw [hC, List.filter_eq_self.mpr (fun _ _ => rfl), eSL, List.map_map]
          congr 2
          exact List.map_congr_left fun u _ => congrArg V.int (hsum u)
        have neC : C ≠ D := (ne_of_none hD nC).symm
        have hD9 := s9 _ _ hD
        refine ⟨us, hD9, small64 (by omega), same_upd (s8.trans s9) nD, us ++ [.ref C], upd_same, by rw [List.length_append, hus]; rfl, fun z hz => ?_⟩
        rcases List.mem_append.mp hz with hz | hz
        · obtain ⟨q', rfl, nq, hq⟩ := hall z hz
          exact ⟨q', rfl, nq, by rw [upd_ne nq]; exact s9 _ _ hq⟩
        · rw [List.mem_singleton.mp hz]
          exact ⟨C, rfl, neC, by rw [upd_ne neC]; exact eC⟩
    · obtain ⟨s8, us, hD, hus, hall⟩ := h
      obtain ⟨u1, u2, rfl⟩ : ∃ u1 u2, us = [u1, u2] := by
        match us, hus with
        | [a, b], _ => exact ⟨a, b, rfl⟩
      obtain ⟨a1, rfl, _, ha1⟩ := hall u1 List.mem_cons_self
      obtain ⟨a2, rfl, _, ha2⟩ := hall u2 (List.mem_cons_of_mem _ List.mem_cons_self)
      have hPl8 := s8 _ _ hPl
      refine ⟨.ref D, rfl, D, _, 0, .ref a1, rfl, rfl, SqL.of hD, rfl, .ref D, rfl, D, _, 1, .ref a2, rfl, rfl, SqL.of hD, rfl, eq_lstI ha1 ha2 ⟨true, congrArg V.bl (decide_eq_true rfl), iteT ?_⟩⟩
      refine ⟨.ref Pl, rfl, Pl, _, 0, c1, rfl, rfl, SqL.of hPl8, rfl, .ref Pl, rfl, Pl, _, 1, c2, rfl, rfl, SqL.of hPl8, rfl, eq_tupI (g1.same s8) (g2.same s8) ⟨v, rfl, u, rfl, eq_lots (lv.same (sD.trans s8)) (lu.same (sD.trans s8)) ⟨rfl, ?_⟩⟩⟩
      have e : decide (V.bl (decide (scL n p = scL n r)) = V.bl (decide (∀ m, m < 2 ^ n → p m = r m))) = true := by
        refine decide_eq_true (congrArg V.bl ?_)
        rw [Bool.eq_iff_iff, decide_eq_true_iff, decide_eq_true_iff]
        exact sc_inj hn
      show Q (.bl (decide (V.bl (decide (scL n p = scL n r)) = V.bl (decide (∀ m, m < 2 ^ n → p m = r m))))) H8
      rw [e]
      exact q _ (sD.trans s8)
end
end XT
/-! all lots of a small width -/
namespace XT
open PySem PySem.Spec PyProof.Rows L2
def bitB (i m : Nat) : Bool := decide (i / 2 ^ m % 2 = 1)
theorem LotAt.putL {H : Hp} {v : V} {n : Nat} {p : Nat → Bool} {D : Addr} {xs ys : List V} (h : LotAt H v n p) (e : H D = some (.lst xs)) : LotAt (upd H D (.lst ys)) v n p := by
  obtain ⟨a, b, rfl, h1, h2⟩ := h
  have n1 : a ≠ D := fun z => by rw [z, e] at h1; cases h1
  have n2 : b ≠ D := fun z => by rw [z, e] at h2; cases h2
  exact ⟨a, b, rfl, by rw [upd_ne n1]; exact h1, by rw [upd_ne n2]; exact h2⟩
theorem small64' {k : Nat} (h : k ≤ 1000) : k < sizeLine := by rw [sizeLine_eq]; omega
theorem bits_all (o : Nat → Bool) : ∀ k, ∃ i, i < 2 ^ k ∧ ∀ m, m < k → bitB i m = o m
  | 0 => ⟨0, by decide, fun m hm => absurd hm (Nat.not_lt_zero _)⟩
  | k + 1 => by
    obtain ⟨i, hi, h⟩ := bits_all o k
    have e2 : 2 ^ (k + 1) = 2 ^ k + 2 ^ k := by rw [Nat.pow_succ]; omega
    by_cases hk : o k = true
    · refine ⟨i + 2 ^ k, by omega, fun m hm => ?_⟩
      by_cases e : m = k
      · subst e
        unfold bitB
        rw [hk, Nat.add_div_right _ (Nat.two_pow_pos m), Nat.div_eq_of_lt hi]
        rfl
      · rw [← h m (by omega)]
        unfold bitB
        obtain ⟨d, rfl⟩ : ∃ d, k = m + 1 + d := ⟨k - m - 1, by omega⟩
        have e3 : i + 2 ^ (m + 1 + d) = i + (2 ^ d * 2) * 2 ^ m := by
          rw [Nat.pow_add, Nat.pow_succ, Nat.mul_comm (2 ^ m * 2), Nat.mul_comm (2 ^ m) 2, ← Nat.mul_assoc]
        rw [e3, Nat.add_mul_div_right _ _ (Nat.two_pow_pos m), Nat.add_mul_mod_self_right]
    · refine ⟨i, by omega, fun m hm => ?_⟩
      by_cases e : m = k
      · subst e
        unfold bitB
        rw [Bool.eq_false_iff.mpr hk, Nat.div_eq_of_lt hi]
        rfl
      · exact h m (by omega)
section
variable {P : Program} {w : World} {K : PySem.W.Frag} {mg : Str → Option Value} {base : Heap}
abbrev nAl : List Str := ["_law_width", "_law_found", "_law_number", "_law_mask"]
theorem scAl : FnScope nAl ["_law_width"] (defScope sLAll) := ⟨rfl, rfl, rfl, by decide +kernel, rfl, by decide +kernel, by decide +kernel⟩
def spAl : Sp := fun vs H Q _ => ∃ (n : Nat), vs = [.int (n : Int)] ∧ n ≤ 3 ∧ ∀ H' L us, Same H H' → H' L = some (.lst us) → us.length = 2 ^ 2 ^ n → (∀ i v, us[i]? = some v → LotAt H' v n (bitB i)) → Q (.ref L) H'
abbrev ttA : TT := tTest (tOp rEq (tOp (rI (fun _ j => 0 < j) fun i j => .int (i % j)) (tOp (rI CDiv fun i j => .int (i / j)) (tVar 2) (tOp (rI CPow fun i j => .int (i * 2 ^ j.toNat)) (tC (.int 1)) (tVar 3))) (tC (.int 2))) (tC (.int 1)))
theorem ok_al {f : Addr} {fd : FuncData} {k : Nat} (B : Bl mg) (F : Fun K "_law_all" "_law_all" sLAll f fd) : FnOk P w K mg base CX0 (k + 1) f fd ["_law_width"] spAl := by
  refine F.ok scAl (fun vs H Q E h => ?_) (fun cdv A outer s H vs Q E hr h => ?_)
  · obtain ⟨n, rfl, _⟩ := h
    rfl
  · obtain ⟨n, rfl, hn, q⟩ := h
    refine ⟨_, pss_cons (ps_set (i := 1) scAl.nd rfl (by first | exact Or.inl rfl | exact Or.inr rfl) (pe_lst pa_nil))
      (pss_cons (ps_for PassesOwn.never rfl (pi_range1 (by rfl) B.range (pa_cons (pe_op op_shl pe_int (pe_op op_shl pe_int (pv 0))) pa_nil)) (pg_name (i := 2) scAl.nd rfl (by first | exact Or.inl rfl | exact Or.inr rfl))
        (pss_one (ps_expr (pe_bm PySem.F.plainAttrs_list PySem.F.slot_list_append PySem.F.type_list_append mt_append (pv 1) (pa_cons (pe_tup (pa_cons (pv 0) (pa_cons (pe_callTy call_tuple_of (by rfl) B.tuple bT (pa_cons
          (pe_lc (own := [("_law_mask", 3)]) (g := gName 3) (tt := ttA) (te := tVar 3) rfl scAl.nd (pi_range1 (by rfl) B.range (pa_cons (pe_op op_shl pe_int (pv 0)) pa_nil)) (blkOk_by (own := [("_law_mask", 3)]) (N := nAl) (sc := defScope sLAll) (by decide +kernel))
            (fun _ _ _ _ _ => pg_name (i := 3) scAl.nd rfl (Or.inl rfl)) (fun _ _ _ _ _ => pts_one (pt_cmpR op_eq (pe_op op_mod (pe_op op_fdiv (pv 2) (pe_op op_shl pe_int (pv 3))) pe_int) pe_int (nomark _))) (fun _ _ _ _ _ => pv 3)) pa_nil)) pa_nil))) pa_nil)))))
      (pss_one (ps_ret (pv 1)))), ?_⟩
    have h8 : 2 ^ n ≤ 8 := by
      have := Nat.pow_le_pow_right (show 0 < 2 by decide) hn
      omega
    have h256 : 2 ^ 2 ^ n ≤ 256 := by
      have := Nat.pow_le_pow_right (show 0 < 2 by decide) h8
      omega
    refine ⟨sz (n := 0) (by decide), fun L nL => ?_⟩
    have sL := same_new (o := .lst []) nL
    have es : ((1 : Int) * 2 ^ (((1 : Int) * 2 ^ ((n : Int).toNat)).toNat)) = ((2 ^ 2 ^ n : Nat) : Int) := by
      rw [shl1 n]
      exact shl1 (2 ^ n)
    obtain ⟨N, eN⟩ : ∃ N, 2 ^ 2 ^ n = N := ⟨_, rfl⟩
    rw [eN] at h256 es q
    refine ⟨.int n, rfl, 1, n, rfl, rfl, cpow (by omega), 1, _, rfl, rfl, ?_, (N : Int), congrArg (fun z => [V.int z]) es, by omega, by omega, ?_⟩
    · show CPow 1 ((1 : Int) * 2 ^ ((n : Int).toNat))
      rw [shl1 n]
      have h9 : ((2 ^ n : Nat) : Int) ≤ 8 := Int.ofNat_le.mpr h8
      exact ⟨Int.natCast_nonneg _, Int.le_trans h9 (by decide), by decide⟩
    refine for_range (lo := 0) (n := N) (fun i σ H' => Same H H' ∧ ∃ (us : List V) (z2 : Option V), σ = [some (.int (n : Int)), some (.ref L), z2, none] ∧ H' L = some (.lst us) ∧ us.length = i ∧ ∀ j v, us[j]? = some v → LotAt H' v n (bitB j)) ⟨sL, [], none, rfl, upd_same, rfl, fun j v h => by simp at h⟩ (fun i σ H2 hi h => ?_) (fun σ H2 h => ?_)
    · obtain ⟨s2, us, z2, rfl, hL, hl, hall⟩ := h
      refine ⟨.ref L, rfl, .inl ⟨rfl, _, SqL.of hL⟩, .int n, rfl, .int n, rfl, 1, n, rfl, rfl, cpow (by omega), ((2 ^ n : Nat) : Int), congrArg (fun z => [V.int z]) (shl1 n), l62, r62 (by omega), fun C nC => ?_⟩
      refine lcp_range (n := 2 ^ n) (p := bitB i) (f := fun m => .int (m : Int)) nC (small64 (by omega)) (fun m H3 hm s3 => ?_) (fun H3 s3 hC => ?_)
      · intro R1 R2 h1 h2
        have hm8 : m ≤ 8 := by omega
        have p8 : 2 ^ m ≤ 256 := by
          have := Nat.pow_le_pow_right (show 0 < 2 by decide) hm8
          omega
        have p0 := pow0 m
        have e1 : (1 : Int) * 2 ^ ((0 + (m : Int)).toNat) = ((2 ^ m : Nat) : Int) := by rw [Int.zero_add]; exact shl1 m
        refine ⟨rfl, .int (0 + (i : Int)), rfl, .int (0 + (m : Int)), rfl, 1, 0 + (m : Int), rfl, rfl, ⟨by omega, by omega, by decide⟩, 0 + (i : Int), _, rfl, rfl, ?_, _, 2, rfl, rfl, (show (0 : Int) < 2 by decide), rfl, _, rfl, ?_⟩
        · show CDiv (0 + (i : Int)) ((1 : Int) * 2 ^ ((0 + (m : Int)).toNat))
          rw [e1]
          exact ⟨by omega, by omega⟩
        have e2 : decide (V.int ((0 + (i : Int)) / ((1 : Int) * 2 ^ ((0 + (m : Int)).toNat)) % 2) = V.int 1) = bitB i m := by
          rw [e1, Int.zero_add]
          unfold bitB
          rw [Bool.eq_iff_iff, decide_eq_true_iff, decide_eq_true_iff]
          have e3 : (i : Int) / ((2 ^ m : Nat) : Int) % 2 = ((i / 2 ^ m % 2 : Nat) : Int) := by
            rw [← Int.natCast_ediv]
            omega
          rw [e3]
          constructor
          · intro z
            have := V.int.inj z
            omega
          · intro z
            rw [z]
            rfl
        show if decide (V.int ((0 + (i : Int)) / ((1 : Int) * 2 ^ ((0 + (m : Int)).toNat)) % 2) = V.int 1) = true then _ else _
        rw [e2]
        refine ite2 (fun z => ?_) (fun z => ?_)
        · refine ⟨.int (0 + (m : Int)), rfl, ?_⟩
          rw [Int.zero_add]
          exact h2 z _ (Same.refl _)
        · exact h1 (by simpa using z) _ (Same.refl _)
      refine ⟨C, _, rfl, .inl ⟨SqL.of hC, fun T nT => ⟨sz (n := 2) (by decide), fun U nU => ?_⟩⟩⟩
      have sT := same_new (o := .tup (((List.range (2 ^ n)).filter (bitB i)).map fun m : Nat => V.int (m : Int))) nT
      have sU := same_new (o := .tup [V.int (n : Int), .ref T]) nU
      have lu : LotAt _ (.ref U) n (bitB i) := ⟨U, T, rfl, upd_same, sU _ _ upd_same⟩
      have sm := (s3.trans sT).trans sU
      have hL2 := sm _ _ hL
      refine ⟨L, _, .ref U, rfl, rfl, hL2, small64' (by omega), same_upd (s2.trans sm) nL, us ++ [.ref U], _, rfl, upd_same, by rw [List.length_append, hl]; rfl, fun j v hv => ?_⟩
      refine LotAt.putL ?_ hL2
      rcases Nat.lt_or_ge j us.length with lt | ge
      · rw [List.getElem?_append_left lt] at hv
        exact (hall j v hv).same sm
      · rw [List.getElem?_append_right ge] at hv
        obtain ⟨g1, g2⟩ := List.getElem?_eq_some_iff.mp hv
        have e : j = i := by simp at g1; omega
        subst e
        have e2 : V.ref U = v := by simpa using g2
        rw [← e2]
        exact lu
    · obtain ⟨s2, us, z2, rfl, hL, hl, hall⟩ := h
      exact ⟨.ref L, rfl, q _ _ us s2 hL hl hall⟩
end
end XT
namespace XT
open PySem PySem.Spec PyProof.Rows L2

theorem scSt : FnScope ["_law_script", "_law_cells", "_law_cell"] ["_law_script"] (defScope sStream) := ⟨rfl, rfl, rfl, by decide +kernel, rfl, by decide +kernel, by decide +kernel⟩
section
variable {P : Program} {w : World} {K : PySem.W.Frag} {mg : Str → Option Value} {base : Heap}
theorem ok_stream {f : Addr} {fd : FuncData} {k : Nat} (F : Fun K "_law_stream" "_law_stream" sStream f fd) (ml : mg "len" = none) (ma : mg "abs" = none) : FnOk P w K mg base CX0 (k + 1) f fd ["_law_script"] (spStream K) := by
  refine F.ok scSt (fun vs H Q E h => ?_) (fun cdv A outer s H vs Q E hr h => ?_)
  · obtain ⟨a, ns, rfl, _⟩ := h
    rfl
  · obtain ⟨a, ns, rfl, hA, hlen, q⟩ := h
    refine ⟨_, pss_cons (ps_setLc (i := 1) (own := [("_law_cell", 2)]) (g := gName 2) (tt := tYes) rfl scSt.nd rfl rfl (sw_true rfl rfl rfl (by decide +kernel)) (pi_list (pv 0)) (blkOk_by (own := [("_law_cell", 2)]) (N := ["_law_script", "_law_cells", "_law_cell"]) (sc := defScope sStream) (by decide +kernel))
          (fun _ _ _ _ _ => pg_name (i := 2) scSt.nd rfl (Or.inl rfl)) (fun _ _ _ _ _ => pts_nil) (fun _ _ _ _ _ => pe_callB call_abs (by rfl) ma (by decide +kernel) (pa_cons (pv 2) pa_nil)))
        (pss_one (ps_ret (pe_lst (pa_cons
          (pe_lc (own := [("_law_cell", 2)]) (g := gName 2) rfl scSt.nd (pi_list (pv 1)) (blkOk_by (own := [("_law_cell", 2)]) (N := ["_law_script", "_law_cells", "_law_cell"]) (sc := defScope sStream) (by decide +kernel))
            (fun _ _ _ _ _ => pg_name (i := 2) scSt.nd rfl (Or.inl rfl)) (fun _ _ _ _ _ => pts_one (pt_cmpR op_ge (pv 2) (pe_op op_pow pe_int pe_int) (nomark _))) (fun _ _ _ _ _ => pv 2))
          (pa_cons (pe_op op_cat (pv 1) (pe_lst (pa_cons (pe_op op_add (pe_callB call_len_seq (by rfl) ml PySem.boot_len (pa_cons (pv 1) pa_nil)) pe_int) pa_nil)))
          (pa_cons pe_int pa_nil)))))), ?_⟩
    have hml : (ns.map V.int).length ≤ 63 := by rw [List.length_map]; exact hlen
    refine ⟨.ref a, rfl, a, rfl, ⟨_, hA⟩, fun D nD => lcp_list (p := fun _ => true) (f := fun v => match v with | .int i => .int (ab i) | v => v) nD hA (small64 (by omega)) (fun i x H3 hx sm => ?_) (fun H3 sm hD => ?_)⟩
    · intro R1 R2 h1 h2
      rw [List.getElem?_map] at hx
      obtain ⟨n, -, rfl⟩ := Option.map_eq_some_iff.mp hx
      exact ⟨rfl, iteT (B := R1 H3) ⟨_, rfl, n, rfl, h2 rfl _ (Same.refl _)⟩⟩
    · -- cells
      obtain ⟨cs, hcs, hcl⟩ : ∃ cs : List Int, (((ns.map V.int).filter fun _ => true).map fun v => match v with | .int i => V.int (ab i) | v => v) = cs.map V.int ∧ cs.length = ns.length := by
        refine ⟨ns.map ab, ?_, List.length_map _⟩
        rw [List.filter_eq_self.mpr (fun _ _ => rfl), List.map_map, List.map_map]
        rfl
      rw [hcs] at hD
      have hDl : (cs.map V.int).length ≤ 63 := by rw [List.length_map]; omega
      refine ⟨.ref D, rfl, D, rfl, ⟨_, SqL.of hD⟩, fun B nB => lcp_list (p := fun v => match v with | .int i => decide (10 ^ 18 ≤ i) | _ => false) (f := id) nB (SqL.of hD) (small64 (by omega)) (fun i x H4 hx sm4 => ?_) (fun H4 sm4 hB => ?_)⟩
      · intro R1 R2 h1 h2
        rw [List.getElem?_map] at hx
        obtain ⟨n, -, rfl⟩ := Option.map_eq_some_iff.mp hx
        refine ⟨rfl, _, rfl, 10, 18, rfl, rfl, ⟨by decide, by decide, by decide⟩, n, _, rfl, rfl, _, rfl, ite2 (fun e => ?_) (fun e => ?_)⟩
        · exact ⟨_, rfl, h2 e _ (Same.refl _)⟩
        · exact h1 (by simpa using e) _ (Same.refl _)
      · have hD4 := sm4 _ _ hD
        obtain ⟨big, hbig⟩ : ∃ big : List Int, (((cs.map V.int).filter fun v => match v with | .int i => decide (10 ^ 18 ≤ i) | _ => false).map id) = big.map V.int := by
          refine ⟨cs.filter fun i => decide (10 ^ 18 ≤ i), ?_⟩
          rw [List.map_id, List.filter_map]
          rfl
        rw [hbig] at hB
        refine ⟨.ref D, rfl, .ref D, rfl, D, _, rfl, .inl (SqL.of hD4), _, _, rfl, rfl, sz (n := 1) (by decide), fun L nL => ?_⟩
        have s5 : Same H4 (upd H4 L (.lst [.int (((cs.map V.int).length : Nat) + 37)])) := same_new nL
        refine ⟨D, L, _, _, rfl, rfl, s5 _ _ hD4, upd_same, ?_, fun C nC => ?_⟩
        · rw [sizeLine_eq]; simp only [List.length_map, List.length_cons, List.length_nil]; omega
        · have s6 := same_new (o := .lst (cs.map V.int ++ [.int (((cs.map V.int).length : Nat) + 37)])) nC
          refine ⟨sz (n := 3) (by decide), fun G nG => ?_⟩
          have s7 := same_new (o := .lst [V.ref B, .ref C, .int 0]) nG
          have hBC : B ≠ C := ne_of_none (s5 _ _ hB) nC
          refine q _ ⟨G, B, C, cs ++ [(((cs.map V.int).length : Nat) : Int) + 37]⟩ (((sm.trans sm4).trans (s5.trans s6)).trans s7) ⟨big, upd_same, s7 _ _ (s6 _ _ (s5 _ _ hB)), s7 _ _ ?_, ?_, ?_, hBC, ?_, Int.le_refl _⟩
          · rw [upd_same, List.map_append]; rfl
          · exact (ne_of_none (s6 _ _ (s5 _ _ hB)) nG).symm
          · exact (ne_of_none (show (upd _ C _) C = some _ from upd_same) nG).symm
          · show 0 < (cs ++ _).length
            rw [List.length_append]; exact Nat.succ_pos _
end
end XT
namespace XT
open PySem PySem.Spec PyProof.Rows L2
abbrev nDn : List Str := ["_law_stream_here", "_law_most", "_law_width", "_law_way", "_law_count", "_law_masks", "_law_k", "_law_turn", "_law_out", "_law_mask"]
theorem scDn : FnScope nDn ["_law_stream_here", "_law_most"] (defScope sDrawn) := ⟨rfl, rfl, rfl, by decide +kernel, rfl, by decide +kernel, by decide +kernel⟩
section
variable {P : Program} {w : World} {K : PySem.W.Frag} {mg : Str → Option Value} {base : Heap}
def spDrawn : Sp := fun vs H Q _ => ∃ (S : Sm) (t : Int) (most : Nat), vs = [.ref S.s, .int (most : Int)] ∧ Strm S H t ∧ 1 ≤ most ∧ most ≤ 6 ∧ t < 10000000 ∧
  ∀ (H' : Hp) (r : V) (n : Nat) (p : Nat → Bool) (t' : Int), Step S H t H' t' 300 → 1 ≤ n → n ≤ most → LotAt H' r n p → Q r H'
/-- the masks so far -/
def MidD (S : Sm) (H : Hp) (t : Int) (most n way B : Nat) (σ : L2.St) (H' : Hp) : Prop := ∃ (M : Addr) (ks : List Nat) (t' : Int) (y6 y7 y8 : Option V),
  σ = [some (.ref S.s), some (.int (most : Int)), some (.int (n : Int)), some (.int (way : Int)), some (.int ((2 ^ n : Nat) : Int)), some (.ref M), y6, y7, y8, none] ∧
  Step S H t H' t' B ∧ H' M = some (.lst (vm ks)) ∧ M ≠ S.s ∧ M ≠ S.p ∧ (∀ k ∈ ks, k < 2 ^ n) ∧ ks.length ≤ 64
theorem fresh_s {S : Sm} {H : Hp} {t : Int} {x : Addr} (h : Strm S H t) (n : H x = none) : x ≠ S.s ∧ x ≠ S.p := by
  obtain ⟨_, h⟩ := h
  exact ⟨fun e => (by rw [e, h.hs] at n; cases n), fun e => (by rw [e, h.hp] at n; cases n)⟩
abbrev tDr (m : TE) : TE := fun σ H Q => tCons (tVar 0) (tCons m tNil) σ H fun vs H1 => spDrawN vs H1 Q E0
theorem or_eq {σ : L2.St} {H : Hp} {i : Nat} {x a b : Int} {Q : Bool → Hp → Prop} (hx : σ[i]? = some (some (.int x))) (h : Q (decide (x = a ∨ x = b)) H) : tOr (tTest (tOp rEq (tVar i) (tC (.int a)))) (tTest (tOp rEq (tVar i) (tC (.int b)))) σ H Q := by
  refine ⟨.int x, hx, rfl, _, rfl, ite2 (fun e => ?_) (fun e => ⟨.int x, hx, rfl, _, rfl, ?_⟩)⟩
  · have e1 : x = a := V.int.inj (of_decide_eq_true e)
    rw [decide_eq_true (Or.inl e1)] at h
    exact h
  · have e1 : x ≠ a := fun z => e (decide_eq_true (by rw [z]))
    by_cases e2 : x = b
    · rw [decide_eq_true (Or.inr e2)] at h
      rw [decide_eq_true (by rw [e2])]
      exact h
    · rw [decide_eq_false (fun z => z.elim e1 e2)] at h
      rw [decide_eq_false (fun z => e2 (V.int.inj z))]
      exact h
theorem ok_drawn {f : Addr} {fd : FuncData} {k : Nat} (B : Bl mg) (F : Fun K "_law_drawn" "_law_drawn" sDrawn f fd) (dD : DefR P w K mg base 1 "_law_draw" spDrawN) : FnOk P w K mg base CX0 (k + 2) f fd ["_law_stream_here", "_law_most"] spDrawn := by
  refine F.ok scDn (fun vs H Q E h => ?_) (fun cdv A outer s H vs Q E hr h => ?_)
  · obtain ⟨S, t, most, rfl, _⟩ := h
    rfl
  · obtain ⟨S, t, most, rfl, st, ml, mh, ht, q⟩ := h
    have hr1 : Room 1 (A.deeper (envOfC "_law_drawn" (defScope sDrawn) s.heap.objs.size f cdv)) := hr.mono (by omega)
    refine ⟨_, pss_cons (ps_asg (pe_tup (pa_cons (pe_op op_add pe_int (pe_def dD hr1 (by rfl) (pa_cons (pv 0) (pa_cons (pv 1) pa_nil)))) (pa_cons (pe_def dD hr1 (by rfl) (pa_cons (pv 0) (pa_cons pe_int pa_nil))) pa_nil)))
          (pg_tup rfl (pgs_cons (pg_name (i := 2) scDn.nd rfl (.inl rfl)) (pgs_cons (pg_name (i := 3) scDn.nd rfl (.inr rfl)) pgs_nil))))
      (C8.pss_cut (ps_asg (pe_tup (pa_cons (pe_op op_shl pe_int (pv 2)) (pa_cons (pe_lst pa_nil) pa_nil)))
          (pg_tup rfl (pgs_cons (pg_name (i := 4) scDn.nd rfl (.inr rfl)) (pgs_cons (pg_name (i := 5) scDn.nd rfl (.inl rfl)) pgs_nil))))
      (C8.pss_cut (ps_if (pt_cmpR op_eq (pv 3) pe_int (nomark _))
          (pss_one (ps_setLc (i := 5) (own := [("_law_mask", 9)]) (g := gName 9) (te := tVar 9) rfl scDn.nd rfl rfl (sw_true rfl rfl rfl (by decide +kernel)) (pi_range1 (by rfl) B.range (pa_cons (pv 4) pa_nil)) (blkOk_by (own := [("_law_mask", 9)]) (N := nDn) (sc := defScope sDrawn) (by decide +kernel))
            (fun _ _ _ _ _ => pg_name (i := 9) scDn.nd rfl (Or.inl rfl)) (fun _ _ _ _ _ => pts_one (pt_cmpR op_eq (pe_def dD hr1 (by rfl) (pa_cons (pv 0) (pa_cons pe_int pa_nil))) pe_int (nomark _))) (fun _ _ _ _ _ => pv 9))) pss_nil)
      (C8.pss_cut (ps_if (PW.pt (pw_or (pt_cmpR op_eq (pv 3) pe_int (nomark _)) (pw_or1 (pt_cmpR op_eq (pv 3) pe_int (nomark _)))))
          (pss_one (ps_setLc (i := 5) (own := [("_law_k", 6)]) (g := gName 6) (tt := tYes) rfl scDn.nd rfl rfl (sw_true rfl rfl rfl (by decide +kernel))
            (pi_range1 (by rfl) B.range (pa_cons (pe_def dD hr1 (by rfl) (pa_cons (pv 0) (pa_cons (pe_ix ix_list (pe_lst (pa_cons pe_int (pa_cons pe_int pa_nil))) (pe_op op_sub (pv 3) pe_int) (fun _ _ => rfl)) pa_nil))) pa_nil)) (blkOk_by (own := [("_law_k", 6)]) (N := nDn) (sc := defScope sDrawn) (by decide +kernel))
            (fun _ _ _ _ _ => pg_name (i := 6) scDn.nd rfl (Or.inl rfl)) (fun _ _ _ _ _ => pts_nil) (fun _ _ _ _ _ => pe_def dD hr1 (by rfl) (pa_cons (pv 0) (pa_cons (pv 4) pa_nil))))) pss_nil)
      (C8.pss_cut (ps_if (PW.pt (pw_or (pt_cmpR op_eq (pv 3) pe_int (nomark _)) (pw_or1 (pt_cmpR op_eq (pv 3) pe_int (nomark _)))))
          (pss_cons (ps_set (i := 5) scDn.nd rfl (.inl rfl) (pe_lst (pa_cons (pe_def dD hr1 (by rfl) (pa_cons (pv 0) (pa_cons (pv 4) pa_nil))) pa_nil)))
          (pss_one (ps_for PassesOwn.never rfl (pi_range1 (by rfl) B.range (pa_cons (pe_def dD hr1 (by rfl) (pa_cons (pv 0) (pa_cons pe_int pa_nil))) pa_nil)) (pg_name (i := 6) scDn.nd rfl (.inl rfl))
            (pss_cons (ps_set (i := 7) scDn.nd rfl (.inr rfl) (pe_def dD hr1 (by rfl) (pa_cons (pv 0) (pa_cons (pv 4) pa_nil))))
            (pss_one (ps_set (i := 5) scDn.nd rfl (.inl rfl) (pe_op op_cat (pv 5)
              (pe_lc (own := [("_law_mask", 9)]) (g := gName 9) rfl scDn.nd (pi_list (pv 5)) (blkOk_by (own := [("_law_mask", 9)]) (N := nDn) (sc := defScope sDrawn) (by decide +kernel))
                (fun _ _ _ _ _ => pg_name (i := 9) scDn.nd rfl (Or.inl rfl)) (fun _ _ _ _ _ => pts_one (pt_cmpR op_gt (pe_def dD hr1 (by rfl) (pa_cons (pv 0) (pa_cons pe_int pa_nil))) (pe_op op_sub pe_int (pv 3)) (nomark _)))
                (fun _ _ _ _ _ => pe_op op_xor (pv 9) (pv 7)))))))))) pss_nil)
      (C8.pss_cut (ps_if (pt_cmpR op_eq (pv 3) pe_int (nomark _))
          (pss_cons (ps_set (i := 8) scDn.nd rfl (.inr rfl)
            (pe_lc (own := [("_law_k", 6)]) (g := gName 6) (tt := tYes) rfl scDn.nd (pi_range1 (by rfl) B.range (pa_cons (pe_def dD hr1 (by rfl) (pa_cons (pv 0) (pa_cons pe_int pa_nil))) pa_nil)) (blkOk_by (own := [("_law_k", 6)]) (N := nDn) (sc := defScope sDrawn) (by decide +kernel))
              (fun _ _ _ _ _ => pg_name (i := 6) scDn.nd rfl (Or.inl rfl)) (fun _ _ _ _ _ => pts_nil) (fun _ _ _ _ _ => pe_def dD hr1 (by rfl) (pa_cons (pv 0) (pa_cons (pv 4) pa_nil)))))
          (pss_one (ps_setLc (i := 5) (own := [("_law_mask", 9)]) (g := gName 9) (tt := tTest (tOp (rIn K true) (tVar 9) (tVar 8))) (te := tVar 9) rfl scDn.nd rfl rfl (sw_true rfl rfl rfl (by decide +kernel)) (pi_range1 (by rfl) B.range (pa_cons (pv 4) pa_nil)) (blkOk_by (own := [("_law_mask", 9)]) (N := nDn) (sc := defScope sDrawn) (by decide +kernel))
            (fun _ _ _ _ _ => pg_name (i := 9) scDn.nd rfl (Or.inl rfl)) (fun _ _ _ _ _ => pts_one (pt_cmpR op_notIn_seq (pv 9) (pv 8) (by rfl))) (fun _ _ _ _ _ => pv 9)))) pss_nil)
      (pss_one (ps_ret (pe_tup (pa_cons (pv 2) (pa_cons (pe_callTy call_tuple_of (by rfl) B.tuple bT (pa_cons (pe_callB (cr_sortS rfl) (by rfl) B.sorted bS (pa_cons (pe_callTy (cr_setL rfl) (by rfl) B.set bSet (pa_cons (pv 5) pa_nil)) pa_nil)) pa_nil)) pa_nil)))))))))), ?_⟩
    -- width, way
    refine ⟨.ref S.s, rfl, .int most, rfl, S, t, most, rfl, st, by omega, by omega, by omega, fun H1 r1 t1 s1 hr1 => ?_⟩
    refine ⟨1, r1, rfl, rfl, .ref S.s, rfl, S, t1, 6, rfl, s1.st, by omega, by omega, by have := s1.hi; omega, fun H2 way t2 s2 hway => ?_⟩
    refine ⟨sz (n := 2) (by decide), fun T nT => ⟨T, _, rfl, SqT.of upd_same, rfl, _, _, rfl, _, _, rfl, rfl, ?_⟩⟩
    have s3 := (s1.trans s2).same (same_new (o := .tup [.int (1 + (r1 : Int)), .int (way : Int)]) nT)
    obtain ⟨n, hn⟩ : ∃ n : Nat, n = 1 + r1 := ⟨_, rfl⟩
    have hn1 : 1 ≤ n := by omega
    have hn6 : n ≤ most := by omega
    -- count, masks
    refine ⟨MidD S H t most n way 10, ?_, fun σ0 H0 mid0 => ?_⟩
    · refine ⟨.int (1 + (r1 : Int)), rfl, 1, (n : Int), rfl, by rw [hn]; rfl, cpow (by omega), sz (n := 0) (by decide), fun M nM => ⟨sz (n := 2) (by decide), fun T2 nT2 => ⟨T2, _, rfl, SqT.of upd_same, rfl, _, _, rfl, _, _, rfl, rfl, ?_⟩⟩⟩
      have fs := fresh_s s3.st nM
      have s4 := s3.same (same_new (o := .lst []) nM)
      refine ⟨M, [], t2, none, none, none, ?_, (s4.same (same_new nT2)).mono (by omega), ?_, fs.1, fs.2, by simp, by simp⟩
      · rw [← shl1 n, hn]
        rfl
      · rw [upd_ne (ne_of_none upd_same nT2)]
        exact upd_same
    -- if way == 0
    refine ⟨MidD S H t most n way 80, ?_, fun σ1 H1 mid1 => ?_⟩
    · obtain ⟨M, ks, t', y6, y7, y8, rfl, stp, hM, as, ap, hk, hl⟩ := mid0
      refine ⟨.int way, rfl, rfl, _, rfl, ite2 (fun e => ?_) (fun e => ?_)⟩
      · refine ⟨.int ((2 ^ n : Nat) : Int), rfl, ((2 ^ n : Nat) : Int), rfl, l62, r62 (by omega), fun D nD => ?_⟩
        have p6 := pow6 (w := n) (by omega)
        have hi0 := stp.hi
        refine lcs_range (S := S) (c := 2 ^ n) (d := 1) (n := 2 ^ n) stp.st nD (by omega) (fun i H3 t3 hi s3 => ?_) (fun H3 pv => ?_)
        · intro R1 R2 h1 h2
          have hi3 := s3.hi
          refine ⟨rfl, .ref S.s, rfl, S, t3, 2, rfl, s3.st, by omega, by omega, by omega, fun H4 r t4 s4 hr4 => ⟨rfl, _, rfl, ite2 (fun e => ?_) (fun e => ?_)⟩⟩
          · refine ⟨.int (0 + (i : Int)), rfl, ?_⟩
            rw [Int.zero_add]
            exact h2 i H4 t4 s4 hi
          · exact h1 H4 t4 s4
        · obtain ⟨ks2, t3, s3, hD, hk2, hl2⟩ := pv
          have fs := fresh_s stp.st nD
          exact ⟨D, ks2, t3, y6, y7, y8, rfl, (stp.trans s3).mono (by omega), hD, fs.1, fs.2, hk2, by omega⟩
      · exact ⟨M, ks, t', y6, y7, y8, rfl, stp.mono (by omega), hM, as, ap, hk, hl⟩
    -- if way == 1 or way == 2
    refine ⟨MidD S H t most n way 100, ?_, fun σ2 H2 mid2 => ?_⟩
    · obtain ⟨M, ks, t', y6, y7, y8, rfl, stp, hM, as, ap, hk, hl⟩ := mid1
      refine or_eq (x := (way : Int)) rfl (ite2 (fun e => ?_) (fun e => ?_))
      · have e1 : way = 1 ∨ way = 2 := by
          have := of_decide_eq_true e
          omega
        obtain ⟨m, hm, hm7⟩ : ∃ m : Nat, atI [V.int 3, V.int 7] ((way : Int) - 1) = some (.int (m : Int)) ∧ (m = 3 ∨ m = 7) := by
          rcases e1 with rfl | rfl
          · exact ⟨3, rfl, .inl rfl⟩
          · exact ⟨7, rfl, .inr rfl⟩
        have hi0 := stp.hi
        refine ⟨.ref S.s, rfl, sz (n := 2) (by decide), fun L nL => ⟨.int way, rfl, way, 1, rfl, rfl, L, _, (way : Int) - 1, .int (m : Int), rfl, rfl, SqL.of upd_same, hm, ?_⟩⟩
        have s0 := stp.same (same_new (o := .lst [.int 3, .int 7]) nL)
        refine ⟨S, t', m, rfl, s0.st, by omega, by omega, by omega, fun H3 r t3 s3 hr3 => ?_⟩
        have hi3 := s3.hi
        refine ⟨r, rfl, by omega, by omega, fun D nD => ?_⟩
        have p6 := pow6 (w := n) (by omega)
        have p0 := pow0 n
        refine lcs_range (S := S) (c := 2 ^ n) (d := 1) (n := r) (g := gName 6) (tt := tYes) (te := tDr (tVar 4)) (vs := [6]) s3.st nD (by omega) (fun i H4 t4 hi s4 => ?_) (fun H4 pv => ?_)
        · intro R1 R2 h1 h2
          have hi4 := s4.hi
          refine ⟨rfl, iteT (B := R1 H4) ⟨.ref S.s, rfl, .int ((2 ^ n : Nat) : Int), rfl, S, t4, 2 ^ n, rfl, s4.st, by omega, by omega, by omega, fun H5 r5 t5 s5 hr5 => h2 r5 H5 t5 s5 hr5⟩⟩
        · obtain ⟨ks2, t4, s4, hD, hk2, hl2⟩ := pv
          have fs := fresh_s s3.st nD
          exact ⟨D, ks2, t4, y6, y7, y8, rfl, ((s0.trans s3).trans s4).mono (by omega), hD, fs.1, fs.2, hk2, by omega⟩
      · exact ⟨M, ks, t', y6, y7, y8, rfl, stp.mono (by omega), hM, as, ap, hk, hl⟩
    -- if way == 3 or way == 4
    refine ⟨MidD S H t most n way 200, ?_, fun σ3 H3 mid3 => ?_⟩
    · obtain ⟨M, ks, t', y6, y7, y8, rfl, stp, hM, as, ap, hk, hl⟩ := mid2
      refine or_eq (x := (way : Int)) rfl (ite2 (fun e => ?_) (fun e => ?_))
      · have hi0 := stp.hi
        have p6 := pow6 (w := n) (by omega)
        have p0 := pow0 n
        refine ⟨.ref S.s, rfl, .int ((2 ^ n : Nat) : Int), rfl, S, t', 2 ^ n, rfl, stp.st, by omega, by omega, by omega, fun H3 r t3 s3 hr3 => ⟨sz (n := 1) (by decide), fun L nL => ?_⟩⟩
        have fs := fresh_s s3.st nL
        have s4 := (stp.trans s3).same (same_new (o := .lst [.int (r : Int)]) nL)
        have hi4 := s4.hi
        refine ⟨.ref S.s, rfl, S, t3, 4, rfl, s4.st, by omega, by omega, by omega, fun H5 r5 t5 s5 hr5 => ⟨r5, rfl, by omega, by omega, ?_⟩⟩
        have hL5 := s5.keep L _ fs.1 fs.2 (show (upd H3 L (.lst [.int (r : Int)])) L = some (.lst (vm [r])) from upd_same)
        refine for_range (lo := 0) (n := r5) (fun i σ K0 => ∃ (M : Addr) (ks : List Nat) (t' : Int) (z6 z7 : Option V),
          σ = [some (.ref S.s), some (.int (most : Int)), some (.int (n : Int)), some (.int (way : Int)), some (.int ((2 ^ n : Nat) : Int)), some (.ref M), z6, z7, y8, none] ∧
          Step S H t K0 t' (102 + 9 * i) ∧ K0 M = some (.lst (vm ks)) ∧ M ≠ S.s ∧ M ≠ S.p ∧ (∀ k ∈ ks, k < 2 ^ n) ∧ ks.length ≤ 2 ^ i) ?_ (fun i σ K0 hi h => ?_) (fun σ K0 h => ?_)
        · exact ⟨L, [r], t5, y6, y7, rfl, (s4.trans s5).mono (by omega), hL5, fs.1, fs.2, by simpa using hr3, by simp⟩
        · obtain ⟨M, ks, t6, z6, z7, rfl, s6, hM6, as6, ap6, hk6, hl6⟩ := h
          have hi6 := s6.hi
          have pi : 2 ^ i ≤ 4 := by
            have : i = 0 ∨ i = 1 ∨ i = 2 := by omega
            rcases this with rfl | rfl | rfl <;> decide
          refine ⟨.ref S.s, rfl, .int ((2 ^ n : Nat) : Int), rfl, S, t6, 2 ^ n, rfl, s6.st, by omega, by omega, by omega, fun H7 r7 t7 s7 hr7 => ?_⟩
          have hi7 := s7.hi
          have hM7 := s7.keep M _ as6 ap6 hM6
          refine ⟨.ref M, rfl, .ref M, rfl, M, rfl, ⟨_, SqL.of hM7⟩, fun D nD => ?_⟩
          have fsD := fresh_s s7.st nD
          refine lcs_list (S := S) (c := 2 ^ n) (d := 1) (ms := ks) s7.st nD hM7 as6 ap6 (by omega) (fun j m H8 t8 hj s8 => ?_) (fun H8 pv => ?_)
          · intro R1 R2 h1 h2
            have hi8 := s8.hi
            have hjl : j < ks.length := (List.getElem?_eq_some_iff.mp hj).1
            refine ⟨rfl, .ref S.s, rfl, S, t8, 9, rfl, s8.st, by omega, by omega, by omega, fun H9 r9 t9 s9 hr9 => ⟨.int way, rfl, 4, way, rfl, rfl, r9, _, rfl, rfl, _, rfl, ite2 (fun e => ?_) (fun e => ?_)⟩⟩
            · refine ⟨.int m, rfl, .int r7, rfl, m, r7, rfl, rfl, ?_⟩
              show R2 (.int (Builtin.bitXor (m : Int) (r7 : Int))) H9
              rw [bx]
              exact h2 (m ^^^ r7) H9 t9 s9 (xor_lt (hk6 m (List.mem_of_getElem? hj)) hr7)
            · exact h1 H9 t9 s9
          · obtain ⟨ks8, t8, s8, hD8, hk8, hl8⟩ := pv
            have hM8 := s8.keep M _ as6 ap6 hM7
            refine ⟨M, D, vm ks, vm ks8, rfl, rfl, hM8, hD8, ?_, fun C nC => ?_⟩
            · rw [vm_len, vm_len]; exact sz (by omega)
            · have fsC := fresh_s s8.st nC
              have s9 := ((s6.trans s7).trans s8).same (same_new (o := .lst (vm ks ++ vm ks8)) nC)
              refine ⟨C, ks ++ ks8, t8, some (.int (0 + (i : Int))), some (.int (r7 : Int)), rfl, s9.mono (by omega), ?_, fsC.1, fsC.2, ?_, ?_⟩
              · rw [upd_same]; unfold vm; rw [List.map_append]
              · intro k hk
                rcases List.mem_append.mp hk with hk | hk
                · exact hk6 k hk
                · exact hk8 k hk
              · rw [List.length_append, Nat.pow_succ]; omega
        · obtain ⟨M, ks, t6, z6, z7, rfl, s6, hM6, as6, ap6, hk6, hl6⟩ := h
          have pi : 2 ^ r5 ≤ 8 := by
            have : r5 = 0 ∨ r5 = 1 ∨ r5 = 2 ∨ r5 = 3 := by omega
            rcases this with rfl | rfl | rfl | rfl <;> decide
          exact ⟨M, ks, t6, z6, z7, y8, rfl, s6.mono (by omega), hM6, as6, ap6, hk6, by omega⟩
      · exact ⟨M, ks, t', y6, y7, y8, rfl, stp.mono (by omega), hM, as, ap, hk, hl⟩
    -- if way == 5
    refine ⟨MidD S H t most n way 300, ?_, fun σ4 H4 mid4 => ?_⟩
    · obtain ⟨M, ks, t', y6, y7, y8, rfl, stp, hM, as, ap, hk, hl⟩ := mid3
      refine ⟨.int way, rfl, rfl, _, rfl, ite2 (fun e => ?_) (fun e => ?_)⟩
      · have hi0 := stp.hi
        have p6 := pow6 (w := n) (by omega)
        have p0 := pow0 n
        refine ⟨.ref S.s, rfl, S, t', 4, rfl, stp.st, by omega, by omega, by omega, fun H5 r5 t5 s5 hr5 => ⟨r5, rfl, by omega, by omega, fun D nD => ?_⟩⟩
        have hi5 := s5.hi
        have fs := fresh_s s5.st nD
        refine lcs_range (S := S) (c := 2 ^ n) (d := 1) (n := r5) (g := gName 6) (tt := tYes) (te := tDr (tVar 4)) (vs := [6]) s5.st nD (by omega) (fun i H6 t6 hi s6 => ?_) (fun H6 pv => ?_)
        · intro R1 R2 h1 h2
          have hi6 := s6.hi
          refine ⟨rfl, iteT (B := R1 H6) ⟨.ref S.s, rfl, .int ((2 ^ n : Nat) : Int), rfl, S, t6, 2 ^ n, rfl, s6.st, by omega, by omega, by omega, fun H7 r7 t7 s7 hr7 => h2 r7 H7 t7 s7 hr7⟩⟩
        · obtain ⟨ks6, t6, s6, hD6, hk6, hl6⟩ := pv
          refine ⟨.int ((2 ^ n : Nat) : Int), rfl, ((2 ^ n : Nat) : Int), rfl, l62, r62 (by omega), fun L nL => ?_⟩
          have fsL := fresh_s s6.st nL
          refine lcp_range (n := 2 ^ n) (p := fun m => !decide (m ∈ ks6)) (f := fun m => .int (m : Int)) nL (small64 (by omega)) (fun i H7 hi s7 => ?_) (fun H7 s7 hL => ?_)
          · intro R1 R2 h1 h2
            refine ⟨rfl, _, rfl, .ref D, rfl, D, _, rfl, .inl (SqL.of (s7 _ _ hD6)), rfl, vm_flat _, _, rfl, ?_⟩
            have e : inV (.int (0 + (i : Int))) (vm ks6) = decide (i ∈ ks6) := by
              rw [Int.zero_add]; exact in_vm i ks6
            show if (!inV (.int (0 + (i : Int))) (vm ks6)) = true then _ else _
            rw [e]
            refine ite2 (fun z => ?_) (fun z => ?_)
            · refine ⟨.int (0 + (i : Int)), rfl, ?_⟩
              rw [Int.zero_add]
              exact h2 z _ (Same.refl _)
            · exact h1 (by simpa using z) _ (Same.refl _)
          · refine ⟨L, (List.range (2 ^ n)).filter fun m => !decide (m ∈ ks6), t6, y6, y7, some (.ref D), rfl, (((stp.trans s5).trans s6).same s7).mono (by omega), hL, fsL.1, fsL.2, fun k hk => ?_, ?_⟩
            · exact List.mem_range.mp (List.mem_filter.mp hk).1
            · refine Nat.le_trans (List.length_filter_le _ _) ?_
              rw [List.length_range]; exact p6
      · exact ⟨M, ks, t', y6, y7, y8, rfl, stp.mono (by omega), hM, as, ap, hk, hl⟩
    -- return
    obtain ⟨M, ks, t', y6, y7, y8, rfl, stp, hM, as, ap, hk, hl⟩ := mid4
    refine ⟨.int n, rfl, .ref M, rfl, M, ks.map fun (k : Nat) => (k : Int), rfl, SqL.of (by rw [hM, vm_ints]), by rw [List.length_map]; omega, fun G c nG => ?_⟩
    have sG := same_new (o := SetO w G (fun j => decide (j ∈ ks.map fun (k : Nat) => (k : Int))) c) nG
    refine ⟨G, _, c, rfl, upd_same, fun ns L asc hm nL => ?_⟩
    have sL := same_new (o := .lst (ns.map V.int)) nL
    refine ⟨L, _, rfl, .inl ⟨SqL.of upd_same, fun T3 nT3 => ⟨sz (n := 2) (by decide), fun U nU => ?_⟩⟩⟩
    refine q _ _ n (fun m => decide (m ∈ ks)) t' ((((stp.same sG).same sL).same (same_new nT3)).same (same_new nU)) hn1 hn6 ⟨U, T3, rfl, upd_same, ?_⟩
    rw [upd_ne (ne_of_none upd_same nU), upd_same, rising_lot (w := n) (P := fun m => decide (m ∈ ks)) asc fun z => ?_]
    rw [hm z, decide_eq_true_iff, List.mem_map]
    constructor
    · rintro ⟨m, h1, h2⟩
      exact ⟨m, h2.symm, hk m h1, decide_eq_true h1⟩
    · rintro ⟨m, h1, h2, h3⟩
      exact ⟨m, of_decide_eq_true h3, h1.symm⟩
end
end XT
namespace XT
open PySem PySem.Spec PyProof.Rows L2
abbrev nLk : List Str := ["_law_stream_here", "_law_lot", "_law_width", "_law_masks", "_law_count", "_law_way", "_law_turn", "_law_fresh", "_law_found", "_law_mask"]
theorem scLk : FnScope nLk ["_law_stream_here", "_law_lot"] (defScope sLike) := ⟨rfl, rfl, rfl, by decide +kernel, rfl, by decide +kernel, by decide +kernel⟩
theorem cut_tail (ks : List Nat) : cutV (vm ks) (some 1) none = vm (ks.drop 1) := by
  have e1 : HT.sIx (vm ks).length 0 (some 1) = min 1 (vm ks).length := HT.sIx_nat _ 0 1
  unfold cutV
  rw [e1, HT.sIx_none, vm_len]
  unfold vm
  cases ks with
  | nil => rfl
  | cons k ks =>
    have e2 : min 1 (k :: ks).length = 1 := by rw [List.length_cons]; omega
    rw [e2]
    show List.take ((k :: ks).length - 1) (ks.map fun (m : Nat) => V.int (m : Int)) = ks.map fun (m : Nat) => V.int (m : Int)
    exact List.take_of_length_le (by rw [List.length_map, List.length_cons]; omega)
section
variable {P : Program} {w : World} {K : PySem.W.Frag} {mg : Str → Option Value} {base : Heap}
def spLike : Sp := fun vs H Q _ => ∃ (S : Sm) (t : Int) (v : V) (n : Nat) (p : Nat → Bool), vs = [.ref S.s, v] ∧ Strm S H t ∧ LotAt H v n p ∧ n ≤ 6 ∧ t < 10000000 ∧
  ∀ (H' : Hp) (r : V) (p' : Nat → Bool) (t' : Int), Step S H t H' t' 100 → LotAt H' r n p' → Q r H'
def MidL (S : Sm) (H : Hp) (t : Int) (v : V) (n : Nat) (y : Addr) (way fr B : Nat) (σ : L2.St) (H' : Hp) : Prop := ∃ (M : Addr) (ks : List Nat) (t' : Int) (z6 : Option V),
  σ = [some (.ref S.s), some v, some (.int (n : Int)), some (.ref y), some (.int ((2 ^ n : Nat) : Int)), some (.int (way : Int)), z6, some (.int (fr : Int)), some (.ref M), none] ∧
  Step S H t H' t' B ∧ H' M = some (.lst (vm ks)) ∧ M ≠ S.s ∧ M ≠ S.p ∧ (∀ k ∈ ks, k < 2 ^ n) ∧ ks.length ≤ 70
theorem ok_like {f : Addr} {fd : FuncData} {k : Nat} (B : Bl mg) (F : Fun K "_law_like" "_law_like" sLike f fd) (dD : DefR P w K mg base 1 "_law_draw" spDrawN) : FnOk P w K mg base CX0 (k + 2) f fd ["_law_stream_here", "_law_lot"] spLike := by
  refine F.ok scLk (fun vs H Q E h => ?_) (fun cdv A outer s H vs Q E hr h => ?_)
  · obtain ⟨S, t, v, n, p, rfl, _⟩ := h
    rfl
  · obtain ⟨S, t, v, n, p, rfl, st, ⟨x, y, rfl, hx, hy⟩, hn, ht, q⟩ := h
    have hr1 : Room 1 (A.deeper (envOfC "_law_like" (defScope sLike) s.heap.objs.size f cdv)) := hr.mono (by omega)
    refine ⟨_, pss_cons (ps_asg (pv 1) (pg_tup rfl (pgs_cons (pg_name (i := 2) scLk.nd rfl (.inl rfl)) (pgs_cons (pg_name (i := 3) scLk.nd rfl (.inr rfl)) pgs_nil))))
      (pss_cons (ps_par (i := 4) (j := 5) (by rfl) scLk.nd rfl rfl (by decide) rfl rfl (pa_cons (pe_op op_shl pe_int (pv 2)) (pa_cons (pe_def dD hr1 (by rfl) (pa_cons (pv 0) (pa_cons pe_int pa_nil))) pa_nil)) (by rfl))
      (pss_cons (ps_asg (pe_tup (pa_cons (pe_def dD hr1 (by rfl) (pa_cons (pv 0) (pa_cons (pv 4) pa_nil))) (pa_cons (pe_def dD hr1 (by rfl) (pa_cons (pv 0) (pa_cons (pv 4) pa_nil))) pa_nil)))
          (pg_tup rfl (pgs_cons (pg_name (i := 6) scLk.nd rfl (.inr rfl)) (pgs_cons (pg_name (i := 7) scLk.nd rfl (.inl rfl)) pgs_nil))))
      (C8.pss_cut (ps_setLc (i := 8) (own := [("_law_mask", 9)]) (g := gName 9) (tt := tYes) rfl scLk.nd rfl rfl (sw_true rfl rfl rfl (by decide +kernel)) (pi_tup (pv 3)) (blkOk_by (own := [("_law_mask", 9)]) (N := nLk) (sc := defScope sLike) (by decide +kernel))
            (fun _ _ _ _ _ => pg_name (i := 9) scLk.nd rfl (Or.inl rfl)) (fun _ _ _ _ _ => pts_nil) (fun _ _ _ _ _ => pe_op op_xor (pv 9) (pv 6)))
      (C8.pss_cut (ps_if (pt_cmpR op_eq (pv 5) pe_int (nomark _)) (pss_one (ps_set (i := 8) scLk.nd rfl (.inl rfl) (pe_op op_cat (pe_slice sl_list (pv 8) (po_some pe_int) po_none) (pe_lst (pa_cons (pv 7) pa_nil))))) pss_nil)
      (C8.pss_cut (ps_if (pt_cmpR op_eq (pv 5) pe_int (nomark _))
          (pss_one (ps_setLc (i := 8) (own := [("_law_mask", 9)]) (g := gName 9) (te := tVar 9) rfl scLk.nd rfl rfl (sw_true rfl rfl rfl (by decide +kernel)) (pi_range1 (by rfl) B.range (pa_cons (pv 4) pa_nil)) (blkOk_by (own := [("_law_mask", 9)]) (N := nLk) (sc := defScope sLike) (by decide +kernel))
            (fun _ _ _ _ _ => pg_name (i := 9) scLk.nd rfl (Or.inl rfl)) (fun _ _ _ _ _ => pts_one (pt_cmpR op_eq (pe_def dD hr1 (by rfl) (pa_cons (pv 0) (pa_cons pe_int pa_nil))) pe_int (nomark _))) (fun _ _ _ _ _ => pv 9))) pss_nil)
      (C8.pss_cut (ps_if (pt_cmpR op_eq (pv 5) pe_int (nomark _))
          (pss_one (ps_setLc (i := 8) (own := [("_law_mask", 9)]) (g := gName 9) (tt := tTest (tOp (rIn K true) (tVar 9) (tVar 3))) (te := tVar 9) rfl scLk.nd rfl rfl (sw_true rfl rfl rfl (by decide +kernel)) (pi_range1 (by rfl) B.range (pa_cons (pv 4) pa_nil)) (blkOk_by (own := [("_law_mask", 9)]) (N := nLk) (sc := defScope sLike) (by decide +kernel))
            (fun _ _ _ _ _ => pg_name (i := 9) scLk.nd rfl (Or.inl rfl)) (fun _ _ _ _ _ => pts_one (pt_cmpR op_notIn_seq (pv 9) (pv 3) (by rfl))) (fun _ _ _ _ _ => pv 9))) pss_nil)
      (pss_one (ps_ret (pe_tup (pa_cons (pv 2) (pa_cons (pe_callTy call_tuple_of (by rfl) B.tuple bT (pa_cons (pe_callB (cr_sortS rfl) (by rfl) B.sorted bS (pa_cons (pe_callTy (cr_setL rfl) (by rfl) B.set bSet (pa_cons (pv 8) pa_nil)) pa_nil)) pa_nil)) pa_nil))))))))))), ?_⟩
    have p6 := pow6 (w := n) hn
    have p0 := pow0 n
    have hl := lot_len hn p
    refine ⟨.ref x, rfl, x, _, rfl, SqT.of hx, rfl, _, _, rfl, _, _, rfl, rfl, ?_⟩
    refine ⟨.int n, rfl, 1, n, rfl, rfl, cpow hn, .ref S.s, rfl, S, t, 5, rfl, st, by omega, by omega, by omega, fun H1 way t1 s1 hway => ⟨_, _, rfl, ?_⟩⟩
    have hi1 := s1.hi
    have ec : some (some (V.int (1 * 2 ^ ((n : Int).toNat)))) = some (some (V.int ((2 ^ n : Nat) : Int))) := congrArg (fun z => some (some (V.int z))) (shl1 n)
    refine ⟨.ref S.s, rfl, .int ((2 ^ n : Nat) : Int), ec, S, t1, 2 ^ n, rfl, s1.st, by omega, by omega, by omega, fun H2 tn t2 s2 htn => ?_⟩
    have hi2 := s2.hi
    refine ⟨.ref S.s, rfl, .int ((2 ^ n : Nat) : Int), ec, S, t2, 2 ^ n, rfl, s2.st, by omega, by omega, by omega, fun H3 fr t3 s3 hfr => ?_⟩
    refine ⟨sz (n := 2) (by decide), fun T nT => ⟨T, _, rfl, SqT.of upd_same, rfl, _, _, rfl, _, _, rfl, rfl, ?_⟩⟩
    have s4 := ((s1.trans s2).trans s3).same (same_new (o := .tup [.int (tn : Int), .int (fr : Int)]) nT)
    have hy4 := s4.keep.tup st hy
    -- found = [mask ^ turn for mask in masks]
    refine ⟨MidL S H t (.ref x) n y way fr 10, ?_, fun σ0 H0 mid0 => ?_⟩
    · refine ⟨.ref y, rfl, y, rfl, ⟨_, SqT.of hy4⟩, fun D nD => ?_⟩
      have fs := fresh_s s4.st nD
      refine lcp_tup (p := fun _ => true) (f := fun v => match v with | .int i => .int (Builtin.bitXor i tn) | v => v) nD (SqT.of hy4) (small64 (by rw [vm_len]; omega)) (fun i z H5 hz sm => ?_) (fun H5 sm hD => ?_)
      · intro R1 R2 h1 h2
        obtain ⟨m, hm, rfl⟩ := mem_vm hz
        exact ⟨rfl, iteT (B := R1 H5) ⟨_, rfl, .int tn, rfl, m, tn, rfl, rfl, h2 rfl _ (Same.refl _)⟩⟩
      · have e : (((vm (lotOf n p)).filter fun _ => true).map fun v => match v with | .int i => V.int (Builtin.bitXor i tn) | v => v) = vm ((lotOf n p).map fun m => m ^^^ tn) := by
          rw [List.filter_eq_self.mpr (fun _ _ => rfl)]
          unfold vm
          rw [List.map_map, List.map_map]
          refine List.map_congr_left fun m _ => ?_
          show V.int (Builtin.bitXor (m : Int) (tn : Int)) = V.int ((m ^^^ tn : Nat) : Int)
          rw [bx]
        rw [e] at hD
        refine ⟨D, _, t3, some (.int (tn : Int)), ?_, (s4.same sm).mono (by omega), hD, fs.1, fs.2, ?_, by rw [List.length_map]; omega⟩
        · rw [← shl1 n]; rfl
        · intro k hk
          obtain ⟨m, hm, rfl⟩ := List.mem_map.mp hk
          exact xor_lt (mem_lot.mp hm).1 htn
    -- if way == 1
    refine ⟨MidL S H t (.ref x) n y way fr 20, ?_, fun σ1 H1 mid1 => ?_⟩
    · obtain ⟨M, ks, t', z6, rfl, stp, hM, as, ap, hk, hl⟩ := mid0
      refine ⟨.int way, rfl, rfl, _, rfl, ite2 (fun e => ?_) (fun e => ?_)⟩
      · refine ⟨.ref M, rfl, 1, rfl, M, _, rfl, SqL.of hM, fun L nL => ?_⟩
        have sL := same_new (o := .lst (cutV (vm ks) (some 1) none)) nL
        refine ⟨.int fr, rfl, sz (n := 1) (by decide), fun G nG => ?_⟩
        have sG := same_new (o := .lst [.int (fr : Int)]) nG
        refine ⟨L, G, vm (ks.drop 1), vm [fr], rfl, rfl, ?_, upd_same, ?_, fun C nC => ?_⟩
        · rw [upd_ne (ne_of_none upd_same nG), upd_same, cut_tail]
        · rw [vm_len, vm_len, List.length_drop]; exact sz (by simp; omega)
        · have fs := fresh_s ((stp.same sL).same sG).st nC
          refine ⟨C, ks.drop 1 ++ [fr], t', z6, rfl, (((stp.same sL).same sG).same (same_new nC)).mono (by omega), ?_, fs.1, fs.2, ?_, ?_⟩
          · rw [upd_same]; unfold vm; rw [List.map_append]
          · intro k hk2
            rcases List.mem_append.mp hk2 with hk2 | hk2
            · exact hk k (List.mem_of_mem_drop hk2)
            · rw [List.mem_singleton.mp hk2]; exact hfr
          · rw [List.length_append, List.length_drop]; simp; omega
      · exact ⟨M, ks, t', z6, rfl, stp.mono (by omega), hM, as, ap, hk, hl⟩
    -- if way == 2
    refine ⟨MidL S H t (.ref x) n y way fr 90, ?_, fun σ2 H2 mid2 => ?_⟩
    · obtain ⟨M, ks, t', z6, rfl, stp, hM, as, ap, hk, hl⟩ := mid1
      refine ⟨.int way, rfl, rfl, _, rfl, ite2 (fun e => ?_) (fun e => ?_)⟩
      · refine ⟨.int ((2 ^ n : Nat) : Int), rfl, ((2 ^ n : Nat) : Int), rfl, l62, r62 (by omega), fun D nD => ?_⟩
        have hi0 := stp.hi
        refine lcs_range (S := S) (c := 2 ^ n) (d := 1) (n := 2 ^ n) stp.st nD (by omega) (fun i H3 t3 hi s3 => ?_) (fun H3 pv => ?_)
        · intro R1 R2 h1 h2
          have hi3 := s3.hi
          refine ⟨rfl, .ref S.s, rfl, S, t3, 2, rfl, s3.st, by omega, by omega, by omega, fun H4 r t4 s4 hr4 => ⟨rfl, _, rfl, ite2 (fun e => ?_) (fun e => ?_)⟩⟩
          · refine ⟨.int (0 + (i : Int)), rfl, ?_⟩
            rw [Int.zero_add]
            exact h2 i H4 t4 s4 hi
          · exact h1 H4 t4 s4
        · obtain ⟨ks2, t3, s3, hD, hk2, hl2⟩ := pv
          have fs := fresh_s stp.st nD
          exact ⟨D, ks2, t3, z6, rfl, (stp.trans s3).mono (by omega), hD, fs.1, fs.2, hk2, by omega⟩
      · exact ⟨M, ks, t', z6, rfl, stp.mono (by omega), hM, as, ap, hk, hl⟩
    -- if way == 3
    refine ⟨MidL S H t (.ref x) n y way fr 100, ?_, fun σ3 H3 mid3 => ?_⟩
    · obtain ⟨M, ks, t', z6, rfl, stp, hM, as, ap, hk, hl⟩ := mid2
      have hyH := stp.keep.tup st hy
      refine ⟨.int way, rfl, rfl, _, rfl, ite2 (fun e => ?_) (fun e => ?_)⟩
      · refine ⟨.int ((2 ^ n : Nat) : Int), rfl, ((2 ^ n : Nat) : Int), rfl, l62, r62 (by omega), fun L nL => ?_⟩
        have fsL := fresh_s stp.st nL
        refine lcp_range (n := 2 ^ n) (p := fun m => !decide (m ∈ lotOf n p)) (f := fun m => .int (m : Int)) nL (small64 (by omega)) (fun i H7 hi s7 => ?_) (fun H7 s7 hL => ?_)
        · intro R1 R2 h1 h2
          refine ⟨rfl, _, rfl, .ref y, rfl, y, _, rfl, .inr (SqT.of (s7 _ _ hyH)), rfl, vm_flat _, _, rfl, ?_⟩
          have e : inV (.int (0 + (i : Int))) (vm (lotOf n p)) = decide (i ∈ lotOf n p) := by
            rw [Int.zero_add]; exact in_vm i _
          show if (!inV (.int (0 + (i : Int))) (vm (lotOf n p))) = true then _ else _
          rw [e]
          refine ite2 (fun z => ?_) (fun z => ?_)
          · refine ⟨.int (0 + (i : Int)), rfl, ?_⟩
            rw [Int.zero_add]
            exact h2 z _ (Same.refl _)
          · exact h1 (by simpa using z) _ (Same.refl _)
        · refine ⟨L, (List.range (2 ^ n)).filter fun m => !decide (m ∈ lotOf n p), t', z6, rfl, (stp.same s7).mono (by omega), hL, fsL.1, fsL.2, fun k hk => ?_, ?_⟩
          · exact List.mem_range.mp (List.mem_filter.mp hk).1
          · refine Nat.le_trans (List.length_filter_le _ _) ?_
            rw [List.length_range]; omega
      · exact ⟨M, ks, t', z6, rfl, stp.mono (by omega), hM, as, ap, hk, hl⟩
    -- return
    obtain ⟨M, ks, t', z6, rfl, stp, hM, as, ap, hk, hl⟩ := mid3
    refine ⟨.int n, rfl, .ref M, rfl, M, ks.map fun (k : Nat) => (k : Int), rfl, SqL.of (by rw [hM, vm_ints]), by rw [List.length_map]; omega, fun G c nG => ?_⟩
    have sG := same_new (o := SetO w G (fun j => decide (j ∈ ks.map fun (k : Nat) => (k : Int))) c) nG
    refine ⟨G, _, c, rfl, upd_same, fun ns L asc hm nL => ?_⟩
    have sL := same_new (o := .lst (ns.map V.int)) nL
    refine ⟨L, _, rfl, .inl ⟨SqL.of upd_same, fun T3 nT3 => ⟨sz (n := 2) (by decide), fun U nU => ?_⟩⟩⟩
    refine q _ _ (fun m => decide (m ∈ ks)) t' ((((stp.same sG).same sL).same (same_new nT3)).same (same_new nU)) ⟨U, T3, rfl, upd_same, ?_⟩
    rw [upd_ne (ne_of_none upd_same nU), upd_same, rising_lot (w := n) (P := fun m => decide (m ∈ ks)) asc fun z => ?_]
    rw [hm z, decide_eq_true_iff, List.mem_map]
    constructor
    · rintro ⟨m, h1, h2⟩
      exact ⟨m, h2.symm, hk m h1, decide_eq_true h1⟩
    · rintro ⟨m, h1, h2, h3⟩
      exact ⟨m, of_decide_eq_true h3, h1.symm⟩
end
end XT
namespace XT
open PySem PySem.Spec PyProof.Rows L2
theorem bits_inj {k i j : Nat} (hi : i < 2 ^ k) (hj : j < 2 ^ k) (h : ∀ m, m < k → bitB i m = bitB j m) : i = j := by
  refine Nat.eq_of_testBit_eq fun m => ?_
  rcases Nat.lt_or_ge m k with lt | ge
  · have e := h m lt
    unfold bitB at e
    rw [Nat.testBit_eq_decide_div_mod_eq, Nat.testBit_eq_decide_div_mod_eq]
    exact e
  · rw [Nat.testBit_lt_two_pow (Nat.lt_of_lt_of_le hi (Nat.pow_le_pow_right (by decide) ge)), Nat.testBit_lt_two_pow (Nat.lt_of_lt_of_le hj (Nat.pow_le_pow_right (by decide) ge))]
theorem sc_nodup {n : Nat} (hn : n ≤ 6) : ((List.range (2 ^ 2 ^ n)).map fun j => scL n (bitB j)).Nodup := by
  unfold List.Nodup
  rw [List.pairwise_map]
  refine List.Pairwise.imp_of_mem (fun {i j} hi hj hne e => hne ?_) (List.nodup_range (n := 2 ^ 2 ^ n))
  exact bits_inj (List.mem_range.mp hi) (List.mem_range.mp hj) ((sc_inj hn).mp e)
theorem tup_ks {H : Hp} : ∀ (ys : List V) (c : Nat → List Int), (∀ j y, ys[j]? = some y → TupI H y (c j)) → ∃ ks : List (Addr × List Int), ys = ks.map (fun p => V.ref p.1) ∧ ks.map (·.2) = (List.range ys.length).map c ∧ ∀ p ∈ ks, H p.1 = some (.tup (p.2.map V.int))
  | [], _, _ => ⟨[], rfl, rfl, fun _ h => nomatch h⟩
  | y :: ys, c, h => by
    obtain ⟨ks, e1, e2, h3⟩ := tup_ks ys (fun j => c (j + 1)) fun j y hy => h (j + 1) y hy
    obtain ⟨q, e, hq⟩ := h 0 y rfl
    refine ⟨(q, c 0) :: ks, by rw [List.map_cons, ← e1, e], ?_, fun p hp => ?_⟩
    · rw [List.map_cons, e2, List.length_cons, List.range_succ_eq_map, List.map_cons, List.map_map]
      rfl
    · rcases List.mem_cons.mp hp with rfl | hp
      · exact hq
      · exact h3 p hp
def AL (H : Hp) (us : List V) : Prop := ∀ v ∈ us, ∃ n p, LotAt H v n p ∧ n ≤ 6
theorem AL.same {H H' : Hp} {us : List V} (h : AL H us) (e : Same H H') : AL H' us := fun v hv => by
  obtain ⟨n, p, l, hn⟩ := h v hv
  exact ⟨n, p, l.same e, hn⟩
theorem AL.keep {S : Sm} {H H' : Hp} {t : Int} {us : List V} (h : AL H us) (k : Keep S H H') (st : Strm S H t) : AL H' us := fun v hv => by
  obtain ⟨n, p, l, hn⟩ := h v hv
  exact ⟨n, p, l.keep k st, hn⟩
theorem AL.app {H : Hp} {us vs : List V} (h : AL H us) (g : AL H vs) : AL H (us ++ vs) := fun v hv => by
  rcases List.mem_append.mp hv with hv | hv
  · exact h v hv
  · exact g v hv
theorem al_ne {S : Sm} {H : Hp} {t : Int} {L : Addr} {us : List V} (st : Strm S H t) (hL : H L = some (.lst us)) (h4 : 4 ≤ us.length) (h0 : ∃ n p, LotAt H (us[0]'(by omega)) n p ∧ n ≤ 6) : L ≠ S.s ∧ L ≠ S.p := by
  obtain ⟨big, s⟩ := st
  refine ⟨fun e => ?_, fun e => ?_⟩
  · rw [e, s.hs] at hL
    cases hL
    simp at h4
  · rw [e, s.hp] at hL
    injection hL with hL
    injection hL with hL
    obtain ⟨n, p, ⟨a, b, ea, _⟩, _⟩ := h0
    have e0 : us[0]? = some (.ref a) := by rw [List.getElem?_eq_getElem (by omega), ea]
    rw [← hL, List.getElem?_map] at e0
    obtain ⟨z, _, hz⟩ := Option.map_eq_some_iff.mp e0
    cases hz
/-- drawn lots, gathered -/
def PvQ (S : Sm) (H1 : Hp) (t0 : Int) (D : Addr) (d i : Nat) (H : Hp) : Prop := ∃ (us : List V) (t : Int), Step S H1 t0 H t (d * i) ∧ H D = some (.lst us) ∧ us.length = i ∧ AL H us
theorem pvl_app {S : Sm} {H1 : Hp} {t0 : Int} {D : Addr} {d i n : Nat} {p : Nat → Bool} {H H4 : Hp} {us : List V} {v : V} {t t4 : Int} (st0 : Strm S H1 t0) (nD : H1 D = none) (hi : i ≤ 60) (stp : Step S H1 t0 H t (d * i)) (hD : H D = some (.lst us)) (hl : us.length = i) (hall : AL H us)
    (s4 : Step S H t H4 t4 d) (h4 : LotAt H4 v n p) (hn : n ≤ 6) : ∃ acc, H4 D = some (.lst acc) ∧ acc.length < sizeLine ∧ PvQ S H1 t0 D d (i + 1) (upd H4 D (.lst (acc ++ [v]))) := by
  have hD4 := s4.keep.mine st0 nD hD
  have z := stp.trans s4
  have nDs : D ≠ S.s := fun e => by obtain ⟨_, h⟩ := st0; rw [e, h.hs] at nD; cases nD
  have nDp : D ≠ S.p := fun e => by obtain ⟨_, h⟩ := st0; rw [e, h.hp] at nD; cases nD
  have nDq : D ≠ S.q := fun e => by obtain ⟨_, h⟩ := st0; rw [e, h.hq] at nD; cases nD
  refine ⟨_, hD4, small64 (by omega), us ++ [v], t4, ⟨fun b o n1 n2 e => ?_, strm_upd z.st nDs nDp nDq, z.lo, by have := z.hi; rw [Nat.mul_succ]; exact this⟩, upd_same, by rw [List.length_append, hl]; rfl, fun x hx => ?_⟩
  · rw [upd_ne (ne_of_none e nD)]
    exact z.keep b o n1 n2 e
  · rcases List.mem_append.mp hx with hx | hx
    · obtain ⟨n', p', l', hn'⟩ := hall x hx
      exact ⟨n', p', lot_upd hD4 (l'.keep s4.keep stp.st), hn'⟩
    · rw [List.mem_singleton.mp hx]
      exact ⟨n, p, lot_upd hD4 h4, hn⟩
section
variable {P : Program} {w : World} {K : PySem.W.Frag} {mg : Str → Option Value} {base : Heap}
abbrev nLa : List Str := ["_law_script", "_law_stream_here", "_law_every", "_law_three", "_law_some", "_law_turn", "_law_one", "_law_small", "_law_k"]
theorem scLa : FnScope nLa ["_law_script"] (defScope sLaw) := ⟨rfl, rfl, rfl, by decide +kernel, rfl, by decide +kernel, by decide +kernel⟩
structure Defs (P : Program) (w : World) (K : PySem.W.Frag) (mg : Str → Option Value) (base : Heap) : Prop where
  stream : DefR P w K mg base 4 "_law_stream" (spStream K)
  draw : DefR P w K mg base 4 "_law_draw" spDrawN
  drawn : DefR P w K mg base 4 "_law_drawn" spDrawn
  like : DefR P w K mg base 4 "_law_like" spLike
  sc : DefR P w K mg base 4 "signed_counts" spSc
  all : DefR P w K mg base 4 "_law_all" spAl
  pick : DefR P w K mg base 4 "_law_pick" spPl
  one : DefR P w K mg base 4 "_law_one_right" spOr
  both : DefR P w K mg base 4 "_law_both_right" spBr
def spLaw (K : PySem.W.Frag) : Sp := fun vs H Q _ => ∃ (a : Addr) (ns : List Int), vs = [.ref a] ∧ SqL K H a (ns.map V.int) ∧ ns.length ≤ 63 ∧ ∀ H', Q (.bl true) H'
theorem run_it {f : Addr} {fd : FuncData} (B : Bl mg) (F : Fun K "law" "law" sLaw f fd) (d : Defs P w K mg base) : RunC P w K mg base 5 f (spLaw K) := by
  refine run_law (k := 4) F scLa (fun _ _ _ _ _ _ _ => rfl) (fun cdv s H v Q hr h => ?_)
  obtain ⟨a0, ns, ev, hA, hlen, q⟩ := h
  cases ev
  have hun : (callerA.deeper (envOfC "law" (defScope sLaw) s.heap.objs.size f cdv)).units + 64 < cLine := by have := hr.un; omega
  refine ⟨_, pss_cons (ps_set (i := 1) scLa.nd rfl (by first | exact Or.inl rfl | exact Or.inr rfl) (pe_def d.stream hr (by rfl) (pa_cons (pv 0) pa_nil)))
      (pss_cons (ps_set (i := 2) scLa.nd rfl (by first | exact Or.inl rfl | exact Or.inr rfl) (pe_def d.all hr (by rfl) (pa_cons (pe_op op_add pe_int (pe_def d.draw hr (by rfl) (pa_cons (pv 1) (pa_cons pe_int pa_nil)))) pa_nil)))
      (pss_cons (ps_if (pt_cmpR op_ne (pe_callB cr_lenT (by rfl) B.len PySem.boot_len (pa_cons (pe_callTy (cr_setOfT rfl hun) (by rfl) B.set bSet (pa_cons (pe_lc (own := [("_law_some", 4)]) (g := gName 4) (tt := tYes) (te := (tDf spSc (tCons (tVar 4) tNil))) rfl scLa.nd (pi_list (pv 2)) (blkOk_by (own := [("_law_some", 4)]) (N := nLa) (sc := defScope sLaw) (by decide +kernel))
          (fun _ _ _ _ _ => pg_name (i := 4) scLa.nd rfl (Or.inl rfl)) (fun _ _ _ _ _ => pts_nil) (fun _ _ _ _ _ => pe_def d.sc hr (by rfl) (pa_cons (pv 4) pa_nil))) pa_nil)) pa_nil)) (pe_callB call_len_seq (by rfl) B.len PySem.boot_len (pa_cons (pv 2) pa_nil)) (nomark _)) pss_never pss_nil)
      (pss_cons (ps_set (i := 3) scLa.nd rfl (by first | exact Or.inl rfl | exact Or.inr rfl) (pe_def d.all hr (by rfl) (pa_cons pe_int pa_nil)))
      (pss_cons (ps_set (i := 4) scLa.nd rfl (by first | exact Or.inl rfl | exact Or.inr rfl) (pe_op op_catB (pe_op op_catB (pv 2) (pe_lc (own := [("_law_k", 8)]) (g := gName 8) (tt := tYes) (te := (tDf spPl (tCons (tVar 1) (tCons (tVar 3) tNil)))) rfl scLa.nd (pi_range1 (by rfl) B.range (pa_cons pe_int pa_nil)) (blkOk_by (own := [("_law_k", 8)]) (N := nLa) (sc := defScope sLaw) (by decide +kernel))
          (fun _ _ _ _ _ => pg_name (i := 8) scLa.nd rfl (Or.inl rfl)) (fun _ _ _ _ _ => pts_nil) (fun _ _ _ _ _ => pe_def d.pick hr (by rfl) (pa_cons (pv 1) (pa_cons (pv 3) pa_nil))))) (pe_lc (own := [("_law_k", 8)]) (g := gName 8) (tt := tYes) (te := (tDf spDrawn (tCons (tVar 1) (tCons (tC (.int 6)) tNil)))) rfl scLa.nd (pi_range1 (by rfl) B.range (pa_cons pe_int pa_nil)) (blkOk_by (own := [("_law_k", 8)]) (N := nLa) (sc := defScope sLaw) (by decide +kernel))
          (fun _ _ _ _ _ => pg_name (i := 8) scLa.nd rfl (Or.inl rfl)) (fun _ _ _ _ _ => pts_nil) (fun _ _ _ _ _ => pe_def d.drawn hr (by rfl) (pa_cons (pv 1) (pa_cons pe_int pa_nil))))))
      (pss_cons (ps_if (pt_cmpR (op_neD hr.units) (pe_lc (own := [("_law_one", 6)]) (g := gName 6) (tt := (tNot (tB (tDf spOr (tCons (tVar 6) tNil))))) (te := (tVar 6)) rfl scLa.nd (pi_list (pv 4)) (blkOk_by (own := [("_law_one", 6)]) (N := nLa) (sc := defScope sLaw) (by decide +kernel))
          (fun _ _ _ _ _ => pg_name (i := 6) scLa.nd rfl (Or.inl rfl)) (fun _ _ _ _ _ => pts_one (pt_not (pt_val (pe_def d.one hr (by rfl) (pa_cons (pv 6) pa_nil))))) (fun _ _ _ _ _ => pv 6)) (pe_lst pa_nil) (nomark _)) pss_never pss_nil)
      (pss_cons (ps_for PassesOwn.never rfl (pi_range1 (by rfl) B.range (pa_cons pe_int pa_nil)) (pg_name (i := 5) scLa.nd rfl (by first | exact Or.inl rfl | exact Or.inr rfl))
      (pss_cons (ps_set (i := 6) scLa.nd rfl (by first | exact Or.inl rfl | exact Or.inr rfl) (pe_def d.drawn hr (by rfl) (pa_cons (pv 1) (pa_cons pe_int pa_nil))))
      (pss_one (ps_if (pt_not (pt_val (pe_def d.both hr (by rfl) (pa_cons (pv 6) (pa_cons (pe_def d.like hr (by rfl) (pa_cons (pv 1) (pa_cons (pv 6) pa_nil))) pa_nil))))) pss_never pss_nil))))
      (pss_cons (ps_set (i := 7) scLa.nd rfl (by first | exact Or.inl rfl | exact Or.inr rfl) (pe_def d.all hr (by rfl) (pa_cons pe_int pa_nil)))
      (pss_cons (ps_for PassesOwn.never rfl (pi_range1 (by rfl) B.range (pa_cons pe_int pa_nil)) (pg_name (i := 5) scLa.nd rfl (by first | exact Or.inl rfl | exact Or.inr rfl))
      (pss_one (ps_if (pt_not (pt_val (pe_def d.both hr (by rfl) (pa_cons (pe_def d.pick hr (by rfl) (pa_cons (pv 1) (pa_cons (pv 7) pa_nil))) (pa_cons (pe_def d.pick hr (by rfl) (pa_cons (pv 1) (pa_cons (pv 7) pa_nil))) pa_nil))))) pss_never pss_nil)))
      (pss_one (ps_ret pe_bl)))))))))), ?_⟩
  refine ⟨.ref a0, rfl, a0, ns, rfl, hA, hlen, fun H1 S s1 st1 => ?_⟩
  refine ⟨.ref S.s, rfl, S, 0, 2, rfl, st1, by omega, by omega, by omega, fun H2 r t2 s2 hr2 => ⟨1, r, rfl, rfl, ?_⟩⟩
  have hi2 := s2.hi
  obtain ⟨n, en⟩ : ∃ n : Nat, n = 1 + r := ⟨_, rfl⟩
  have hn2 : n ≤ 2 := by omega
  refine ⟨n, congrArg (fun z => [V.int z]) (by omega), by omega, fun H3 Le us s3 hLe hul hua => ?_⟩
  have h4 : 2 ^ n ≤ 4 := by
    have := Nat.pow_le_pow_right (show 0 < 2 by decide) hn2
    omega
  have h16 : 2 ^ 2 ^ n ≤ 16 := by
    have := Nat.pow_le_pow_right (show 0 < 2 by decide) h4
    omega
  have st3 := s2.st.same s3
  refine ⟨.ref Le, rfl, Le, rfl, ⟨_, SqL.of hLe⟩, fun D nD => ?_⟩
  refine lcg_list (G := fun j y H => TupI H y (scL n (bitB j))) ⟨fun h e => h.same e, fun h e => ?_⟩ nD (SqL.of hLe) (by omega) (fun i x H4 hx s4 => ?_) (fun H4 h => ?_)
  · obtain ⟨qq, rfl, hq⟩ := h
    exact ⟨qq, rfl, by rw [upd_ne (fun z => by rw [z, e] at hq; cases hq)]; exact hq⟩
  · intro R1 R2 h2
    exact ⟨rfl, iteT (B := R1 H4) ⟨x, rfl, x, n, bitB i, rfl, (hua i x hx).same s4, by omega, fun H5 z s5 gz => h2 z H5 s5 gz⟩⟩
  obtain ⟨s4, ys, hD, hyl, hys⟩ := h
  obtain ⟨ks, ek, ek2, hks⟩ := tup_ks ys (fun j => scL n (bitB j)) hys
  have hkl : ks.length = 2 ^ 2 ^ n := by
    have := congrArg List.length ek2
    rw [List.length_map, List.length_map, List.length_range] at this
    omega
  rw [ek] at hD
  refine ⟨D, ks, rfl, SqL.of hD, fun p hp => SqT.of (hks p hp), by omega, fun A1 LL nA1 hs1 hs2 => ?_⟩
  have sA1 := same_new (o := SetTO P w A1 LL) nA1
  refine ⟨A1, LL, rfl, upd_same, fun p hp => SqT.of (sA1 _ _ (hks p (hs1 p hp))), fun nd => ?_⟩
  have hLL : LL.length = us.length := by
    rw [set_len (by rw [ek2, hyl, hul]; exact sc_nodup (by omega)) nd hs1 hs2, hkl, hul]
  have s5 := s4.trans sA1
  refine ⟨.ref Le, rfl, Le, _, rfl, .inl (SqL.of (s5 _ _ hLe)), rfl, _, rfl, iteNT (nne (by rw [hLL])) ?_⟩
  have st5 := st3.same s5
  refine ⟨3, rfl, by decide, fun H6 Lt3 ws s6 hL6 hwl hwa => ?_⟩
  have st6 := st5.same s6
  have hLe6 := s6 _ _ (s5 _ _ hLe)
  have alE : AL H6 us := fun v hv => by
    obtain ⟨j, hj, rfl⟩ := List.getElem_of_mem hv
    exact ⟨n, _, ((hua j _ (List.getElem?_eq_getElem hj)).same s5).same s6, by omega⟩
  have e256 : 2 ^ 2 ^ 3 = 256 := by decide
  have e16 : 4 ≤ us.length := by
    rw [hul]
    have h1 : 2 ^ 1 ≤ 2 ^ n := Nat.pow_le_pow_right (by decide) (by omega)
    have h2 : 2 ^ 2 ≤ 2 ^ 2 ^ n := Nat.pow_le_pow_right (by decide) (by omega)
    omega
  have nLe := al_ne st6 hLe6 e16 (alE _ (List.getElem_mem (by omega)))
  have alW : AL H6 ws := fun v hv => by
    obtain ⟨j, hj, rfl⟩ := List.getElem_of_mem hv
    exact ⟨3, _, hwa j _ (List.getElem?_eq_getElem hj), by decide⟩
  have nLt := al_ne st6 hL6 (by omega) (alW _ (List.getElem_mem (by omega)))
  refine ⟨.ref Le, rfl, 30, rfl, by decide, by decide, fun D2 nD2 => ?_⟩
  refine lc_range (lo := 0) (n := 30) (fun i H => PvQ S H6 t2 D2 1 i H) ⟨[], t2, ((Step.refl st6).same (same_new nD2)).mono (Nat.zero_le _), upd_same, rfl, fun _ h => nomatch h⟩ (fun i H8 hi h => ?_) (fun H8 h => ?_)
  · obtain ⟨vs, t8, stp, hD2, hl, hall⟩ := h
    have hi8 := stp.hi
    refine ⟨rfl, iteT (B := PvQ S H6 t2 D2 1 (i + 1) H8) ⟨.ref S.s, rfl, .ref Lt3, rfl, S, t8, Lt3, ws, 3, rfl, stp.st, stp.keep _ _ nLt.1 nLt.2 hL6, nLt.1, nLt.2, by omega, by omega, fun v hv => ?_, by omega, fun H9 v p t9 s9 l9 => pvl_app st6 nD2 (by omega) stp hD2 hl hall s9 l9 (by decide)⟩⟩
    obtain ⟨j, hj, rfl⟩ := List.getElem_of_mem hv
    exact ⟨_, (hwa j _ (List.getElem?_eq_getElem hj)).keep stp.keep st6⟩
  obtain ⟨vs, t8, stp, hD2, hvl, hvs⟩ := h
  have hi8 := stp.hi
  have hLe8 := stp.keep _ _ nLe.1 nLe.2 hLe6
  have al8 := (alE.keep stp.keep st6).app hvs
  refine ⟨Le, D2, us, vs, rfl, rfl, hLe8, hD2, szq (by omega), fun C1 nC1 => ?_⟩
  have sC1 := same_new (o := .lst (us ++ vs)) nC1
  have st9 := stp.st.same sC1
  have nC := strm_ne stp.st nC1
  refine ⟨2, rfl, by decide, by decide, fun D3 nD3 => ?_⟩
  refine lc_range (lo := 0) (n := 2) (fun i H => PvQ S (upd H8 C1 (.lst (us ++ vs))) t8 D3 400 i H) ⟨[], t8, ((Step.refl st9).same (same_new nD3)).mono (Nat.zero_le _), upd_same, rfl, fun _ h => nomatch h⟩ (fun i HA hi h => ?_) (fun HA h => ?_)
  · obtain ⟨xs, tA, stA, hD3, hl, hall⟩ := h
    have hiA := stA.hi
    refine ⟨rfl, iteT (B := PvQ S (upd H8 C1 (.lst (us ++ vs))) t8 D3 400 (i + 1) HA) ⟨.ref S.s, rfl, S, tA, 6, rfl, stA.st, by decide, by decide, by omega, fun HB lot n' p' tB sB hn1 hnc lB => pvl_app st9 nD3 (by omega) stA hD3 hl hall (sB.mono (by decide)) lB hnc⟩⟩
  obtain ⟨xs, tA, stA, hD3, hxl, hxs⟩ := h
  have hiA := stA.hi
  have hC1 := stA.keep _ _ nC.1 nC.2.1 upd_same
  have alA := ((al8.same sC1).keep stA.keep st9).app hxs
  refine ⟨C1, D3, _, _, rfl, rfl, hC1, hD3, szq (by rw [List.length_append]; omega), fun C2 nC2 => ?_⟩
  have sC2 := same_new (o := .lst (us ++ vs ++ xs)) nC2
  have alB := alA.same sC2
  have stB := stA.st.same sC2
  refine ⟨.ref C2, rfl, C2, rfl, ⟨_, SqL.of upd_same⟩, fun D4 nD4 => ?_⟩
  refine lcp_list (p := fun _ => false) (f := id) nD4 (SqL.of upd_same) (small64 (by rw [List.length_append, List.length_append]; omega)) (fun i x H10 hx s10 => ?_) (fun H10 s10 hD4 => ?_)
  · intro R1 R2 h1 h2
    obtain ⟨n', p', l', hn'⟩ := alB x (List.mem_of_getElem? hx)
    exact ⟨rfl, x, rfl, x, n', p', rfl, l'.same s10, hn', fun H11 s11 => ⟨true, rfl, iteF (h1 rfl _ s11)⟩⟩
  have eD4 : H10 D4 = some (.lst []) := by
    rw [hD4]
    simp
  refine ⟨sz (n := 0) (by decide), fun Z nZ => ne_lstN (ms := []) (ks := []) ⟨D4, rfl, same_new nZ _ _ eD4⟩ ⟨Z, rfl, upd_same⟩ ⟨_, rfl, iteNS rfl ?_⟩⟩
  have stZ := (stB.same s10).same (same_new (o := .lst []) nZ)
  refine ⟨6, rfl, by decide, by decide, for_range (lo := 0) (n := 6) (fun i σ H' => ∃ (t : Int) (z5 z6 : Option V), σ = [some (.ref a0), some (.ref S.s), some (.ref Le), some (.ref Lt3), some (.ref C2), z5, z6, none, none] ∧ Strm S H' t ∧ t ≤ 1000 + 700 * i) ⟨tA, none, none, rfl, stZ, by omega⟩ (fun i σ H12 hi h => ?_) (fun σ H12 h => ?_)⟩
  · obtain ⟨t, z5, z6, rfl, st, ht⟩ := h
    refine ⟨.ref S.s, rfl, S, t, 5, rfl, st, by decide, by decide, by omega, fun H13 lot n' p' t13 s13 hn1 hnc l13 => ?_⟩
    have hi13 := s13.hi
    refine ⟨lot, rfl, .ref S.s, rfl, lot, rfl, S, t13, lot, n', p', rfl, s13.st, l13, by omega, by omega, fun H14 lk pk t14 s14 l14 => ?_⟩
    have hi14 := s14.hi
    exact ⟨lot, lk, n', p', pk, rfl, l13.keep s14.keep s13.st, l14, by omega, fun H15 s15 => ⟨true, rfl, iteF ⟨t14, _, _, rfl, s14.st.same s15, by omega⟩⟩⟩
  · obtain ⟨t, z5, z6, rfl, st, ht⟩ := h
    refine ⟨2, rfl, by decide, fun H13 Ls xs2 s13 hLs hsl hsa => ?_⟩
    have e4 : 2 ^ 2 ^ 2 = 16 := by decide
    have st13 := st.same s13
    have alS : AL H13 xs2 := fun v hv => by
      obtain ⟨j, hj, rfl⟩ := List.getElem_of_mem hv
      exact ⟨2, _, hsa j _ (List.getElem?_eq_getElem hj), by decide⟩
    have nLs := al_ne st13 hLs (by omega) (alS _ (List.getElem_mem (by omega)))
    refine ⟨40, rfl, by decide, by decide, for_range (lo := 0) (n := 40) (fun i σ H' => ∃ (t' : Int) (z5 z6 : Option V), σ = [some (.ref a0), some (.ref S.s), some (.ref Le), some (.ref Lt3), some (.ref C2), z5, z6, some (.ref Ls), none] ∧ Keep S H13 H' ∧ Strm S H' t' ∧ t' ≤ 6000 + 2 * i) ⟨t, _, _, rfl, Keep.refl _ _, st13, by omega⟩ (fun i σ H14 hi h => ?_) (fun σ H14 h => q H14)⟩
    obtain ⟨t', z5, z6, rfl, kp, st14, ht'⟩ := h
    have pk : ∀ {H' : Hp}, Keep S H13 H' → (∀ v ∈ xs2, ∃ p, LotAt H' v 2 p) := fun k v hv => by
      obtain ⟨j, hj, rfl⟩ := List.getElem_of_mem hv
      exact ⟨_, (hsa j _ (List.getElem?_eq_getElem hj)).keep k st13⟩
    refine ⟨.ref S.s, rfl, .ref Ls, rfl, S, t', Ls, xs2, 2, rfl, st14, kp _ _ nLs.1 nLs.2 hLs, nLs.1, nLs.2, by omega, by omega, pk kp, by omega, fun H15 v1 p1 t15 s15 l15 => ?_⟩
    have hi15 := s15.hi
    have kp15 := kp.trans s15.keep
    refine ⟨.ref S.s, rfl, .ref Ls, rfl, S, t15, Ls, xs2, 2, rfl, s15.st, kp15 _ _ nLs.1 nLs.2 hLs, nLs.1, nLs.2, by omega, by omega, pk kp15, by omega, fun H16 v2 p2 t16 s16 l16 => ?_⟩
    have hi16 := s16.hi
    exact ⟨v1, v2, 2, p1, p2, rfl, l15.keep s16.keep s15.st, l16, by decide, fun H17 s17 => ⟨true, rfl, iteF ⟨t16, _, _, rfl, (kp15.trans s16.keep).trans (Keep.of s17), s16.st.same s17, by omega⟩⟩⟩
end
end XT
namespace XT
open PySem PySem.Spec PyProof.Rows L2
/-! what the top has written -/
theorem all_mk {l : PySem.W.OpenLaw} {w : World} {K : PySem.W.Frag} {h : Heap} {mg : Str → Option Value} {fa : Addr} (X : K.In h) (G : h.Ns mainGlobals mg) (hfa : mg "law" = some (.ref fa))
    {f1 : Addr} {od1 an1 : Option Addr} {sl1 : Array (Option Value)} {oc1 kV1 dc1 pm1 cd1 ct1 : Value}
    (a1 : PySem.W.nsIn K mainGlobals "is_number" = some (some (.ref f1))) (l1 : K.lookup f1 = some ⟨oc1, od1, .func (PySem.W.fnOf "is_number" "is_number" (defArgs sNum) (defBody sNum) (defScope sNum) .none kV1 dc1 pm1 an1 cd1 ct1), sl1⟩) (c1 : PySem.W.codeIn K cd1 "is_number" = true) (k1 : PySem.W.keepIn K (.ref f1) = true)
    {f2 : Addr} {od2 an2 : Option Addr} {sl2 : Array (Option Value)} {oc2 kV2 dc2 pm2 cd2 ct2 : Value}
    (a2 : PySem.W.nsIn K mainGlobals "rest_of" = some (some (.ref f2))) (l2 : K.lookup f2 = some ⟨oc2, od2, .func (PySem.W.fnOf "rest_of" "rest_of" (defArgs sRest) (defBody sRest) (defScope sRest) .none kV2 dc2 pm2 an2 cd2 ct2), sl2⟩) (c2 : PySem.W.codeIn K cd2 "rest_of" = true) (k2 : PySem.W.keepIn K (.ref f2) = true)
    {f3 : Addr} {od3 an3 : Option Addr} {sl3 : Array (Option Value)} {oc3 kV3 dc3 pm3 cd3 ct3 : Value}
    (a3 : PySem.W.nsIn K mainGlobals "united" = some (some (.ref f3))) (l3 : K.lookup f3 = some ⟨oc3, od3, .func (PySem.W.fnOf "united" "united" (defArgs sUnited) (defBody sUnited) (defScope sUnited) .none kV3 dc3 pm3 an3 cd3 ct3), sl3⟩) (c3 : PySem.W.codeIn K cd3 "united" = true) (k3 : PySem.W.keepIn K (.ref f3) = true)
    {f4 : Addr} {od4 an4 : Option Addr} {sl4 : Array (Option Value)} {oc4 kV4 dc4 pm4 cd4 ct4 : Value}
    (a4 : PySem.W.nsIn K mainGlobals "shared" = some (some (.ref f4))) (l4 : K.lookup f4 = some ⟨oc4, od4, .func (PySem.W.fnOf "shared" "shared" (defArgs sShared) (defBody sShared) (defScope sShared) .none kV4 dc4 pm4 an4 cd4 ct4), sl4⟩) (c4 : PySem.W.codeIn K cd4 "shared" = true) (k4 : PySem.W.keepIn K (.ref f4) = true)
    {f5 : Addr} {od5 an5 : Option Addr} {sl5 : Array (Option Value)} {oc5 kV5 dc5 pm5 cd5 ct5 : Value}
    (a5 : PySem.W.nsIn K mainGlobals "common_width" = some (some (.ref f5))) (l5 : K.lookup f5 = some ⟨oc5, od5, .func (PySem.W.fnOf "common_width" "common_width" (defArgs sWidth) (defBody sWidth) (defScope sWidth) .none kV5 dc5 pm5 an5 cd5 ct5), sl5⟩) (c5 : PySem.W.codeIn K cd5 "common_width" = true) (k5 : PySem.W.keepIn K (.ref f5) = true)
    {f6 : Addr} {od6 an6 : Option Addr} {sl6 : Array (Option Value)} {oc6 kV6 dc6 pm6 cd6 ct6 : Value}
    (a6 : PySem.W.nsIn K mainGlobals "count_ones" = some (some (.ref f6))) (l6 : K.lookup f6 = some ⟨oc6, od6, .func (PySem.W.fnOf "count_ones" "count_ones" (defArgs sCountOnes) (defBody sCountOnes) (defScope sCountOnes) .none kV6 dc6 pm6 an6 cd6 ct6), sl6⟩) (c6 : PySem.W.codeIn K cd6 "count_ones" = true) (k6 : PySem.W.keepIn K (.ref f6) = true)
    {f7 : Addr} {od7 an7 : Option Addr} {sl7 : Array (Option Value)} {oc7 kV7 dc7 pm7 cd7 ct7 : Value}
    (a7 : PySem.W.nsIn K mainGlobals "sign" = some (some (.ref f7))) (l7 : K.lookup f7 = some ⟨oc7, od7, .func (PySem.W.fnOf "sign" "sign" (defArgs sSign) (defBody sSign) (defScope sSign) .none kV7 dc7 pm7 an7 cd7 ct7), sl7⟩) (c7 : PySem.W.codeIn K cd7 "sign" = true) (k7 : PySem.W.keepIn K (.ref f7) = true)
    {f8 : Addr} {od8 an8 : Option Addr} {sl8 : Array (Option Value)} {oc8 kV8 dc8 pm8 cd8 ct8 : Value}
    (a8 : PySem.W.nsIn K mainGlobals "signed_counts" = some (some (.ref f8))) (l8 : K.lookup f8 = some ⟨oc8, od8, .func (PySem.W.fnOf "signed_counts" "signed_counts" (defArgs sSignedCounts) (defBody sSignedCounts) (defScope sSignedCounts) .none kV8 dc8 pm8 an8 cd8 ct8), sl8⟩) (c8 : PySem.W.codeIn K cd8 "signed_counts" = true) (k8 : PySem.W.keepIn K (.ref f8) = true)
    {f9 : Addr} {od9 an9 : Option Addr} {sl9 : Array (Option Value)} {oc9 kV9 dc9 pm9 cd9 ct9 : Value}
    (a9 : PySem.W.nsIn K mainGlobals "lot_with" = some (some (.ref f9))) (l9 : K.lookup f9 = some ⟨oc9, od9, .func (PySem.W.fnOf "lot_with" "lot_with" (defArgs sLotWith) (defBody sLotWith) (defScope sLotWith) .none kV9 dc9 pm9 an9 cd9 ct9), sl9⟩) (c9 : PySem.W.codeIn K cd9 "lot_with" = true) (k9 : PySem.W.keepIn K (.ref f9) = true)
    {f10 : Addr} {od10 an10 : Option Addr} {sl10 : Array (Option Value)} {oc10 kV10 dc10 pm10 cd10 ct10 : Value}
    (a10 : PySem.W.nsIn K mainGlobals "_law_stream" = some (some (.ref f10))) (l10 : K.lookup f10 = some ⟨oc10, od10, .func (PySem.W.fnOf "_law_stream" "_law_stream" (defArgs sStream) (defBody sStream) (defScope sStream) .none kV10 dc10 pm10 an10 cd10 ct10), sl10⟩) (c10 : PySem.W.codeIn K cd10 "_law_stream" = true) (k10 : PySem.W.keepIn K (.ref f10) = true)
    {f11 : Addr} {od11 an11 : Option Addr} {sl11 : Array (Option Value)} {oc11 kV11 dc11 pm11 cd11 ct11 : Value}
    (a11 : PySem.W.nsIn K mainGlobals "_law_draw" = some (some (.ref f11))) (l11 : K.lookup f11 = some ⟨oc11, od11, .func (PySem.W.fnOf "_law_draw" "_law_draw" (defArgs sDraw) (defBody sDraw) (defScope sDraw) .none kV11 dc11 pm11 an11 cd11 ct11), sl11⟩) (c11 : PySem.W.codeIn K cd11 "_law_draw" = true) (k11 : PySem.W.keepIn K (.ref f11) = true)
    {f12 : Addr} {od12 an12 : Option Addr} {sl12 : Array (Option Value)} {oc12 kV12 dc12 pm12 cd12 ct12 : Value}
    (a12 : PySem.W.nsIn K mainGlobals "_law_pick" = some (some (.ref f12))) (l12 : K.lookup f12 = some ⟨oc12, od12, .func (PySem.W.fnOf "_law_pick" "_law_pick" (defArgs sLPick) (defBody sLPick) (defScope sLPick) .none kV12 dc12 pm12 an12 cd12 ct12), sl12⟩) (c12 : PySem.W.codeIn K cd12 "_law_pick" = true) (k12 : PySem.W.keepIn K (.ref f12) = true)
    {f13 : Addr} {od13 an13 : Option Addr} {sl13 : Array (Option Value)} {oc13 kV13 dc13 pm13 cd13 ct13 : Value}
    (a13 : PySem.W.nsIn K mainGlobals "_law_drawn" = some (some (.ref f13))) (l13 : K.lookup f13 = some ⟨oc13, od13, .func (PySem.W.fnOf "_law_drawn" "_law_drawn" (defArgs sDrawn) (defBody sDrawn) (defScope sDrawn) .none kV13 dc13 pm13 an13 cd13 ct13), sl13⟩) (c13 : PySem.W.codeIn K cd13 "_law_drawn" = true) (k13 : PySem.W.keepIn K (.ref f13) = true)
    {f14 : Addr} {od14 an14 : Option Addr} {sl14 : Array (Option Value)} {oc14 kV14 dc14 pm14 cd14 ct14 : Value}
    (a14 : PySem.W.nsIn K mainGlobals "_law_like" = some (some (.ref f14))) (l14 : K.lookup f14 = some ⟨oc14, od14, .func (PySem.W.fnOf "_law_like" "_law_like" (defArgs sLike) (defBody sLike) (defScope sLike) .none kV14 dc14 pm14 an14 cd14 ct14), sl14⟩) (c14 : PySem.W.codeIn K cd14 "_law_like" = true) (k14 : PySem.W.keepIn K (.ref f14) = true)
    {f15 : Addr} {od15 an15 : Option Addr} {sl15 : Array (Option Value)} {oc15 kV15 dc15 pm15 cd15 ct15 : Value}
    (a15 : PySem.W.nsIn K mainGlobals "_law_one_right" = some (some (.ref f15))) (l15 : K.lookup f15 = some ⟨oc15, od15, .func (PySem.W.fnOf "_law_one_right" "_law_one_right" (defArgs sLOneRight) (defBody sLOneRight) (defScope sLOneRight) .none kV15 dc15 pm15 an15 cd15 ct15), sl15⟩) (c15 : PySem.W.codeIn K cd15 "_law_one_right" = true) (k15 : PySem.W.keepIn K (.ref f15) = true)
    {f16 : Addr} {od16 an16 : Option Addr} {sl16 : Array (Option Value)} {oc16 kV16 dc16 pm16 cd16 ct16 : Value}
    (a16 : PySem.W.nsIn K mainGlobals "_law_all" = some (some (.ref f16))) (l16 : K.lookup f16 = some ⟨oc16, od16, .func (PySem.W.fnOf "_law_all" "_law_all" (defArgs sLAll) (defBody sLAll) (defScope sLAll) .none kV16 dc16 pm16 an16 cd16 ct16), sl16⟩) (c16 : PySem.W.codeIn K cd16 "_law_all" = true) (k16 : PySem.W.keepIn K (.ref f16) = true)
    {f17 : Addr} {od17 an17 : Option Addr} {sl17 : Array (Option Value)} {oc17 kV17 dc17 pm17 cd17 ct17 : Value}
    (a17 : PySem.W.nsIn K mainGlobals "_law_both_right" = some (some (.ref f17))) (l17 : K.lookup f17 = some ⟨oc17, od17, .func (PySem.W.fnOf "_law_both_right" "_law_both_right" (defArgs sLBothRight) (defBody sLBothRight) (defScope sLBothRight) .none kV17 dc17 pm17 an17 cd17 ct17), sl17⟩) (c17 : PySem.W.codeIn K cd17 "_law_both_right" = true) (k17 : PySem.W.keepIn K (.ref f17) = true)
    {f18 : Addr} {od18 an18 : Option Addr} {sl18 : Array (Option Value)} {oc18 kV18 dc18 pm18 cd18 ct18 : Value}
    (a18 : PySem.W.nsIn K mainGlobals "law" = some (some (.ref f18))) (l18 : K.lookup f18 = some ⟨oc18, od18, .func (PySem.W.fnOf "law" "law" (defArgs sLaw) (defBody sLaw) (defScope sLaw) .none kV18 dc18 pm18 an18 cd18 ct18), sl18⟩) (c18 : PySem.W.codeIn K cd18 "law" = true) (k18 : PySem.W.keepIn K (.ref f18) = true)
    (y1 : PySem.W.nsIn K mainGlobals "sum" = some none)
    (z1 : PySem.W.nsIn K mainGlobals "len" = some none) (z2 : PySem.W.nsIn K mainGlobals "abs" = some none) (z3 : PySem.W.nsIn K mainGlobals "tuple" = some none) (z4 : PySem.W.nsIn K mainGlobals "sorted" = some none) (z5 : PySem.W.nsIn K mainGlobals "isinstance" = some none) (z6 : PySem.W.nsIn K mainGlobals "int" = some none) (z7 : PySem.W.nsIn K mainGlobals "bool" = some none) (z8 : PySem.W.nsIn K mainGlobals "set" = some none) (z9 : PySem.W.nsIn K mainGlobals "all" = some none) (z10 : PySem.W.nsIn K mainGlobals "range" = some none) (z11 : PySem.W.nsIn K mainGlobals "enumerate" = some none) :
    ∀ base : Heap, K.In base → base.Ns mainGlobals mg → RunC l.prog w K mg base 5 fa (spLaw K) := by
  cases hfa.symm.trans (PySem.W.mg_of X G a18)
  have F1 := fun_mk (st := sNum) l1 c1 k1
  have F2 := fun_mk (st := sRest) l2 c2 k2
  have F3 := fun_mk (st := sUnited) l3 c3 k3
  have F4 := fun_mk (st := sShared) l4 c4 k4
  have F5 := fun_mk (st := sWidth) l5 c5 k5
  have F6 := fun_mk (st := sCountOnes) l6 c6 k6
  have F7 := fun_mk (st := sSign) l7 c7 k7
  have F8 := fun_mk (st := sSignedCounts) l8 c8 k8
  have F9 := fun_mk (st := sLotWith) l9 c9 k9
  have F10 := fun_mk (st := sStream) l10 c10 k10
  have F11 := fun_mk (st := sDraw) l11 c11 k11
  have F12 := fun_mk (st := sLPick) l12 c12 k12
  have F13 := fun_mk (st := sDrawn) l13 c13 k13
  have F14 := fun_mk (st := sLike) l14 c14 k14
  have F15 := fun_mk (st := sLOneRight) l15 c15 k15
  have F16 := fun_mk (st := sLAll) l16 c16 k16
  have F17 := fun_mk (st := sLBothRight) l17 c17 k17
  have F18 := fun_mk (st := sLaw) l18 c18 k18
  have b1 := F1.binds (ps := ["value"]) fun _ _ _ _ _ _ us hl => match us, hl with | [_], _ => rfl
  have b2 := F2.binds (ps := ["lot"]) fun _ _ _ _ _ _ us hl => match us, hl with | [_], _ => rfl
  have b5 := F5.binds (ps := ["lots"]) fun _ _ _ _ _ _ us hl => match us, hl with | [_], _ => rfl
  have b6 := F6.binds (ps := ["mask"]) fun _ _ _ _ _ _ us hl => match us, hl with | [_], _ => rfl
  have b7 := F7.binds (ps := ["one", "other"]) fun _ _ _ _ _ _ us hl => match us, hl with | [_, _], _ => rfl
  have b8 := F8.binds (ps := ["lot"]) fun _ _ _ _ _ _ us hl => match us, hl with | [_], _ => rfl
  have b9 := F9.binds (ps := ["width", "value"]) fun _ _ _ _ _ _ us hl => match us, hl with | [_, _], _ => rfl
  have b10 := F10.binds (ps := ["_law_script"]) fun _ _ _ _ _ _ us hl => match us, hl with | [_], _ => rfl
  have b11 := F11.binds (ps := ["_law_stream_here", "_law_many"]) fun _ _ _ _ _ _ us hl => match us, hl with | [_, _], _ => rfl
  have b12 := F12.binds (ps := ["_law_stream_here", "_law_items"]) fun _ _ _ _ _ _ us hl => match us, hl with | [_, _], _ => rfl
  have b13 := F13.binds (ps := ["_law_stream_here", "_law_most"]) fun _ _ _ _ _ _ us hl => match us, hl with | [_, _], _ => rfl
  have b14 := F14.binds (ps := ["_law_stream_here", "_law_lot"]) fun _ _ _ _ _ _ us hl => match us, hl with | [_, _], _ => rfl
  have b15 := F15.binds (ps := ["_law_some"]) fun _ _ _ _ _ _ us hl => match us, hl with | [_], _ => rfl
  have b16 := F16.binds (ps := ["_law_width"]) fun _ _ _ _ _ _ us hl => match us, hl with | [_], _ => rfl
  have b17 := F17.binds (ps := ["_law_one", "_law_other"]) fun _ _ _ _ _ _ us hl => match us, hl with | [_, _], _ => rfl
  have B : Bl mg := ⟨PySem.W.mg_none_of X G z1, PySem.W.mg_none_of X G z2, PySem.W.mg_none_of X G z3, PySem.W.mg_none_of X G z4, PySem.W.mg_none_of X G z5, PySem.W.mg_none_of X G z6, PySem.W.mg_none_of X G z7, PySem.W.mg_none_of X G z8, PySem.W.mg_none_of X G z9, PySem.W.mg_none_of X G z10, PySem.W.mg_none_of X G z11⟩
  intro base _ _
  have d_law_draw : DefR l.prog w K mg base 1 "_law_draw" spDrawN := drawN (.of (ok_draw F11 B.len) b11 (PySem.W.mg_of X G a11) k11)
  have d_count_ones : DefR l.prog w K mg base 1 "count_ones" spOnes := .of (ok_ones F6) b6 (PySem.W.mg_of X G a6) k6
  have d_sign : DefR l.prog w K mg base 2 "sign" spSgn := .of (ok_sign F7 d_count_ones) b7 (PySem.W.mg_of X G a7) k7
  have d_signed_counts : DefR l.prog w K mg base 3 "signed_counts" spSc := .of (ok_Sc B (PySem.W.mg_none_of X G y1) F8 d_sign) b8 (PySem.W.mg_of X G a8) k8
  have d_rest_of : DefR l.prog w K mg base 1 "rest_of" spRest := .of (ok_rest B F2) b2 (PySem.W.mg_of X G a2) k2
  have d_is_number : DefR l.prog w K mg base 1 "is_number" spNum := .of (ok_num B F1) b1 (PySem.W.mg_of X G a1) k1
  have d_lot_with : DefR l.prog w K mg base 3 "lot_with" spLw := .of (ok_lw B (PySem.W.mg_none_of X G y1) F9 d_is_number d_sign) b9 (PySem.W.mg_of X G a9) k9
  have d_common_width : DefR l.prog w K mg base 1 "common_width" (spWidth K) := .of (ok_width B F5) b5 (PySem.W.mg_of X G a5) k5
  have d_united : DefR l.prog w K mg base 2 "united" (spMany fun bs => bs.any id) := ⟨_, ok_united B F3 d_common_width, PySem.W.mg_of X G a3, k3⟩
  have d_shared : DefR l.prog w K mg base 2 "shared" (spMany fun bs => bs.all id) := ⟨_, ok_shared B F4 d_common_width, PySem.W.mg_of X G a4, k4⟩
  exact run_it B  F18 ⟨.of (ok_stream F10 B.len B.abs) b10 (PySem.W.mg_of X G a10) k10, drawN (.of (ok_draw F11 B.len) b11 (PySem.W.mg_of X G a11) k11), .of (ok_drawn B F13 d_law_draw) b13 (PySem.W.mg_of X G a13) k13, .of (ok_like B F14 d_law_draw) b14 (PySem.W.mg_of X G a14) k14, .of (ok_Sc B (PySem.W.mg_none_of X G y1) F8 d_sign) b8 (PySem.W.mg_of X G a8) k8, .of (ok_al B F16) b16 (PySem.W.mg_of X G a16) k16, .of (ok_pl B F12 d_law_draw) b12 (PySem.W.mg_of X G a12) k12, .of (ok_or B F15 d_signed_counts d_rest_of d_lot_with) b15 (PySem.W.mg_of X G a15) k15, .of (ok_br B F17 d_signed_counts d_united d_shared) b17 (PySem.W.mg_of X G a17) k17⟩
end XT
open PySem PySem.W PyProof.Rows
set_option maxHeartbeats 0 in
theorem PySem.Challenge.cw_xorturns_k36_whole_lots_and_signed_count_holds : PySem.Challenge.rw_xorturns_k36_whole_lots_and_signed_count.Holds := by
  w_on; o_law; k_head; (case hw => w_witness2)
  k_fill
  refine XT.walk_ofC (l := PySem.Challenge.rw_xorturns_k36_whole_lots_and_signed_count) (n := 63) (k := 5) (sp := fun w => XT.spLaw _) rfl (by decide) rfl ⟨rfl, by decide, by decide⟩ (fun w h Y => PySem.W.kIn_of Y) ?F (fun _ _ a ns hl hS => ⟨a, ns, rfl, hS, hl, fun _ => rfl⟩)
  case F =>
    intro w mg fa h KX G hmg
    refine' XT.all_mk KX G hmg ?a1 ?l1 ?c1 ?k1 ?a2 ?l2 ?c2 ?k2 ?a3 ?l3 ?c3 ?k3 ?a4 ?l4 ?c4 ?k4 ?a5 ?l5 ?c5 ?k5 ?a6 ?l6 ?c6 ?k6 ?a7 ?l7 ?c7 ?k7 ?a8 ?l8 ?c8 ?k8 ?a9 ?l9 ?c9 ?k9 ?a10 ?l10 ?c10 ?k10 ?a11 ?l11 ?c11 ?k11 ?a12 ?l12 ?c12 ?k12 ?a13 ?l13 ?c13 ?k13 ?a14 ?l14 ?c14 ?k14 ?a15 ?l15 ?c15 ?k15 ?a16 ?l16 ?c16 ?k16 ?a17 ?l17 ?c17 ?k17 ?a18 ?l18 ?c18 ?k18 ?y1 ?z1 ?z2 ?z3 ?z4 ?z5 ?z6 ?z7 ?z8 ?z9 ?z10 ?z11
    (case a1 => k_is); (case l1 => k_is); (case c1 => k_is); (case k1 => k_is); (case a2 => k_is); (case l2 => k_is); (case c2 => k_is); (case k2 => k_is); (case a3 => k_is); (case l3 => k_is); (case c3 => k_is); (case k3 => k_is); (case a4 => k_is); (case l4 => k_is); (case c4 => k_is); (case k4 => k_is); (case a5 => k_is); (case l5 => k_is); (case c5 => k_is); (case k5 => k_is); (case a6 => k_is); (case l6 => k_is); (case c6 => k_is); (case k6 => k_is); (case a7 => k_is); (case l7 => k_is); (case c7 => k_is); (case k7 => k_is); (case a8 => k_is); (case l8 => k_is); (case c8 => k_is); (case k8 => k_is); (case a9 => k_is); (case l9 => k_is); (case c9 => k_is); (case k9 => k_is); (case a10 => k_is); (case l10 => k_is); (case c10 => k_is); (case k10 => k_is); (case a11 => k_is); (case l11 => k_is); (case c11 => k_is); (case k11 => k_is); (case a12 => k_is); (case l12 => k_is); (case c12 => k_is); (case k12 => k_is); (case a13 => k_is); (case l13 => k_is); (case c13 => k_is); (case k13 => k_is); (case a14 => k_is); (case l14 => k_is); (case c14 => k_is); (case k14 => k_is); (case a15 => k_is); (case l15 => k_is); (case c15 => k_is); (case k15 => k_is); (case a16 => k_is); (case l16 => k_is); (case c16 => k_is); (case k16 => k_is); (case a17 => k_is); (case l17 => k_is); (case c17 => k_is); (case k17 => k_is); (case a18 => k_is); (case l18 => k_is); (case c18 => k_is); (case k18 => k_is); (case y1 => k_is); (case z1 => k_is); (case z2 => k_is); (case z3 => k_is); (case z4 => k_is); (case z5 => k_is); (case z6 => k_is); (case z7 => k_is); (case z8 => k_is); (case z9 => k_is); (case z10 => k_is); (case z11 => k_is)
