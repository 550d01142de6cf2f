import PyProof.Rows.All
import Wide.All
import OpenK.AllK
import Wide.FinOn
import PyProof.EqAt
import PyProof.EqKinds
import PyProof.TupleCall
import HandS.ForMost
import HandS.Strs
import HandS.SetFor
import HandS.SortInts
import HandS.Star
import HandS.IsInst
import KE.GoesMore
import HandS.Codes
import PyProof.ReprRoads
import PyProof.StrLawsRepr
import PyProof.ReprLen
import HandS.Conv
import HandS.TupAny
import PyProof.WalksMore
import HandS.Property
import KE.KOpsOwn
import KE.KCallOwn
import OpenK.KMeth
import OpenK.KOps
import HandS.Dict
import PyProof.StrCaseBound
import PyProof.FitsInt
import KE.KRevSl
import PyProof.Rows.IntBool
import PyProof.Rows.EqBoolInt
import PyProof.Conv_int_bool
import PyProof.NeKinds
import HandS.TupMul
import HandS.Zip
import KE.GoesEnum
import PyProof.FString3
import PyProof.Rows.StrBin
import PyProof.Rows.StrIntSpec
import HandS.FStr
import PyProof.StrBlock
import HandS.Text
import HandS.RaiseMore
import KE.KUnpackStar
import PyProof.StrLawsOcc
import HandS.Replace
import HandS.Style
import HandS.SetBool
import KE.DataCmp
import KE.KFmtOwn
import PyProof.InstNe
import PyProof.FactsAll.dict
import HandS.ForExc
import HandS.ExcInit
import HandS.ExcField
import HandS.CallSlots
import HandS.HotCalls
import KE.KExcIs
import HandS.StrMore
import PyProof.SliceStr2
import HandS.Wide
import KE.KExcInit
import HandS.SetIn
import PyProof.Rows.Range3
import HandS.ExcIs
import PySem.Challenge.RW_xorturns_k56_equality_and_texts_of_sets
set_option Elab.async false
set_option linter.all false
set_option maxRecDepth 100000
set_option maxHeartbeats 4000000
namespace XT
open PySem PySem.Spec PyProof.Rows L2
/-! heaps -/
theorem same_new {H : Hp} {p : Addr} {o : HO} (h : H p = none) : Same H (upd H p o) := fun b x e => by
  rw [upd_ne (ne_of_none e h)]; exact e

/-- a stream: its own list, the list of its great cells, the list of its cells -/
structure Sm where
  s : Addr
  p : Addr
  q : Addr
  cs : List Int
structure StrmB (S : Sm) (H : Hp) (t : Int) (big : List Int) : Prop where
  hs : H S.s = some (.lst [.ref S.p, .ref S.q, .int t])
  hp : H S.p = some (.lst (big.map V.int))
  hq : H S.q = some (.lst (S.cs.map V.int))
  sp : S.s ≠ S.p
  sq : S.s ≠ S.q
  pq : S.p ≠ S.q
  ne : 0 < S.cs.length
  t0 : 0 ≤ t
def Strm (S : Sm) (H : Hp) (t : Int) : Prop := ∃ big, StrmB S H t big
def Keep (S : Sm) (H H' : Hp) : Prop := ∀ b o, b ≠ S.s → b ≠ S.p → H b = some o → H' b = some o
theorem Keep.refl (S : Sm) (H : Hp) : Keep S H H := fun _ _ _ _ h => h
theorem Keep.trans {S : Sm} {H H1 H2 : Hp} (a : Keep S H H1) (b : Keep S H1 H2) : Keep S H H2 := fun c o n1 n2 h => b c o n1 n2 (a c o n1 n2 h)
theorem Keep.of {S : Sm} {H H' : Hp} (a : Same H H') : Keep S H H' := fun c o _ _ h => a c o h
theorem StrmB.same {S : Sm} {H H' : Hp} {t : Int} {big : List Int} (h : StrmB S H t big) (e : Same H H') : StrmB S H' t big :=
  ⟨e _ _ h.hs, e _ _ h.hp, e _ _ h.hq, h.sp, h.sq, h.pq, h.ne, h.t0⟩
theorem Strm.same {S : Sm} {H H' : Hp} {t : Int} (h : Strm S H t) (e : Same H H') : Strm S H' t := let ⟨b, h⟩ := h; ⟨b, h.same e⟩
theorem Strm.ns {S : Sm} {H : Hp} {t : Int} {b : Addr} {xs : List V} (h : Strm S H t) (e : H b = some (.tup xs)) : b ≠ S.s := by
  obtain ⟨_, h⟩ := h
  exact ne_of e h.hs (by intro z; cases z)
theorem Strm.np {S : Sm} {H : Hp} {t : Int} {b : Addr} {xs : List V} (h : Strm S H t) (e : H b = some (.tup xs)) : b ≠ S.p := by
  obtain ⟨_, h⟩ := h
  exact ne_of e h.hp (by intro z; cases z)
theorem Keep.tup {S : Sm} {H H' : Hp} {t : Int} {b : Addr} {xs : List V} (k : Keep S H H') (h : Strm S H t) (e : H b = some (.tup xs)) : H' b = some (.tup xs) :=
  k b _ (h.ns e) (h.np e) e
theorem Keep.free {S : Sm} {H H' : Hp} {t : Int} {x : Addr} (k : Keep S H H') (h : Strm S H' t) (e : H' x = none) : H x = none := by
  obtain ⟨_, h⟩ := h
  cases q : H x with
  | none => rfl
  | some o =>
    by_cases h1 : x = S.s
    · rw [h1, h.hs] at e; cases e
    · by_cases h2 : x = S.p
      · rw [h2, h.hp] at e; cases e
      · rw [k x o h1 h2 q] at e; cases e
/-- a list of one's own, new behind H, is neither of the stream's -/
theorem Keep.mine {S : Sm} {H H' H2 : Hp} {t : Int} {x : Addr} {o : HO} (k : Keep S H' H2) (h : Strm S H t) (n : H x = none) (e : H' x = some o) : H2 x = some o := by
  obtain ⟨_, h⟩ := h
  refine k x o (fun z => ?_) (fun z => ?_) e
  · rw [z, h.hs] at n; cases n
  · rw [z, h.hp] at n; cases n

theorem dpInts {K : PySem.W.Frag} {H : Hp} : ∀ ns : List Int, DpAll K H (ns.map V.int) (ns.map PyData.int)
  | [] => .nil
  | n :: ns => .cons (.int n) (dpInts ns)
theorem ke_shaped (ns : List Int) : SeqAt.shaped (.list (ns.map PyData.int)) = true := by
  have h1 : ∀ ns : List Int, PyData.canLay0 (.list (ns.map PyData.int)) = true := by
    intro ns
    induction ns with
    | nil => rfl
    | cons n ns ih => simpa [PyData.canLay0, PyData.canLayAll0] using ih
  have h2 : ∀ ns : List Int, PyData.depth (.list (ns.map PyData.int)) ≤ 2 := by
    intro ns
    induction ns with
    | nil => decide
    | cons n ns ih => simp only [PyData.depth, PyData.depthAll, List.map] at ih ⊢; omega
  unfold SeqAt.shaped
  rw [h1 ns, decide_eq_true (Nat.le_trans (h2 ns) (by decide))]
  rfl
theorem ix0 {n : Nat} (h : 0 < n) : ixN n 0 = some 0 := by
  have h2 : (0 : Int) < n := by omega
  simp [ixN]; omega
theorem sq0 {n : Nat} (h : 0 < n) : seqIndex? 0 n = some 0 := (ixN_seq (ix0 h)).1
theorem pm31 {x : Int} : x % 2147483647 < 2147483647 ∧ 0 ≤ x % 2147483647 := ⟨Int.emod_lt_of_pos _ (by decide), Int.emod_nonneg _ (by decide)⟩
theorem pm87 {x : Int} : x % 2147483587 < 2147483587 ∧ 0 ≤ x % 2147483587 := ⟨Int.emod_lt_of_pos _ (by decide), Int.emod_nonneg _ (by decide)⟩

def spDraw : Sp := fun vs H Q _ => ∃ (S : Sm) (t m : Int), vs = [.ref S.s, .int m] ∧ Strm S H t ∧ 0 < m ∧ m < 1073741824 ∧ t < 1000000000000 ∧
  ∀ (H' : Hp) (r t' : Int), Keep S H H' → Strm S H' t' → t ≤ t' → t' ≤ t + 1 → 0 ≤ r → r < m → Q (.int r) H'
theorem sz {n : Nat} (h : n ≤ 1000) : n ≤ sizeLine := Nat.le_trans h (by decide)
theorem small64 {n : Nat} (h : n ≤ 1000) : n < sizeLine := Nat.lt_of_le_of_lt h (by decide)
def ab (i : Int) : Int := if i < 0 then -i else i
def spStream (K : PySem.W.Frag) : Sp := fun vs H Q _ => ∃ (a : Addr) (ns : List Int), vs = [.ref a] ∧ SqL K H a (ns.map V.int) ∧ ns.length ≤ 63 ∧
  ∀ (H' : Hp) (S : Sm), Same H H' → Strm S H' 0 → Q (.ref S.s) H'
end XT
namespace XT
open PySem PySem.Spec PyProof.Rows L2

/-! comprehensions whose turns only lay new things -/
theorem take_one {α β : Type} (f : α → β) (p : α → Bool) {xs : List α} {i : Nat} {x : α} (h : xs[i]? = some x) :
    ((xs.take (i + 1)).filter p).map f = ((xs.take i).filter p).map f ++ (if p x = true then [f x] else []) := by
  rw [List.take_add_one, h, List.filter_append, List.map_append]
  by_cases hp : p x = true
  · simp [hp]
  · simp [hp]
theorem flt_len {α β : Type} (f : α → β) (p : α → Bool) (xs : List α) (i : Nat) : (((xs.take i).filter p).map f).length ≤ i := by
  rw [List.length_map]
  exact Nat.le_trans (List.length_filter_le _ _) (by rw [List.length_take]; exact Nat.min_le_left _ _)

section
variable {K : PySem.W.Frag} {a : Addr} {g : TG} {tt : TT} {te : TE} {vs : List Nat} {σ : L2.St} {H1 : Hp} {D : Addr} {Qd : Hp → Prop}
/-- what one turn must do -/
def TurnP (g : TG) (tt : TT) (te : TE) (vs : List Nat) (σ : L2.St) (x y : V) (keep : Bool) (H : Hp) : Prop :=
  ∀ (R1 : Hp → Prop) (R2 : V → Hp → Prop), (keep = false → ∀ H3, Same H H3 → R1 H3) → (keep = true → ∀ H4, Same H H4 → R2 y H4) →
    g x (wipe σ vs) H fun σ2 H2 => wipe σ2 vs = wipe σ vs ∧ tt σ2 H2 fun b H3 => if b = true then te σ2 H3 R2 else R1 H3
/-- the invariant -/
def PvP (H1 : Hp) (D : Addr) (ys : List V) (H : Hp) : Prop := Same H1 H ∧ H D = some (.lst ys)
theorem pvp_turn {x y : V} {keep : Bool} {H : Hp} {ys : List V} (nD : H1 D = none) (h : PvP H1 D ys H) (hl : ys.length < sizeLine) (ht : TurnP g tt te vs σ x y keep H) (zs : List V) (ez : zs = ys ++ (if keep = true then [y] else [])) :
    g x (wipe σ vs) H fun σ2 H2 => wipe σ2 vs = wipe σ vs ∧ tt σ2 H2 fun b H3 =>
      if b = true then te σ2 H3 fun y H4 => ∃ acc, H4 D = some (.lst acc) ∧ acc.length < sizeLine ∧ PvP H1 D zs (upd H4 D (.lst (acc ++ [y]))) else PvP H1 D zs H3 := by
  obtain ⟨sm, hD⟩ := h
  refine ht _ _ (fun hk H3 s3 => ?_) (fun hk H4 s4 => ?_)
  · subst hk
    refine ⟨sm.trans s3, ?_⟩
    rw [ez, s3 _ _ hD]
    simp
  · subst hk
    refine ⟨ys, s4 _ _ hD, hl, fun b o e => ?_, ?_⟩
    · rw [upd_ne (ne_of_none e nD)]
      exact s4 _ _ (sm _ _ e)
    · rw [upd_same, ez]
      rfl
theorem lcp_list {xs : List V} (p : V → Bool) (f : V → V) (nD : H1 D = none) (hA : SqL K H1 a xs) (hz : xs.length < sizeLine) (ht : ∀ (i : Nat) x H, xs[i]? = some x → Same H1 H → TurnP g tt te vs σ x (f x) (p x) H)
    (hd : ∀ H, Same H1 H → H D = some (.lst ((xs.filter p).map f)) → Qd H) :
    ∃ W : Nat → Nat → Hp → Prop, (∃ m, W 0 m (upd H1 D (.lst []))) ∧ ∀ i m H, W i m H →
      ((Itl K a).stop i H ∧ Qd H) ∨ ((Itl K a).go i H ∧ ∃ Nx : Hp → Prop, (∀ H', Nx H' → ∃ m', m' < m ∧ W (i + 1) m' H') ∧ ∀ x H', (Itl K a).yld i H x H' → g x (wipe σ vs) H' fun σ2 H2 => wipe σ2 vs = wipe σ vs ∧ tt σ2 H2 fun b H3 =>
        if b = true then te σ2 H3 fun y H4 => ∃ acc, H4 D = some (.lst acc) ∧ acc.length < sizeLine ∧ Nx (upd H4 D (.lst (acc ++ [y]))) else Nx H3) := by
  refine lc_list (xs := xs) (fun i H => PvP H1 D (((xs.take i).filter p).map f) H) ⟨same_new nD, upd_same⟩ (fun i H _ h => h.1.seq hA) (fun i x H hx h => ?_) (fun H h => ?_)
  · have hi : i < xs.length := (List.getElem?_eq_some_iff.mp hx).1
    exact pvp_turn nD h (Nat.lt_of_le_of_lt (flt_len f p xs i) (Nat.lt_trans hi hz)) (ht i x H hx h.1) _ (take_one f p hx)
  · have h2 := h.2
    rw [List.take_length] at h2
    exact hd H h.1 h2
theorem Same.sqT {H H' : Hp} {a : Addr} {xs : List V} (e : Same H H') (h : SqT K H a xs) : SqT K H' a xs := by
  rcases h with (h | ⟨o, h⟩) | h
  · exact .inl (.inl (e _ _ h))
  · exact .inl (.inr ⟨o, e _ _ h⟩)
  · exact .inr h
theorem lcp_tup {xs : List V} (p : V → Bool) (f : V → V) (nD : H1 D = none) (hA : SqT K H1 a xs) (hz : xs.length < sizeLine) (ht : ∀ (i : Nat) x H, xs[i]? = some x → Same H1 H → TurnP g tt te vs σ x (f x) (p x) H)
    (hd : ∀ H, Same H1 H → H D = some (.lst ((xs.filter p).map f)) → Qd H) :
    ∃ W : Nat → Nat → Hp → Prop, (∃ m, W 0 m (upd H1 D (.lst []))) ∧ ∀ i m H, W i m H →
      ((Itt K a).stop i H ∧ Qd H) ∨ ((Itt K a).go i H ∧ ∃ Nx : Hp → Prop, (∀ H', Nx H' → ∃ m', m' < m ∧ W (i + 1) m' H') ∧ ∀ x H', (Itt K a).yld i H x H' → g x (wipe σ vs) H' fun σ2 H2 => wipe σ2 vs = wipe σ vs ∧ tt σ2 H2 fun b H3 =>
        if b = true then te σ2 H3 fun y H4 => ∃ acc, H4 D = some (.lst acc) ∧ acc.length < sizeLine ∧ Nx (upd H4 D (.lst (acc ++ [y]))) else Nx H3) := by
  refine lc_tup (xs := xs) (fun i H => PvP H1 D (((xs.take i).filter p).map f) H) ⟨same_new nD, upd_same⟩ (fun i H _ h => Same.sqT h.1 hA) (fun i x H hx h => ?_) (fun H h => ?_)
  · have hi : i < xs.length := (List.getElem?_eq_some_iff.mp hx).1
    exact pvp_turn nD h (Nat.lt_of_le_of_lt (flt_len f p xs i) (Nat.lt_trans hi hz)) (ht i x H hx h.1) _ (take_one f p hx)
  · have h2 := h.2
    rw [List.take_length] at h2
    exact hd H h.1 h2
theorem lcp_range {n : Nat} (p : Nat → Bool) (f : Nat → V) (nD : H1 D = none) (hz : n < sizeLine) (ht : ∀ (i : Nat) H, i < n → Same H1 H → TurnP g tt te vs σ (.int (0 + (i : Int))) (f i) (p i) H)
    (hd : ∀ H, Same H1 H → H D = some (.lst (((List.range n).filter p).map f)) → Qd H) :
    ∃ W : Nat → Nat → Hp → Prop, (∃ m, W 0 m (upd H1 D (.lst []))) ∧ ∀ i m H, W i m H →
      ((Itr 0 n).stop i H ∧ Qd H) ∨ ((Itr 0 n).go i H ∧ ∃ Nx : Hp → Prop, (∀ H', Nx H' → ∃ m', m' < m ∧ W (i + 1) m' H') ∧ ∀ x H', (Itr 0 n).yld i H x H' → g x (wipe σ vs) H' fun σ2 H2 => wipe σ2 vs = wipe σ vs ∧ tt σ2 H2 fun b H3 =>
        if b = true then te σ2 H3 fun y H4 => ∃ acc, H4 D = some (.lst acc) ∧ acc.length < sizeLine ∧ Nx (upd H4 D (.lst (acc ++ [y]))) else Nx H3) := by
  refine lc_range (lo := 0) (n := n) (fun i H => PvP H1 D ((((List.range n).take i).filter p).map f) H) ⟨same_new nD, upd_same⟩ (fun i H hi h => ?_) (fun H h => ?_)
  · have hx : (List.range n)[i]? = some i := List.getElem?_range hi
    exact pvp_turn nD h (Nat.lt_of_le_of_lt (flt_len f p _ i) (Nat.lt_trans hi hz)) (ht i H hi h.1) _ (take_one f p hx)
  · have h2 := h.2
    rw [List.take_of_length_le (by rw [List.length_range]; exact Nat.le_refl _)] at h2
    exact hd H h.1 h2
end
end XT
/-! set(list of ints); sorted(set of ints) of any number -/
namespace XT
open PySem PySem.Spec PyProof.Rows L2
abbrev newS (w : World) : Obj := { cls := .type "set", dict := none, data := .set #[] 0 (.fresh 0 0 (!w.params.followText "set-order")) }
section
variable {P : Program} {w : World} {A : Around} {E : Value → Shared → Prop} {s : Shared}
abbrev afterS (w : World) (s : Shared) (ns : List Int) (r : Value) (s2 : Shared) : Prop :=
  r = .none ∧ ∃ (hp : Heap) (tk c : Nat), s2 = { s with heap := hp, toks := tk } ∧ SetR w hp s.heap.objs.size (fun j => decide (j ∈ ns)) c ∧ c ≤ ns.length ∧ (∀ b o, s.heap.get? b = some o → hp.get? b = some o)
abbrev withS (w : World) (s : Shared) : Shared := { s with heap := s.heap.push (newS w) }
theorem items_at {items : Array Value} {ns : List Int} (hit : IntsAre items.toList ns) (hz : items.size = ns.length) (i : Nat) (v : Value) (hv : items[i]? = some v) : ∃ k t, ns[i]? = some k ∧ v = .int k t := by
  have hi : i < ns.length := by rw [← hz]; exact (Array.getElem?_eq_some_iff.mp hv).1
  obtain ⟨t, e⟩ := IntsAre.int_at hit i v (by rw [Array.getElem?_toList]; exact hv)
  exact ⟨ns[i], t, List.getElem?_eq_getElem hi, by rw [e, List.getD_eq_getElem?_getD, List.getElem?_eq_getElem hi] <;> rfl⟩
theorem set_listI {l : Addr} {items : Array Value} (ns : List Int) {Q : Value → Shared → Prop} (hh : A.handled = none) (hl : s.heap.IsList l items) (hit : IntsAre items.toList ns) (hb : ns.length + 1 < scanBound)
    (h : ∀ (hp : Heap) (tk c : Nat), SetR w hp s.heap.objs.size (fun j => decide (j ∈ ns)) c → c ≤ ns.length → (∀ b o, s.heap.get? b = some o → hp.get? b = some o) → Q (.ref s.heap.objs.size) { s with heap := hp, toks := tk }) :
    wpAny (model P w) A (call (.type "set") [.ref l]) Q E s := by
  have hz : items.size = ns.length := by
    have e := IntsAre.length hit
    rwa [Array.length_toList] at e
  obtain ⟨mc, mt, m0⟩ := F.called_set.mro
  have m1 := F.called_set.made
  have m2 := F.called_set.sub
  have m3 := F.called_set.notType
  have m4 := F.called_set.canCreate
  have m5 := F.typeCall_set_1 (.ref l)
  refine wpAny_call (codeAny_of_tree ?_)
  show wpAny _ _ (callAny (.type "set") _) _ _ _
  refine wpAny_pure ⟨Code.quiet_builtin _ (by decide +kernel), codeAny_builtin F.entry_type_call ?_⟩
  rw [Around.under_plain (weight_type_call_type "set" [.ref l] []) rfl]
  repeat (any_goals (first | assumption | wp_step))
  refine codeAny_mono (code_set_led1 (.ref l) (E := E) (Q₁ := fun v s1 => v = .ref s.heap.objs.size ∧ s1 = withS w s) ⟨rfl, rfl⟩) fun r s1 hr => ?_
  match r, hr with
  | .error e, hr => exact hr
  | .ok .next, hr => exact hr.elim
  | .ok .brk, hr => exact hr.elim
  | .ok .cont, hr => exact hr.elim
  | .ok (.ret v), hr =>
    obtain ⟨rfl, rfl⟩ := hr
    have g0 : (s.heap.push (newS w)).get? s.heap.objs.size = some (newS w) := Heap.get?_push_size _ rfl
    have g1 : Shared.TypeIs (withS w s) (.ref s.heap.objs.size) "set" := ⟨_, g0, rfl⟩
    have g2 := F.called_set.init.lookup
    have g3 := F.called_set.init.bind (.ref s.heap.objs.size)
    repeat (any_goals (first | assumption | wp_step))
    refine codeAny_mono (codeAny_call_builtin (R := wants (afterS w s ns) E) F.called_set.init.plain F.entry_set_init (check_set_init_1 g1 ?_)) fun r2 s2 hr2 => ?_
    · obtain ⟨ol, hol, hcl, nl, hdl⟩ := hl
      obtain ⟨oc, od, odt, osl⟩ := ol
      simp only at hcl hdl
      subst hcl hdl
      have hol1 : (s.heap.push (newS w)).get? l = some { cls := .type "list", dict := od, data := .seq items nl, slots := osl } := Heap.get?_push_of_some _ hol
      have n1 := F.sub_list_set
      have n2 := F.sub_list_frozenset
      have n3 : (Value.type "list" == Value.type "dict") = false := by decide
      have hl1 : (s.heap.push (newS w)).IsList l items := ⟨_, hol1, rfl, nl, rfl⟩
      have lS : l < s.heap.objs.size := Heap.lt_size hol
      have z1 : (s.heap.push (newS w)).objs.size = s.heap.objs.size + 1 := Heap.size_push ..
      unfold Builtin.«set.__init__» noKeywords Builtin.Frozenset.updateFrom
      generalize hPI : pyIter = PI
      wp_walk
      subst hPI
      refine wpAny_pyIter_list hl1 (wpAny_bind (wpAny_runValue ?_))
      refine set_update_ints ((Walks.list (by simp [hh]) _ l (by rw [z1]; exact Nat.ne_of_lt (Nat.lt_succ_of_lt lS)) items).toS) s.heap.objs.size (by rw [z1]; simp only [List.mem_cons, List.not_mem_nil, or_false, not_or]; exact ⟨Nat.ne_of_lt (Nat.lt_succ_self _), Nat.ne_of_gt lS⟩) ns hz hb (items_at hit hz) (items.size - 0) 0 _ (by omega) (Nat.zero_le _)
        ⟨⟨_, Heap.get?_push_size _ rfl, rfl, rfl⟩, hl1.push _⟩ ⟨0, Nat.le_refl 0, setR_new_at (Heap.get?_push_of_some _ g0)⟩ ?_
      intro s3 c hm hc hS
      obtain ⟨h3, ge, dr, tk, os⟩ := s3
      obtain rfl : ge = s.gens := hm.gens
      obtain rfl : dr = s.drawn := hm.drawn
      obtain rfl : os = s.os := hm.os
      show wpAny _ _ _ _ _ _
      refine wpAny_pure ?_
      show wpAny _ _ (ret Value.none) _ _ _
      rw [hz] at hc
      refine wpAny_pure ⟨rfl, h3, tk, c, rfl, hS, hc, fun b o e => ?_⟩
      have b0 : b < s.heap.objs.size := Heap.lt_size e
      exact hm.heap b o (by rw [z1]; simp only [List.mem_cons, List.not_mem_nil, or_false, not_or]; exact ⟨Nat.ne_of_lt b0, Nat.ne_of_lt (Nat.lt_succ_of_lt b0)⟩) (Heap.get?_push_of_some _ (Heap.get?_push_of_some _ e))
    · match r2, hr2 with
      | .error e, hr2 => exact hr2
      | .ok .next, hr2 => exact hr2.elim
      | .ok .brk, hr2 => exact hr2.elim
      | .ok .cont, hr2 => exact hr2.elim
      | .ok (.ret v), hr2 =>
        obtain ⟨rfl, hp, tk, c, rfl, hS, hc, hk⟩ := hr2
        repeat (any_goals (first | assumption | wp_step))
        exact h _ _ _ hS hc hk
end
end XT
namespace XT
open PySem PySem.Spec PyProof.Rows L2
section
variable {P : Program} {w : World} {A : Around} {E : Value → Shared → Prop} {s : Shared} {a : Addr}
theorem iv_raw (v : Value) (h : ∃ k t, v = Value.int k t) : SrtO.iv v = Builtin.Re.reRawOf v := by
  obtain ⟨k, t, rfl⟩ := h
  rfl
/-- sorted(set of ints), however many -/
theorem sorted_setN {S : Int → Bool} {n : Nat} {Q : Value → Shared → Prop} (R : SetR w s.heap a S n) (hh : A.handled = none)
    (hQ : ∀ s2 p (out : List Value) (c : Nat) (ns : List Int), (∀ b o, s.heap.get? b = some o → s2.heap.get? b = some o) → s2.gens = s.gens → s2.os = s.os → s.heap.objs.size ≤ p →
      s2.heap.get? p = some (seqObj "list" out.toArray c) → IntsAre out ns → ns.Pairwise (· < ·) → (∀ k, k ∈ ns ↔ S k = true) → ns.length = n → Q (.ref p) s2) :
    wpAny (model P w) A (call (.builtin "sorted") [.ref a]) Q E s := by
  obtain ⟨o, es, ep, t, ho, hex, hd, g, nd, hm, hb, hf, hn, hr, hl⟩ := R
  refine Calls.call_function_entry kind_sorted plain_sorted entry_sorted (args_sorted1 _) ?_
  unfold Builtin.«sorted»
  refine wpAny_bind (m := checkCount "sorted" 1 1 _) (wpAny_pure (wpAny_bind (collect_set (A := A.in1) hh ⟨o, ho, hex.1, hd⟩ hf hb hr hl fun s1 vs k1 hz g1 o1 pm => ?_)))
  have vl : vs.length = n := by rw [pm.length_eq, List.length_map, Array.length_toList]; exact hn
  have n0 : n ≤ sizeLine := by rw [sizeLine_eq]; unfold scanBound at hb; omega
  have allI : ∀ v ∈ vs, ∃ k t, v = Value.int k t := fun v hv => by
    obtain ⟨e, he, q⟩ := List.mem_map.mp (pm.mem_iff.mp hv)
    obtain ⟨k, tk, h1, _⟩ := g e he
    exact ⟨k, tk, by rw [← q]; exact h1⟩
  have hI : IntsAre vs (vs.map SrtO.iv) := SrtO.ints_iv allI
  have pk : (vs.map SrtO.iv).Perm (es.toList.map keyOf) := by
    have e1 : vs.map SrtO.iv = vs.map Builtin.Re.reRawOf := List.map_congr_left fun v hv => iv_raw v (allI v hv)
    have q := pm.map Builtin.Re.reRawOf
    rw [List.map_map] at q
    rw [e1]
    exact q
  refine wpAny_bind (wpAny_newList ?_ (by rw [vl]; exact n0))
  have hoL : (s1.heap.push (seqObj "list" vs.toArray 0)).get? s1.heap.objs.size = some (seqObj "list" vs.toArray 0) := Heap.get?_push_size _ rfl
  refine wpAny_bind (wpAny_holding (wpAny_call_entry slot_list_sort ⟨_, hoL, rfl⟩ entry_list_sort (SrtO.list_sort_ord SrtO.swo_int hoL (by rw [vl]; exact n0) (fun h2 => SrtO.ints_sortable hI h2) fun out a1 a2 => ⟨_, rfl, ?_⟩) (args_list_sort _)))
  obtain ⟨j1, j2, j3⟩ := SrtO.ints_out hI a1 a2
  obtain ⟨c, hc⟩ := sortedHeap_at (vs := vs) (out := out.toArray) hoL
  have pn := j2.trans pk
  refine wpAny_pure ⟨_, rfl, hQ _ s1.heap.objs.size out c _ (fun b u e => ?_) g1 o1 hz hc j1 (lt_of_le_nodup _ j3 (pn.nodup_iff.mpr nd)) (fun k => by rw [pn.mem_iff, ← hm k]) ?_⟩
  · have q := k1 b u e
    have lt := Heap.lt_size q
    show (sortedHeap (s1.heap.push (seqObj "list" vs.toArray 0)) s1.heap.objs.size vs out.toArray).get? b = some u
    rw [sortedHeap_old (Nat.ne_of_lt lt) (by rw [size_push']; exact Nat.lt_succ_of_lt lt)]
    exact Heap.get?_push_of_some _ q
  · rw [pn.length_eq, List.length_map, Array.length_toList]; exact hn
end
section
variable {X : Cx}
/-- set(xs), a list of ints -/
def rSetL (K : PySem.W.Frag) (w : World) : List V → Hp → VK → Prop := fun vs H Q => ∃ (a : Addr) (ns : List Int), vs = [V.ref a] ∧ SqL K H a (ns.map V.int) ∧ ns.length ≤ 1000 ∧
  ∀ (p : Addr) (c : Nat), H p = none → Q (.ref p) (upd H p (SetO w p (fun j => decide (j ∈ ns)) c))
theorem cr_setL (hc : X.calm = true) : CallR X (.type "set") (XT.rSetL X.K X.w) := by
  intro pins s σ H vs us Q I r h
  obtain ⟨a, ns, rfl, hs, hn, q⟩ := h
  obtain ⟨its, rv, hl, hz⟩ := I.list hs
  rw [Vals.ref1 r]
  refine set_listI ns (I.ok.hd hc) hl.isList (by simpa using rv.ints) (by unfold scanBound; omega) fun hp tk c hS hcn hk => ?_
  exact ⟨.ref _, _, I.laid (t' := tk) hk (Nat.le_refl _) (setO_new hS), rfl, q _ c (I.hok.fresh (Nat.le_refl _))⟩
/-- sorted(found) -/
def rSortS (w : World) : List V → Hp → VK → Prop := fun vs H Q => ∃ (a : Addr) (S : Int → Bool) (n : Nat), vs = [V.ref a] ∧ H a = some (SetO w a S n) ∧
  ∀ (ns : List Int) (p : Addr), ns.Pairwise (· < ·) → (∀ k : Int, k ∈ ns ↔ S k = true) → H p = none → Q (.ref p) (upd H p (.lst (ns.map V.int)))
theorem cr_sortS (hc : X.calm = true) : CallR X (.builtin "sorted") (rSortS X.w) := by
  intro pins s σ H vs us Q I r h
  obtain ⟨a, S, n, rfl, ha, q⟩ := h
  have R := setO_get I ha
  have n0 : n ≤ sizeLine := by
    obtain ⟨_, _, _, _, _, _, _, _, _, _, hb, _, hn, _⟩ := R
    rw [sizeLine_eq]; unfold scanBound at hb; omega
  rw [Vals.ref1 r]
  refine sorted_setN R (I.ok.hd hc) fun s2 p out c ns k g o hp hg hi hs hm hl => ?_
  have hn : H p = none := I.hok.fresh hp
  have J : Inv X pins σ (upd H p (.lst (ns.map V.int))) { s with heap := s2.heap, gens := s2.gens, drawn := s2.drawn, toks := s2.toks } :=
    I.call (ch := []) (Un.laid k hp hn) (I.hok.laid k hp ⟨by rw [List.length_map, hl]; exact n0, out, c, vals_of_ints hi, hg⟩) (by rw [g]; exact I.bare) (fun _ z => nomatch z)
  have e : s2 = { s with heap := s2.heap, gens := s2.gens, drawn := s2.drawn, toks := s2.toks } := by
    cases s2; cases s; cases o; rfl
  rw [e]
  exact ⟨.ref p, _, J, rfl, q ns p hs hm hn⟩
end
end XT
/-! for i, x in enumerate(t), t a tuple -/
namespace XT
open PySem PySem.Spec PyProof.Rows L2
abbrev enO (it : Addr) : Obj := { cls := .type "enumerate", data := .fields #[.none, .bool false, .ref it, rawInt 0, .none, .none] }
abbrev tiO (t : Addr) : Obj := { cls := .type "tuple_iterator", data := .fields #[.ref t, .int 0 0] }
theorem newEnumT (t : Addr) (items : Array Value) : Meets (Builtin.«enumerate.__new__» ⟨[.type "enumerate", .ref t], []⟩)
    (fun _ R s => s.heap.IsTuple t items ∧ R (.ok (.ret (.ref (s.heap.push (tiO t)).objs.size))) { s with heap := (s.heap.push (tiO t)).push (enO s.heap.objs.size) }) :=
  .of_wp fun prog w A R s h => by
    obtain ⟨hp, ge, dr, tk, os⟩ := s
    obtain ⟨h1, h2⟩ := h
    have sb := sub_enumerate
    have q : ∀ {A2 : Around} {E : Value → Shared → Prop} {Q : Value → Shared → Prop}, Q (.ref hp.objs.size) ⟨hp.push (tiO t), ge, dr, tk, os⟩ → wpAny (model prog w) A2 (pyIter (.ref t)) Q E ⟨hp, ge, dr, tk, os⟩ :=
      fun z => wpAny_pyIter_tuple (s := ⟨hp, ge, dr, tk, os⟩) h1 z
    wp_walk using q
    refine wpAny_stack_any fun st => wpAny_pure ?_
    split
    · rename_i c _ _ _ _ _
      cases (c == Value.type "enumerate") <;> (wp_walk using q; exact ⟨_, rfl, h2⟩)
    · wp_walk using q
      exact ⟨_, rfl, h2⟩
section
variable {prog : Program} {w : World} {A : Around} {E : Value → Shared → Prop} {s : Shared}
theorem call_enumT {t : Addr} {items : Array Value} {Q : Value → Shared → Prop} (hT : s.heap.IsTuple t items)
    (h : ∀ hp, IsEnum hp (s.heap.objs.size + 1) s.heap.objs.size 0 .none → hp.IsTupleIter s.heap.objs.size t 0 → (∀ b o, s.heap.get? b = some o → hp.get? b = some o) → Q (.ref (s.heap.objs.size + 1)) { s with heap := hp }) :
    wpAny (model prog w) A (call (.type "enumerate") [.ref t]) Q E s := by
  refine callType_new F.called_enumerate (by decide) (F.typeCall_enumerate_1 _) (F.newCall_enumerate_1 _) (fun obj => F.args_object_init_2 obj _) F.entry_enumerate_new (newEnumT t items) ⟨hT, ?_⟩
  have z : (s.heap.push (tiO t)).objs.size = s.heap.objs.size + 1 := Heap.size_push ..
  have e0 := Heap.get?_push_size (s.heap.push (tiO t)) (o := enO s.heap.objs.size) rfl
  rw [z] at e0
  show _ ∧ _
  rw [z]
  exact ⟨⟨_, e0, rfl⟩, h _ e0 ⟨_, Heap.get?_push_of_some _ (Heap.get?_push_size _ rfl), rfl, rfl⟩ fun b o x => Heap.get?_push_of_some _ (Heap.get?_push_of_some _ x)⟩
end
/-- the tuple at a, its items in new pairs with their places -/
def ItT (K : PySem.W.Frag) (a : Addr) : It :=
  ⟨fun i H => ∃ (xs : List V) (x : V), SqT K H a xs ∧ xs[i]? = some x,
   fun i H v H2 => ∃ T x, v = .ref T ∧ H T = none ∧ H2 = upd H T (.tup [.int (i : Nat), x]) ∧ ∀ xs, SqT K H a xs → xs[i]? = some x,
   fun i H => ∃ xs : List V, SqT K H a xs ∧ xs.length = i⟩
theorem turn_enumT {P : Program} {w : World} {K : PySem.W.Frag} {elts : List Expr} {kk : Nat} {tpos : Pos} (a e it : Addr) (hne : e ≠ it) (hai : a ≠ it) (hae : e ≠ a) :
    Turn P w K (.Tuple elts kk tpos) (ItT K a) [e, it] e (fun i h => (∃ old, IsEnum h e it ((i : Nat) : Int) old) ∧ h.IsTupleIter it a i) where
  mem := List.mem_cons_self
  obj := fun i h st b hb => by
    obtain ⟨⟨old, he⟩, ⟨o, ho, hc, hd⟩⟩ := st
    rcases List.mem_cons.mp hb with z | z
    · rw [z]; exact ⟨_, he, fun v q => nomatch q⟩
    · rw [List.mem_singleton.mp z]; exact ⟨o, ho, fun v q => by rw [hd] at q; cases q⟩
  keep := fun i h h2 st k => ⟨let ⟨old, he⟩ := st.1; ⟨old, k e (by simp) _ he⟩, st.2.at fun o q => k it (by simp) o q⟩
  item := by
    intro X hP hw hK hc i pins s σ H E I hf st hg
    subst hP hw hK
    obtain ⟨⟨old, he⟩, hit⟩ := st
    obtain ⟨xs, x, hq, hx⟩ := hg
    obtain ⟨its, rv, p, hz⟩ := I.tuple hq
    obtain ⟨u, hu, ru⟩ := rv.get hx
    have p' : s.heap.IsTuple a its.toArray := p
    have el : e < s.heap.objs.size := Heap.lt_size he
    have il : it < s.heap.objs.size := by obtain ⟨_, q, _⟩ := hit; exact Heap.lt_size q
    have hi : i < its.toArray.size := by
      rw [List.size_toArray]; exact (List.getElem?_eq_some_iff.mp hu).1
    refine wpAny_pyNext_enum_itemD (Draws.tuple (A := X.A.in1) (I.ok.hd hc) it a hai its.toArray) he ⟨hit, p'⟩ hi hne (by simp [hne, hae]) fun y h1 tk hy ho hit1 hT hsz hk => ?_
    have ey : y = u := by
      have q : its.toArray[i]? = some u := by simpa using hu
      exact Option.some.inj (hy.symm.trans q)
    subst ey
    refine ⟨_, rfl, wpAny_letOwnedTupleGo_enum (s := { s with heap := h1, toks := tk + 1 }) ho fun h2 he2 sb => ?_⟩
    have gT : h2.get? s.heap.objs.size = some { cls := .type "tuple", data := .seq #[.int i tk, y] } := (sb.2 _ (Nat.ne_of_gt el)).trans hT
    have new : ObjOk X.prog X.w (upd H s.heap.objs.size (.tup [.int (i : Nat), x])) h2 s.heap.objs.size (.tup [.int (i : Nat), x]) :=
      ⟨sz (n := 2) (by decide), [.int i tk, y], .cons ⟨_, rfl⟩ (.cons ru .nil), ⟨_, gT, rfl, _, rfl⟩⟩
    have J := I.turnedNew (t' := tk + 1) (ch := [e, it]) (fun b ob hb q => (sb.2 b (fun z => hb (by simp [z]))).trans (hk b ob (fun z => hb (by simp [z])) (fun z => hb (by simp [z])) q)) hf (Nat.le_refl _) new
    refine ⟨.ref s.heap.objs.size, _, J, rfl, ⟨_, x, rfl, I.hok.fresh (Nat.le_refl _), rfl, fun ys hy => by rw [I.tuple_inj hy hq]; exact hx⟩, ⟨⟨y, ?_⟩, hit1.1.at fun o q => (sb.2 it (Ne.symm hne)).trans q⟩, fun b hb => ?_⟩
    · rw [show ((i + 1 : Nat) : Int) = (i : Int) + 1 by omega]; exact he2
    · have hb2 : b < s.heap.objs.size := by
        rcases List.mem_cons.mp hb with z | z
        · rw [z]; exact el
        · rw [List.mem_singleton.mp z]; exact il
      rw [upd_ne (Nat.ne_of_lt hb2)]
      exact (hf b hb).1
  done := by
    intro X hP hw hK hc i pins s σ H E I hf st hg
    subst hP hw hK
    obtain ⟨⟨old, he⟩, hit⟩ := st
    obtain ⟨xs, hq, hx⟩ := hg
    obtain ⟨its, rv, p, hz⟩ := I.tuple hq
    obtain ⟨f0, f1, f2, f3, f4, f5⟩ := hf it (by simp)
    have hl : its.toArray.size = i := by rw [List.size_toArray, ← rv.length]; exact hx
    have D := Draws.tuple (prog := X.prog) (w := X.w) (A := X.A.in1) (I.ok.hd hc) it a hai its.toArray
    rw [hl] at D
    exact wpAny_pyNext_enum_endD D he ⟨hit, p⟩ fun h2 eb => ⟨rfl, I.turned (t' := s.toks) (fun b o hb q => eb b o hb q) f0 f1 f3 f4 f5⟩
  self := fun A i s Q E st h => let ⟨⟨_, he⟩, _⟩ := st; wpAny_pyIter_enum he h
def iEnT (K : PySem.W.Frag) (ta : TA) : TI := fun σ H R => ta σ H fun vs H1 => ∃ a xs, vs = [.ref a] ∧ SqT K H1 a xs ∧ R (ItT K a) H1
theorem pi_enumT {X : Cx} {e : Expr} {ta : TA} {p pos tpos : Pos} {elts : List Expr} {kk : Nat} (hg : Gl X "enumerate") (hm : X.mg "enumerate" = none) (ha : PA X [e] ta) (hs : starEach [e] X.env = [(false, eval e X.env)] := by rfl) :
    PI X (.Tuple elts kk tpos) (.Call (.Name "enumerate" p) [e] [] pos) (iEnT X.K ta) := by
  refine ⟨fun pins s σ H R I h => Call_ (ld_blt I hg hm boot_enumerate (callWith_type1 (thn (ha.run pos pins s σ H _ I h) fun us s1 ⟨vs, H1, I1, r1, q1⟩ => ?_) hs rfl))⟩
  obtain ⟨a, xs, ex, hq, q⟩ := q1
  subst ex
  obtain ⟨u, rfl, ru⟩ := vals1 r1
  cases (show u = Value.ref a from ru)
  obtain ⟨its, rv, p2, hz⟩ := I1.tuple hq
  have al : a < s1.heap.objs.size := by obtain ⟨o, ho, _⟩ := p2; exact Heap.lt_size ho
  refine call_enumT (items := its.toArray) p2 fun hp he hit hk => wpAny_pyIter_enum he ?_
  have I2 : Inv X pins σ H1 { s1 with heap := hp } := I1.kept (t' := s1.toks) hk
  refine ⟨s1.heap.objs.size + 1, [s1.heap.objs.size + 1, s1.heap.objs.size], _, _, H1, rfl, I2, turn_enumT a (s1.heap.objs.size + 1) s1.heap.objs.size (Nat.succ_ne_self _) (Nat.ne_of_lt al) (Nat.ne_of_gt (Nat.lt_succ_of_lt al)), ⟨⟨.none, he⟩, hit⟩, fun b hb => ?_, q⟩
  have hle : s1.heap.objs.size ≤ b := by
    rcases List.mem_cons.mp hb with z | z
    · rw [z]; exact Nat.le_succ _
    · rw [List.mem_singleton.mp z]; exact Nat.le_refl _
  exact I1.fpOk hle (I1.hok.fresh hle)
end XT
/-! lots as lists of numbers -/
namespace XT
open PySem PySem.Spec PyProof.Rows L2
def lotOf (w : Nat) (P : Nat → Bool) : List Nat := (List.range (2 ^ w)).filter P
def vm (ms : List Nat) : List V := ms.map fun (m : Nat) => V.int (m : Int)
theorem mem_lot {w : Nat} {P : Nat → Bool} {m : Nat} : m ∈ lotOf w P ↔ m < 2 ^ w ∧ P m = true := by
  unfold lotOf
  rw [List.mem_filter, List.mem_range]
theorem lot_congr {w : Nat} {P P' : Nat → Bool} (h : ∀ m, m < 2 ^ w → P m = P' m) : lotOf w P = lotOf w P' := by
  unfold lotOf
  exact List.filter_congr fun m hm => h m (List.mem_range.mp hm)
theorem pow6 {w : Nat} (h : w ≤ 6) : 2 ^ w ≤ 64 := by
  have : w = 0 ∨ w = 1 ∨ w = 2 ∨ w = 3 ∨ w = 4 ∨ w = 5 ∨ w = 6 := by omega
  rcases this with rfl | rfl | rfl | rfl | rfl | rfl | rfl <;> decide
theorem pow0 (w : Nat) : 0 < 2 ^ w := Nat.pow_pos (by decide)
theorem lot_len {w : Nat} (h : w ≤ 6) (P : Nat → Bool) : (lotOf w P).length ≤ 64 := by
  refine Nat.le_trans (List.length_filter_le _ _) ?_
  rw [List.length_range]
  exact pow6 h
theorem vm_len (ms : List Nat) : (vm ms).length = ms.length := List.length_map _
/-- two rising lists with the same members are one -/
theorem rising_eq : ∀ {l m : List Int}, l.Pairwise (· < ·) → m.Pairwise (· < ·) → (∀ k, k ∈ l ↔ k ∈ m) → l = m
  | [], [], _, _, _ => rfl
  | [], b :: m, _, _, h => absurd ((h b).mpr List.mem_cons_self) (by simp)
  | a :: l, [], _, _, h => absurd ((h a).mp List.mem_cons_self) (by simp)
  | a :: l, b :: m, hl, hm, h => by
    obtain ⟨l1, l2⟩ := List.pairwise_cons.mp hl
    obtain ⟨m1, m2⟩ := List.pairwise_cons.mp hm
    have e : a = b := by
      rcases List.mem_cons.mp ((h a).mp List.mem_cons_self) with e | e
      · exact e
      · rcases List.mem_cons.mp ((h b).mpr List.mem_cons_self) with e' | e'
        · exact e'.symm
        · have := m1 a e
          have := l1 b e'
          omega
    subst e
    congr 1
    refine rising_eq l2 m2 fun k => ⟨fun hk => ?_, fun hk => ?_⟩
    · rcases List.mem_cons.mp ((h k).mp (List.mem_cons_of_mem _ hk)) with e | e
      · have := l1 k hk
        omega
      · exact e
    · rcases List.mem_cons.mp ((h k).mpr (List.mem_cons_of_mem _ hk)) with e | e
      · have := m1 k hk
        omega
      · exact e
theorem range_rising (n : Nat) : ((List.range n).map fun (m : Nat) => (m : Int)).Pairwise (· < ·) := by
  rw [List.pairwise_map]
  exact List.pairwise_lt_range.imp fun h => by omega
theorem lot_rising (w : Nat) (P : Nat → Bool) : ((lotOf w P).map fun (m : Nat) => (m : Int)).Pairwise (· < ·) := by
  unfold lotOf
  have h := List.pairwise_map.mp (range_rising (2 ^ w))
  rw [List.pairwise_map]
  exact h.filter _
theorem rising_lot {w : Nat} {P : Nat → Bool} {ns : List Int} (h : ns.Pairwise (· < ·)) (hm : ∀ k, k ∈ ns ↔ ∃ m : Nat, k = m ∧ m < 2 ^ w ∧ P m = true) : ns.map V.int = vm (lotOf w P) := by
  have e : ns = (lotOf w P).map fun (m : Nat) => (m : Int) := rising_eq h (lot_rising w P) fun k => by
    rw [hm k, List.mem_map]
    constructor
    · rintro ⟨m, rfl, h1, h2⟩
      exact ⟨m, mem_lot.mpr ⟨h1, h2⟩, rfl⟩
    · rintro ⟨m, h1, rfl⟩
      exact ⟨m, rfl, mem_lot.mp h1⟩
  rw [e, List.map_map]
  rfl
theorem vm_ints (ms : List Nat) : vm ms = (ms.map fun (m : Nat) => (m : Int)).map V.int := by
  unfold vm
  rw [List.map_map]
  rfl
theorem vm_flat (ms : List Nat) : (vm ms).all flatV = true := by
  rw [List.all_eq_true]
  intro v hv
  obtain ⟨m, _, rfl⟩ := List.mem_map.mp hv
  rfl
theorem in_vm (k : Nat) (ms : List Nat) : inV (.int (k : Int)) (vm ms) = decide (k ∈ ms) := by
  rw [Bool.eq_iff_iff, decide_eq_true_iff]
  unfold inV
  rw [List.any_eq_true]
  constructor
  · rintro ⟨v, hv, e⟩
    obtain ⟨m, hm, rfl⟩ := List.mem_map.mp hv
    have e' : ((m : Int) == (k : Int)) = true := e
    have : (m : Int) = k := by simpa using e'
    have : m = k := by omega
    rw [← this]
    exact hm
  · intro h
    exact ⟨_, List.mem_map.mpr ⟨k, h, rfl⟩, by show ((k : Int) == (k : Int)) = true; simp⟩
theorem in_lot {w : Nat} {P : Nat → Bool} {k : Nat} (hk : k < 2 ^ w) : inV (.int (k : Int)) (vm (lotOf w P)) = P k := by
  rw [in_vm, Bool.eq_iff_iff, decide_eq_true_iff, mem_lot]
  exact ⟨fun h => h.2, fun h => ⟨hk, h⟩⟩
/-- a lot -/
def LotAt (H : Hp) (v : V) (w : Nat) (P : Nat → Bool) : Prop := ∃ p q, v = .ref p ∧ H p = some (.tup [.int (w : Int), .ref q]) ∧ H q = some (.tup (vm (lotOf w P)))
theorem LotAt.same {H H' : Hp} {v : V} {w : Nat} {P : Nat → Bool} (h : LotAt H v w P) (e : Same H H') : LotAt H' v w P := by
  obtain ⟨p, q, rfl, h1, h2⟩ := h
  exact ⟨p, q, rfl, e _ _ h1, e _ _ h2⟩
theorem LotAt.keep {S : Sm} {H H' : Hp} {t : Int} {v : V} {w : Nat} {P : Nat → Bool} (h : LotAt H v w P) (k : Keep S H H') (st : Strm S H t) : LotAt H' v w P := by
  obtain ⟨p, q, rfl, h1, h2⟩ := h
  exact ⟨p, q, rfl, k.tup st h1, k.tup st h2⟩
theorem LotAt.congr {H : Hp} {v : V} {w : Nat} {P P' : Nat → Bool} (h : LotAt H v w P) (e : ∀ m, m < 2 ^ w → P m = P' m) : LotAt H v w P' := by
  obtain ⟨p, q, rfl, h1, h2⟩ := h
  exact ⟨p, q, rfl, h1, by rw [← lot_congr e]; exact h2⟩
def dLot (w : Nat) (P : Nat → Bool) : PyData := .tuple [.int (w : Int), .tuple ((lotOf w P).map fun (m : Nat) => .int (m : Int))]
theorem dpVm {K : PySem.W.Frag} {H : Hp} : ∀ ms : List Nat, DpAll K H (vm ms) (ms.map fun (m : Nat) => .int (m : Int))
  | [] => .nil
  | m :: ms => .cons (.int m) (dpVm ms)
theorem LotAt.dp {K : PySem.W.Frag} {H : Hp} {v : V} {w : Nat} {P : Nat → Bool} (h : LotAt H v w P) : Dp K H v (dLot w P) := by
  obtain ⟨p, q, rfl, h1, h2⟩ := h
  exact .tup (SqT.of h1) (.cons (.int _) (.cons (.tup (SqT.of h2) (dpVm _)) .nil))
theorem ints_lay : ∀ ms : List Nat, PyData.canLayAll0 (ms.map fun (m : Nat) => PyData.int (m : Int)) = true
  | [] => rfl
  | m :: ms => by
    have h := ints_lay ms
    simpa [PyData.canLayAll0, PyData.canLay0] using h
theorem ints_depth : ∀ ms : List Nat, PyData.depthAll (ms.map fun (m : Nat) => PyData.int (m : Int)) ≤ 1
  | [] => by decide
  | m :: ms => by
    have h := ints_depth ms
    simp only [PyData.depthAll, PyData.depth, List.map] at h ⊢
    omega
theorem dLot_shaped (w : Nat) (P : Nat → Bool) : SeqAt.shaped (dLot w P) = true := by
  have h1 : PyData.canLay0 (dLot w P) = true := by
    have h := ints_lay (lotOf w P)
    simp [dLot, PyData.canLay0, PyData.canLayAll0, h]
  have h2 : PyData.depth (dLot w P) ≤ 64 := by
    have h := ints_depth (lotOf w P)
    simp only [dLot, PyData.depth, PyData.depthAll]
    omega
  unfold SeqAt.shaped
  rw [h1, decide_eq_true h2]
  rfl
theorem eqv_ints : ∀ ms : List Nat, PyData.eqvAll (ms.map fun (m : Nat) => PyData.int (m : Int)) (ms.map fun (m : Nat) => PyData.int (m : Int)) = true
  | [] => rfl
  | m :: ms => by
    have h := eqv_ints ms
    simp [PyData.eqvAll, PyData.eqv, h]
theorem eqv_lot {w : Nat} {P P' : Nat → Bool} (h : ∀ m, m < 2 ^ w → P m = P' m) : PyData.eqv (dLot w P) (dLot w P') = true := by
  unfold dLot
  rw [lot_congr h]
  simp [PyData.eqv, PyData.eqvAll, eqv_ints]
/-- a != b, two lots that are one -/
theorem ne_lot {K : PySem.W.Frag} {H : Hp} {x y : V} {w : Nat} {P P' : Nat → Bool} {Q : VK} (hx : LotAt H x w P) (hy : LotAt H y w P') (h : ∀ m, m < 2 ^ w → P m = P' m) (q : Q (.bl false) H) : rNeD K x y H Q := by
  refine ⟨_, _, hx.dp, hy.dp, dLot_shaped _ _, dLot_shaped _ _, ?_⟩
  rw [eqv_lot h]
  exact q
end XT
/-! the program's own defs -/
namespace XT
open PySem PySem.Spec PyProof.Rows L2
def DefR (P : Program) (w : World) (K : PySem.W.Frag) (mg : Str → Option Value) (base : Heap) (k : Nat) (x : Str) (sp : Sp) : Prop :=
  ∃ f, FnR P w K mg base CX0 k f sp ∧ mg x = some (.ref f) ∧ PySem.W.keepIn K (.ref f) = true
theorem DefR.of {P : Program} {w : World} {K : PySem.W.Frag} {mg : Str → Option Value} {base : Heap} {k : Nat} {x : Str} {sp : Sp} {f : Addr} {fd : FuncData} {ps : List Str}
    (F : FnOk P w K mg base CX0 k f fd ps sp) (b : Binds K fd ps []) (hm : mg x = some (.ref f)) (hk : PySem.W.keepIn K (.ref f) = true) : DefR P w K mg base k x sp :=
  ⟨f, (FnOk.raw F b .nil).imp fun vs H Q E h => by rw [List.append_nil]; exact h, hm, hk⟩
section
variable {X : Cx}
/-- f(e, ..) -/
theorem pe_def {j : Nat} {x : Str} {sp : Sp} {e : Expr} {es : List Expr} {t : TA} {p pos : Pos} (D : DefR X.prog X.w X.K X.mg X.base j x sp) (hr : Room j X.A) (hg : Gl X x) (ha : PA X (e :: es) t)
    (hdb : (x == ("__debug__" : Str)) = false := by decide) (he : starEach (e :: es) X.env = (false, eval e X.env) :: starEach es X.env := by rfl) (hpl : (backTo pos (starEach es X.env)).any (·.1) = false := by rfl) :
    PE X (.Call (.Name x p) (e :: es) [] pos) (fun σ H Q => t σ H fun vs H1 => sp vs H1 Q E0) := by
  obtain ⟨f, F, hm, hk⟩ := D
  refine ⟨fun pins s σ H Q I h => wpAny_Call_Name_kw (ld_glob I hg hm ?_ hdb)⟩
  refine PySem.W.callWith_K (h₀ := X.base) I.ok.mod.kin hk (thn (ha.run pos pins s σ H _ I h) fun us s1 ⟨vs, H1, I1, r, q⟩ => ⟨I1.kIn, ?_⟩) he hpl
  refine wpAny_call (codeAny_mono (run_fnR F hr pass0 I1 r q) fun r s2 z => ?_)
  match r, z with
  | .ok (.ret v), z => exact z
  | .ok .next, z => exact z.elim
  | .ok .brk, z => exact z.elim
  | .ok .cont, z => exact z.elim
  | .error e, z => exact z
end
theorem bT : bootBuiltins "tuple" = some (.type "tuple") := by decide +kernel
theorem bS : bootBuiltins "sorted" = some (.builtin "sorted") := by decide +kernel
theorem bI : bootBuiltins "isinstance" = some (.builtin "isinstance") := by decide +kernel
theorem bInt : bootBuiltins "int" = some (.type "int") := by decide +kernel
theorem bBool : bootBuiltins "bool" = some (.type "bool") := by decide +kernel
theorem bSet : bootBuiltins "set" = some (.type "set") := by decide +kernel
theorem bAll : bootBuiltins "all" = some (.builtin "all") := by decide +kernel

section
variable {P : Program} {w : World} {K : PySem.W.Frag} {mg : Str → Option Value} {base : Heap}
/-- the module's names that are still the built-in ones -/
structure Bl (mg : Str → Option Value) : Prop where
  len : mg "len" = none
  abs : mg "abs" = none
  tuple : mg "tuple" = none
  sorted : mg "sorted" = none
  isinstance : mg "isinstance" = none
  int : mg "int" = none
  bool : mg "bool" = none
  set : mg "set" = none
  all : mg "all" = none
  range : mg "range" = none
  enumerate : mg "enumerate" = none

theorem shl1 (n : Nat) : (1 : Int) * 2 ^ ((n : Int).toNat) = ((2 ^ n : Nat) : Int) := by
  rw [Int.toNat_natCast, Int.one_mul]
  norm_cast
theorem cpow {n : Nat} (h : n ≤ 6) : CPow 1 (n : Int) := ⟨by omega, by omega, by decide⟩
theorem xor_lt {a b n : Nat} (ha : a < 2 ^ n) (hb : b < 2 ^ n) : a ^^^ b < 2 ^ n := Nat.xor_lt_two_pow ha hb
theorem bx (a b : Nat) : Builtin.bitXor (a : Int) (b : Int) = ((a ^^^ b : Nat) : Int) := by
  rw [Bits.bitXor_pp (by omega) (by omega)]
  rfl
end
end XT
namespace XT
open PySem PySem.Spec PyProof.Rows L2
theorem lot_filter (n : Nat) (p q : Nat → Bool) : (lotOf n p).filter q = lotOf n (fun m => p m && q m) := by
  unfold lotOf
  rw [List.filter_filter]
  refine List.filter_congr fun m _ => ?_
  rw [Bool.and_comm]
theorem vm_filter (ms : List Nat) (q : Nat → Bool) (r : V → Bool) (h : ∀ m ∈ ms, r (.int (m : Int)) = q m) : ((vm ms).filter r).map id = vm (ms.filter q) := by
  unfold vm
  rw [List.map_id, List.filter_map]
  congr 1
  exact List.filter_congr fun m hm => h m hm
theorem mem_vm {ms : List Nat} {i : Nat} {v : V} (h : (vm ms)[i]? = some v) : ∃ m, ms[i]? = some m ∧ v = .int (m : Int) := by
  unfold vm at h
  rw [List.getElem?_map] at h
  obtain ⟨m, h1, h2⟩ := Option.map_eq_some_iff.mp h
  exact ⟨m, h1, h2.symm⟩
/-- for i, x in enumerate(t) -/
theorem for_enumT {K : PySem.W.Frag} {a : Addr} {xs : List V} {g : TG} {tb : TS} {D : Ends} {σ : L2.St} {H : Hp} (Pv : Nat → L2.St → Hp → Prop) (h0 : Pv 0 σ H) (hl : ∀ i σ H, i ≤ xs.length → Pv i σ H → SqT K H a xs)
    (hs : ∀ i x σ H T, xs[i]? = some x → Pv i σ H → H T = none → g (.ref T) σ (upd H T (.tup [.int (i : Nat), x])) fun σ2 H2 => tb { D with nx := Pv (i + 1), ct := Pv (i + 1), bk := D.nx } σ2 H2) (hd : ∀ σ H, Pv xs.length σ H → D.nx σ H) :
    ∃ W : Nat → Nat → L2.St → Hp → Prop, (∃ m, W 0 m σ H) ∧ ∀ i m σ H, W i m σ H →
      ((ItT K a).stop i H ∧ D.nx σ H) ∨ ((ItT K a).go i H ∧ ∃ N : L2.St → Hp → Prop, (∀ σ' H', N σ' H' → ∃ m', m' < m ∧ W (i + 1) m' σ' H') ∧ ∀ x H', (ItT K a).yld i H x H' → g x σ H' fun σ2 H2 => tb { D with nx := N, ct := N, bk := D.nx } σ2 H2) := by
  refine ⟨fun i m σ H => m = xs.length - i ∧ i ≤ xs.length ∧ Pv i σ H, ⟨xs.length, by simp, Nat.zero_le _, h0⟩, ?_⟩
  rintro i m σ H ⟨rfl, hi, p⟩
  have q := hl i σ H hi p
  rcases Nat.lt_or_ge i xs.length with lt | ge
  · refine .inr ⟨⟨xs, xs[i], q, List.getElem?_eq_getElem lt⟩, Pv (i + 1), fun σ' H' p' => ⟨xs.length - (i + 1), by omega, rfl, lt, p'⟩, fun v H' y => ?_⟩
    obtain ⟨T, x, rfl, nT, rfl, fx⟩ := y
    exact hs i x σ H T (fx xs q) p nT
  · have e : i = xs.length := by omega
    subst e
    exact .inl ⟨⟨xs, q, rfl⟩, hd σ H p⟩
theorem r62 {n : Nat} (h : n ≤ 6) : ((2 ^ n : Nat) : Int) < 2 ^ 62 := by
  have := pow6 h
  omega
theorem l62 {n : Nat} : -(2 ^ 62) ≤ ((2 ^ n : Nat) : Int) := Int.le_trans (by decide : -(2 ^ 62) ≤ (0 : Int)) (Int.natCast_nonneg _)
end XT
/-! draws within comprehensions; the lots that the law draws -/
namespace XT
open PySem PySem.Spec PyProof.Rows L2
/-- the stream's time goes on, all else stays -/
structure Step (S : Sm) (H : Hp) (t : Int) (H' : Hp) (t' : Int) (n : Nat) : Prop where
  keep : Keep S H H'
  st : Strm S H' t'
  lo : t ≤ t'
  hi : t' ≤ t + n
def spDrawN : Sp := fun vs H Q _ => ∃ (S : Sm) (t : Int) (m : Nat), vs = [.ref S.s, .int (m : Int)] ∧ Strm S H t ∧ 0 < m ∧ m ≤ 1000 ∧ t < 100000000 ∧
  ∀ (H' : Hp) (r : Nat) (t' : Int), Step S H t H' t' 1 → r < m → Q (.int (r : Int)) H'
theorem drawN {P : Program} {w : World} {K : PySem.W.Frag} {mg : Str → Option Value} {base : Heap} {k : Nat} {x : Str} (D : DefR P w K mg base k x spDraw) : DefR P w K mg base k x spDrawN := by
  obtain ⟨f, F, h1, h2⟩ := D
  refine ⟨f, F.imp fun vs H Q E ⟨S, t, m, ev, st, m0, m1, t1, q⟩ => ⟨S, t, m, ev, st, by omega, by omega, by omega, fun H' r t' k s a b r0 r1 => ?_⟩, h1, h2⟩
  obtain ⟨n, rfl⟩ := Int.eq_ofNat_of_zero_le r0
  exact q H' n t' ⟨k, s, a, b⟩ (by omega)
theorem Step.refl {S : Sm} {H : Hp} {t : Int} (h : Strm S H t) : Step S H t H t 0 := ⟨Keep.refl S H, h, Int.le_refl _, by omega⟩
theorem Step.trans {S : Sm} {H H1 H2 : Hp} {t t1 t2 : Int} {n m : Nat} (a : Step S H t H1 t1 n) (b : Step S H1 t1 H2 t2 m) : Step S H t H2 t2 (n + m) := ⟨a.keep.trans b.keep, b.st, Int.le_trans a.lo b.lo, by have := a.hi; have := b.hi; omega⟩
theorem Step.same {S : Sm} {H H1 H2 : Hp} {t t1 : Int} {n : Nat} (a : Step S H t H1 t1 n) (b : Same H1 H2) : Step S H t H2 t1 n := ⟨a.keep.trans (Keep.of b), a.st.same b, a.lo, a.hi⟩
theorem Step.mono {S : Sm} {H H1 : Hp} {t t1 : Int} {n m : Nat} (a : Step S H t H1 t1 n) (h : n ≤ m) : Step S H t H1 t1 m := ⟨a.keep, a.st, a.lo, by have := a.hi; omega⟩
section
variable {K : PySem.W.Frag} {a : Addr} {g : TG} {tt : TT} {te : TE} {vs : List Nat} {σ : L2.St} {H1 : Hp} {D : Addr} {Qd : Hp → Prop} {S : Sm} {t0 : Int} {c : Nat}
/-- what one turn must do: the stream is drawn from at most d times, and what is kept is a number below c -/
def TurnS (S : Sm) (c d : Nat) (g : TG) (tt : TT) (te : TE) (vs : List Nat) (σ : L2.St) (x : V) (H : Hp) (t : Int) : Prop :=
  ∀ (R1 : Hp → Prop) (R2 : V → Hp → Prop), (∀ H3 t3, Step S H t H3 t3 d → R1 H3) → (∀ (k : Nat) H4 t4, Step S H t H4 t4 d → k < c → R2 (.int (k : Int)) H4) →
    g x (wipe σ vs) H fun σ2 H2 => wipe σ2 vs = wipe σ vs ∧ tt σ2 H2 fun b H3 => if b = true then te σ2 H3 R2 else R1 H3
def PvS (S : Sm) (c d : Nat) (H1 : Hp) (t0 : Int) (D : Addr) (i : Nat) (H : Hp) : Prop := ∃ (ks : List Nat) (t : Int), Step S H1 t0 H t (d * i) ∧ H D = some (.lst (vm ks)) ∧ (∀ k ∈ ks, k < c) ∧ ks.length ≤ i
theorem pvs_start (st : Strm S H1 t0) (nD : H1 D = none) (d : Nat) : PvS S c d H1 t0 D 0 (upd H1 D (.lst [])) := ⟨[], t0, ((Step.refl st).same (same_new nD)).mono (Nat.zero_le _), upd_same, by simp, by simp⟩
theorem pvs_turn {d i : Nat} {x : V} {H : Hp} (st0 : Strm S H1 t0) (nD : H1 D = none) (hi : i ≤ 1000) (h : PvS S c d H1 t0 D i H) (ht : ∀ t, Step S H1 t0 H t (d * i) → TurnS S c d g tt te vs σ x H t) :
    g x (wipe σ vs) H fun σ2 H2 => wipe σ2 vs = wipe σ vs ∧ tt σ2 H2 fun b H3 =>
      if b = true then te σ2 H3 fun y H4 => ∃ acc, H4 D = some (.lst acc) ∧ acc.length < sizeLine ∧ PvS S c d H1 t0 D (i + 1) (upd H4 D (.lst (acc ++ [y]))) else PvS S c d H1 t0 D (i + 1) H3 := by
  obtain ⟨ks, t, stp, hD, hk, hl⟩ := h
  refine ht t stp _ _ (fun H3 t3 s3 => ?_) (fun k H4 t4 s4 hkc => ?_)
  · exact ⟨ks, t3, (stp.trans s3).mono (by rw [Nat.mul_succ]; exact Nat.le_refl _), s3.keep.mine st0 nD hD, hk, by omega⟩
  · have hD4 := s4.keep.mine st0 nD hD
    refine ⟨_, hD4, small64 (by rw [vm_len]; omega), ks ++ [k], t4, ?_, ?_, ?_, ?_⟩
    · have z := stp.trans s4
      have nDs : D ≠ S.s := fun e => by obtain ⟨_, h⟩ := st0; rw [e, h.hs] at nD; cases nD
      have nDp : D ≠ S.p := fun e => by obtain ⟨_, h⟩ := st0; rw [e, h.hp] at nD; cases nD
      have nDq : D ≠ S.q := fun e => by obtain ⟨_, h⟩ := st0; rw [e, h.hq] at nD; cases nD
      refine ⟨fun b o n1 n2 e => ?_, ?_, z.lo, by have := z.hi; rw [Nat.mul_succ]; exact this⟩
      · rw [upd_ne (ne_of_none e nD)]
        exact z.keep b o n1 n2 e
      · obtain ⟨big, hb⟩ := z.st
        refine ⟨big, ?_, ?_, ?_, hb.sp, hb.sq, hb.pq, hb.ne, hb.t0⟩
        · rw [upd_ne nDs.symm]; exact hb.hs
        · rw [upd_ne nDp.symm]; exact hb.hp
        · rw [upd_ne nDq.symm]; exact hb.hq
    · rw [upd_same]; unfold vm; rw [List.map_append]; rfl
    · intro j hj
      rcases List.mem_append.mp hj with hj | hj
      · exact hk j hj
      · rw [List.mem_singleton.mp hj]; exact hkc
    · rw [List.length_append]; simp; exact hl
theorem lcs_range {n d : Nat} (st0 : Strm S H1 t0) (nD : H1 D = none) (hn : n ≤ 1000) (ht : ∀ (i : Nat) H t, i < n → Step S H1 t0 H t (d * i) → TurnS S c d g tt te vs σ (.int (0 + (i : Int))) H t) (hd : ∀ H, PvS S c d H1 t0 D n H → Qd H) :
    ∃ W : Nat → Nat → Hp → Prop, (∃ m, W 0 m (upd H1 D (.lst []))) ∧ ∀ i m H, W i m H →
      ((Itr 0 n).stop i H ∧ Qd H) ∨ ((Itr 0 n).go i H ∧ ∃ Nx : Hp → Prop, (∀ H', Nx H' → ∃ m', m' < m ∧ W (i + 1) m' H') ∧ ∀ x H', (Itr 0 n).yld i H x H' → g x (wipe σ vs) H' fun σ2 H2 => wipe σ2 vs = wipe σ vs ∧ tt σ2 H2 fun b H3 =>
        if b = true then te σ2 H3 fun y H4 => ∃ acc, H4 D = some (.lst acc) ∧ acc.length < sizeLine ∧ Nx (upd H4 D (.lst (acc ++ [y]))) else Nx H3) :=
  lc_range (lo := 0) (n := n) (fun i H => PvS S c d H1 t0 D i H) (pvs_start st0 nD d) (fun i H hi h => pvs_turn st0 nD (by omega) h fun t s => ht i H t hi s) hd
theorem lcs_list {ms : List Nat} {d : Nat} (st0 : Strm S H1 t0) (nD : H1 D = none) (hA : H1 a = some (.lst (vm ms))) (as : a ≠ S.s) (ap : a ≠ S.p) (hn : ms.length ≤ 1000)
    (ht : ∀ (i : Nat) (m : Nat) H t, ms[i]? = some m → Step S H1 t0 H t (d * i) → TurnS S c d g tt te vs σ (.int (m : Int)) H t) (hd : ∀ H, PvS S c d H1 t0 D ms.length H → Qd H) :
    ∃ W : Nat → Nat → Hp → Prop, (∃ m, W 0 m (upd H1 D (.lst []))) ∧ ∀ i m H, W i m H →
      ((Itl K a).stop i H ∧ Qd H) ∨ ((Itl K a).go i H ∧ ∃ Nx : Hp → Prop, (∀ H', Nx H' → ∃ m', m' < m ∧ W (i + 1) m' H') ∧ ∀ x H', (Itl K a).yld i H x H' → g x (wipe σ vs) H' fun σ2 H2 => wipe σ2 vs = wipe σ vs ∧ tt σ2 H2 fun b H3 =>
        if b = true then te σ2 H3 fun y H4 => ∃ acc, H4 D = some (.lst acc) ∧ acc.length < sizeLine ∧ Nx (upd H4 D (.lst (acc ++ [y]))) else Nx H3) := by
  refine lc_list (xs := vm ms) (fun i H => PvS S c d H1 t0 D i H) (pvs_start st0 nD d) (fun i H _ h => ?_) (fun i x H hx h => ?_) (fun H h => ?_)
  · obtain ⟨_, _, s, _⟩ := h
    exact SqL.of (s.keep a _ as ap hA)
  · obtain ⟨m, hm, rfl⟩ := mem_vm hx
    have hi : i < ms.length := (List.getElem?_eq_some_iff.mp hm).1
    exact pvs_turn st0 nD (by omega) h fun t s => ht i m H t hm s
  · rw [vm_len] at h
    exact hd H h
end
end XT
/-! the law's own call, where no repr is under way; repr of data -/
namespace XT
open PySem PySem.Spec PyProof.Rows L2
def RunC (P : Program) (w : World) (K : PySem.W.Frag) (mg : Str → Option Value) (base : Heap) (k : Nat) (f : Addr) (sp : Sp) : Prop :=
  ∀ (s : Shared) (H : Hp) (u : Value) (v : V) (Q : VK), Room k callerA → Env0 P w K mg base callerA [] s H → RelV v u → sp [v] H Q E0 → codeAny (model P w) callerA (.call (.ref f) ⟨[u], []⟩) (CR CX0 [] P w H s Q E0) s
section
variable {P : Program} {w : World} {K : PySem.W.Frag} {mg : Str → Option Value} {base : Heap}
theorem run_law {x par : Str} {st : Stmt} {f : Addr} {fd : FuncData} {N : List Str} {k : Nat} {sp : Sp} (F : Fun K x x st f fd) (S : FnScope N [par] (defScope st))
    (hb : ∀ (kV doc pm : Value) (an : Option Addr) (cdv ct u : Value), bindArgs (PySem.W.fnOf x x (defArgs st) (defBody st) (defScope st) .none kV doc pm an cdv ct) ⟨[u], []⟩ = pure [(par, u)])
    (hbody : ∀ (cdv : Value) (s : Shared) (H : Hp) (v : V) (Q : VK), Room k (callerA.deeper (envOfC x (defScope st) s.heap.objs.size f cdv)) → sp [v] H Q E0 →
      ∃ t, PSs (cxOf CX0 P w K mg base N x (defScope st) f cdv callerA [] s H E0).nox (defBody st) t ∧ t { nx := fun _ H' => Q .non H', rt := Q } (start N [v]) H) : RunC P w K mg base (k + 1) f sp := by
  obtain ⟨oc, od, kV, doc, pm, an, cdv, ct, osl, rfl, lk, hcd⟩ := F.ex
  intro s H u v Q hr e0 rv hsp
  refine StX.run_bnd lk hcd S hr e0 (G := fun vs H2 => vs = [v] ∧ H2 = H) (fun A2 Ex Q2 h => ?_) fun s2 H2 vs ⟨ev, eH⟩ hr2 => ?_
  · rw [hb kV doc pm an cdv ct u]
    exact wpAny_pure (h s H [v] [u] e0 Un.refl rfl (fun _ _ z => z) (.cons rv .nil) rfl ⟨rfl, rfl⟩)
  · subst ev eH
    obtain ⟨t, h1, h2⟩ := hbody cdv s2 H2 v Q hr2 hsp
    exact ⟨t, h1.nox, h2⟩
/-- from the law's promise to what the row asks of its call -/
theorem law_end {mb : Str → Option Value} {k : Nat} {fa a : Addr} {sp : Sp} {s1 : Shared} {vs : List Value} {ns : List Int} (KX : K.In s1.heap) (hns : s1.heap.Ns mainGlobals mg) (hb : s1.heap.Ns builtinsNs mb)
    (hbb : ∀ x : Str, x ≠ "__name__" → mb x = bootBuiltins x) (hlim : s1.heap.NoLimit) (hg : s1.gens = #[]) (ha : s1.heap.get? a = some { cls := .type "list", data := .seq vs.toArray }) (hi : IntsAre vs ns) (hl : ns.length ≤ sizeLine)
    (hr : Room k callerA) (F : ∀ base : Heap, K.In base → base.Ns mainGlobals mg → RunC P w K mg base k fa sp) (hsp : ∀ H : Hp, SqL K H a (ns.map V.int) → sp [.ref a] H (fun v _ => v = .bl true) E0) :
    codeAny (model P w) callerA (.call (.ref fa) ⟨[.ref a], []⟩) (fun r s2 => r = .ok (.ret (.bool true)) ∧ OldK s1.heap s2.heap ∧ s2.os = s1.os ∧ AllBare s2.gens) s1 := by
  have rv : Vals (ns.map V.int) vs := vals_of_ints hi
  have nl := hi.length
  have go : ∀ H : Hp, SqL K H a (ns.map V.int) → HOk P w H s1.heap → (∀ b, H b = none ∨ (b = a ∧ K.lookup a = none ∧ ∃ o xs, H b = some (.frz o (.lst xs)))) →
      codeAny (model P w) callerA (.call (.ref fa) ⟨[.ref a], []⟩) (fun r s2 => r = .ok (.ret (.bool true)) ∧ OldK s1.heap s2.heap ∧ s2.os = s1.os ∧ AllBare s2.gens) s1 := by
    intro H hS hok hO
    have nsK : ∀ {b : Addr} {m : Str → Option Value}, s1.heap.Ns b m → (hidT s1.heap H).Ns b m := fun {b m} ⟨o, es, ep, e, d, r⟩ => by
      refine ⟨o, es, ep, hidT_get e ?_, d, r⟩
      rcases hO b with z | ⟨z, _, _⟩
      · exact z
      · rw [z, ha] at e
        cases e
        have d2 : Data.seq vs.toArray _ = Data.dict es ep := d
        cases d2
    have kb : K.In (hidT s1.heap H) := fun b o e => by
      refine hidT_get (KX b o e) ?_
      rcases hO b with z | ⟨z, y, _⟩
      · exact z
      · rw [z, y] at e; cases e
    have M : Mod K mg (hidT s1.heap H) := ⟨kb, nsK hns, ⟨mb, nsK hb, hbb⟩, let ⟨mc, h1, h2⟩ := hlim; ⟨mc, nsK h1, h2⟩⟩
    have e0 : Env0 P w K mg (hidT s1.heap H) callerA [] s1 H := ⟨rfl, M, fun b o e => of_hidT e, Nat.le_of_eq (hidT_size _ _), trivial, fun b z => absurd (show b ∈ ([] : List Addr) from z) (by simp), hok, .of_eq hg⟩
    refine codeAny_mono (F _ kb (nsK hns) s1 H (.ref a) (.ref a) _ hr e0 rfl (hsp H hS)) fun r s2 z => ?_
    match r, z with
    | .error e, z => exact z.elim
    | .ok .next, z => exact z.elim
    | .ok .brk, z => exact z.elim
    | .ok .cont, z => exact z.elim
    | .ok (.ret u), z =>
      obtain ⟨v, H2, os, bare, un, hok2, rr, q⟩ := z
      have q : v = .bl true := q
      subst q
      obtain rfl : u = Value.bool true := rr
      refine ⟨rfl, OldK.of_keep fun b o e => ?_, os, bare⟩
      rcases hO b with y | ⟨_, _, ob, xs, y⟩
      · exact un.keep b o e y (fun z => absurd (show b ∈ ([] : List Addr) from z) (by simp)) (by simp)
      · obtain ⟨g1, _⟩ := hok b _ y
        obtain ⟨g2, _⟩ := hok2 b _ (un.frzs b ob _ y)
        rw [e] at g1
        cases g1
        exact g2
  cases hk : K.lookup a with
  | some o =>
    have e := KX a o hk
    rw [ha] at e
    cases e
    exact go (fun _ => none) (.inr ⟨_, vs.toArray, _, hk, rfl, rfl, rfl, by rw [List.size_toArray, nl]; exact hl, by simpa using rv⟩) (fun b u z => nomatch z) fun _ => .inl rfl
  | none =>
    refine go (upd (fun _ => none) a (.frz { cls := .type "list", data := .seq vs.toArray } (.lst (ns.map V.int)))) (.inl (.inr ⟨_, upd_same⟩)) (fun b u z => ?_) fun b => ?_
    · by_cases e : b = a
      · subst e
        rw [upd_same] at z
        cases z
        exact ⟨ha, by rw [List.length_map]; exact hl, vs, _, rv, ha⟩
      · rw [upd_ne e] at z
        cases z
    · by_cases e : b = a
      · exact .inr ⟨e, hk, _, _, by rw [e]; exact upd_same⟩
      · exact .inl (upd_ne e)
end
theorem walk_ofC {l : PySem.W.OpenLaw} {n k : Nat} {q : Program} {loose : List Str} {XP : (Str → Option Value) → Heap → Prop} {YP : World → Heap → Prop} {d : DefRec} {K : Params → PySem.W.Frag} {sp : World → Sp}
    (hn : l.most = some n) (hn2 : n ≤ sizeLine) (hdf : d.params.defaults = []) (hr : Room k callerA) (hY : ∀ (w : World) (h : Heap), YP w h → (K w.params).In h)
    (F : ∀ (w : World) (mg : Str → Option Value) (fa : Addr) (h : Heap), (K w.params).In h → h.Ns mainGlobals mg → mg d.name = some (.ref fa) → ∀ base : Heap, (K w.params).In base → base.Ns mainGlobals mg → RunC l.prog w (K w.params) mg base k fa (sp w))
    (hsp : ∀ (w : World) (H : Hp) (a : Addr) (ns : List Int), ns.length ≤ n → SqL (K w.params) H a (ns.map V.int) → sp w [.ref a] H (fun v _ => v = .bl true) E0) :
    PySem.W.WalkO q loose XP YP l.row.toRowW d [] (fun f vs => PySem.call f vs) :=
  Att.attach_call hn hdf fun w s0 s1 mg mb fa o pm cd doc a vs ns G Y ho hd hcd hmg hobj hints hlen hg =>
    law_end (hY w _ Y) G.T.g G.T.b G.T.builtins G.T.nolimit hg hobj hints (Nat.le_trans hlen hn2) hr (F w mg fa _ (hY w _ Y) G.T.g hmg) fun H hS => hsp w H a ns hlen hS
/-! repr -/
section
variable {X : Cx}
def rRepr (K : PySem.W.Frag) : List V → Hp → VK → Prop := fun xs H Q => ∃ (a : Addr) (d : PyData), xs = [.ref a] ∧ Dp K H (.ref a) d ∧ SeqAt.shaped d = true ∧ d.showable = true ∧ d.shown.length ≤ sizeLine ∧ Q (.str d.shown) H
theorem cr_repr (hg : X.A.guards = some []) (hu : X.A.units + 128 < cLine) : CallR X (.builtin "repr") (rRepr X.K) := by
  intro pins s σ H xs us Q I r h
  obtain ⟨a, d, rfl, hd, hs, hw, hz, q⟩ := h
  rw [Vals.ref1 r]
  obtain ⟨as, rd⟩ := Dp.reads I d (.ref a) (.ref a) hd rfl
  have nd : d.hasDict = false := PyData.hasDict_of_canLay d (SeqAt.canLay_of_shaped hs)
  have dp := SeqAt.depth_of_shaped hs
  refine repr_of_reads' rd hw (PyData.noDict_hsm nd) hg (by omega) (fun _ _ e => e) (fun h2 u tk k => ?_) hz
  exact ⟨.str d.shown, H, I.kept (t' := tk) k, ⟨u, rfl⟩, q⟩
end
end XT
/-! how long data are when shown -/
namespace XT
open PySem PySem.Spec PyProof.Rows L2
structure Shw (d : PyData) (n k : Nat) : Prop where
  lay : PyData.canLay0 d = true
  dep : PyData.depth d ≤ k
  shw : PyData.showable d = true
  len : (PyData.shown d).length ≤ n
structure ShwAll (ds : List PyData) (n k : Nat) : Prop where
  lay : PyData.canLayAll0 ds = true
  dep : PyData.depthAll ds ≤ k
  shw : PyData.showableAll ds = true
  len : ((PyData.shownAll ds).map (·.length)).sum + 2 * (PyData.shownAll ds).length ≤ n
theorem ShwAll.nil {k : Nat} : ShwAll [] 0 k := ⟨rfl, Nat.zero_le _, rfl, Nat.le_refl _⟩
theorem ShwAll.cons {d : PyData} {ds : List PyData} {n m k : Nat} (h : Shw d n k) (t : ShwAll ds m k) : ShwAll (d :: ds) (n + 2 + m) k := by
  refine ⟨?_, ?_, ?_, ?_⟩
  · simp only [PyData.canLayAll0, h.lay, t.lay, Bool.and_self]
  · simp only [PyData.depthAll]
    exact Nat.max_le.mpr ⟨h.dep, t.dep⟩
  · simp only [PyData.showableAll, h.shw, t.shw, Bool.and_self]
  · have h1 := h.len
    have h2 := t.len
    simp only [PyData.shownAll, List.map_cons, List.sum_cons, List.length_cons]
    omega
theorem Shw.mono {d : PyData} {n m k j : Nat} (h : Shw d n k) (a : n ≤ m) (b : k ≤ j) : Shw d m j := ⟨h.lay, Nat.le_trans h.dep b, h.shw, Nat.le_trans h.len a⟩
theorem ShwAll.mono {d : List PyData} {n m k j : Nat} (h : ShwAll d n k) (a : n ≤ m) (b : k ≤ j) : ShwAll d m j := ⟨h.lay, Nat.le_trans h.dep b, h.shw, Nat.le_trans h.len a⟩
theorem ShwAll.list {ds : List PyData} {n k : Nat} (h : ShwAll ds n k) : Shw (.list ds) (n + 3) (k + 1) := by
  refine ⟨by simpa only [PyData.canLay0] using h.lay, ?_, by simpa only [PyData.showable] using h.shw, ?_⟩
  · simp only [PyData.depth]
    have := h.dep
    omega
  · simp only [PyData.shown]
    have := listText_len_le (PyData.shownAll ds)
    have := h.len
    omega
theorem ShwAll.tuple {ds : List PyData} {n k : Nat} (h : ShwAll ds n k) : Shw (.tuple ds) (n + 3) (k + 1) := by
  refine ⟨by simpa only [PyData.canLay0] using h.lay, ?_, by simpa only [PyData.showable] using h.shw, ?_⟩
  · simp only [PyData.depth]
    have := h.dep
    omega
  · simp only [PyData.shown]
    have := tupleText_len_le (PyData.shownAll ds)
    have := h.len
    omega
theorem shw_nat {m : Nat} (h : m < 1000000) : Shw (.int (m : Int)) 13 0 := by
  refine ⟨rfl, Nat.le_refl _, ?_, PyData.shown_int_le (by omega)⟩
  show decide ((m : Int).natAbs.log2 < 1920) = true
  rw [decide_eq_true_iff, Int.natAbs_natCast]
  by_cases h0 : m = 0
  · subst h0; decide
  · exact Nat.lt_of_lt_of_le ((Nat.log2_lt h0).mpr (show m < 2 ^ 20 by omega)) (by decide)
theorem shw_nats : ∀ {ms : List Nat}, (∀ m ∈ ms, m < 1000000) → ShwAll (ms.map fun (m : Nat) => PyData.int (m : Int)) (15 * ms.length) 0
  | [], _ => ShwAll.nil
  | m :: ms, h => by
    have := ShwAll.cons (shw_nat (h m List.mem_cons_self)) (shw_nats (ms := ms) fun x hx => h x (List.mem_cons_of_mem _ hx))
    exact this.mono (by rw [List.length_cons]; omega) (Nat.le_refl _)
theorem shw_lot {n : Nat} (hn : n ≤ 6) (p : Nat → Bool) : Shw (dLot n p) 1000 2 := by
  have h6 := pow6 (w := n) hn
  have hl := lot_len hn p
  have h := (shw_nats (ms := lotOf n p) fun m hm => by have := (mem_lot.mp hm).1; omega).tuple
  have := (ShwAll.cons ((shw_nat (m := n) (by omega)).mono (Nat.le_refl _) (Nat.zero_le 1)) (ShwAll.cons (h.mono (Nat.le_refl _) (by omega)) ShwAll.nil)).tuple
  exact this.mono (by omega) (by omega)
theorem shw_width (i : Nat) (h : i < 1000000) : Shw (.list [.str "width", .int (i : Int)]) 1000 2 := by
  have hs : Shw (.str "width") 10 0 := ⟨by decide +kernel, Nat.le_refl _, rfl, by decide +kernel⟩
  exact (ShwAll.cons hs (ShwAll.cons (shw_nat h) ShwAll.nil)).list.mono (by omega) (by omega)
theorem shw_two {a b : PyData} {n m k : Nat} (ha : Shw a n k) (hb : Shw b m k) : Shw (.list [a, b]) (n + m + 7) (k + 1) := (ShwAll.cons ha (ShwAll.cons hb ShwAll.nil)).list.mono (by omega) (by omega)
theorem Shw.shaped {d : PyData} {n k : Nat} (hs : Shw d n k) (hk : k ≤ 64) : SeqAt.shaped d = true := by
  unfold SeqAt.shaped
  rw [hs.lay, decide_eq_true (Nat.le_trans hs.dep hk)]
  rfl
theorem Shw.sz {d : PyData} {n k : Nat} (hs : Shw d n k) (hn : n ≤ 10000000) : d.shown.length ≤ sizeLine := by
  rw [sizeLine_eq]
  have := hs.len
  omega
end XT
/-! lots with their widths; a comprehension of drawn lots; when two lots are equal -/
namespace XT
open PySem PySem.Spec PyProof.Rows L2
abbrev rXor : R2 := rI0 fun i j => .int (Builtin.bitXor i j)
/-- f(..) by its promise, as pe_def reads it -/
abbrev tDf (sp : Sp) (t : TA) : TE := fun σ H Q => t σ H fun vs H1 => sp vs H1 Q E0
structure Lt where
  v : V
  n : Nat
  p : Nat → Bool
def LtAt (H : Hp) (l : Lt) : Prop := LotAt H l.v l.n l.p ∧ 1 ≤ l.n ∧ l.n ≤ 6
theorem LtAt.same {H H' : Hp} {l : Lt} (h : LtAt H l) (e : Same H H') : LtAt H' l := ⟨h.1.same e, h.2⟩
theorem lt_keep {S : Sm} {H H' : Hp} {t : Int} {l : Lt} (h : LtAt H l) (k : Keep S H H') (st : Strm S H t) : LtAt H' l := ⟨h.1.keep k st, h.2⟩
theorem at_ne' {H : Hp} {a b : Addr} {x y : HO} (h1 : H a = some x) (h2 : H b = some y) (n : x ≠ y) : b ≠ a := fun e => by
  rw [e, h1] at h2
  exact n (Option.some.inj h2)
theorem lot_upd {H : Hp} {R : Addr} {xs ys : List V} {v : V} {n : Nat} {p : Nat → Bool} (hR : H R = some (.lst xs)) (h : LotAt H v n p) : LotAt (upd H R (.lst ys)) v n p := by
  obtain ⟨x, y, rfl, hx, hy⟩ := h
  exact ⟨x, y, rfl, by rw [upd_ne (at_ne' hR hx (by simp))]; exact hx, by rw [upd_ne (at_ne' hR hy (by simp))]; exact hy⟩
theorem strm_upd {S : Sm} {H : Hp} {t : Int} {R : Addr} {o : HO} (h : Strm S H t) (n1 : R ≠ S.s) (n2 : R ≠ S.p) (n3 : R ≠ S.q) : Strm S (upd H R o) t := by
  obtain ⟨big, s⟩ := h
  exact ⟨big, by rw [upd_ne (Ne.symm n1)]; exact s.hs, by rw [upd_ne (Ne.symm n2)]; exact s.hp, by rw [upd_ne (Ne.symm n3)]; exact s.hq, s.sp, s.sq, s.pq, s.ne, s.t0⟩
theorem strm_ne {S : Sm} {H : Hp} {t : Int} {R : Addr} (h : Strm S H t) (n : H R = none) : R ≠ S.s ∧ R ≠ S.p ∧ R ≠ S.q := by
  obtain ⟨big, s⟩ := h
  exact ⟨(ne_of_none s.hs n).symm, (ne_of_none s.hp n).symm, (ne_of_none s.hq n).symm⟩
mutual
theorem Dp_same {K : PySem.W.Frag} {H H' : Hp} (e : Same H H') : ∀ {v : V} {d : PyData}, Dp K H v d → Dp K H' v d
  | _, _, .non => .non
  | _, _, .bl b => .bl b
  | _, _, .int i => .int i
  | _, _, .str x => .str x
  | _, _, .lst h a => .lst (e.seq h) (DpAll_same e a)
  | _, _, .tup h a => .tup (Same.sqT e h) (DpAll_same e a)
theorem DpAll_same {K : PySem.W.Frag} {H H' : Hp} (e : Same H H') : ∀ {vs : List V} {ds : List PyData}, DpAll K H vs ds → DpAll K H' vs ds
  | _, _, .nil => .nil
  | _, _, .cons h a => .cons (Dp_same e h) (DpAll_same e a)
end
/-! a list of one's own is changed: what was there before it is still there -/
theorem same_upd {H0 H : Hp} {R : Addr} {o : HO} (h : Same H0 H) (n : H0 R = none) : Same H0 (upd H R o) := fun b x e => by
  rw [upd_ne (ne_of_none e n)]
  exact h b x e
/-! tuples of masks -/
def TupAt (H : Hp) (v : V) (ms : List Nat) : Prop := ∃ q, v = .ref q ∧ H q = some (.tup (vm ms))
theorem TupAt.same {H H' : Hp} {v : V} {ms : List Nat} (h : TupAt H v ms) (e : Same H H') : TupAt H' v ms := by
  obtain ⟨q, rfl, h⟩ := h
  exact ⟨q, rfl, e _ _ h⟩
theorem TupAt.dp {K : PySem.W.Frag} {H : Hp} {v : V} {ms : List Nat} (h : TupAt H v ms) : Dp K H v (.tuple (ms.map fun (m : Nat) => .int (m : Int))) := by
  obtain ⟨q, rfl, h⟩ := h
  exact .tup (SqT.of h) (dpVm _)
theorem shw_tup {n : Nat} (hn : n ≤ 6) (p : Nat → Bool) : Shw (.tuple ((lotOf n p).map fun (m : Nat) => PyData.int (m : Int))) 1000 1 := by
  have h6 := pow6 (w := n) hn
  have hl := lot_len hn p
  have h := (shw_nats (ms := lotOf n p) fun m hm => by have := (mem_lot.mp hm).1; omega).tuple
  exact h.mono (by omega) (by omega)
/-! when two lists of numbers, two lots are equal -/
theorem eqv_nats : ∀ ms ks : List Nat, PyData.eqvAll (ms.map fun (m : Nat) => PyData.int (m : Int)) (ks.map fun (m : Nat) => PyData.int (m : Int)) = decide (ms = ks)
  | [], [] => rfl
  | [], k :: ks => by simp [PyData.eqvAll]
  | m :: ms, [] => by simp [PyData.eqvAll]
  | m :: ms, k :: ks => by
    have h := eqv_nats ms ks
    simp only [List.map_cons, PyData.eqvAll, PyData.eqv, h]
    rw [Bool.eq_iff_iff]
    simp only [Bool.and_eq_true, decide_eq_true_iff, beq_iff_eq, List.cons.injEq]
    constructor
    · rintro ⟨a, b⟩
      exact ⟨by omega, b⟩
    · rintro ⟨a, b⟩
      exact ⟨by omega, b⟩
theorem lot_eq_iff {n : Nat} {p r : Nat → Bool} : lotOf n p = lotOf n r ↔ ∀ m, m < 2 ^ n → p m = r m := by
  refine ⟨fun h m hm => ?_, lot_congr⟩
  have h2 : m ∈ lotOf n p ↔ m ∈ lotOf n r := by rw [h]
  rw [mem_lot, mem_lot] at h2
  rw [Bool.eq_iff_iff]
  exact ⟨fun z => (h2.mp ⟨hm, z⟩).2, fun z => (h2.mpr ⟨hm, z⟩).2⟩
theorem eqv_lots (n : Nat) (p r : Nat → Bool) : PyData.eqv (dLot n p) (dLot n r) = decide (∀ m, m < 2 ^ n → p m = r m) := by
  simp only [dLot, PyData.eqv, PyData.eqvAll, eqv_nats]
  rw [Bool.eq_iff_iff]
  simp [lot_eq_iff]
/-- what one turn must do: the stream is drawn from at most d times, and what is kept is a lot -/
def TurnL (S : Sm) (d : Nat) (g : TG) (tt : TT) (te : TE) (vs : List Nat) (σ : L2.St) (x : V) (H : Hp) (t : Int) : Prop :=
  ∀ (R1 : Hp → Prop) (R2 : V → Hp → Prop), (∀ (l : Lt) H4 t4, Step S H t H4 t4 d → LtAt H4 l → R2 l.v H4) →
    g x (wipe σ vs) H fun σ2 H2 => wipe σ2 vs = wipe σ vs ∧ tt σ2 H2 fun b H3 => if b = true then te σ2 H3 R2 else R1 H3
def PvL (S : Sm) (d : Nat) (H1 : Hp) (t0 : Int) (D : Addr) (i : Nat) (H : Hp) : Prop := ∃ (ls : List Lt) (t : Int), Step S H1 t0 H t (d * i) ∧ H D = some (.lst (ls.map (·.v))) ∧ (∀ l ∈ ls, LtAt H l) ∧ ls.length = i
theorem lcl_range {g : TG} {tt : TT} {te : TE} {vs : List Nat} {σ : L2.St} {H1 : Hp} {D : Addr} {Qd : Hp → Prop} {S : Sm} {t0 : Int} {n d : Nat} (st0 : Strm S H1 t0) (nD : H1 D = none) (hn : n ≤ 1000)
    (ht : ∀ (i : Nat) H t, i < n → Step S H1 t0 H t (d * i) → TurnL S d g tt te vs σ (.int (0 + (i : Int))) H t) (hd : ∀ H, PvL S d H1 t0 D n H → Qd H) :
    ∃ W : Nat → Nat → Hp → Prop, (∃ m, W 0 m (upd H1 D (.lst []))) ∧ ∀ i m H, W i m H →
      ((Itr 0 n).stop i H ∧ Qd H) ∨ ((Itr 0 n).go i H ∧ ∃ Nx : Hp → Prop, (∀ H', Nx H' → ∃ m', m' < m ∧ W (i + 1) m' H') ∧ ∀ x H', (Itr 0 n).yld i H x H' → g x (wipe σ vs) H' fun σ2 H2 => wipe σ2 vs = wipe σ vs ∧ tt σ2 H2 fun b H3 =>
        if b = true then te σ2 H3 fun y H4 => ∃ acc, H4 D = some (.lst acc) ∧ acc.length < sizeLine ∧ Nx (upd H4 D (.lst (acc ++ [y]))) else Nx H3) := by
  refine lc_range (lo := 0) (n := n) (fun i H => PvL S d H1 t0 D i H) ⟨[], t0, ((Step.refl st0).same (same_new nD)).mono (Nat.zero_le _), upd_same, by simp, rfl⟩ (fun i H hi h => ?_) hd
  obtain ⟨ls, t, stp, hD, hall, hl⟩ := h
  refine ht i H t hi stp _ _ (fun l H4 t4 s4 hl4 => ?_)
  have hD4 := s4.keep.mine st0 nD hD
  refine ⟨_, hD4, small64 (by rw [List.length_map]; omega), ls ++ [l], t4, ?_, ?_, ?_, ?_⟩
  · have z := stp.trans s4
    obtain ⟨nDs, nDp, nDq⟩ := strm_ne st0 nD
    refine ⟨fun b o n1 n2 e => ?_, strm_upd z.st nDs nDp nDq, z.lo, by have := z.hi; rw [Nat.mul_succ]; exact this⟩
    rw [upd_ne (ne_of_none e nD)]
    exact z.keep b o n1 n2 e
  · rw [upd_same, List.map_append]; rfl
  · intro j hj
    have h6 : LtAt H4 j := by
      rcases List.mem_append.mp hj with hj | hj
      · exact lt_keep (hall j hj) s4.keep stp.st
      · rw [List.mem_singleton.mp hj]; exact hl4
    exact ⟨lot_upd hD4 h6.1, h6.2⟩
  · rw [List.length_append, hl]; rfl
end XT
/-! more of lots, of lists and tuples of masks -/
namespace XT
open PySem PySem.Spec PyProof.Rows L2
theorem bList : bootBuiltins "list" = some (.type "list") := by decide +kernel
theorem bSum : bootBuiltins "sum" = some (.builtin "sum") := by decide +kernel
theorem bMin : bootBuiltins "min" = some (.builtin "min") := by decide +kernel
theorem bMax : bootBuiltins "max" = some (.builtin "max") := by decide +kernel
theorem lot_none (n : Nat) : lotOf n (fun _ => false) = [] := by
  unfold lotOf
  rw [List.filter_eq_nil_iff]
  intro m _
  decide
theorem lot_nil_iff {n : Nat} {p : Nat → Bool} : lotOf n p = [] ↔ ∀ m, m < 2 ^ n → p m = false := by
  unfold lotOf
  rw [List.filter_eq_nil_iff]
  simp
theorem range_lot (n : Nat) : rgV 0 ((2 ^ n : Nat) : Int) = vm (lotOf n fun _ => true) := by
  unfold rgV vm lotOf
  rw [List.filter_eq_self.mpr (fun _ _ => rfl), Int.sub_zero]
  show List.map (fun (i : Nat) => V.int (0 + (i : Int))) (List.range (2 ^ n)) = _
  exact List.map_congr_left fun m _ => by rw [Int.zero_add]
theorem lot_take {n : Nat} {p : Nat → Bool} {i : Nat} (hi : i < 2 ^ n) : ((List.range (2 ^ n)).take (i + 1)).filter p = ((List.range (2 ^ n)).take i).filter p ++ (if p i = true then [i] else []) := by
  have h := take_one (id : Nat → Nat) p (xs := List.range (2 ^ n)) (i := i) (x := i) (List.getElem?_range hi)
  simpa using h
theorem nats_shaped (ns : List Nat) : SeqAt.shaped (.list (ns.map fun (m : Nat) => PyData.int (m : Int))) = true := by
  have h := ke_shaped (ns.map fun (m : Nat) => (m : Int))
  rw [List.map_map] at h
  exact h
theorem tupN_shaped (ms : List Nat) : SeqAt.shaped (.tuple (ms.map fun (m : Nat) => PyData.int (m : Int))) = true := by
  have h1 : PyData.canLay0 (.tuple (ms.map fun (m : Nat) => PyData.int (m : Int))) = true := by
    have h := ints_lay ms
    simp [PyData.canLay0, h]
  have h2 : PyData.depth (.tuple (ms.map fun (m : Nat) => PyData.int (m : Int))) ≤ 64 := by
    have h := ints_depth ms
    simp only [PyData.depth]
    omega
  unfold SeqAt.shaped
  rw [h1, decide_eq_true h2]
  rfl
theorem eqv_lstN (ms ks : List Nat) : PyData.eqv (.list (ms.map fun (m : Nat) => PyData.int (m : Int))) (.list (ks.map fun (m : Nat) => PyData.int (m : Int))) = decide (ms = ks) := by
  have h := eqv_nats ms ks
  simpa [PyData.eqv] using h
theorem eqv_tupN (ms ks : List Nat) : PyData.eqv (.tuple (ms.map fun (m : Nat) => PyData.int (m : Int))) (.tuple (ks.map fun (m : Nat) => PyData.int (m : Int))) = decide (ms = ks) := by
  have h := eqv_nats ms ks
  simpa [PyData.eqv] using h
theorem eqv_nilN (ms : List Nat) : PyData.eqv (.list (ms.map fun (m : Nat) => PyData.int (m : Int))) (.list []) = decide (ms = []) := eqv_lstN ms []
/-- a list of masks -/
def LsN (H : Hp) (v : V) (ms : List Nat) : Prop := ∃ q, v = .ref q ∧ H q = some (.lst (vm ms))
theorem LsN.same {H H' : Hp} {v : V} {ms : List Nat} (h : LsN H v ms) (e : Same H H') : LsN H' v ms := by
  obtain ⟨q, rfl, h⟩ := h
  exact ⟨q, rfl, e _ _ h⟩
theorem LsN.dp {K : PySem.W.Frag} {H : Hp} {v : V} {ms : List Nat} (h : LsN H v ms) : Dp K H v (.list (ms.map fun (m : Nat) => .int (m : Int))) := by
  obtain ⟨q, rfl, h⟩ := h
  exact .lst (SqL.of h) (dpVm _)
/-- a != b of tuples, of lists of masks -/
theorem ne_tupN {K : PySem.W.Frag} {H : Hp} {x y : V} {ms ks : List Nat} {Q : VK} (hx : TupAt H x ms) (hy : TupAt H y ks) (q : Q (.bl (!decide (ms = ks))) H) : rNeD K x y H Q := by
  refine ⟨_, _, hx.dp, hy.dp, tupN_shaped _, tupN_shaped _, ?_⟩
  rw [eqv_tupN]
  exact q
theorem eq_tupN {K : PySem.W.Frag} {H : Hp} {x y : V} {ms ks : List Nat} {Q : VK} (hx : TupAt H x ms) (hy : TupAt H y ks) (q : Q (.bl (decide (ms = ks))) H) : rEqD K x y H Q := by
  refine ⟨_, _, hx.dp, hy.dp, tupN_shaped _, tupN_shaped _, ?_⟩
  rw [eqv_tupN]
  exact q
theorem ne_lstN {K : PySem.W.Frag} {H : Hp} {x y : V} {ms ks : List Nat} {Q : VK} (hx : LsN H x ms) (hy : LsN H y ks) (q : Q (.bl (!decide (ms = ks))) H) : rNeD K x y H Q := by
  refine ⟨_, _, hx.dp, hy.dp, nats_shaped _, nats_shaped _, ?_⟩
  rw [eqv_lstN]
  exact q
theorem eq_lstN {K : PySem.W.Frag} {H : Hp} {x y : V} {ms ks : List Nat} {Q : VK} (hx : LsN H x ms) (hy : LsN H y ks) (q : Q (.bl (decide (ms = ks))) H) : rEqD K x y H Q := by
  refine ⟨_, _, hx.dp, hy.dp, nats_shaped _, nats_shaped _, ?_⟩
  rw [eqv_lstN]
  exact q
theorem ne_lots {K : PySem.W.Frag} {H : Hp} {x y : V} {w : Nat} {P P' : Nat → Bool} {Q : VK} (hx : LotAt H x w P) (hy : LotAt H y w P') (q : Q (.bl (!decide (∀ m, m < 2 ^ w → P m = P' m))) H) : rNeD K x y H Q := by
  refine ⟨_, _, hx.dp, hy.dp, dLot_shaped _ _, dLot_shaped _ _, ?_⟩
  rw [eqv_lots]
  exact q
theorem eq_lots {K : PySem.W.Frag} {H : Hp} {x y : V} {w : Nat} {P P' : Nat → Bool} {Q : VK} (hx : LotAt H x w P) (hy : LotAt H y w P') (q : Q (.bl (decide (∀ m, m < 2 ^ w → P m = P' m))) H) : rEqD K x y H Q := by
  refine ⟨_, _, hx.dp, hy.dp, dLot_shaped _ _, dLot_shaped _ _, ?_⟩
  rw [eqv_lots]
  exact q
theorem nodup_lot (n : Nat) (p : Nat → Bool) : (lotOf n p).Nodup := by
  unfold lotOf
  exact List.Pairwise.filter _ (List.nodup_range)
theorem nodup_xor (a : Nat) {l : List Nat} (h : l.Nodup) : (l.map fun (m : Nat) => ((m ^^^ a : Nat) : Int)).Nodup := by
  unfold List.Nodup at h ⊢
  rw [List.pairwise_map]
  refine h.imp fun {x y} hxy e => hxy ?_
  have e2 : x ^^^ a = y ^^^ a := by omega
  have e3 := congrArg (· ^^^ a) e2
  simpa [Nat.xor_assoc] using e3
theorem xor_back (m a : Nat) : m ^^^ a ^^^ a = m := by rw [Nat.xor_assoc, Nat.xor_self, Nat.xor_zero]
/-- sorted([x ^ a for x in lot]) -/
theorem sort_xor {n a : Nat} {p : Nat → Bool} {ns : List Int} (ha : a < 2 ^ n) (perm : ns.Perm ((lotOf n p).map fun (m : Nat) => ((m ^^^ a : Nat) : Int))) (asc : ns.Pairwise (· ≤ ·)) : ns.map V.int = vm (lotOf n fun m => p (m ^^^ a)) := by
  have nd : ns.Nodup := by
    rw [perm.nodup_iff]
    exact nodup_xor a (nodup_lot n p)
  refine rising_lot (lt_of_le_nodup ns asc nd) fun k => ?_
  rw [perm.mem_iff, List.mem_map]
  constructor
  · rintro ⟨m, hm, rfl⟩
    obtain ⟨h1, h2⟩ := mem_lot.mp hm
    exact ⟨m ^^^ a, rfl, xor_lt h1 ha, by rw [xor_back]; exact h2⟩
  · rintro ⟨m, rfl, h1, h2⟩
    exact ⟨m ^^^ a, mem_lot.mpr ⟨xor_lt h1 ha, h2⟩, by rw [xor_back]⟩
theorem iteNT {A B : Prop} {b : Bool} (h : b = false) (x : B) : if b = true then A else B := by rw [h]; exact x
end XT
/-! cuts and sums of tuples -/
namespace XT
open PySem PySem.Spec PyProof.Rows L2
section
variable {X : Cx}
theorem cutV_whole {xs : List V} {lo hi : Option Int} (h : HT.sIx xs.length 0 lo = 0 ∧ HT.sIx xs.length xs.length hi = xs.length) : cutV xs lo hi = xs := by
  unfold cutV
  rw [h.1, h.2, List.drop_zero, Nat.sub_zero, List.take_length]
/-- a cut of a tuple, the same one or a new one -/
def rSlU (K : PySem.W.Frag) : V → Option Int → Option Int → Hp → VK → Prop := fun x lo hi H Q => ∃ a xs, x = .ref a ∧ SqT K H a xs ∧ ∀ H' p, Same H H' → SqT K H' p (cutV xs lo hi) → Q (.ref p) H'
theorem sl_tupU : SlR X (rSlU X.K) := by
  intro pins s σ H x v vl vu lo hi sl Q I rx hs pl pu h
  obtain ⟨a, xs, rfl, hx, q⟩ := h
  refine sl_tupA pins s σ H _ v vl vu lo hi sl Q I rx hs pl pu ⟨a, xs, rfl, hx, fun hw => q H a (Same.refl H) (by rw [cutV_whole hw]; exact hx), fun _ p np => q _ p (same_new np) (SqT.of upd_same)⟩
/-- t + u -/
def rCatU (K : PySem.W.Frag) : R2 := fun x y H Q => ∃ a b xs ys, x = .ref a ∧ y = .ref b ∧ SqT K H a xs ∧ SqT K H b ys ∧ xs.length + ys.length ≤ sizeLine ∧ ∀ H' p, Same H H' → SqT K H' p (xs ++ ys) → Q (.ref p) H'
theorem op_catU : OpR X (binaryOp .Add) (rCatU X.K) := by
  intro pins s σ H x y v u Q I rx ry h
  obtain ⟨a, b, xs, ys, rfl, rfl, ha, hb, hz, q⟩ := h
  refine op_catA pins s σ H _ _ v u Q I rx ry ⟨a, b, xs, ys, rfl, rfl, ha, hb, hz, fun e => q H b (Same.refl H) (by rw [e]; exact hb), fun _ e => q H a (Same.refl H) (by rw [e, List.append_nil]; exact ha), fun _ _ p np => q _ p (same_new np) (SqT.of upd_same)⟩
end
end XT
/-! set(t), t[a:b], t + u of tuples; a comprehension over a tuple, with draws -/
namespace XT
open PySem PySem.Spec PyProof.Rows L2
section
variable {P : Program} {w : World} {A : Around} {E : Value → Shared → Prop} {s : Shared}
theorem set_tupI {l : Addr} {items : Array Value} (ns : List Int) {Q : Value → Shared → Prop} (hh : A.handled = none) (hl : s.heap.IsTuple l items) (hit : IntsAre items.toList ns) (hb : ns.length + 1 < scanBound)
    (h : ∀ (hp : Heap) (tk c : Nat), SetR w hp s.heap.objs.size (fun j => decide (j ∈ ns)) c → c ≤ ns.length → (∀ b o, s.heap.get? b = some o → hp.get? b = some o) → Q (.ref s.heap.objs.size) { s with heap := hp, toks := tk }) :
    wpAny (model P w) A (call (.type "set") [.ref l]) Q E s := by
  have hz : items.size = ns.length := by
    have e := IntsAre.length hit
    rwa [Array.length_toList] at e
  obtain ⟨mc, mt, m0⟩ := F.called_set.mro
  have m1 := F.called_set.made
  have m2 := F.called_set.sub
  have m3 := F.called_set.notType
  have m4 := F.called_set.canCreate
  have m5 := F.typeCall_set_1 (.ref l)
  refine wpAny_call (codeAny_of_tree ?_)
  show wpAny _ _ (callAny (.type "set") _) _ _ _
  refine wpAny_pure ⟨Code.quiet_builtin _ (by decide +kernel), codeAny_builtin F.entry_type_call ?_⟩
  rw [Around.under_plain (weight_type_call_type "set" [.ref l] []) rfl]
  repeat (any_goals (first | assumption | wp_step))
  refine codeAny_mono (code_set_led1 (.ref l) (E := E) (Q₁ := fun v s1 => v = .ref s.heap.objs.size ∧ s1 = withS w s) ⟨rfl, rfl⟩) fun r s1 hr => ?_
  match r, hr with
  | .error e, hr => exact hr
  | .ok .next, hr => exact hr.elim
  | .ok .brk, hr => exact hr.elim
  | .ok .cont, hr => exact hr.elim
  | .ok (.ret v), hr =>
    obtain ⟨rfl, rfl⟩ := hr
    have g0 : (s.heap.push (newS w)).get? s.heap.objs.size = some (newS w) := Heap.get?_push_size _ rfl
    have g1 : Shared.TypeIs (withS w s) (.ref s.heap.objs.size) "set" := ⟨_, g0, rfl⟩
    have g2 := F.called_set.init.lookup
    have g3 := F.called_set.init.bind (.ref s.heap.objs.size)
    repeat (any_goals (first | assumption | wp_step))
    refine codeAny_mono (codeAny_call_builtin (R := wants (afterS w s ns) E) F.called_set.init.plain F.entry_set_init (check_set_init_1 g1 ?_)) fun r2 s2 hr2 => ?_
    · obtain ⟨ol, hol, hcl, nl, hdl⟩ := hl
      obtain ⟨oc, od, odt, osl⟩ := ol
      simp only at hcl hdl
      subst hcl hdl
      have hol1 : (s.heap.push (newS w)).get? l = some { cls := .type "tuple", dict := od, data := .seq items nl, slots := osl } := Heap.get?_push_of_some _ hol
      have n1 := F.sub_tuple_set
      have n2 := F.sub_tuple_frozenset
      have n3 : (Value.type "tuple" == Value.type "dict") = false := by decide
      have hl1 : (s.heap.push (newS w)).IsTuple l items := ⟨_, hol1, rfl, nl, rfl⟩
      have lS : l < s.heap.objs.size := Heap.lt_size hol
      have z1 : (s.heap.push (newS w)).objs.size = s.heap.objs.size + 1 := Heap.size_push ..
      unfold Builtin.«set.__init__» noKeywords Builtin.Frozenset.updateFrom
      generalize hPI : pyIter = PI
      wp_walk
      subst hPI
      refine wpAny_pyIter_tuple hl1 (wpAny_bind (wpAny_runValue ?_))
      refine set_update_ints ((Walks.tuple (by simp [hh]) _ l (by rw [z1]; exact Nat.ne_of_lt (Nat.lt_succ_of_lt lS)) items).toS) s.heap.objs.size (by rw [z1]; simp only [List.mem_cons, List.not_mem_nil, or_false, not_or]; exact ⟨Nat.ne_of_lt (Nat.lt_succ_self _), Nat.ne_of_gt lS⟩) ns hz hb (items_at hit hz) (items.size - 0) 0 _ (by omega) (Nat.zero_le _)
        ⟨⟨_, Heap.get?_push_size _ rfl, rfl, rfl⟩, hl1.push _⟩ ⟨0, Nat.le_refl 0, setR_new_at (Heap.get?_push_of_some _ g0)⟩ ?_
      intro s3 c hm hc hS
      obtain ⟨h3, ge, dr, tk, os⟩ := s3
      obtain rfl : ge = s.gens := hm.gens
      obtain rfl : dr = s.drawn := hm.drawn
      obtain rfl : os = s.os := hm.os
      show wpAny _ _ _ _ _ _
      refine wpAny_pure ?_
      show wpAny _ _ (ret Value.none) _ _ _
      rw [hz] at hc
      refine wpAny_pure ⟨rfl, h3, tk, c, rfl, hS, hc, fun b o e => ?_⟩
      have b0 : b < s.heap.objs.size := Heap.lt_size e
      exact hm.heap b o (by rw [z1]; simp only [List.mem_cons, List.not_mem_nil, or_false, not_or]; exact ⟨Nat.ne_of_lt b0, Nat.ne_of_lt (Nat.lt_succ_of_lt b0)⟩) (Heap.get?_push_of_some _ (Heap.get?_push_of_some _ e))
    · match r2, hr2 with
      | .error e, hr2 => exact hr2
      | .ok .next, hr2 => exact hr2.elim
      | .ok .brk, hr2 => exact hr2.elim
      | .ok .cont, hr2 => exact hr2.elim
      | .ok (.ret v), hr2 =>
        obtain ⟨rfl, hp, tk, c, rfl, hS, hc, hk⟩ := hr2
        repeat (any_goals (first | assumption | wp_step))
        exact h _ _ _ hS hc hk
end
section
variable {X : Cx}
/-- set(t) -/
def rSetT (K : PySem.W.Frag) (w : World) : List V → Hp → VK → Prop := fun vs H Q => ∃ (a : Addr) (ns : List Int), vs = [V.ref a] ∧ SqT K H a (ns.map V.int) ∧ ns.length ≤ 1000 ∧ ∀ (p : Addr) (c : Nat), H p = none → Q (.ref p) (upd H p (SetO w p (fun j => decide (j ∈ ns)) c))
theorem cr_setT (hc : X.calm = true) : CallR X (.type "set") (rSetT X.K X.w) := by
  intro pins s σ H vs us Q I r h
  obtain ⟨a, ns, rfl, hs, hn, q⟩ := h
  obtain ⟨its, rv, hl, hz⟩ := I.tuple hs
  rw [Vals.ref1 r]
  refine set_tupI ns (I.ok.hd hc) hl (by simpa using rv.ints) (by unfold scanBound; omega) fun hp tk c hS hcn hk => ?_
  exact ⟨.ref _, _, I.laid (t' := tk) hk (Nat.le_refl _) (setO_new hS), rfl, q _ c (I.hok.fresh (Nat.le_refl _))⟩
end
/-- [m for m in t if draw ..]: some of the masks, in their order -/
theorem lcd_tup {K : PySem.W.Frag} {a : Addr} {g : TG} {tt : TT} {te : TE} {vs : List Nat} {σ : L2.St} {H1 : Hp} {D : Addr} {Qd : Hp → Prop} {S : Sm} {t0 : Int} {ms : List Nat} {d : Nat} (st0 : Strm S H1 t0) (nD : H1 D = none) (hA : H1 a = some (.tup (vm ms))) (hn : ms.length ≤ 1000)
    (ht : ∀ (i : Nat) (m : Nat) H t, ms[i]? = some m → Step S H1 t0 H t (d * i) → ∀ (R1 : Hp → Prop) (R2 : V → Hp → Prop), (∀ H3 t3, Step S H t H3 t3 d → R1 H3) → (∀ H4 t4, Step S H t H4 t4 d → R2 (.int (m : Int)) H4) →
      g (.int (m : Int)) (wipe σ vs) H fun σ2 H2 => wipe σ2 vs = wipe σ vs ∧ tt σ2 H2 fun b H3 => if b = true then te σ2 H3 R2 else R1 H3)
    (hd : ∀ H ks t, Step S H1 t0 H t (d * ms.length) → H D = some (.lst (vm ks)) → ks.Sublist ms → Qd H) :
    ∃ W : Nat → Nat → Hp → Prop, (∃ m, W 0 m (upd H1 D (.lst []))) ∧ ∀ i m H, W i m H →
      ((Itt K a).stop i H ∧ Qd H) ∨ ((Itt K a).go i H ∧ ∃ Nx : Hp → Prop, (∀ H', Nx H' → ∃ m', m' < m ∧ W (i + 1) m' H') ∧ ∀ x H', (Itt K a).yld i H x H' → g x (wipe σ vs) H' fun σ2 H2 => wipe σ2 vs = wipe σ vs ∧ tt σ2 H2 fun b H3 =>
        if b = true then te σ2 H3 fun y H4 => ∃ acc, H4 D = some (.lst acc) ∧ acc.length < sizeLine ∧ Nx (upd H4 D (.lst (acc ++ [y]))) else Nx H3) := by
  refine lc_tup (xs := vm ms) (fun i H => ∃ (ks : List Nat) (t : Int), Step S H1 t0 H t (d * i) ∧ H D = some (.lst (vm ks)) ∧ ks.Sublist (ms.take i)) ⟨[], t0, ((Step.refl st0).same (same_new nD)).mono (Nat.zero_le _), upd_same, by simp⟩ (fun i H _ h => ?_) (fun i x H hx h => ?_) (fun H h => ?_)
  · obtain ⟨_, _, s, _⟩ := h
    exact SqT.of (s.keep.tup st0 hA)
  · obtain ⟨m, hm, rfl⟩ := mem_vm hx
    have hi : i < ms.length := (List.getElem?_eq_some_iff.mp hm).1
    obtain ⟨ks, t, stp, hD, hk⟩ := h
    have hkl : ks.length ≤ i := by
      have h1 := hk.length_le
      rw [List.length_take] at h1
      omega
    refine ht i m H t hm stp _ _ (fun H3 t3 s3 => ?_) (fun H4 t4 s4 => ?_)
    · refine ⟨ks, t3, (stp.trans s3).mono (by rw [Nat.mul_succ]; exact Nat.le_refl _), s3.keep.mine st0 nD hD, ?_⟩
      rw [List.take_add_one]
      exact hk.trans (List.sublist_append_left _ _)
    · have hD4 := s4.keep.mine st0 nD hD
      obtain ⟨nDs, nDp, nDq⟩ := strm_ne st0 nD
      have z := stp.trans s4
      refine ⟨_, hD4, small64 (by rw [vm_len]; omega), ks ++ [m], t4, ⟨fun b o n1 n2 e => ?_, strm_upd z.st nDs nDp nDq, z.lo, by have := z.hi; rw [Nat.mul_succ]; exact this⟩, ?_, ?_⟩
      · rw [upd_ne (ne_of_none e nD)]
        exact z.keep b o n1 n2 e
      · rw [upd_same]; unfold vm; rw [List.map_append]; rfl
      · rw [List.take_add_one, hm]
        exact hk.append (List.Sublist.refl _)
  · rw [vm_len] at h
    obtain ⟨ks, t, s, hD, hk⟩ := h
    rw [List.take_length] at hk
    exact hd H ks t s hD hk
/-- some masks of a lot, in their order, are a lot -/
theorem sub_lot {n : Nat} {p : Nat → Bool} {ks : List Nat} (h : ks.Sublist (lotOf n p)) : vm ks = vm (lotOf n fun m => decide (m ∈ ks)) := by
  have r := lot_rising n p
  have r2 : (ks.map fun (m : Nat) => (m : Int)).Pairwise (· < ·) := r.sublist (h.map _)
  rw [vm_ints ks]
  refine rising_lot r2 fun k => ?_
  rw [List.mem_map]
  constructor
  · rintro ⟨m, hm, rfl⟩
    exact ⟨m, rfl, (mem_lot.mp (h.subset hm)).1, decide_eq_true hm⟩
  · rintro ⟨m, rfl, _, hm⟩
    exact ⟨m, of_decide_eq_true hm, rfl⟩
/-- sorted(set(ns)) of masks -/
theorem sort_set {n : Nat} {ks : List Nat} {ns : List Int} (asc : ns.Pairwise (· < ·)) (hk : ∀ k ∈ ks, k < 2 ^ n) (hm : ∀ k : Int, k ∈ ns ↔ decide (k ∈ ks.map fun (m : Nat) => (m : Int)) = true) : ns.map V.int = vm (lotOf n fun m => decide (m ∈ ks)) := by
  refine rising_lot asc fun z => ?_
  rw [hm z, decide_eq_true_iff, List.mem_map]
  constructor
  · rintro ⟨m, h1, h2⟩
    exact ⟨m, h2.symm, hk m h1, decide_eq_true h1⟩
  · rintro ⟨m, h1, h2, h3⟩
    exact ⟨m, of_decide_eq_true h3, h1.symm⟩
end XT
/-! operators, len, in, truth, subscript and call by an own class's methods -/
namespace XT
open PySem PySem.Spec PyProof.Rows L2
/-- the class C has the method at f -/
structure Has (K : PySem.W.Frag) (C : Addr) (nm : Str) (f : Addr) : Prop where
  at_ : PySem.W.findIn K (.ref C) nm = some (some (.ref f))
  fn : PySem.W.isFn K (.ref f) = true
/-- a def, called by values -/
abbrev Met (P : Program) (w : World) (K : PySem.W.Frag) (mg : Str → Option Value) (base : Heap) (k : Nat) (f : Addr) (sp : Sp) : Prop := FnR P w K mg base CX0 k f sp
theorem Met.of {P : Program} {w : World} {K : PySem.W.Frag} {mg : Str → Option Value} {base : Heap} {k : Nat} {sp : Sp} {f : Addr} {fd : FuncData} {ps : List Str} (F : FnOk P w K mg base CX0 k f fd ps sp) (b : Binds K fd ps []) : Met P w K mg base k f sp :=
  (FnOk.raw F b .nil).imp fun vs H Q E h => by rw [List.append_nil]; exact h
/-- an instance of C with these fields -/
def InsAt (H : Hp) (C : Addr) (v : V) (fs : List (Str × V)) : Prop := ∃ a dx, v = .ref a ∧ H a = some (.ins C dx fs)
theorem InsAt.same {H H' : Hp} {C : Addr} {v : V} {fs : List (Str × V)} (h : InsAt H C v fs) (e : Same H H') : InsAt H' C v fs := by
  obtain ⟨a, dx, rfl, h⟩ := h
  exact ⟨a, dx, rfl, e _ _ h⟩
section
variable {X : Cx} {pins : List (Addr × Obj)} {σ : L2.St} {H : Hp} {s : Shared} {j : Nat} {f C : Addr} {sp : Sp} {us : List Value} {vs : List V} {Q : VK}
theorem run_met (F : Met X.prog X.w X.K X.mg X.base j f sp) (hr : Room j X.A) (I : Inv X pins σ H s) (r : Vals vs us) (q : sp vs H Q E0) : wpAny (model X.prog X.w) X.A (call (.ref f) us) (EP X pins σ Q) X.xe s := by
  refine wpAny_call (codeAny_mono (run_fnR F hr pass0 I r q) fun r s2 z => ?_)
  match r, z with
  | .ok (.ret v), z => exact z
  | .ok .next, z => exact z.elim
  | .ok .brk, z => exact z.elim
  | .ok .cont, z => exact z.elim
  | .error e, z => exact z
theorem run_met1 (F : Met X.prog X.w X.K X.mg X.base j f sp) (hr : Room (j + 1) X.A) (I : Inv X pins σ H s) (r : Vals vs us) (q : sp vs H Q E0) : wpAny (model X.prog X.w) X.A.in1 (call (.ref f) us) (EP X pins σ Q) X.xe s := by
  refine wpAny_call (codeAny_mono (F X.A.in1 X.stack s H us vs Q E0 hr.in1 I.env0.in1 r q) fun r s2 hq => ?_)
  match r, hq with
  | .ok (.ret v), hq => exact I.after hq
  | .ok .next, hq => exact False.elim hq
  | .ok .brk, hq => exact False.elim hq
  | .ok .cont, hq => exact False.elim hq
  | .error e, hq => exact pass0 pins σ H s e s2 I hq
theorem inst_at (I : Inv X pins σ H s) {a dx : Addr} {fs : List (Str × V)} (h : H a = some (.ins C dx fs)) : ∃ od, PySem.W.InstAt s.heap a (PySem.W.instObj C dx) C (some od) := by
  obtain ⟨mA, O, _⟩ := ins_get I.hok h
  obtain ⟨od, J, _⟩ := O.look
  exact ⟨od, J⟩
theorem back_ok {u : Value} {s' : Shared} (h : EP X pins σ Q u s') : PySem.W.CmpBack (EP X pins σ Q) u s' := by
  obtain ⟨v, H', I, r, q⟩ := id h
  cases v with
  | non => cases r; exact h
  | bl b => cases r; exact h
  | int i => obtain ⟨t, rfl⟩ := r; exact h
  | str x => obtain ⟨t, rfl⟩ := r; exact h
  | byt x => obtain ⟨t, rfl⟩ := r; exact h
  | flt x => obtain ⟨t, rfl⟩ := r; exact h
  | ref a => cases r; exact h
  | ty n => cases r; exact h
/-- a op b, both of the class C -/
def rOwn (C : Addr) (sp : Sp) : R2 := fun x y H Q => (∃ fs, InsAt H C x fs) ∧ (∃ fs, InsAt H C y fs) ∧ sp [x, y] H Q E0
theorem op_own {op : Operator} (F : Met X.prog X.w X.K X.mg X.base j f sp) (hr : Room j X.A) (hc : PySem.W.selfFirst X.K C = true) (h : Has X.K C (PySem.dunder op.info.2) f) : OpR X (binaryOp op) (rOwn C sp) := by
  intro pins s σ H x y v u Q I rx ry ⟨⟨fs, a, dx, ex, ha⟩, ⟨fs', b, dx', ey, hb⟩, q⟩
  subst ex ey
  cases rx
  cases ry
  obtain ⟨od, J⟩ := inst_at I ha
  obtain ⟨od', J'⟩ := inst_at I hb
  obtain ⟨m, fr⟩ := I.fr
  exact PySem.W.binop_K fr I.ok.mod.kin J J'.type hc h.at_ h.fn (wpAny_mono (run_met (vs := [.ref a, .ref b]) F hr I (.cons rfl (.cons rfl .nil)) q) (fun _ _ z => back_ok z) fun _ _ z => z)
/-- a op i, an int -/
def rOwnI (C : Addr) (sp : Sp) : R2 := fun x y H Q => (∃ fs, InsAt H C x fs) ∧ (∃ i : Int, y = .int i) ∧ sp [x, y] H Q E0
theorem op_ownI {op : Operator} {fo ro : Option Value} (F : Met X.prog X.w X.K X.mg X.base j f sp) (hr : Room j X.A) (hc : PySem.W.selfFirst X.K C = true) (h : Has X.K C (PySem.dunder op.info.2) f) (hn : PySem.W.findIn X.K (.ref C) (dunderR op.info.2) = some none)
    (h1 : PySem.W.findIn X.K (.type "int") (PySem.dunder op.info.2) = some fo) (h2 : PySem.W.findIn X.K (.type "int") (dunderR op.info.2) = some ro) (hs : PySem.W.subIn X.K (.type "int") (.ref C) = some false) : OpR X (binaryOp op) (rOwnI C sp) := by
  intro pins s σ H x y v u Q I rx ry ⟨⟨fs, a, dx, ex, ha⟩, ⟨i, ey⟩, q⟩
  subst ex ey
  cases rx
  obtain ⟨t, rfl⟩ := id ry
  obtain ⟨od, J⟩ := inst_at I ha
  obtain ⟨m, fr⟩ := I.fr
  exact PySem.W.ksp_binT (T := "int") fr I.ok.mod.kin J rfl hc h.at_ h.fn hn (.inl rfl) h1 h2 hs (wpAny_mono (run_met (vs := [.ref a, .int i]) F hr I (.cons rfl (.cons ry .nil)) q) (fun _ _ z => back_ok z) fun _ _ z => z)
/-- ~a -/
def rOwn1 (C : Addr) (sp : Sp) : V → Hp → VK → Prop := fun x H Q => (∃ fs, InsAt H C x fs) ∧ sp [x] H Q E0
theorem un_inv (F : Met X.prog X.w X.K X.mg X.base j f sp) (hr : Room j X.A) (h : Has X.K C "__invert__" f) : UnR X (unaryOp .Invert) (rOwn1 C sp) := by
  intro pins s σ H x v Q I rx ⟨⟨fs, a, dx, ex, ha⟩, q⟩
  subst ex
  cases rx
  obtain ⟨od, J⟩ := inst_at I ha
  obtain ⟨m, fr⟩ := I.fr
  exact PySem.W.ksp_inv fr I.ok.mod.kin J h.at_ h.fn (run_met (vs := [.ref a]) F hr I (.cons rfl .nil) q)
/-- len(a) -/
def rOwnLen (C : Addr) (sp : Sp) : List V → Hp → VK → Prop := fun xs H Q => ∃ x, xs = [x] ∧ (∃ fs, InsAt H C x fs) ∧ sp [x] H (fun v H' => ∃ n : Nat, v = .int (n : Int) ∧ n < 1000000 ∧ Q (.int (n : Int)) H') E0
theorem cr_ownLen (F : Met X.prog X.w X.K X.mg X.base j f sp) (hr : Room (j + 1) X.A) (h : Has X.K C "__len__" f) : CallR X (.builtin "len") (rOwnLen C sp) := by
  intro pins s σ H xs us Q I r ⟨x, exs, ⟨fs, a, dx, ex, ha⟩, q⟩
  subst exs ex
  rw [Vals.ref1 r]
  obtain ⟨od, J⟩ := inst_at I ha
  obtain ⟨m, fr⟩ := I.fr
  refine PySem.W.len_K fr I.ok.mod.kin J h.at_ h.fn (wpAny_mono (run_met1 (vs := [.ref a]) F hr I (.cons rfl .nil) q) (fun u s' z => ?_) fun _ _ z => z)
  obtain ⟨v, H', I', rv, n, ev, hn, q'⟩ := z
  subst ev
  obtain ⟨t, rfl⟩ := rv
  refine ⟨⟨by omega, by omega⟩, ?_⟩
  exact ⟨.int (n : Int), H', I'.tok _, ⟨_, rfl⟩, q'⟩
/-- v in a -/
def rOwnIn (C : Addr) (sp : Sp) (neg : Bool) : R2 := fun x y H Q => (∃ fs, InsAt H C y fs) ∧ sp [y, x] H (fun v H' => ∃ b : Bool, v = .bl b ∧ Q (.bl (if neg then !b else b)) H') E0
theorem op_ownIn (F : Met X.prog X.w X.K X.mg X.base j f sp) (hr : Room j X.A) (h : Has X.K C "__contains__" f) : OpR X (compareOp .In) (rOwnIn C sp false) := by
  intro pins s σ H x y v u Q I rx ry ⟨⟨fs, a, dx, ey, ha⟩, q⟩
  subst ey
  cases ry
  obtain ⟨od, J⟩ := inst_at I ha
  obtain ⟨m, fr⟩ := I.fr
  refine PySem.W.in_K fr I.ok.mod.kin J h.at_ h.fn (wpAny_mono (run_met (vs := [.ref a, x]) F hr I (.cons rfl (.cons rx .nil)) q) (fun w s' z => ?_) fun _ _ z => z)
  obtain ⟨v', H', I', rv, b, ev, q'⟩ := z
  subst ev
  cases rv
  exact wpAny_truthy_bool ⟨.bl _, H', I', rfl, q'⟩
theorem op_ownNotIn (F : Met X.prog X.w X.K X.mg X.base j f sp) (hr : Room j X.A) (h : Has X.K C "__contains__" f) : OpR X (compareOp .NotIn) (rOwnIn C sp true) := by
  intro pins s σ H x y v u Q I rx ry ⟨⟨fs, a, dx, ey, ha⟩, q⟩
  subst ey
  cases ry
  obtain ⟨od, J⟩ := inst_at I ha
  obtain ⟨m, fr⟩ := I.fr
  refine PySem.W.notIn_K fr I.ok.mod.kin J h.at_ h.fn (wpAny_mono (run_met (vs := [.ref a, x]) F hr I (.cons rfl (.cons rx .nil)) q) (fun w s' z => ?_) fun _ _ z => z)
  obtain ⟨v', H', I', rv, b, ev, q'⟩ := z
  subst ev
  cases rv
  exact wpAny_truthy_bool ⟨.bl _, H', I', rfl, q'⟩
/-- if a -/
theorem tr_own (F : Met X.prog X.w X.K X.mg X.base j f sp) (hr : Room j X.A) (h : Has X.K C "__bool__" f) : TruR X (fun x H Q => (∃ fs, InsAt H C x fs) ∧ sp [x] H (fun v H' => ∃ b : Bool, v = .bl b ∧ Q b H') E0) := by
  intro pins s σ H x v Q I rx ⟨⟨fs, a, dx, ex, ha⟩, q⟩
  subst ex
  cases rx
  obtain ⟨od, J⟩ := inst_at I ha
  obtain ⟨m, fr⟩ := I.fr
  refine PySem.W.truthy_K fr I.ok.mod.kin J h.at_ h.fn (wpAny_mono (run_met (vs := [.ref a]) F hr I (.cons rfl .nil) q) (fun w s' z => ?_) fun _ _ z => z)
  obtain ⟨v', H', I', rv, b, ev, q'⟩ := z
  subst ev
  cases rv
  exact ⟨H', I', q'⟩
end
end XT
/-! sets of masks as objects -/
namespace XT
open PySem PySem.Spec PyProof.Rows L2
/-- tuple(xs), by a reading with a name -/
def rTupO (K : PySem.W.Frag) : List V → Hp → VK → Prop := fun xs H Q => ∃ p ys, xs = [.ref p] ∧ ((SqL K H p ys ∧ ∀ l, H l = none → Q (.ref l) (upd H l (.tup ys))) ∨ (SqT K H p ys ∧ Q (.ref p) H))
theorem cr_tupO {X : Cx} : CallR X (.type "tuple") (rTupO X.K) := call_tuple_of
/-- the set with the lot v -/
def MsAt (C : Addr) (H : Hp) (z v : V) (n : Nat) (p : Nat → Bool) : Prop := InsAt H C z [("held", v)] ∧ LotAt H v n p
theorem MsAt.same {C : Addr} {H H' : Hp} {z v : V} {n : Nat} {p : Nat → Bool} (h : MsAt C H z v n p) (e : Same H H') : MsAt C H' z v n p := ⟨h.1.same e, h.2.same e⟩
theorem MsAt.congr {C : Addr} {H : Hp} {z v : V} {n : Nat} {p p' : Nat → Bool} (h : MsAt C H z v n p) (e : ∀ m, m < 2 ^ n → p m = p' m) : MsAt C H z v n p' := ⟨h.1, h.2.congr e⟩
theorem MsAt.ins {C : Addr} {H : Hp} {z v : V} {n : Nat} {p : Nat → Bool} (h : MsAt C H z v n p) : ∃ fs, InsAt H C z fs := ⟨_, h.1⟩
/-- a property by its getter -/
def PropR (P : Program) (w : World) (K : PySem.W.Frag) (mg : Str → Option Value) (base : Heap) (k : Nat) (C : Addr) (f : Str) (sp : Sp) : Prop := ∃ (p g : Addr) (fd : FuncData) (ps : List Str), Cls K C ∧ PropOf K C f p g ∧ FnOk P w K mg base CX0 k g fd ps sp ∧ Binds K fd ps []
theorem pe_propR {X : Cx} {k : Nat} {C : Addr} {f : Str} {sp : Sp} {e : Expr} {pos : Pos} {ta : TE} (he : PE X e ta) (D : PropR X.prog X.w X.K X.mg X.base k C f sp) (hr : Room (k + 1) X.A) (hab : attributeBase e f X.env (eval e X.env) = eval e X.env := by rfl) : PE X (.Attribute e f pos) (tProp C sp [] E0 ta) := by
  obtain ⟨p, g, fd, ps, c, hp, F, b⟩ := D
  exact pe_prop he c hp F hr b .nil pass0 hab
/-- C(..) by its __init__ -/
def MakeR (P : Program) (w : World) (K : PySem.W.Frag) (mg : Str → Option Value) (base : Heap) (k : Nat) (C : Addr) (x : Str) (sp : Sp) : Prop := ∃ (f : Addr) (fd : FuncData) (ps : List Str), Mk K C f ∧ FnOk P w K mg base CX0 k f fd ps sp ∧ Binds K fd ps [] ∧ mg x = some (.ref C)
theorem pe_mkR {X : Cx} {k : Nat} {C : Addr} {x : Str} {sp : Sp} {e : Expr} {es : List Expr} {t : TA} {p pos : Pos} (D : MakeR X.prog X.w X.K X.mg X.base k C x sp) (hr : Room (k + 1) X.A) (hg : Gl X x) (ha : PA X (e :: es) t)
    (hdb : (x == ("__debug__" : Str)) = false := by decide) (he : starEach (e :: es) X.env = (false, eval e X.env) :: starEach es X.env := by rfl) (hpl : (backTo pos (starEach es X.env)).any (·.1) = false := by rfl) : PE X (.Call (.Name x p) (e :: es) [] pos) (tMake C sp [] E0 t) := by
  obtain ⟨f, fd, ps, M, F, b, hm⟩ := D
  exact pe_make M F hr hg hm b .nil pass0 ha hdb he hpl
/-- a method called by its name -/
def MethR (P : Program) (w : World) (K : PySem.W.Frag) (mg : Str → Option Value) (base : Heap) (k : Nat) (C : Addr) (m : Str) (sp : Sp) : Prop := ∃ (f : Addr) (fd : FuncData) (ps : List Str), Cls K C ∧ Meth K C m f ∧ FnOk P w K mg base CX0 k f fd ps sp ∧ Binds K fd ps []
/-- an operator's method -/
def OwnR (P : Program) (w : World) (K : PySem.W.Frag) (mg : Str → Option Value) (base : Heap) (k : Nat) (C : Addr) (m : Str) (sp : Sp) : Prop := ∃ (f : Addr), Has K C m f ∧ Met P w K mg base k f sp
section
variable {X : Cx} {j : Nat} {C : Addr} {sp : Sp}
theorem op_ownR {op : Operator} (D : OwnR X.prog X.w X.K X.mg X.base j C (PySem.dunder op.info.2) sp) (hr : Room j X.A) (hc : PySem.W.selfFirst X.K C = true) : OpR X (binaryOp op) (rOwn C sp) := by
  obtain ⟨f, h, F⟩ := D
  exact op_own F hr hc h
theorem un_invR (D : OwnR X.prog X.w X.K X.mg X.base j C "__invert__" sp) (hr : Room j X.A) : UnR X (unaryOp .Invert) (rOwn1 C sp) := by
  obtain ⟨f, h, F⟩ := D
  exact un_inv F hr h
theorem cr_lenR (D : OwnR X.prog X.w X.K X.mg X.base j C "__len__" sp) (hr : Room (j + 1) X.A) : CallR X (.builtin "len") (rOwnLen C sp) := by
  obtain ⟨f, h, F⟩ := D
  exact cr_ownLen F hr h
theorem op_inR (D : OwnR X.prog X.w X.K X.mg X.base j C "__contains__" sp) (hr : Room j X.A) : OpR X (compareOp .In) (rOwnIn C sp false) := by
  obtain ⟨f, h, F⟩ := D
  exact op_ownIn F hr h
end
/-- what an operator with an int wants of the class -/
structure OpI (K : PySem.W.Frag) (C : Addr) (op : Operator) : Prop where
  hn : PySem.W.findIn K (.ref C) (dunderR op.info.2) = some none
  h1 : ∃ fo, PySem.W.findIn K (.type "int") (PySem.dunder op.info.2) = some fo
  h2 : ∃ ro, PySem.W.findIn K (.type "int") (dunderR op.info.2) = some ro
  hs : PySem.W.subIn K (.type "int") (.ref C) = some false
theorem op_ownIR {X : Cx} {j : Nat} {C : Addr} {sp : Sp} {op : Operator} (D : OwnR X.prog X.w X.K X.mg X.base j C (PySem.dunder op.info.2) sp) (hr : Room j X.A) (hc : PySem.W.selfFirst X.K C = true) (T : OpI X.K C op) : OpR X (binaryOp op) (rOwnI C sp) := by
  obtain ⟨f, h, F⟩ := D
  obtain ⟨fo, h1⟩ := T.h1
  obtain ⟨ro, h2⟩ := T.h2
  exact op_ownI F hr hc h T.hn h1 h2 T.hs
/-- __init__ of a set -/
def spMi (C : Addr) : Sp := fun vs H Q _ => ∃ (a dx : Addr) (v : V) (n : Nat) (p : Nat → Bool), vs = [.ref a, v] ∧ H a = some (.ins C dx []) ∧ LotAt H v n p ∧ 1 ≤ n ∧ n ≤ 6 ∧ ∀ H', Same H H' → Q .non (upd H' a (.ins C dx [("held", v)]))
theorem ms_make {C : Addr} {H : Hp} {v : V} {n : Nat} {p : Nat → Bool} {Q : VK} (hv : LotAt H v n p) (h1 : 1 ≤ n) (h6 : n ≤ 6) (q : ∀ H' z, Same H H' → MsAt C H' z v n p → Q z H') :
    ∀ x dx, H x = none → H dx = none → dx ≠ x → spMi C (.ref x :: ([v] ++ [])) (upd (upd H dx (.own x)) x (.ins C dx [])) (fun v H2 => v = .non ∧ Q (.ref x) H2) E0 := by
  intro x dx nx ndx nex
  have s0 : Same H (upd (upd H dx (.own x)) x (.ins C dx [])) := fun b o e => by
    rw [upd_ne (ne_of_none e nx), upd_ne (ne_of_none e ndx)]
    exact e
  refine ⟨x, dx, v, n, p, rfl, upd_same, hv.same s0, h1, h6, fun H' s' => ⟨rfl, ?_⟩⟩
  have s2 : Same H (upd H' x (.ins C dx [("held", v)])) := same_upd (s0.trans s') nx
  exact q _ _ s2 ⟨⟨x, dx, rfl, upd_same⟩, hv.same s2⟩
theorem ms_new {C : Addr} {H : Hp} {v : V} {n : Nat} {p : Nat → Bool} {R : Hp → Prop} {x dx : Addr} (hv : LotAt H v n p) (h1 : 1 ≤ n) (h6 : n ≤ 6) (nx : H x = none) (ndx : H dx = none) (nex : dx ≠ x) (q : ∀ H', Same H H' → MsAt C H' (.ref x) v n p → R H') :
    spMi C (.ref x :: ([v] ++ [])) (upd (upd H dx (.own x)) x (.ins C dx [])) (fun v H2 => v = .non ∧ R H2) E0 := ms_make (Q := fun z H' => z = .ref x → R H') hv h1 h6 (fun H' z s' m e => q H' s' (by rw [← e]; exact m)) x dx nx ndx nex |> fun h => by
  obtain ⟨a, dx', v', n', p', e, h2, h3, h4, h5, k⟩ := h
  exact ⟨a, dx', v', n', p', e, h2, h3, h4, h5, fun H' s' => ⟨(k H' s').1, (k H' s').2 rfl⟩⟩
/-- the methods' promises -/
def spM1 (C : Addr) (F : Nat → (Nat → Bool) → Hp → V → V → Prop) : Sp := fun vs H Q _ => ∃ (z v : V) (n : Nat) (p : Nat → Bool), vs = [z] ∧ MsAt C H z v n p ∧ 1 ≤ n ∧ n ≤ 6 ∧ ∀ H' r, Same H H' → F n p H' v r → Q r H'
def spM2 (C : Addr) (F : Nat → (Nat → Bool) → (Nat → Bool) → Hp → V → Prop) : Sp := fun vs H Q _ => ∃ (z z' v v' : V) (n : Nat) (p r : Nat → Bool), vs = [z, z'] ∧ MsAt C H z v n p ∧ MsAt C H z' v' n r ∧ 1 ≤ n ∧ n ≤ 6 ∧ ∀ H' o, Same H H' → F n p r H' o → Q o H'
def spMX (C : Addr) (F : Nat → (Nat → Bool) → Nat → Hp → V → Prop) : Sp := fun vs H Q _ => ∃ (z v : V) (n m : Nat) (p : Nat → Bool), vs = [z, .int (m : Int)] ∧ MsAt C H z v n p ∧ 1 ≤ n ∧ n ≤ 6 ∧ m < 2 ^ n ∧ ∀ H' o, Same H H' → F n p m H' o → Q o H'
def IsMs (C : Addr) (H : Hp) (z : V) (n : Nat) (p : Nat → Bool) : Prop := ∃ v, MsAt C H z v n p
end XT
/-! ==, a call, a subscript by an own class's methods -/
namespace XT
open PySem PySem.Spec PyProof.Rows L2
theorem kit_me {K : PySem.W.Frag} {C : Addr} : PySem.W.kitOne K (.ref C) (.ref C) = some true := by
  unfold PySem.W.kitOne
  rw [if_pos (by simp)]
section
variable {X : Cx} {j : Nat} {f C : Addr} {sp : Sp}
/-- a == b, both of the class C -/
theorem op_ownEq (F : Met X.prog X.w X.K X.mg X.base j f sp) (hr : Room j X.A) (h : Has X.K C "__eq__" f) : OpR X (compareOp .Eq) (rOwn C sp) := by
  intro pins s σ H x y v u Q I rx ry ⟨⟨fs, a, dx, ex, ha⟩, ⟨fs', b, dx', ey, hb⟩, q⟩
  subst ex ey
  cases rx
  cases ry
  obtain ⟨od, J⟩ := inst_at I ha
  obtain ⟨od', J'⟩ := inst_at I hb
  obtain ⟨m, fr⟩ := I.fr
  show wpAny (model X.prog X.w) X.A (richCompare .Eq (.ref a) (.ref b)) (EP X pins σ Q) X.xe s
  exact PySem.W.cmp_K (op := .Eq) (by have := hr.un; omega) fr I.ok.mod.kin J J'.type (by unfold PySem.W.notFirst; simp) h.at_ h.fn (wpAny_mono (run_met (vs := [.ref a, .ref b]) F hr I (.cons rfl (.cons rfl .nil)) q) (fun _ _ z => back_ok z) fun _ _ z => z)
theorem op_eqR (D : OwnR X.prog X.w X.K X.mg X.base j C "__eq__" sp) (hr : Room j X.A) : OpR X (compareOp .Eq) (rOwn C sp) := by
  obtain ⟨f, h, F⟩ := D
  exact op_ownEq F hr h
end
section
variable {M : Model} {A : Around} {E : Value → Shared → Prop} {s : Shared} {x C : Addr} {pos : Pos} {Q : Value → Shared → Prop}
theorem callO_of {args : List (Bool × Sem Value)} {keywords : List (Option Str × Sem Value)} {first : List Value} (hpl : (args.any (·.1) || keywords.any (·.1.isNone)) = false) (h : wpAny M A (evalArgs (.ref x) true args keywords) (fun a t => (∃ ox od, ox.data = .plain ∧ PySem.W.InstAt t.heap x ox C od) ∧ wpAny M A (call (.ref x) (first ++ a.pos) a.kw) Q E t) E s) : wpAny M A (callWith pos (.ref x) first args keywords) Q E s := by
  unfold callWith
  refine wpAny_bind (wpAny_holding (wpAny_mono h (fun a t ht => wpAny_bind (wpAny_standAt ?_)) fun _ _ z => z))
  obtain ⟨⟨ox, od, hd, J⟩, hc⟩ := ht
  simp only [hpl]
  refine wpAny_bind ((PySem.W.kco_keeper (M := M) J hd).here ?_)
  refine wpAny_bind (wpAny_mono (wpAny_operateT hc) (fun r t2 hr => ?_) fun _ _ z => z)
  exact wpAny_bind (wpAny_holding (wpAny_point (wpAny_pure hr)))
end
/-- x(..), x in the slot i an instance of C -/
def tCallO (i : Nat) (C : Addr) (sp : Sp) (t : TA) : TE := fun σ H Q => ∃ z, σ[i]? = some (some z) ∧ (∃ fs, InsAt H C z fs) ∧ t σ H fun vs H1 => (∃ fs, InsAt H1 C z fs) ∧ sp (z :: vs) H1 Q E0
section
variable {X : Cx} {j i : Nat} {C : Addr} {sp : Sp} {x : Str} {p pos : Pos} {e : Expr} {es : List Expr} {t : TA}
/-- __call__ -/
def CallO (P : Program) (w : World) (K : PySem.W.Frag) (mg : Str → Option Value) (base : Heap) (k : Nat) (C : Addr) (sp : Sp) : Prop := ∃ f, Has K C "__call__" f ∧ PySem.W.fnIn K f = true ∧ Met P w K mg base k f sp
theorem pe_callO (D : CallO X.prog X.w X.K X.mg X.base j C sp) (hr : Room j X.A) (hN : X.N[i]? = some x) (hv : Vis X.env.scope x) (ha : PA X (e :: es) t)
    (hdb : (x == ("__debug__" : Str)) = false := by decide) (hcd : (x == ("__classdict__" : Str)) = false := by decide)
    (he : starEach (e :: es) X.env = (false, eval e X.env) :: starEach es X.env := by rfl) (hpl : (backTo pos (starEach es X.env)).any (·.1) = false := by rfl) : PE X (.Call (.Name x p) (e :: es) [] pos) (tCallO i C sp t) := by
  obtain ⟨f, hh, hfn, F⟩ := D
  refine ⟨fun pins s σ H Q I h => ?_⟩
  obtain ⟨z, hs, ⟨fs, a, dx, ez, hz⟩, ht⟩ := h
  refine wpAny_Call_Name_kw (thn ((pe_var (pos := p) hN hv hdb hcd).run pins s σ H (fun v H1 => v = z ∧ H1 = H) I ⟨z, hs, rfl, rfl⟩) fun u s1 ⟨v, H1, I1, r1, q1⟩ => ?_)
  obtain ⟨rfl, rfl⟩ := q1
  subst ez
  cases r1
  obtain ⟨od, J⟩ := inst_at I1 hz
  rw [he]
  refine callO_of (C := C) ?_ (PySem.Calls.evalArgs_plain ?_)
  · show ((false || (backTo pos (starEach es X.env)).any (·.1)) || false) = false
    rw [hpl]; rfl
  have ha2 := ha.run pos pins s1 σ _ _ I1 ht
  rw [he] at ha2
  refine wpAny_mono ha2 (fun us s2 hz2 => ?_) fun _ _ z => z
  obtain ⟨vs, H2, I2, r, ⟨fs2, a2, dx2, e2, h2⟩, q⟩ := hz2
  cases e2
  obtain ⟨od2, J2⟩ := inst_at I2 h2
  refine ⟨⟨_, _, rfl, J2⟩, ?_⟩
  refine wpAny_call (PySem.W.kco_code I2.kIn J2 rfl hh.at_ hh.fn hfn ?_)
  refine codeAny_mono (F X.A X.stack s2 H2 _ (.ref a :: vs) Q E0 hr I2.env0 (.cons rfl r) q) fun r' s3 hq => ?_
  match r', hq with
  | .ok (.ret v), hq => exact I2.after hq
  | .ok .next, hq => exact False.elim hq
  | .ok .brk, hq => exact False.elim hq
  | .ok .cont, hq => exact False.elim hq
  | .error e, hq => exact pass0 pins σ H2 s2 e s3 I2 hq
end
end XT
/-! expressions that only lay new things: what their value is, put together piece by piece -/
namespace XT
open PySem PySem.Spec PyProof.Rows L2
abbrev RV := Hp → V → Prop
/-- from H on the expression gives a value of which R is true -/
def Ev (R : RV) (t : TE) (σ : L2.St) (H : Hp) : Prop := ∀ H', Same H H' → ∀ Q : VK, (∀ H2 z, Same H' H2 → R H2 z → Q z H2) → t σ H' Q
def EvT (b : Bool) (t : TT) (σ : L2.St) (H : Hp) : Prop := ∀ H', Same H H' → ∀ Q : Bool → Hp → Prop, (∀ H2, Same H' H2 → Q b H2) → t σ H' Q
/-- what is true of a value stays true -/
def Sty (R : RV) : Prop := ∀ H H' z, Same H H' → R H z → R H' z
/-- an operator on values -/
def OpF (Ra Rb : RV) (r : R2) (Rc : RV) : Prop := ∀ H x y, Ra H x → Rb H y → ∀ Q : VK, (∀ H2 z, Same H H2 → Rc H2 z → Q z H2) → r x y H Q
abbrev isI (k : Int) : RV := fun _ z => z = .int k
abbrev isB (b : Bool) : RV := fun _ z => z = .bl b
abbrev isV (v : V) : RV := fun _ z => z = v
abbrev isLot (n : Nat) (p : Nat → Bool) : RV := fun H z => LotAt H z n p
abbrev isTup (ms : List Nat) : RV := fun H z => TupAt H z ms
theorem sty_v (v : V) : Sty (isV v) := fun _ _ _ _ h => h
theorem sty_lot (n : Nat) (p : Nat → Bool) : Sty (isLot n p) := fun _ _ _ e h => h.same e
theorem sty_tup (ms : List Nat) : Sty (isTup ms) := fun _ _ _ e h => h.same e
section
variable {R Ra Rb Rc : RV} {t ta tb : TE} {σ : L2.St} {H H' : Hp}
theorem Ev.same (h : Ev R t σ H) (e : Same H H') : Ev R t σ H' := fun H2 s Q q => h H2 (e.trans s) Q q
theorem Ev.mono {R' : RV} (h : Ev R t σ H) (i : ∀ H z, R H z → R' H z) : Ev R' t σ H := fun H2 s Q q => h H2 s Q fun H3 z s3 g => q H3 z s3 (i _ _ g)
theorem EvT.same {b : Bool} {t : TT} (h : EvT b t σ H) (e : Same H H') : EvT b t σ H' := fun H2 s Q q => h H2 (e.trans s) Q q
theorem ev_var {i : Nat} {z : V} (hs : Sty R) (e : σ[i]? = some (some z)) (h : R H z) : Ev R (tVar i) σ H := fun H2 s Q q => ⟨z, e, q _ _ (Same.refl _) (hs _ _ _ s h)⟩
theorem ev_c (v : V) : Ev (isV v) (tC v) σ H := fun H2 s Q q => q _ _ (Same.refl _) rfl
theorem ev_op {r : R2} (ha : Sty Ra) (a : Ev Ra ta σ H) (b : Ev Rb tb σ H) (f : OpF Ra Rb r Rc) : Ev Rc (tOp r ta tb) σ H := fun H1 s1 Q q =>
  a H1 s1 _ fun H2 x s2 gx => b H2 (s1.trans s2) _ fun H3 y s3 gy => f H3 x y (ha _ _ _ s3 gx) gy _ fun H4 z s4 gz => q H4 z ((s2.trans s3).trans s4) gz
theorem ev_def1 {sp : Sp} (a : Ev Ra ta σ H) (f : ∀ H x, Ra H x → ∀ Q : VK, (∀ H2 z, Same H H2 → Rc H2 z → Q z H2) → sp [x] H Q E0) : Ev Rc (fun σ H Q => tCons ta tNil σ H fun vs H1 => sp vs H1 Q E0) σ H := fun H1 s1 Q q =>
  a H1 s1 _ fun H2 x s2 gx => f H2 x gx _ fun H4 z s4 gz => q H4 z (s2.trans s4) gz
theorem ev_def2 {sp : Sp} (ha : Sty Ra) (a : Ev Ra ta σ H) (b : Ev Rb tb σ H) (f : ∀ H x y, Ra H x → Rb H y → ∀ Q : VK, (∀ H2 z, Same H H2 → Rc H2 z → Q z H2) → sp [x, y] H Q E0) : Ev Rc (fun σ H Q => tCons ta (tCons tb tNil) σ H fun vs H1 => sp vs H1 Q E0) σ H := fun H1 s1 Q q =>
  a H1 s1 _ fun H2 x s2 gx => b H2 (s1.trans s2) _ fun H3 y s3 gy => f H3 x y (ha _ _ _ s3 gx) gy _ fun H4 z s4 gz => q H4 z ((s2.trans s3).trans s4) gz
theorem evt_test {b : Bool} (h : Ev (isB b) t σ H) : EvT b (tTest t) σ H := fun H1 s1 Q q => h H1 s1 _ fun H2 z s2 e => ⟨b, e, q _ s2⟩
theorem evt_b {b : Bool} (h : Ev (isB b) t σ H) : EvT b (tB t) σ H := fun H1 s1 Q q => h H1 s1 _ fun H2 z s2 e => ⟨b, e, q _ s2⟩
theorem evt_not {b : Bool} {t : TT} (h : EvT b t σ H) : EvT (!b) (tNot t) σ H := fun H1 s1 Q q => h H1 s1 _ fun H2 s2 => q _ s2
theorem evt_or {b c : Bool} {t u : TT} (h : EvT b t σ H) (k : EvT c u σ H) : EvT (b || c) (tOr t u) σ H := fun H1 s1 Q q => h H1 s1 _ fun H2 s2 => by
  cases b with
  | true => exact iteT (q _ s2)
  | false => exact iteF (k H2 (s1.trans s2) _ fun H3 s3 => q _ (s2.trans s3))
theorem evt_and {b c : Bool} {t u : TT} (h : EvT b t σ H) (k : EvT c u σ H) : EvT (b && c) (tAnd t u) σ H := fun H1 s1 Q q => h H1 s1 _ fun H2 s2 => by
  cases b with
  | true => exact iteT (k H2 (s1.trans s2) _ fun H3 s3 => q _ (s2.trans s3))
  | false => exact iteF (q _ s2)
theorem ev_andV {b c : Bool} (h : Ev (isB b) ta σ H) (k : Ev (isB c) tb σ H) : Ev (isB (b && c)) (tAndV ta tb) σ H := fun H1 s1 Q q => h H1 s1 _ fun H2 z s2 e => by
  refine ⟨b, e, ?_⟩
  cases b with
  | true => exact iteT (k H2 (s1.trans s2) _ fun H3 z3 s3 e3 => q _ _ (s2.trans s3) e3)
  | false => exact iteF (q _ _ s2 rfl)
theorem ev_orV {b c : Bool} (h : Ev (isB b) ta σ H) (k : Ev (isB c) tb σ H) : Ev (isB (b || c)) (tOrV ta tb) σ H := fun H1 s1 Q q => h H1 s1 _ fun H2 z s2 e => by
  refine ⟨b, e, ?_⟩
  cases b with
  | true => exact iteT (q _ _ s2 rfl)
  | false => exact iteF (k H2 (s1.trans s2) _ fun H3 z3 s3 e3 => q _ _ (s2.trans s3) e3)
theorem ev_notV {b : Bool} (h : Ev (isB b) ta σ H) : Ev (isB (!b)) (tNotV ta) σ H := fun H1 s1 Q q => h H1 s1 _ fun H2 z s2 e => ⟨b, e, q _ _ s2 rfl⟩
/-- if t: never -/
theorem if_no {b : Bool} {t : TT} {u : TS} {D : Ends} (h : EvT b t σ H) (e : b = false) (q : ∀ H2, Same H H2 → u D σ H2) : tIfS t tNever u D σ H := h H (Same.refl _) _ fun H2 s2 => by rw [e]; exact iteF (q H2 s2)
end
theorem asg_ev {R : RV} {t : TE} {g : TG} {u : TS} {D : Ends} {σ : L2.St} {H : Hp} (h : Ev R t σ H) (q : ∀ H2 z, Same H H2 → R H2 z → g z σ H2 (u D)) : tSeq (tAsg t g) u D σ H := h H (Same.refl _) _ fun H2 z s2 gz => q H2 z s2 gz
theorem ret_ev {R : RV} {t : TE} {D : Ends} {σ : L2.St} {H : Hp} (h : Ev R t σ H) (q : ∀ H2 z, Same H H2 → R H2 z → D.rt z H2) : tRet t D σ H := h H (Same.refl _) _ fun H2 z s2 gz => q H2 z s2 gz
theorem ifs_no {b : Bool} {t : TT} {u rest : TS} {D : Ends} {σ : L2.St} {H : Hp} (h : EvT b t σ H) (e : b = false) (q : ∀ H2, Same H H2 → u { D with nx := rest D } σ H2) : tSeq (tIfS t tNever u) rest D σ H := if_no h e q
/-! sets -/
abbrev isMs (C : Addr) (n : Nat) (p : Nat → Bool) : RV := fun H z => IsMs C H z n p
theorem sty_ms (C : Addr) (n : Nat) (p : Nat → Bool) : Sty (isMs C n p) := fun _ _ _ e ⟨v, h⟩ => ⟨v, h.same e⟩
section
variable {C : Addr} {n : Nat} {p r : Nat → Bool}
theorem of_m2 {F : Nat → (Nat → Bool) → (Nat → Bool) → Hp → V → Prop} (h1 : 1 ≤ n) (h6 : n ≤ 6) : OpF (isMs C n p) (isMs C n r) (rOwn C (spM2 C F)) (fun H o => F n p r H o) := fun H x y ⟨v, gx⟩ ⟨v', gy⟩ Q q =>
  ⟨gx.ins, gy.ins, x, y, v, v', n, p, r, rfl, gx, gy, h1, h6, fun H' o s' g => q _ _ s' g⟩
theorem of_mx {F : Nat → (Nat → Bool) → Nat → Hp → V → Prop} {m : Nat} (h1 : 1 ≤ n) (h6 : n ≤ 6) (hm : m < 2 ^ n) : OpF (isMs C n p) (isV (.int (m : Int))) (rOwnI C (spMX C F)) (fun H o => F n p m H o) := fun H x y ⟨v, gx⟩ ey Q q =>
  ⟨gx.ins, ⟨m, ey⟩, x, v, n, m, p, by rw [ey], gx, h1, h6, hm, fun H' o s' g => q _ _ s' g⟩
theorem ev_m1 {F : Nat → (Nat → Bool) → Hp → V → V → Prop} {Rc : RV} {t : TE} {σ : L2.St} {H : Hp} (h1 : 1 ≤ n) (h6 : n ≤ 6) (a : Ev (isMs C n p) t σ H) (f : ∀ H v o, LotAt H v n p → F n p H v o → Rc H o) : Ev Rc (tUn (rOwn1 C (spM1 C F)) t) σ H := fun H1 s1 Q q =>
  a H1 s1 _ fun H2 x s2 ⟨v, gx⟩ => ⟨gx.ins, x, v, n, p, rfl, gx, h1, h6, fun H' o s' g => q _ _ (s2.trans s') (f _ _ _ (gx.2.same s') g)⟩
theorem ev_prop {F : Nat → (Nat → Bool) → Hp → V → V → Prop} {Rc : RV} {t : TE} {σ : L2.St} {H : Hp} (h1 : 1 ≤ n) (h6 : n ≤ 6) (a : Ev (isMs C n p) t σ H) (f : ∀ H v o, LotAt H v n p → F n p H v o → Rc H o) : Ev Rc (tProp C (spM1 C F) [] E0 t) σ H := fun H1 s1 Q q =>
  a H1 s1 _ fun H2 x s2 ⟨v, gx⟩ => by
    obtain ⟨aa, dx, ez, ha⟩ := id gx.1
    exact ⟨aa, dx, _, ez, ha, x, v, n, p, by rw [ez], gx, h1, h6, fun H' o s' g => q _ _ (s2.trans s') (f _ _ _ (gx.2.same s') g)⟩
theorem ev_len {F : Nat → (Nat → Bool) → Hp → V → V → Prop} {t : TE} {σ : L2.St} {H : Hp} (h1 : 1 ≤ n) (h6 : n ≤ 6) (a : Ev (isMs C n p) t σ H) (f : ∀ H v o, F n p H v o → o = .int ((lotOf n p).length : Int)) : Ev (isV (.int ((lotOf n p).length : Int))) (tCB (rOwnLen C (spM1 C F)) (tCons t tNil)) σ H := fun H1 s1 Q q =>
  a H1 s1 _ fun H2 x s2 ⟨v, gx⟩ => ⟨x, rfl, gx.ins, x, v, n, p, rfl, gx, h1, h6, fun H' o s' g => ⟨_, f _ _ _ g, by have := lot_len h6 p; omega, q _ _ (s2.trans s') rfl⟩⟩
/-- a.m(b), m a method of two sets -/
theorem ev_meth {m : Str} {F : Nat → (Nat → Bool) → (Nat → Bool) → Hp → V → Prop} {ta tb : TE} {σ : L2.St} {H : Hp} (h1 : 1 ≤ n) (h6 : n ≤ 6) (hm : (m == ("held" : Str)) = false) (a : Ev (isMs C n p) ta σ H) (b : Ev (isMs C n r) tb σ H) : Ev (fun H o => F n p r H o) (tMeth C m (spM2 C F) [] E0 ta (tCons tb tNil)) σ H := fun H1 s1 Q q =>
  a H1 s1 _ fun H2 x s2 ⟨v, gx⟩ => by
    obtain ⟨aa, dx, ez, ha⟩ := id gx.1
    refine ⟨aa, dx, _, ez, ha, ?_, b H2 (s1.trans s2) _ fun H3 y s3 ⟨v', gy⟩ => ?_⟩
    · rw [List.lookup_cons, hm]
      rfl
    · exact ⟨x, y, v, v', n, p, r, rfl, gx.same s3, gy, h1, h6, fun H' o s' g => q _ _ ((s2.trans s3).trans s') g⟩
theorem ev_mk {t : TE} {σ : L2.St} {H : Hp} (h1 : 1 ≤ n) (h6 : n ≤ 6) (a : Ev (isLot n p) t σ H) : Ev (isMs C n p) (tMake C (spMi C) [] E0 (tCons t tNil)) σ H := fun H1 s1 Q q =>
  a H1 s1 _ fun H2 x s2 gx => fun xa dxa nxa ndxa nea => ms_new gx h1 h6 nxa ndxa nea fun H3 s3 g => q _ _ (s2.trans s3) ⟨_, g⟩
theorem ev_lot2 {q' : Nat → Bool} {ms : List Nat} {ta tb : TE} {σ : L2.St} {H : Hp} (e : lotOf n q' = ms) (a : Ev (isV (.int (n : Int))) ta σ H) (b : Ev (isTup ms) tb σ H) : Ev (isLot n q') (tTup (tCons ta (tCons tb tNil))) σ H := fun H1 s1 Q q =>
  a H1 s1 _ fun H2 x s2 ex => b H2 (s1.trans s2) _ fun H3 y s3 ⟨y', ey, hy⟩ => ⟨sz (show 2 ≤ 1000 by decide), fun T nT => q _ _ ((s2.trans s3).trans (same_new nT)) ⟨T, y', rfl, by rw [upd_same, ex, ey], by rw [e]; exact same_new nT _ _ hy⟩⟩
theorem ev_tup1 {m : Nat} {t : TE} {σ : L2.St} {H : Hp} (a : Ev (isV (.int (m : Int))) t σ H) : Ev (isTup [m]) (tTup (tCons t tNil)) σ H := fun H1 s1 Q q =>
  a H1 s1 _ fun H2 x s2 ex => ⟨sz (show 1 ≤ 1000 by decide), fun T nT => q _ _ (s2.trans (same_new nT)) ⟨T, rfl, by rw [upd_same, ex]; rfl⟩⟩
theorem ev_tup0 {σ : L2.St} {H : Hp} : Ev (isTup []) (tTup tNil) σ H := fun H1 s1 Q q => ⟨sz (show 0 ≤ 1000 by decide), fun T nT => q _ _ (same_new nT) ⟨T, rfl, by rw [upd_same]; rfl⟩⟩
theorem ev_call {F : Nat → (Nat → Bool) → Nat → Hp → V → Prop} {i m : Nat} {z : V} {t : TE} {σ : L2.St} {H : Hp} (h1 : 1 ≤ n) (h6 : n ≤ 6) (hm : m < 2 ^ n) (e : σ[i]? = some (some z)) (a : IsMs C H z n p) (b : Ev (isV (.int (m : Int))) t σ H) : Ev (fun H o => F n p m H o) (tCallO i C (spMX C F) (tCons t tNil)) σ H := fun H1 s1 Q q => by
  obtain ⟨v, gx⟩ := a
  refine ⟨z, e, (gx.same s1).ins, b H1 s1 _ fun H2 y s2 ey => ⟨((gx.same s1).same s2).ins, z, v, n, m, p, by rw [ey], (gx.same s1).same s2, h1, h6, hm, fun H' o s' g => q _ _ (s2.trans s') g⟩⟩
end
theorem pe_methR {X : Cx} {k : Nat} {C : Addr} {m : Str} {sp : Sp} {o e : Expr} {es : List Expr} {ta : TE} {t : TA} {apos pos : Pos} {pl : Sem Bool} (he : PE X o ta) (D : MethR X.prog X.w X.K X.mg X.base k C m sp) (hr : Room k X.A) (ha : PA X (e :: es) t)
    (hst : starEach (e :: es) X.env = (false, eval e X.env) :: starEach es X.env := by rfl) (hpl : (backTo pos (starEach es X.env)).any (·.1) = false := by rfl)
    (ht : eval (.Call (.Attribute o m apos) (e :: es) [] pos) X.env = (do let ov ← eval o X.env; standAt apos.atName; let (f, first) ← holding [ov] (getMethod ov m pl); callWith pos f first (backTo pos (starEach (e :: es) X.env)) (backToKw pos (keywordEach [] X.env))) := by rfl) :
    PE X (.Call (.Attribute o m apos) (e :: es) [] pos) (tMeth C m sp [] E0 ta t) := by
  obtain ⟨f, fd, ps, c, hm, F, b⟩ := D
  exact pe_meth (pl := pl) he c hm F hr b .nil pass0 ha hst hpl ht
/-! ints, bools, tuples -/
section
variable {K : PySem.W.Frag} {a b : Int}
theorem of_i (g : Int → Int → V) : OpF (isV (.int a)) (isV (.int b)) (rI0 g) (isV (g a b)) := fun H x y ex ey Q q => ⟨a, b, ex, ey, q _ _ (Same.refl _) rfl⟩
theorem of_iC {Cc : Int → Int → Prop} (g : Int → Int → V) (h : Cc a b) : OpF (isV (.int a)) (isV (.int b)) (rI Cc g) (isV (g a b)) := fun H x y ex ey Q q => ⟨a, b, ex, ey, h, q _ _ (Same.refl _) rfl⟩
theorem of_eqI : OpF (isV (.int a)) (isV (.int b)) rEq (isB (decide (a = b))) := fun H x y ex ey Q q => by
  subst ex ey
  refine ⟨rfl, q _ _ (Same.refl _) (congrArg V.bl ?_)⟩
  rw [Bool.eq_iff_iff, decide_eq_true_iff, decide_eq_true_iff]
  exact ⟨fun e => V.int.inj e, fun e => by rw [e]⟩
theorem of_neI : OpF (isV (.int a)) (isV (.int b)) rNe (isB (!decide (a = b))) := fun H x y ex ey Q q => by
  subst ex ey
  refine ⟨rfl, q _ _ (Same.refl _) (congrArg V.bl (congrArg (!·) ?_))⟩
  rw [Bool.eq_iff_iff, decide_eq_true_iff, decide_eq_true_iff]
  exact ⟨fun e => V.int.inj e, fun e => by rw [e]⟩
theorem of_eqB {a b : Bool} : OpF (isB a) (isB b) rEq (isB (a == b)) := fun H x y ex ey Q q => by
  subst ex ey
  refine ⟨rfl, q _ _ (Same.refl _) (congrArg V.bl ?_)⟩
  cases a <;> cases b <;> rfl
theorem of_neB {a b : Bool} : OpF (isB a) (isB b) rNe (isB (a != b)) := fun H x y ex ey Q q => by
  subst ex ey
  refine ⟨rfl, q _ _ (Same.refl _) (congrArg V.bl ?_)⟩
  cases a <;> cases b <;> rfl
theorem of_in {m : Nat} {ms : List Nat} : OpF (isV (.int (m : Int))) (isTup ms) (rIn K false) (isB (decide (m ∈ ms))) := fun H x y ex ⟨y', ey, hy⟩ Q q => by
  subst ex ey
  refine ⟨y', _, rfl, .inr (SqT.of hy), rfl, vm_flat _, q _ _ (Same.refl _) (congrArg V.bl (in_vm _ _))⟩
theorem of_eqT {ms ks : List Nat} : OpF (isTup ms) (isTup ks) (rEqD K) (isB (decide (ms = ks))) := fun H x y gx gy Q q => eq_tupN gx gy (q _ _ (Same.refl _) rfl)
theorem of_neT {ms ks : List Nat} : OpF (isTup ms) (isTup ks) (rNeD K) (isB (!decide (ms = ks))) := fun H x y gx gy Q q => ne_tupN gx gy (q _ _ (Same.refl _) rfl)
theorem of_eqL {n : Nat} {p r : Nat → Bool} : OpF (isLot n p) (isLot n r) (rEqD K) (isB (decide (∀ m, m < 2 ^ n → p m = r m))) := fun H x y gx gy Q q => eq_lots gx gy (q _ _ (Same.refl _) rfl)
theorem of_neL {n : Nat} {p r : Nat → Bool} : OpF (isLot n p) (isLot n r) (rNeD K) (isB (!decide (∀ m, m < 2 ^ n → p m = r m))) := fun H x y gx gy Q q => ne_lots gx gy (q _ _ (Same.refl _) rfl)
theorem of_xor {a b : Nat} : OpF (isV (.int (a : Int))) (isV (.int (b : Int))) rXor (isV (.int ((a ^^^ b : Nat) : Int))) := fun H x y ex ey Q q => ⟨a, b, ex, ey, q _ _ (Same.refl _) (congrArg V.int (bx a b))⟩
/-- lot[0], lot[1] -/
theorem of_ix0 {n : Nat} {p : Nat → Bool} : OpF (isLot n p) (isV (.int 0)) (rIxT K) (isV (.int (n : Int))) := fun H x y gx ey Q q => by
  obtain ⟨a, b, e, h1, h2⟩ := gx
  exact ⟨a, _, 0, .int n, e, ey, SqT.of h1, rfl, q _ _ (Same.refl _) rfl⟩
theorem of_ix1 {n : Nat} {p : Nat → Bool} : OpF (isLot n p) (isV (.int 1)) (rIxT K) (isTup (lotOf n p)) := fun H x y gx ey Q q => by
  obtain ⟨a, b, e, h1, h2⟩ := gx
  exact ⟨a, _, 1, .ref b, e, ey, SqT.of h1, rfl, q _ _ (Same.refl _) ⟨b, rfl, h2⟩⟩
theorem ev_len_tup {ms : List Nat} {t : TE} {σ : L2.St} {H : Hp} (a : Ev (isTup ms) t σ H) : Ev (isV (.int (ms.length : Int))) (tCB (fun xs H Q => ∃ p ys, xs = [.ref p] ∧ (SqL K H p ys ∨ SqT K H p ys) ∧ Q (.int ys.length) H) (tCons t tNil)) σ H := fun H1 s1 Q q =>
  a H1 s1 _ fun H2 x s2 ⟨y, e, hy⟩ => ⟨y, _, by rw [e], .inr (SqT.of hy), q _ _ s2 (by rw [vm_len])⟩
end
end XT
/-! comprehensions whose turns lay new things, of which something is known -/
namespace XT
open PySem PySem.Spec PyProof.Rows L2
section
variable {K : PySem.W.Frag} {a : Addr} {g : TG} {tt : TT} {te : TE} {vs : List Nat} {σ : L2.St} {H1 : Hp} {D : Addr} {Qd : Hp → Prop} {G : Nat → V → Hp → Prop}
/-- what is known stays when new things are laid, and when a list is changed -/
structure Stay (G : Nat → V → Hp → Prop) : Prop where
  same : ∀ {j y H H'}, G j y H → Same H H' → G j y H'
  put : ∀ {j y H D xs ys}, G j y H → H D = some (.lst xs) → G j y (upd H D (.lst ys))
def TurnG (G : Nat → V → Hp → Prop) (g : TG) (tt : TT) (te : TE) (vs : List Nat) (σ : L2.St) (i : Nat) (x : V) (H : Hp) : Prop :=
  ∀ (R1 : Hp → Prop) (R2 : V → Hp → Prop), (∀ y H4, Same H H4 → G i y H4 → R2 y H4) →
    g x (wipe σ vs) H fun σ2 H2 => wipe σ2 vs = wipe σ vs ∧ tt σ2 H2 fun b H3 => if b = true then te σ2 H3 R2 else R1 H3
def PvG (H1 : Hp) (D : Addr) (G : Nat → V → Hp → Prop) (i : Nat) (H : Hp) : Prop := Same H1 H ∧ ∃ ys, H D = some (.lst ys) ∧ ys.length = i ∧ ∀ j y, ys[j]? = some y → G j y H
theorem pvg_turn {i : Nat} {x : V} {H : Hp} (hG : Stay G) (nD : H1 D = none) (hi : i ≤ 1000) (h : PvG H1 D G i H) (ht : TurnG G g tt te vs σ i x H) :
    g x (wipe σ vs) H fun σ2 H2 => wipe σ2 vs = wipe σ vs ∧ tt σ2 H2 fun b H3 =>
      if b = true then te σ2 H3 fun y H4 => ∃ acc, H4 D = some (.lst acc) ∧ acc.length < sizeLine ∧ PvG H1 D G (i + 1) (upd H4 D (.lst (acc ++ [y]))) else PvG H1 D G (i + 1) H3 := by
  obtain ⟨sm, ys, hD, hl, hall⟩ := h
  refine ht _ _ fun y H4 s4 gy => ⟨ys, s4 _ _ hD, small64 (by omega), same_upd (sm.trans s4) nD, ys ++ [y], upd_same, by rw [List.length_append, hl]; rfl, fun j z hz => hG.put ?_ (s4 _ _ hD)⟩
  rcases Nat.lt_or_ge j ys.length with lt | ge
  · rw [List.getElem?_append_left lt] at hz
    exact hG.same (hall j z hz) s4
  · rw [List.getElem?_append_right ge] at hz
    obtain ⟨h1, h2⟩ := List.getElem?_eq_some_iff.mp hz
    have e : j = i := by simp at h1; omega
    subst e
    have e2 : y = z := by simpa using h2
    rw [← e2]
    exact gy
theorem lcg_tup {xs : List V} (hG : Stay G) (nD : H1 D = none) (hA : SqT K H1 a xs) (hz : xs.length ≤ 1000) (ht : ∀ (i : Nat) x H, xs[i]? = some x → Same H1 H → TurnG G g tt te vs σ i x H) (hd : ∀ H, PvG H1 D G xs.length H → Qd H) :
    ∃ W : Nat → Nat → Hp → Prop, (∃ m, W 0 m (upd H1 D (.lst []))) ∧ ∀ i m H, W i m H →
      ((Itt K a).stop i H ∧ Qd H) ∨ ((Itt K a).go i H ∧ ∃ Nx : Hp → Prop, (∀ H', Nx H' → ∃ m', m' < m ∧ W (i + 1) m' H') ∧ ∀ x H', (Itt K a).yld i H x H' → g x (wipe σ vs) H' fun σ2 H2 => wipe σ2 vs = wipe σ vs ∧ tt σ2 H2 fun b H3 =>
        if b = true then te σ2 H3 fun y H4 => ∃ acc, H4 D = some (.lst acc) ∧ acc.length < sizeLine ∧ Nx (upd H4 D (.lst (acc ++ [y]))) else Nx H3) :=
  lc_tup (xs := xs) (fun i H => PvG H1 D G i H) ⟨same_new nD, [], upd_same, rfl, fun j y h => by simp at h⟩ (fun i H _ h => Same.sqT h.1 hA) (fun i x H hx h => pvg_turn hG nD (by have := (List.getElem?_eq_some_iff.mp hx).1; omega) h (ht i x H hx h.1)) hd
theorem lcg_list {xs : List V} (hG : Stay G) (nD : H1 D = none) (hA : SqL K H1 a xs) (hz : xs.length ≤ 1000) (ht : ∀ (i : Nat) x H, xs[i]? = some x → Same H1 H → TurnG G g tt te vs σ i x H) (hd : ∀ H, PvG H1 D G xs.length H → Qd H) :
    ∃ W : Nat → Nat → Hp → Prop, (∃ m, W 0 m (upd H1 D (.lst []))) ∧ ∀ i m H, W i m H →
      ((Itl K a).stop i H ∧ Qd H) ∨ ((Itl K a).go i H ∧ ∃ Nx : Hp → Prop, (∀ H', Nx H' → ∃ m', m' < m ∧ W (i + 1) m' H') ∧ ∀ x H', (Itl K a).yld i H x H' → g x (wipe σ vs) H' fun σ2 H2 => wipe σ2 vs = wipe σ vs ∧ tt σ2 H2 fun b H3 =>
        if b = true then te σ2 H3 fun y H4 => ∃ acc, H4 D = some (.lst acc) ∧ acc.length < sizeLine ∧ Nx (upd H4 D (.lst (acc ++ [y]))) else Nx H3) :=
  lc_list (xs := xs) (fun i H => PvG H1 D G i H) ⟨same_new nD, [], upd_same, rfl, fun j y h => by simp at h⟩ (fun i H _ h => h.1.seq hA) (fun i x H hx h => pvg_turn hG nD (by have := (List.getElem?_eq_some_iff.mp hx).1; omega) h (ht i x H hx h.1)) hd
theorem lcg_range {n : Nat} (hG : Stay G) (nD : H1 D = none) (hz : n ≤ 1000) (ht : ∀ (i : Nat) H, i < n → Same H1 H → TurnG G g tt te vs σ i (.int (0 + (i : Int))) H) (hd : ∀ H, PvG H1 D G n H → Qd H) :
    ∃ W : Nat → Nat → Hp → Prop, (∃ m, W 0 m (upd H1 D (.lst []))) ∧ ∀ i m H, W i m H →
      ((Itr 0 n).stop i H ∧ Qd H) ∨ ((Itr 0 n).go i H ∧ ∃ Nx : Hp → Prop, (∀ H', Nx H' → ∃ m', m' < m ∧ W (i + 1) m' H') ∧ ∀ x H', (Itr 0 n).yld i H x H' → g x (wipe σ vs) H' fun σ2 H2 => wipe σ2 vs = wipe σ vs ∧ tt σ2 H2 fun b H3 =>
        if b = true then te σ2 H3 fun y H4 => ∃ acc, H4 D = some (.lst acc) ∧ acc.length < sizeLine ∧ Nx (upd H4 D (.lst (acc ++ [y]))) else Nx H3) :=
  lc_range (lo := 0) (n := n) (fun i H => PvG H1 D G i H) ⟨same_new nD, [], upd_same, rfl, fun j y h => by simp at h⟩ (fun i H hi h => pvg_turn hG nD (by omega) h (ht i H hi h.1)) hd
end
theorem stay_lot (n : Nat) (p : Nat → Nat → Bool) : Stay (fun j y H => LotAt H y n (p j)) := ⟨fun h e => h.same e, fun h e => lot_upd e h⟩
end XT
/-! arguments and lists, piece by piece -/
namespace XT
open PySem PySem.Spec PyProof.Rows L2
def AllV : List RV → Hp → List V → Prop
  | [], _, [] => True
  | R :: Rs, H, v :: vs => R H v ∧ AllV Rs H vs
  | _, _, _ => False
def StyA (Rs : List RV) : Prop := ∀ R ∈ Rs, Sty R
theorem allV_same : ∀ {Rs : List RV} {H H' : Hp} {vs : List V}, StyA Rs → Same H H' → AllV Rs H vs → AllV Rs H' vs
  | [], _, _, [], _, _, h => h
  | R :: Rs, _, _, v :: vs, hs, e, h => ⟨hs R List.mem_cons_self _ _ _ e h.1, allV_same (fun R' h' => hs R' (List.mem_cons_of_mem _ h')) e h.2⟩
theorem allV_len : ∀ {Rs : List RV} {H : Hp} {vs : List V}, AllV Rs H vs → vs.length = Rs.length
  | [], _, [], _ => rfl
  | R :: Rs, _, v :: vs, h => by rw [List.length_cons, List.length_cons, allV_len h.2]
theorem allV_at : ∀ {Rs : List RV} {H : Hp} {vs : List V} {j : Nat} {R : RV}, AllV Rs H vs → Rs[j]? = some R → ∃ v, vs[j]? = some v ∧ R H v
  | [], _, _, _, _, _, e => by simp at e
  | R :: Rs, _, v :: vs, 0, _, h, e => by cases e; exact ⟨v, rfl, h.1⟩
  | R :: Rs, _, v :: vs, j + 1, _, h, e => allV_at (j := j) h.2 e
theorem allV_of : ∀ {Rs : List RV} {H : Hp} {vs : List V}, vs.length = Rs.length → (∀ (j : Nat) (R : RV) (v : V), Rs[j]? = some R → vs[j]? = some v → R H v) → AllV Rs H vs
  | [], _, [], _, _ => trivial
  | R :: Rs, _, v :: vs, hl, h => ⟨h 0 R v rfl rfl, allV_of (Nat.succ.inj hl) fun j R' v' a b => h (j + 1) R' v' a b⟩
theorem allV_app : ∀ {Rs Ss : List RV} {H : Hp} {vs us : List V}, AllV Rs H vs → AllV Ss H us → AllV (Rs ++ Ss) H (vs ++ us)
  | [], _, _, [], _, _, h => h
  | R :: Rs, _, _, v :: vs, _, h, k => ⟨h.1, allV_app h.2 k⟩
/-- a list whose items are so -/
abbrev isLst (Rs : List RV) : RV := fun H z => ∃ L vs, z = .ref L ∧ H L = some (.lst vs) ∧ AllV Rs H vs
theorem sty_lst {Rs : List RV} (h : StyA Rs) : Sty (isLst Rs) := fun _ _ _ e ⟨L, vs, ez, hL, a⟩ => ⟨L, vs, ez, e _ _ hL, allV_same h e a⟩
def EvA (Rs : List RV) (t : TA) (σ : L2.St) (H : Hp) : Prop := ∀ H', Same H H' → ∀ Q : List V → Hp → Prop, (∀ H2 vs, Same H' H2 → AllV Rs H2 vs → Q vs H2) → t σ H' Q
section
variable {R : RV} {Rs Ss : List RV} {t : TE} {ta : TA} {σ : L2.St} {H : Hp}
theorem eva_nil : EvA [] tNil σ H := fun H1 s1 Q q => q _ _ (Same.refl _) trivial
theorem eva_cons (hs : Sty R) (a : Ev R t σ H) (b : EvA Rs ta σ H) : EvA (R :: Rs) (tCons t ta) σ H := fun H1 s1 Q q =>
  a H1 s1 _ fun H2 x s2 gx => b H2 (s1.trans s2) _ fun H3 vs s3 gv => q _ _ (s2.trans s3) ⟨hs _ _ _ s3 gx, gv⟩
theorem ev_lst (hs : StyA Rs) (hl : Rs.length ≤ 1000) (a : EvA Rs ta σ H) : Ev (isLst Rs) (tLst ta) σ H := fun H1 s1 Q q =>
  a H1 s1 _ fun H2 vs s2 gv => ⟨by rw [allV_len gv]; exact sz hl, fun L nL => q _ _ (s2.trans (same_new nL)) ⟨L, vs, rfl, upd_same, allV_same hs (same_new nL) gv⟩⟩
theorem of_cat (hs : StyA Rs) (hs' : StyA Ss) (hl : Rs.length + Ss.length ≤ 1000) : OpF (isLst Rs) (isLst Ss) rCat (isLst (Rs ++ Ss)) := fun H x y ⟨L, vs, ex, hL, a⟩ ⟨L', us, ey, hL', a'⟩ Q q =>
  ⟨L, L', vs, us, ex, ey, hL, hL', by rw [allV_len a, allV_len a']; exact sz hl, fun p np => q _ _ (same_new np) ⟨p, _, rfl, upd_same, allV_app (allV_same hs (same_new np) a) (allV_same hs' (same_new np) a')⟩⟩
theorem styA_nil : StyA [] := fun _ h => absurd h (by simp)
theorem styA_cons (a : Sty R) (b : StyA Rs) : StyA (R :: Rs) := fun R' h => by
  rcases List.mem_cons.mp h with e | e
  · rw [e]; exact a
  · exact b R' e
theorem styA_map {α : Type} {f : α → RV} (h : ∀ x, Sty (f x)) (l : List α) : StyA (l.map f) := fun R' hR => by
  obtain ⟨x, _, rfl⟩ := List.mem_map.mp hR
  exact h x
end
/-- .. and stays so when a list is written -/
def StyL (R : RV) : Prop := ∀ (H : Hp) (D : Addr) (xs ys : List V) (z : V), H D = some (.lst xs) → R H z → R (upd H D (.lst ys)) z
theorem styL_lot (n : Nat) (p : Nat → Bool) : StyL (isLot n p) := fun _ _ _ _ _ e h => lot_upd e h
theorem styL_v (v : V) : StyL (isV v) := fun _ _ _ _ _ _ h => h
/-- [te for x in xs], a list of any kind -/
theorem ev_lcL {K : PySem.W.Frag} {i : Nat} {Rs Ss : List RV} {t te : TE} {σ : L2.St} {H : Hp} (hl : Rs.length = Ss.length) (hN : Rs.length ≤ 1000) (hR : StyA Rs) (hS : StyA Ss) (hL : ∀ S ∈ Ss, StyL S) (a : Ev (isLst Rs) t σ H) (hw : ∀ z : V, wipe ((wipe σ [i]).set i (some z)) [i] = wipe σ [i])
    (b : ∀ (j : Nat) (R S : RV) (z : V) (H1 : Hp), Rs[j]? = some R → Ss[j]? = some S → R H1 z → Same H H1 → Ev S te ((wipe σ [i]).set i (some z)) H1) : Ev (isLst Ss) (tLc (iList K t) (gName i) tYes te [i]) σ H := fun H1 s1 Q q =>
  a H1 s1 _ fun H2 x s2 ⟨L, vs, ex, hLv, gv⟩ => by
    have hvl : vs.length = Rs.length := allV_len gv
    refine ⟨L, ex, ⟨_, SqL.of hLv⟩, fun D nD => lcg_list (G := fun j y H => ∀ S, Ss[j]? = some S → S H y) ⟨fun {j y H H'} h e S hs => hS S (List.mem_of_getElem? hs) _ _ _ e (h S hs), fun {j y H D xs ys} h e S hs => hL S (List.mem_of_getElem? hs) _ _ _ _ _ e (h S hs)⟩ nD (SqL.of hLv) (by omega) (fun j z Hc hz sc => ?_) (fun H3 hpv => ?_)⟩
    · intro R1 R2 h2
      have hj : j < Rs.length := by rw [← hvl]; exact (List.getElem?_eq_some_iff.mp hz).1
      have hj2 : j < Ss.length := by omega
      obtain ⟨z', hz', gz⟩ := allV_at gv (List.getElem?_eq_getElem hj)
      cases hz.symm.trans hz'
      refine ⟨hw z, ?_⟩
      exact iteT (B := R1 Hc) (b j _ _ z Hc (List.getElem?_eq_getElem hj) (List.getElem?_eq_getElem hj2) (hR _ (List.getElem_mem hj) _ _ _ sc gz) ((s1.trans s2).trans sc) Hc (Same.refl _) _ fun H4 o s4 go => h2 _ _ s4 fun S hs => by
        cases hs.symm.trans (List.getElem?_eq_getElem hj2)
        exact go)
    · obtain ⟨s3, ys, hD, hyl, hys⟩ := hpv
      exact q _ _ (s2.trans s3) ⟨D, ys, rfl, hD, allV_of (by rw [hyl, hvl, hl]) fun j R v hRj hv => hys j v hv R hRj⟩
/-- t[i] -/
theorem of_ixT {K : PySem.W.Frag} {ms : List Nat} {i m : Nat} (h : ms[i]? = some m) : OpF (isTup ms) (isV (.int (i : Int))) (rIxT K) (isV (.int (m : Int))) := fun H x y ⟨q', ex, hq⟩ ey Q q =>
  ⟨q', _, i, .int (m : Int), ex, ey, SqT.of hq, atI_nat (by unfold vm; rw [List.getElem?_map, h]; rfl), q _ _ (Same.refl _) rfl⟩
/-- tuple(xs) -/
abbrev isLsN (ms : List Nat) : RV := fun H z => LsN H z ms
theorem sty_lsN (ms : List Nat) : Sty (isLsN ms) := fun _ _ _ e h => h.same e
theorem ev_tupO {K : PySem.W.Frag} {ms : List Nat} {t : TE} {σ : L2.St} {H : Hp} (a : Ev (isLsN ms) t σ H) : Ev (isTup ms) (tCB (rTupO K) (tCons t tNil)) σ H := fun H1 s1 Q q =>
  a H1 s1 _ fun H2 x s2 ⟨y, e, hy⟩ => ⟨y, _, by rw [e], .inl ⟨SqL.of hy, fun T nT => q _ _ (s2.trans (same_new nT)) ⟨T, rfl, upd_same⟩⟩⟩
/-- [te for x in range(n)], ints -/
theorem ev_lcR {i N : Nat} {ms : List Nat} {ta te : TE} {σ : L2.St} {H : Hp} (hl : ms.length = N) (hN : N ≤ 1000) (hw : ∀ z : V, wipe ((wipe σ [i]).set i (some z)) [i] = wipe σ [i])
    (a : Ev (isV (.int (N : Int))) ta σ H) (b : ∀ (j m : Nat) (H1 : Hp), ms[j]? = some m → Same H H1 → Ev (isV (.int (m : Int))) te ((wipe σ [i]).set i (some (.int (j : Int)))) H1) : Ev (isLsN ms) (tLc (iRng1 (tCons ta tNil)) (gName i) tYes te [i]) σ H := fun H1 s1 Q q =>
  a H1 s1 _ fun H2 x s2 ex => by
    refine ⟨(N : Int), by rw [ex], by omega, by omega, fun D nD => lcg_range (n := N) (G := fun j y _ => ∀ m, ms[j]? = some m → y = .int (m : Int)) ⟨fun h _ => h, fun h _ => h⟩ nD hN (fun j Hc hj sc => ?_) (fun H3 hpv => ?_)⟩
    · intro R1 R2 h2
      have hm : ms[j]? = some ms[j] := List.getElem?_eq_getElem (by omega)
      rw [Int.zero_add]
      refine ⟨hw _, ?_⟩
      exact iteT (B := R1 Hc) (b j _ Hc hm ((s1.trans s2).trans sc) Hc (Same.refl _) _ fun H4 o s4 go => h2 _ _ s4 fun m e => by
        cases e.symm.trans hm
        exact go)
    · obtain ⟨s3, ys, hD, hyl, hys⟩ := hpv
      refine q _ _ (s2.trans s3) ⟨D, rfl, ?_⟩
      have e : ys = vm ms := List.ext_getElem? fun j => by
        rcases Nat.lt_or_ge j N with lt | ge
        · have h1 := List.getElem?_eq_getElem (l := ys) (i := j) (by omega)
          have h2 := List.getElem?_eq_getElem (l := ms) (i := j) (by omega)
          rw [h1, hys j _ h1 _ h2]
          unfold vm
          rw [List.getElem?_map, h2]
          rfl
        · rw [List.getElem?_eq_none (by omega), List.getElem?_eq_none (by rw [vm_len]; omega)]
      rw [hD, e]
/-- [x for x in range(n) if tt] -/
theorem ev_lcF {i N : Nat} (q : Nat → Bool) {ta : TE} {tt : TT} {σ : L2.St} {H : Hp} (hi : i < σ.length) (hN : N ≤ 1000) (hw : ∀ z : V, wipe ((wipe σ [i]).set i (some z)) [i] = wipe σ [i]) (he : ∀ z : V, ((wipe σ [i]).set i (some z))[i]? = some (some z))
    (a : Ev (isV (.int (N : Int))) ta σ H) (b : ∀ (j : Nat) (H1 : Hp), j < N → Same H H1 → EvT (q j) tt ((wipe σ [i]).set i (some (.int (j : Int)))) H1) : Ev (isLsN ((List.range N).filter q)) (tLc (iRng1 (tCons ta tNil)) (gName i) tt (tVar i) [i]) σ H := fun H1 s1 Q q' =>
  a H1 s1 _ fun H2 x s2 ex => by
    refine ⟨(N : Int), by rw [ex], by omega, by omega, fun D nD => lcp_range (n := N) (p := q) (f := fun m => .int (m : Int)) nD (small64 hN) (fun j Hc hj sc => ?_) (fun H3 s3 hD => ?_)⟩
    · intro R1 R2 h1 h2
      rw [Int.zero_add]
      refine ⟨hw _, b j Hc hj ((s1.trans s2).trans sc) Hc (Same.refl _) _ fun H4 s4 => ?_⟩
      cases hq : q j with
      | true => exact iteT ⟨_, he _, h2 hq _ s4⟩
      | false => exact iteF (h1 hq _ s4)
    · exact q' _ _ (s2.trans s3) ⟨D, rfl, hD⟩
theorem of_neN {K : PySem.W.Frag} {ms ks : List Nat} : OpF (isLsN ms) (isLsN ks) (rNeD K) (isB (!decide (ms = ks))) := fun H x y gx gy Q q => ne_lstN gx gy (q _ _ (Same.refl _) rfl)
theorem ev_lst0 {σ : L2.St} {H : Hp} : Ev (isLsN []) (tLst tNil) σ H := fun H1 s1 Q q => ⟨sz (show 0 ≤ 1000 by decide), fun T nT => q _ _ (same_new nT) ⟨T, rfl, by rw [upd_same]; rfl⟩⟩
theorem lots_dp {K : PySem.W.Frag} {n : Nat} : ∀ {ps : List (Nat → Bool)} {H : Hp} {vs : List V}, AllV (ps.map (isLot n)) H vs → DpAll K H vs (ps.map (dLot n))
  | [], _, [], _ => .nil
  | p :: ps, _, v :: vs, h => .cons h.1.dp (lots_dp h.2)
theorem lots_eqv {n : Nat} : ∀ {ps qs : List (Nat → Bool)}, ps.length = qs.length → (∀ (j : Nat) (p q : Nat → Bool), ps[j]? = some p → qs[j]? = some q → ∀ m, m < 2 ^ n → p m = q m) → PyData.eqvAll (ps.map (dLot n)) (qs.map (dLot n)) = true
  | [], [], _, _ => rfl
  | p :: ps, q :: qs, hl, h => by
    show (PyData.eqv (dLot n p) (dLot n q) && PyData.eqvAll (ps.map (dLot n)) (qs.map (dLot n))) = true
    rw [eqv_lot (h 0 p q rfl rfl), lots_eqv (Nat.succ.inj hl) fun j p q a b => h (j + 1) p q a b]
    rfl
theorem lots_shaped {n : Nat} (hn : n ≤ 6) : ∀ {ps : List (Nat → Bool)}, ps.length ≤ 64 → SeqAt.shaped (.list (ps.map (dLot n))) = true := by
  intro ps _
  have h : ∀ ps : List (Nat → Bool), ShwAll (ps.map (dLot n)) (1002 * ps.length) 2 := fun ps => by
    induction ps with
    | nil => exact (ShwAll.nil (k := 2)).mono (Nat.zero_le _) (Nat.le_refl _)
    | cons p ps ih => exact (ShwAll.cons (shw_lot hn p) ih).mono (by rw [List.length_cons]; omega) (Nat.le_refl _)
  exact (h ps).list.shaped (show 2 + 1 ≤ 64 by decide)
/-- two lists of lots -/
theorem of_neLs {K : PySem.W.Frag} {n : Nat} {ps qs : List (Nat → Bool)} (hn : n ≤ 6) (h64 : ps.length ≤ 64) (hl : ps.length = qs.length) (h : ∀ (j : Nat) (p q : Nat → Bool), ps[j]? = some p → qs[j]? = some q → ∀ m, m < 2 ^ n → p m = q m) : OpF (isLst (ps.map (isLot n))) (isLst (qs.map (isLot n))) (rNeD K) (isB false) := fun H x y ⟨L, vs, ex, hL, a⟩ ⟨L', us, ey, hL', a'⟩ Q q => by
  subst ex ey
  refine ⟨_, _, .lst (SqL.of hL) (lots_dp a), .lst (SqL.of hL') (lots_dp a'), lots_shaped hn h64, lots_shaped hn (by omega), q _ _ (Same.refl _) (congrArg V.bl ?_)⟩
  show (!(PyData.eqvAll (ps.map (dLot n)) (qs.map (dLot n)))) = false
  rw [lots_eqv hl h]
  rfl
end XT
/-! data with dicts, and repr of them -/
namespace XT
open PySem PySem.Spec PyProof.Rows L2
/-- a dict of texts and numbers -/
def dkV (kvs : List (Str × Int)) : List (Key × V) := kvs.map fun p => (.inr p.1, .int p.2)
def dkD (kvs : List (Str × Int)) : PyData := .dict (kvs.map fun p => (.str p.1, .int p.2))
mutual
inductive Dz (K : PySem.W.Frag) (H : Hp) : V → PyData → Prop
  | non : Dz K H .non .none
  | bl (b : Bool) : Dz K H (.bl b) (.bool b)
  | int (i : Int) : Dz K H (.int i) (.int i)
  | str (x : Str) : Dz K H (.str x) (.str x)
  | lst {a : Addr} {xs : List V} {ds : List PyData} : SqL K H a xs → a ≠ sysModules → DzAll K H xs ds → Dz K H (.ref a) (.list ds)
  | tup {a : Addr} {xs : List V} {ds : List PyData} : SqT K H a xs → DzAll K H xs ds → Dz K H (.ref a) (.tuple ds)
  | dct {a : Addr} (kvs : List (Str × Int)) : H a = some (.dK (dkV kvs)) → Dz K H (.ref a) (dkD kvs)
inductive DzAll (K : PySem.W.Frag) (H : Hp) : List V → List PyData → Prop
  | nil : DzAll K H [] []
  | cons {v : V} {vs : List V} {d : PyData} {ds : List PyData} : Dz K H v d → DzAll K H vs ds → DzAll K H (v :: vs) (d :: ds)
end
mutual
theorem Dz.same {K : PySem.W.Frag} {H H' : Hp} (e : Same H H') : ∀ {v : V} {d : PyData}, Dz K H v d → Dz K H' v d
  | _, _, .non => .non
  | _, _, .bl b => .bl b
  | _, _, .int i => .int i
  | _, _, .str x => .str x
  | _, _, .lst h n a => .lst (e.seq h) n (DzAll.same e a)
  | _, _, .tup h a => .tup (Same.sqT e h) (DzAll.same e a)
  | _, _, .dct kvs h => .dct kvs (e _ _ h)
theorem DzAll.same {K : PySem.W.Frag} {H H' : Hp} (e : Same H H') : ∀ {vs : List V} {ds : List PyData}, DzAll K H vs ds → DzAll K H' vs ds
  | _, _, .nil => .nil
  | _, _, .cons h a => .cons (Dz.same e h) (DzAll.same e a)
end
theorem dk_reads {P : Program} {w : World} {h : Heap} : ∀ {kvs : List (Str × Int)} {vs : List (Key × Value)} {es : List DictEntry}, KV (dkV kvs) vs → Pairs (mixKind P w) es vs →
    ReadsAll h (es.map (·.key)) ((kvs.map fun p => ((PyData.str p.1, PyData.int p.2) : PyData × PyData)).map (·.1)) [] ∧ ReadsAll h (es.map (·.val)) ((kvs.map fun p => ((PyData.str p.1, PyData.int p.2) : PyData × PyData)).map (·.2)) []
  | [], _, _, r, p => by
    cases r
    cases p
    exact ⟨.nil, .nil⟩
  | (x, i) :: kvs, _, _, r, p => by
    cases r with
    | @cons a kv as bs r1 r2 =>
      cases p with
      | @cons e _ es' _ hk hv p2 =>
        obtain ⟨h1, h2⟩ := dk_reads (P := P) (w := w) (h := h) (kvs := kvs) r2 p2
        obtain ⟨e1, e2⟩ := r1
        have e1 : (Sum.inr x : Key) = kv.1 := e1
        have e2 : RelV (.int i) kv.2 := e2
        have hk : keyIs kv.1 e.key = true := hk
        rw [← e1] at hk
        rcases keyIs_shape hk with ⟨j, t, z, _⟩ | ⟨y, t, z, ey⟩
        · cases z
        · cases z
          obtain ⟨t2, e3⟩ := e2
          refine ⟨?_, ?_⟩
          · show ReadsAll h (e.key :: es'.map (·.key)) (PyData.str x :: _) ([] ++ [])
            rw [ey]
            exact .cons (.str x t) h1
          · show ReadsAll h (e.val :: es'.map (·.val)) (PyData.int i :: _) ([] ++ [])
            rw [hv, e3]
            exact .cons (.int i t2) h2
section
variable {X : Cx} {pins : List (Addr × Obj)} {σ : L2.St} {H : Hp} {s : Shared}
mutual
theorem Dz.reads (I : Inv X pins σ H s) : ∀ {v : V} {d : PyData}, Dz X.K H v d → ∀ u : Value, RelV v u → ∃ as, Reads s.heap u d as ∧ sysModules ∉ as
  | _, _, .non, u, r => by
    cases r
    exact ⟨_, Reads.none, by simp⟩
  | _, _, .bl b, u, r => by
    cases r
    exact ⟨_, Reads.bool b, by simp⟩
  | _, _, .int i, u, r => by
    obtain ⟨t, rfl⟩ := r
    exact ⟨_, Reads.int i t, by simp⟩
  | _, _, .str x, u, r => by
    obtain ⟨t, rfl⟩ := r
    exact ⟨_, Reads.str x t, by simp⟩
  | _, _, .lst hs ne ha, u, r => by
    cases r
    obtain ⟨its, rv, ⟨o, n, ho, hc, _, hd⟩, _⟩ := I.list hs
    obtain ⟨as, hr, nm⟩ := DzAll.reads I ha its rv
    exact ⟨_, Reads.list ho hc hd hr, fun z => (List.mem_cons.mp z).elim (fun z => ne z.symm) nm⟩
  | _, _, .tup hs ha, u, r => by
    cases r
    obtain ⟨its, rv, ⟨o, ho, hc, n, hd⟩, _⟩ := I.tuple hs
    obtain ⟨as, hr, nm⟩ := DzAll.reads I ha its rv
    exact ⟨_, Reads.tuple ho hc hd hr, nm⟩
  | _, _, .dct (a := a) kvs h, u, r => by
    cases r
    have hx : ObjOk X.prog X.w H s.heap a (.dK (dkV kvs)) := I.hok a _ h
    obtain ⟨_, hm, vs, rk, o, es, ep, ho, hex, hd, _, hp, _⟩ := hx
    obtain ⟨h1, h2⟩ := dk_reads (h := s.heap) rk hp
    have hne : a ≠ sysModules := beq_eq_false_iff_ne.mp hm
    exact ⟨_, Reads.dict ho hex.1 hd h1 h2, fun z => by
      simp only [List.append_nil, List.mem_cons, List.not_mem_nil, or_false] at z
      exact hne z.symm⟩
theorem DzAll.reads (I : Inv X pins σ H s) : ∀ {vs : List V} {ds : List PyData}, DzAll X.K H vs ds → ∀ us : List Value, Vals vs us → ∃ as, ReadsAll s.heap us ds as ∧ sysModules ∉ as
  | _, _, .nil, us, r => by
    cases r
    exact ⟨_, ReadsAll.nil, by simp⟩
  | _, _, .cons h1 h2, us, r => by
    cases r with
    | cons r1 r2 =>
      obtain ⟨as, q1, n1⟩ := Dz.reads I h1 _ r1
      obtain ⟨bs, q2, n2⟩ := DzAll.reads I h2 _ r2
      exact ⟨_, ReadsAll.cons q1 q2, fun z => (List.mem_append.mp z).elim n1 n2⟩
end
end
section
variable {X : Cx}
def rReprZ (K : PySem.W.Frag) : List V → Hp → VK → Prop := fun xs H Q => ∃ (a : Addr) (d : PyData), xs = [.ref a] ∧ Dz K H (.ref a) d ∧ d.depth ≤ 64 ∧ d.showable = true ∧ d.shown.length ≤ sizeLine ∧ Q (.str d.shown) H
theorem cr_reprZ (hg : X.A.guards = some []) (hu : X.A.units + 128 < cLine) : CallR X (.builtin "repr") (rReprZ X.K) := by
  intro pins s σ H xs us Q I r h
  obtain ⟨a, d, rfl, hd, dp, hw, hz, q⟩ := h
  rw [Vals.ref1 r]
  obtain ⟨as, rd, nm⟩ := Dz.reads I hd (.ref a) rfl
  refine repr_of_reads' rd hw (fun _ => nm) hg (by omega) (fun _ _ e => e) (fun h2 u tk k => ?_) hz
  exact ⟨.str d.shown, H, I.kept (t' := tk) k, ⟨u, rfl⟩, q⟩
/-- a list display: not at the place of sys.modules -/
def tLstB (t : TA) : TE := fun σ H Q => t σ H fun xs H1 => xs.length ≤ sizeLine ∧ ∀ p, H1 p = none → p ≠ sysModules → Q (.ref p) (upd H1 p (.lst xs))
theorem pe_lstB {es : List Expr} {t : TA} {pos : Pos} (h : PA X es t) : PE X (.List es pos) (tLstB t) := by
  refine ⟨fun pins s σ H Q I hq => ?_⟩
  refine wpAny_List_spliced (thn (h.run pos pins s σ H _ I hq) fun us s1 ⟨xs, H1, I1, r, z, q⟩ => ⟨by rw [← r.length]; exact z, ?_⟩)
  have hf : H1 s1.heap.objs.size = none := I1.hok.fresh (Nat.le_refl _)
  refine ⟨.ref s1.heap.objs.size, upd H1 s1.heap.objs.size (.lst xs), I1.laid (t' := s1.toks) (fun b u e => Heap.get?_push_of_some _ e) (Nat.le_refl _) ?_, rfl, q _ hf (Ne.symm (Nat.ne_of_lt I1.big))⟩
  exact ⟨z, us, 0, r, Heap.get?_push_size _ rfl⟩
end
end XT
/-! kinds of data -/
namespace XT
open PySem PySem.Spec PyProof.Rows L2
def tyD : PyData → String
  | .none => "NoneType" | .bool _ => "bool" | .int _ => "int" | .str _ => "str" | .list _ => "list" | .tuple _ => "tuple" | .dict _ => "dict"
theorem Dz.ty {K : PySem.W.Frag} {H : Hp} {v : V} {d : PyData} (h : Dz K H v d) : TyX K H v (.type (tyD d)) := by
  cases h with
  | non => exact .base .non
  | bl b => exact .base (.bl b)
  | int i => exact .base (.int i)
  | str x => exact .base (.str x)
  | lst h n a =>
    rcases h with (h | ⟨o, h⟩) | ⟨o, its, n, h, c, _⟩
    · exact .base (.lst h)
    · exact .base (.frz h)
    · exact .kList h c
  | tup h a =>
    rcases h with (h | ⟨o, h⟩) | ⟨o, its, n, h, c, _⟩
    · exact .base (.tup h)
    · exact .fTuple h
    · exact .kTuple h c
  | dct kvs h => exact .base (.dK h)
def isIt : PyData → Bool
  | .int _ => true | .bool _ => true | _ => false
def isBl : PyData → Bool
  | .bool _ => true | _ => false
def isN : PyData → Bool
  | .int _ => true | _ => false
theorem kitI {K : PySem.W.Frag} : ∀ d : PyData, PySem.W.kitOne K (.type (tyD d)) (.type "int") = some (isIt d)
  | .none => kit_ty (a := "NoneType") (b := "int") (r := false) (by decide +kernel)
  | .bool _ => kit_ty (a := "bool") (b := "int") (r := true) (by decide +kernel)
  | .int _ => kit_ty (a := "int") (b := "int") (r := true) (by decide +kernel)
  | .str _ => kit_ty (a := "str") (b := "int") (r := false) (by decide +kernel)
  | .list _ => kit_ty (a := "list") (b := "int") (r := false) (by decide +kernel)
  | .tuple _ => kit_ty (a := "tuple") (b := "int") (r := false) (by decide +kernel)
  | .dict _ => kit_ty (a := "dict") (b := "int") (r := false) (by decide +kernel)
theorem kitB' {K : PySem.W.Frag} : ∀ d : PyData, PySem.W.kitOne K (.type (tyD d)) (.type "bool") = some (isBl d)
  | .none => kit_ty (a := "NoneType") (b := "bool") (r := false) (by decide +kernel)
  | .bool _ => kit_ty (a := "bool") (b := "bool") (r := true) (by decide +kernel)
  | .int _ => kit_ty (a := "int") (b := "bool") (r := false) (by decide +kernel)
  | .str _ => kit_ty (a := "str") (b := "bool") (r := false) (by decide +kernel)
  | .list _ => kit_ty (a := "list") (b := "bool") (r := false) (by decide +kernel)
  | .tuple _ => kit_ty (a := "tuple") (b := "bool") (r := false) (by decide +kernel)
  | .dict _ => kit_ty (a := "dict") (b := "bool") (r := false) (by decide +kernel)
def isM (n : Nat) : PyData → Bool
  | .int i => decide (0 ≤ i) && decide (i < ((2 ^ n : Nat) : Int))
  | _ => false
theorem DzAll.at {K : PySem.W.Frag} {H : Hp} : ∀ {vs : List V} {ds : List PyData}, DzAll K H vs ds → ∀ {i : Nat} {v : V}, vs[i]? = some v → ∃ d, ds[i]? = some d ∧ Dz K H v d
  | _, _, .nil, i, v, h => by simp at h
  | _, _, .cons (d := d) h a, 0, v, e => by
    cases e
    exact ⟨d, rfl, h⟩
  | _, _, .cons h a, i + 1, v, e => DzAll.at a (i := i) e
theorem DzAll.len {K : PySem.W.Frag} {H : Hp} : ∀ {vs : List V} {ds : List PyData}, DzAll K H vs ds → vs.length = ds.length
  | _, _, .nil => rfl
  | _, _, .cons h a => by rw [List.length_cons, List.length_cons, DzAll.len a]
def oddD : List PyData := [.none, .bool true, .bool false, .int (-1), .int 0, .int 1, .int 2, .int 3, .int 6, .int 7, .int 63, .int 64, .int (10 ^ 39), .str "", .str "0", .str "lot", .tuple [], .list [], .dict [], .tuple [.int 0], .list [.int 0], .tuple [.bool true],
  .tuple [.int 2, .tuple [.int 0]], .tuple [.int 0, .int 1], .dict [(.str "a", .int 1)], .str "01"]
end XT
/-! sizes of data -/
namespace XT
open PySem PySem.Spec PyProof.Rows L2
/-! texts -/
def TxOk (x : Str) : Prop := ∀ c ∈ x.cps.toList, c < 16 ^ 8
theorem shifted_lt {B : Nat} : ∀ {l : List (Nat × Nat × Nat)}, l.all (fun p => decide (p.2.2 + (p.2.1 - p.1) < B)) = true → ∀ {c x : Nat}, Unicode.shifted l c = some x → x < B
  | [], _, c, x, h => by simp [Unicode.shifted] at h
  | (a, b, t) :: l, ha, c, x, h => by
    rw [List.all_cons, Bool.and_eq_true] at ha
    have h1 : t + (b - a) < B := of_decide_eq_true ha.1
    unfold Unicode.shifted at h
    by_cases hc : c < a
    · rw [if_pos hc] at h; cases h
    · rw [if_neg hc] at h
      by_cases hb : c ≤ b
      · rw [if_pos hb] at h
        cases h
        omega
      · rw [if_neg hb] at h
        exact shifted_lt ha.2 h
theorem lookup_mem {β : Type} : ∀ {l : List (Nat × β)} {a : Nat} {b : β}, l.lookup a = some b → (a, b) ∈ l
  | [], a, b, h => by simp at h
  | (k, v) :: l, a, b, h => by
    rw [List.lookup_cons] at h
    cases e : a == k with
    | true =>
      rw [e] at h
      cases h
      rw [eq_of_beq e]
      exact List.mem_cons_self
    | false =>
      rw [e] at h
      exact List.mem_cons_of_mem _ (lookup_mem h)
theorem tabOne : UnicodeData.oneUpper.all (fun p => decide (p.2.2 + (p.2.1 - p.1) < 16 ^ 8)) = true := by decide +kernel
theorem tabSev : UnicodeData.severalUpper.all (fun p => p.2.all fun x => decide (x < 16 ^ 8)) = true := by decide +kernel
theorem upperOf_lt {c : Nat} (h : c < 16 ^ 8) : ∀ x ∈ Unicode.upperOf c, x < 16 ^ 8 := by
  intro x hx
  unfold Unicode.upperOf Unicode.image at hx
  cases e : UnicodeData.severalUpper.lookup c with
  | some cs =>
    rw [e] at hx
    have := List.all_eq_true.mp tabSev _ (lookup_mem e)
    exact of_decide_eq_true (List.all_eq_true.mp this x hx)
  | none =>
    rw [e] at hx
    rw [List.mem_singleton.mp hx]
    cases e2 : Unicode.shifted UnicodeData.oneUpper c with
    | none => exact h
    | some y => exact shifted_lt tabOne e2
theorem TxOk.upper {x : Str} (h : TxOk x) : TxOk (Txt.upper x) := by
  intro c hc
  unfold Txt.upper placed at hc
  have hc := Array.mem_toList_iff.mp hc
  obtain ⟨ys, h1, h2⟩ := Array.mem_flatten.mp hc
  obtain ⟨i, hi, e⟩ := Array.mem_mapIdx.mp h1
  subst e
  have h3 : c ∈ Unicode.upperOf x.cps[i] := by simpa using h2
  exact upperOf_lt (h _ (Array.mem_toList_iff.mpr (Array.getElem_mem hi))) c h3
theorem TxOk.app {x y : Str} (h : TxOk x) (k : TxOk y) : TxOk (x ++ y) := by
  intro c hc
  have e : (x ++ y).cps.toList = x.cps.toList ++ y.cps.toList := by
    show (x.cps ++ y.cps).toList = _
    simp
  rw [e] at hc
  exact (List.mem_append.mp hc).elim (h c) (k c)
theorem TxOk.cut {x : Str} (h : TxOk x) (lo hi : Option Int) : TxOk (cutS x lo hi) := by
  intro c hc
  have hc : c ∈ (((x.cps.toList.drop (HT.sIx x.length 0 lo)).take (HT.sIx x.length x.length hi - HT.sIx x.length 0 lo)).toArray).toList := hc
  rw [List.toList_toArray] at hc
  exact h c (List.mem_of_mem_drop (List.mem_of_mem_take hc))
theorem TxOk.of (s : String) : TxOk (Str.ofString s) := by
  intro c hc
  rw [Str.ofString_eq_toList] at hc
  have hc : c ∈ s.toList.map Char.toNat := by simpa using hc
  obtain ⟨d, _, rfl⟩ := List.mem_map.mp hc
  have := d.valid
  have h2 : d.toNat < 0x110000 := by
    rcases this with h | h
    · exact Nat.lt_trans h (by decide)
    · exact h.2
  exact Nat.lt_trans h2 (by decide)
theorem str_app_len (x y : Str) : (x ++ y).length = x.length + y.length := strLen_append x y

/-! size -/
mutual
def zs : PyData → Nat
  | .none => 10
  | .bool _ => 10
  | .int _ => 60
  | .str x => 10 * x.length + 2
  | .list ds => zsAll ds + 4
  | .tuple ds => zsAll ds + 4
  | .dict _ => 50
def zsAll : List PyData → Nat
  | [] => 0
  | d :: ds => zs d + 2 + zsAll ds
end
mutual
def fz (M : Nat) : PyData → Prop
  | .none => True
  | .bool _ => True
  | .int i => i.natAbs ≤ M
  | .str x => TxOk x
  | .list ds => fzAll M ds
  | .tuple ds => fzAll M ds
  | .dict kvs => (PyData.showable (.dict kvs) = true) ∧ (PyData.shown (.dict kvs)).length ≤ 50
def fzAll (M : Nat) : List PyData → Prop
  | [] => True
  | d :: ds => fz M d ∧ fzAll M ds
end
mutual
theorem fz_mono {M N : Nat} (h : M ≤ N) : ∀ d : PyData, fz M d → fz N d
  | .none, a => a
  | .bool _, a => a
  | .int _, a => Nat.le_trans a h
  | .str _, a => a
  | .list ds, a => fzAll_mono h ds a
  | .tuple ds, a => fzAll_mono h ds a
  | .dict _, a => a
theorem fzAll_mono {M N : Nat} (h : M ≤ N) : ∀ ds : List PyData, fzAll M ds → fzAll N ds
  | [], a => a
  | d :: ds, a => ⟨fz_mono h d a.1, fzAll_mono h ds a.2⟩
end
theorem fzAll_iff {M : Nat} : ∀ {ds : List PyData}, fzAll M ds ↔ ∀ d ∈ ds, fz M d
  | [] => ⟨fun _ d h => by simp at h, fun _ => trivial⟩
  | d :: ds => by
    constructor
    · intro h e he
      rcases List.mem_cons.mp he with rfl | he
      · exact h.1
      · exact fzAll_iff.mp h.2 e he
    · intro h
      exact ⟨h d List.mem_cons_self, fzAll_iff.mpr fun e he => h e (List.mem_cons_of_mem _ he)⟩
theorem depthAll_iff {k : Nat} : ∀ {ds : List PyData}, PyData.depthAll ds ≤ k ↔ ∀ d ∈ ds, PyData.depth d ≤ k
  | [] => ⟨fun _ d h => by simp at h, fun _ => Nat.zero_le _⟩
  | d :: ds => by
    simp only [PyData.depthAll]
    constructor
    · intro h e he
      have h := Nat.max_le.mp h
      rcases List.mem_cons.mp he with rfl | he
      · exact h.1
      · exact depthAll_iff.mp h.2 e he
    · intro h
      exact Nat.max_le.mpr ⟨h d List.mem_cons_self, depthAll_iff.mpr fun e he => h e (List.mem_cons_of_mem _ he)⟩
theorem zsAll_app : ∀ a b : List PyData, zsAll (a ++ b) = zsAll a + zsAll b
  | [], b => by simp [zsAll]
  | d :: a, b => by
    show zs d + 2 + zsAll (a ++ b) = zs d + 2 + zsAll a + zsAll b
    rw [zsAll_app a b]
    omega
theorem zsAll_take (n : Nat) (ds : List PyData) : zsAll (ds.take n) ≤ zsAll ds := by
  have := zsAll_app (ds.take n) (ds.drop n)
  rw [List.take_append_drop] at this
  omega
theorem zsAll_drop (n : Nat) (ds : List PyData) : zsAll (ds.drop n) ≤ zsAll ds := by
  have := zsAll_app (ds.take n) (ds.drop n)
  rw [List.take_append_drop] at this
  omega
theorem zsAll_rev : ∀ ds : List PyData, zsAll ds.reverse = zsAll ds
  | [] => rfl
  | d :: ds => by
    rw [List.reverse_cons, zsAll_app, zsAll_rev ds]
    show zsAll ds + (zs d + 2 + 0) = zs d + 2 + zsAll ds
    omega
theorem zs_mem : ∀ {ds : List PyData} {d : PyData}, d ∈ ds → zs d + 2 ≤ zsAll ds
  | e :: ds, d, h => by
    show zs d + 2 ≤ zs e + 2 + zsAll ds
    rcases List.mem_cons.mp h with rfl | h
    · omega
    · have := zs_mem h
      omega
theorem zsAll_len : ∀ ds : List PyData, ds.length ≤ zsAll ds
  | [] => Nat.zero_le _
  | d :: ds => by
    have := zsAll_len ds
    show ds.length + 1 ≤ zs d + 2 + zsAll ds
    omega
/-- what the data are: their numbers, their size, their depth -/
structure Gd (M n k : Nat) (d : PyData) : Prop where
  f : fz M d
  z : zs d ≤ n
  p : PyData.depth d ≤ k
structure GdAll (M n k : Nat) (ds : List PyData) : Prop where
  f : fzAll M ds
  z : zsAll ds ≤ n
  p : PyData.depthAll ds ≤ k
theorem Gd.mono {M N n m k j : Nat} {d : PyData} (h : Gd M n k d) (a : M ≤ N) (b : n ≤ m) (c : k ≤ j) : Gd N m j d := ⟨fz_mono a d h.f, Nat.le_trans h.z b, Nat.le_trans h.p c⟩
theorem GdAll.mono {M N n m k j : Nat} {d : List PyData} (h : GdAll M n k d) (a : M ≤ N) (b : n ≤ m) (c : k ≤ j) : GdAll N m j d := ⟨fzAll_mono a d h.f, Nat.le_trans h.z b, Nat.le_trans h.p c⟩
theorem Gd.all {M n k : Nat} {ds : List PyData} (h : Gd M n k (.tuple ds)) : GdAll M (n - 4) (k - 1) ds ∧ 4 ≤ n ∧ 1 ≤ k := by
  have h2 : zsAll ds + 4 ≤ n := h.z
  have h3 : PyData.depthAll ds + 1 ≤ k := by
    have := h.p
    simp only [PyData.depth] at this
    exact this
  exact ⟨⟨h.f, by omega, by omega⟩, by omega, by omega⟩
theorem GdAll.tuple {M n k : Nat} {ds : List PyData} (h : GdAll M n k ds) : Gd M (n + 4) (k + 1) (.tuple ds) := by
  refine ⟨h.f, Nat.add_le_add_right h.z 4, ?_⟩
  simp only [PyData.depth]
  exact Nat.add_le_add_right h.p 1
theorem GdAll.list {M n k : Nat} {ds : List PyData} (h : GdAll M n k ds) : Gd M (n + 4) (k + 1) (.list ds) := by
  refine ⟨h.f, Nat.add_le_add_right h.z 4, ?_⟩
  simp only [PyData.depth]
  exact Nat.add_le_add_right h.p 1
theorem GdAll.nil {M k : Nat} : GdAll M 0 k [] := ⟨trivial, Nat.le_refl _, Nat.zero_le _⟩
theorem GdAll.cons {M n m k : Nat} {d : PyData} {ds : List PyData} (h : Gd M n k d) (t : GdAll M m k ds) : GdAll M (n + 2 + m) k (d :: ds) := by
  refine ⟨⟨h.f, t.f⟩, ?_, ?_⟩
  · have := h.z
    have := t.z
    show zs d + 2 + zsAll ds ≤ _
    omega
  · simp only [PyData.depthAll]
    exact Nat.max_le.mpr ⟨h.p, t.p⟩
theorem GdAll.app {M n m k : Nat} {ds es : List PyData} (h : GdAll M n k ds) (t : GdAll M m k es) : GdAll M (n + m) k (ds ++ es) := by
  refine ⟨fzAll_iff.mpr fun d hd => (List.mem_append.mp hd).elim (fzAll_iff.mp h.f d) (fzAll_iff.mp t.f d), ?_, depthAll_iff.mpr fun d hd => (List.mem_append.mp hd).elim (depthAll_iff.mp h.p d) (depthAll_iff.mp t.p d)⟩
  rw [zsAll_app]
  exact Nat.add_le_add h.z t.z
theorem GdAll.sub {M n k : Nat} {ds es : List PyData} (h : GdAll M n k ds) (s : ∀ d ∈ es, d ∈ ds) (z : zsAll es ≤ zsAll ds) : GdAll M n k es :=
  ⟨fzAll_iff.mpr fun d hd => fzAll_iff.mp h.f d (s d hd), Nat.le_trans z h.z, depthAll_iff.mpr fun d hd => depthAll_iff.mp h.p d (s d hd)⟩
theorem GdAll.take {M n k : Nat} {ds : List PyData} (i : Nat) (h : GdAll M n k ds) : GdAll M n k (ds.take i) := h.sub (fun _ hd => List.mem_of_mem_take hd) (zsAll_take i ds)
theorem GdAll.drop {M n k : Nat} {ds : List PyData} (i : Nat) (h : GdAll M n k ds) : GdAll M n k (ds.drop i) := h.sub (fun _ hd => List.mem_of_mem_drop hd) (zsAll_drop i ds)
theorem GdAll.rev {M n k : Nat} {ds : List PyData} (h : GdAll M n k ds) : GdAll M n k ds.reverse := h.sub (fun _ hd => List.mem_reverse.mp hd) (Nat.le_of_eq (zsAll_rev ds))
theorem GdAll.at {M n k : Nat} {ds : List PyData} {d : PyData} (h : GdAll M n k ds) (m : d ∈ ds) : Gd M n k d :=
  ⟨fzAll_iff.mp h.f d m, by have := zs_mem m; have := h.z; omega, depthAll_iff.mp h.p d m⟩
/-- shown -/
theorem shown_int {M : Nat} {i : Int} (hM : M < 10 ^ 40) (h : i.natAbs ≤ M) : (PyData.shown (.int i)).length ≤ 60 := by
  have e := int_text_length_le10 (a := i) (k := 40) (by decide) (by omega)
  show (Str.ofString (toString i)).length ≤ 60
  rw [PySem.ofString_length]
  omega
theorem log_int {M : Nat} {i : Int} (hM : M < 10 ^ 40) (h : i.natAbs ≤ M) : i.natAbs.log2 < 1920 := by
  by_cases h0 : i.natAbs = 0
  · rw [h0]; decide
  · exact Nat.lt_of_lt_of_le ((Nat.log2_lt h0).mpr (show i.natAbs < 2 ^ 140 from Nat.lt_of_lt_of_le (show i.natAbs < 10 ^ 40 by omega) (by decide))) (by decide)
mutual
theorem shown_le {M : Nat} (hM : M < 10 ^ 40) : ∀ d : PyData, fz M d → PyData.showable d = true ∧ (PyData.shown d).length ≤ zs d
  | .none, _ => ⟨rfl, by decide⟩
  | .bool b, _ => ⟨rfl, by cases b <;> decide⟩
  | .int i, h => ⟨decide_eq_true (log_int hM h), shown_int hM h⟩
  | .str x, h => ⟨rfl, by
    show (reprText x).length ≤ 10 * x.length + 2
    exact StrLaws.reprText_len x h⟩
  | .list ds, h => by
    obtain ⟨h1, h2⟩ := shownAll_le hM ds h
    refine ⟨by simpa only [PyData.showable] using h1, ?_⟩
    simp only [PyData.shown, zs]
    have := listText_len_le (PyData.shownAll ds)
    omega
  | .tuple ds, h => by
    obtain ⟨h1, h2⟩ := shownAll_le hM ds h
    refine ⟨by simpa only [PyData.showable] using h1, ?_⟩
    simp only [PyData.shown, zs]
    have := tupleText_len_le (PyData.shownAll ds)
    omega
  | .dict kvs, h => h
theorem shownAll_le {M : Nat} (hM : M < 10 ^ 40) : ∀ ds : List PyData, fzAll M ds → PyData.showableAll ds = true ∧ ((PyData.shownAll ds).map (·.length)).sum + 2 * (PyData.shownAll ds).length ≤ zsAll ds
  | [], _ => ⟨rfl, Nat.le_refl _⟩
  | d :: ds, h => by
    obtain ⟨h1, h2⟩ := shown_le hM d h.1
    obtain ⟨h3, h4⟩ := shownAll_le hM ds h.2
    refine ⟨by simp only [PyData.showableAll, h1, h3, Bool.and_self], ?_⟩
    simp only [PyData.shownAll, List.map_cons, List.sum_cons, List.length_cons, zsAll]
    omega
end
end XT
/-! repr of any data -/
namespace XT
open PySem PySem.Spec PyProof.Rows L2
section
variable {X : Cx}
/-- repr of any data -/
def rReprA (K : PySem.W.Frag) : List V → Hp → VK → Prop := fun xs H Q => ∃ (x : V) (d : PyData), xs = [x] ∧ Dz K H x d ∧ d.depth ≤ 64 ∧ d.showable = true ∧ d.shown.length ≤ sizeLine ∧ Q (.str d.shown) H
theorem cr_reprA (hg : X.A.guards = some []) (hu : X.A.units + 128 < cLine) : CallR X (.builtin "repr") (rReprA X.K) := by
  intro pins s σ H xs us Q I r h
  obtain ⟨x, d, rfl, hd, dp, hw, hz, q⟩ := h
  obtain ⟨u, rfl, ru⟩ := vals1 r
  cases hd with
  | non => cases ru; exact PySem.P.repr_of_none ⟨.str _, H, I.tok _, ⟨_, rfl⟩, q⟩
  | bl b => cases ru; exact PySem.P.repr_of_bool ⟨.str (if b then "True" else "False"), H, I.tok _, ⟨_, by cases b <;> rfl⟩, by cases b <;> exact q⟩
  | int i =>
    obtain ⟨t, rfl⟩ := ru
    exact PySem.P.repr_of_int (of_decide_eq_true hw) ⟨.str _, H, I.tok _, ⟨_, rfl⟩, q⟩
  | str y =>
    obtain ⟨t, rfl⟩ := ru
    exact PySem.P.repr_of_str ⟨.str _, H, I.tok _, ⟨_, rfl⟩, q⟩ (hsz := hz)
  | lst a b c => cases ru; exact cr_reprZ hg hu pins s σ H _ _ Q I r ⟨_, _, rfl, .lst a b c, dp, hw, hz, q⟩
  | tup a b => cases ru; exact cr_reprZ hg hu pins s σ H _ _ Q I r ⟨_, _, rfl, .tup a b, dp, hw, hz, q⟩
  | dct kvs a => cases ru; exact cr_reprZ hg hu pins s σ H _ _ Q I r ⟨_, _, rfl, .dct kvs a, dp, hw, hz, q⟩
/-- list(t): not at the place of sys.modules -/
theorem call_listB : CallR X (.type "list") (fun xs H Q => ∃ p ys, xs = [.ref p] ∧ SqT X.K H p ys ∧ ∀ l, H l = none → l ≠ sysModules → Q (.ref l) (upd H l (.lst ys))) := by
  intro pins s σ H xs us Q I r h
  obtain ⟨p, ys, rfl, hq, q⟩ := h
  obtain ⟨u, rfl, rx⟩ := vals1 r
  cases rx
  have fin : ∀ (its : List Value), Vals ys its → ys.length ≤ sizeLine → ∀ (h' : Heap) (c' : Nat), (∀ b o', s.heap.get? b = some o' → h'.get? b = some o') →
      h'.get? s.heap.objs.size = some { cls := .type "list", dict := none, data := .seq its.toArray c', slots := #[] } → EP X pins σ Q (.ref s.heap.objs.size) { s with heap := h' } := fun its r' hz h' c' kp e =>
    ⟨.ref s.heap.objs.size, _, I.laid (t' := s.toks) kp (Nat.le_refl _) (show ObjOk X.prog X.w _ h' _ (.lst ys) from ⟨hz, its, c', r', e⟩), rfl, q _ (I.hok.fresh (Nat.le_refl _)) (Ne.symm (Nat.ne_of_lt I.big))⟩
  obtain ⟨its, r', pl, hz⟩ := I.tuple hq
  have hlen := r'.length
  obtain ⟨o, ho, hc, n, hd⟩ := pl
  exact call_list_seq p (.inr rfl) ho hc hd (fun h' c' kp e => fin its r' hz h' c' kp e) (by simp only [List.size_toArray] <;> omega)
/-- t != () -/
theorem op_neE (hu : X.A.units < cLine) : OpR X (compareOp .NotEq) (fun x y H Q => ∃ (a b : Addr) (xs : List V), x = .ref a ∧ y = .ref b ∧ SqT X.K H a xs ∧ SqT X.K H b [] ∧ Q (.bl (!xs.isEmpty)) H) := by
  intro pins s σ H x y v u Q I rx ry h
  obtain ⟨a, b, xs, rfl, rfl, ha, hb, q⟩ := h
  cases rx
  cases ry
  obtain ⟨its, r1, p1, _⟩ := I.tuple ha
  obtain ⟨its2, r2, p2, _⟩ := I.tuple hb
  cases r2
  refine SeqAt.RcNeAt.tuples (e := fun _ => true) p1 p2 hu (fun j h1 h2 => absurd h2 (Nat.not_lt_zero _)) X.prog X.w _ _ ⟨.bl (!xs.isEmpty), H, I, ?_, q⟩
  show Value.bool _ = Value.bool _
  congr 1
  cases r1 with
  | nil => rfl
  | cons _ _ => simp
/-- True + 1 -/
theorem op_add_bi : OpR X (binaryOp .Add) (fun x y H Q => ∃ k i, x = .bl k ∧ y = .int i ∧ Q (.int ((if k = true then (1 : Int) else 0) + i)) H) := by
  intro pins s σ H x y v u Q I rx ry h
  obtain ⟨k, i, rfl, rfl, q⟩ := h
  obtain ⟨t, rfl⟩ := ry
  cases rx
  exact PySem.IntBool.add_bool_int ⟨.int _, H, I.tok _, ⟨_, rfl⟩, q⟩
theorem op_sub_bi : OpR X (binaryOp .Sub) (fun x y H Q => ∃ k i, x = .bl k ∧ y = .int i ∧ Q (.int ((if k = true then (1 : Int) else 0) - i)) H) := by
  intro pins s σ H x y v u Q I rx ry h
  obtain ⟨k, i, rfl, rfl, q⟩ := h
  obtain ⟨t, rfl⟩ := ry
  cases rx
  exact PySem.IntBool.sub_bool_int ⟨.int _, H, I.tok _, ⟨_, rfl⟩, q⟩
theorem op_eq_bi : OpR X (compareOp .Eq) (fun x y H Q => ∃ k i, x = .bl k ∧ y = .int i ∧ Q (.bl ((if k then 1 else 0) == i)) H) := by
  intro pins s σ H x y v u Q I rx ry h
  obtain ⟨k, i, rfl, rfl, q⟩ := h
  obtain ⟨t, rfl⟩ := ry
  cases rx
  exact PySem.EqBoolInt.eq_bool_int ⟨.bl _, H, I, rfl, q⟩
theorem call_str_bool : CallR X (.type "str") (fun xs H Q => ∃ b, xs = [.bl b] ∧ Q (.str (Str.ofString (if b then "True" else "False"))) H) := by
  intro pins s σ H xs us Q I r h
  obtain ⟨b, rfl, q⟩ := h
  obtain ⟨u, rfl, ru⟩ := vals1 r
  cases ru
  exact PySem.P.str_of_bool ⟨.str _, H, I.tok _, ⟨_, by cases b <;> rfl⟩, q⟩
/-- two rules for one operator -/
theorem OpR.or {f : Value → Value → Sem Value} {r r' : R2} (h : OpR X f r) (h' : OpR X f r') : OpR X f (fun x y H Q => r x y H Q ∨ r' x y H Q) := by
  intro pins s σ H x y v u Q I rx ry q
  rcases q with q | q
  · exact h pins s σ H x y v u Q I rx ry q
  · exact h' pins s σ H x y v u Q I rx ry q
theorem CallR.or {f : Value} {r r' : List V → Hp → VK → Prop} (h : CallR X f r) (h' : CallR X f r') : CallR X f (fun xs H Q => r xs H Q ∨ r' xs H Q) := by
  intro pins s σ H xs us Q I rx q
  rcases q with q | q
  · exact h pins s σ H xs us Q I rx q
  · exact h' pins s σ H xs us Q I rx q
end
/-! t[::-1] -/
section
variable {prog : Program} {w : World} {A : Around} {E : Value → Shared → Prop} {s : Shared}
theorem adjust_rev (n : Nat) : Builtin.Slice.sliceAdjust none none (-1) (n : Int) = ((n : Int) - 1, -1) := rfl
theorem places_rev (n : Nat) : Builtin.Slice.slicePlaces ((n : Int) - 1) (-1) (-1) = n := by
  unfold Builtin.Slice.slicePlaces
  have h1 : ¬ ((-1 : Int) > 0) := by decide
  rw [if_neg h1]
  by_cases h : (n : Int) - 1 > -1
  · rw [if_pos h, show (- -1 : Int) = 1 by decide, Int.ediv_one]
    omega
  · rw [if_neg h]
    omega
theorem pick_rev (xs : Array Value) : ((List.range xs.size).filterMap fun (m : Nat) => xs[((xs.size : Int) - 1 + (m : Int) * (-1)).toNat]?).toArray = xs.toList.reverse.toArray := by
  have e : (List.range xs.size).filterMap (fun (m : Nat) => xs[((xs.size : Int) - 1 + (m : Int) * (-1)).toNat]?) = ((List.range xs.size).map fun k => xs.size - 1 - k).filterMap (xs[·]?) := by
    rw [List.filterMap_map]
    have g : ∀ l : List Nat, (∀ m ∈ l, m < xs.size) → l.filterMap (fun (m : Nat) => xs[((xs.size : Int) - 1 + (m : Int) * (-1)).toNat]?) = l.filterMap ((fun x => xs[x]?) ∘ fun k => xs.size - 1 - k) := by
      intro l
      induction l with
      | nil => intro _; rfl
      | cons m l ih =>
        intro hm
        have h1 := hm m List.mem_cons_self
        have e2 : ((xs.size : Int) - 1 + (m : Int) * (-1)).toNat = xs.size - 1 - m := by omega
        rw [List.filterMap_cons, List.filterMap_cons, ih fun x hx => hm x (List.mem_cons_of_mem _ hx)]
        rw [e2]
        rfl
    exact g _ fun m hm => List.mem_range.mp hm
  rw [e, PySem.W.krv_range, List.filterMap_reverse, PySem.W.krv_all]
theorem sliceApplied_rev {sl : Addr} {tk : Tok} {n : Nat} {Q : Int × Int × Nat → Shared → Prop} (hs : s.heap.IsSliceOf sl .none .none (.int (-1) tk))
    (h : Q ((n : Int) - 1, -1, n) s) : wpAny (model prog w) A (Builtin.Slice.sliceApplied (.ref sl) (pure (n : Int))) Q E s := by
  obtain ⟨os, hos, hcs, hds⟩ := id hs
  unfold Builtin.Slice.sliceApplied Builtin.Slice.sliceFields
  refine wpAny_bind (wpAny_bind (wpAny_field hos hds (x := .none) rfl (wpAny_bind (wpAny_field hos hds (x := .none) rfl (wpAny_bind (wpAny_field hos hds (x := .int (-1) tk) rfl (wpAny_pure ?_)))))))
  refine wpAny_bind (HT.slicePart_ (.int (-1) tk) ?_)
  show wpAny _ _ (if ((-1 : Int) == 0) = true then _ else _) _ _ s
  rw [if_neg (by decide)]
  refine wpAny_bind (HT.slicePart_ .none (wpAny_bind (HT.slicePart_ .none (wpAny_bind (wpAny_pure ?_)))))
  show wpAny _ _ (match Builtin.Slice.sliceAdjust none none (-1) (n : Int) with | (lo, hi) => pure (lo, (-1 : Int), Builtin.Slice.slicePlaces lo hi (-1))) _ _ s
  rw [adjust_rev n]
  show wpAny _ _ (pure ((n : Int) - 1, (-1 : Int), Builtin.Slice.slicePlaces ((n : Int) - 1) (-1) (-1))) _ _ s
  rw [places_rev]
  exact wpAny_pure h
theorem getItem_tuple_rev {t sl : Addr} {items : Array Value} {tk : Tok} {Q : Value → Shared → Prop} (ht : IsTup s.heap t items) (hs : s.heap.IsSliceOf sl .none .none (.int (-1) tk))
    (h : Q (.ref s.heap.objs.size) { s with heap := s.heap.push { cls := .type "tuple", data := .seq items.toList.reverse.toArray } })
    (hsz : items.size ≤ sizeLine) : wpAny (model prog w) A (getItem (.ref t) (.ref sl)) Q E s := by
  have htake : sizeOk (.seq items.toList.reverse.toArray) := by
    show items.toList.reverse.toArray.size ≤ sizeLine
    rw [List.size_toArray, List.length_reverse, Array.length_toList]
    exact hsz
  obtain ⟨os, hos, hcs, hds⟩ := id hs
  have hTs : s.TypeIs (.ref sl) "slice" := ⟨os, hos, hcs⟩
  unfold getItem
  try with_reducible refine wpAny_holding ?_
  first | refine wpAny_bind (wpAny_pure ?_) | skip
  refine wpAny_bind (wpAny_sequenceKey ht.typeIs (by decide) ?_)
  refine wpAny_bind (wpAny_callSpecial?_slot (name := Str.ofString "__getitem__") ht.typeIs PyProof.Rows.slot_tuple_getitem
    (wpAny_call_entry PyProof.Rows.slot_tuple_getitem ht.typeIs entry_tuple_getitem ?_ (args_tuple_getitem _ _)))
  show wpAny _ _ (Builtin.Tuple.tupleItemsOf (.ref t) >>= _) _ _ s
  refine wpAny_bind (tupleItemsOf_ ht ?_)
  refine wpAny_bind (wpAny_typeOf hTs ?_)
  rw [if_pos (by decide)]
  refine wpAny_bind (sliceApplied_rev hs ?_)
  have hno : ¬ ((((items.size : Int) - 1) == 0 && (-1 : Int) == 1 && items.size == items.size) = true) := by
    intro q
    rw [Bool.and_eq_true, Bool.and_eq_true] at q
    exact absurd q.1.2 (by decide)
  show wpAny _ _ (if ((((items.size : Int) - 1) == 0 && (-1 : Int) == 1 && items.size == items.size) = true) then _ else _) _ _ s
  rw [if_neg hno, pick_rev]
  first
    | exact wpAny_bind (m := Builtin.Tuple.tupleExact _) (wpAny_newObj_type (wpAny_pure ⟨_, rfl, wpAny_pure h⟩) htake)
    | exact wpAny_bind (m := Builtin.Tuple.tupleExact _) (wpAny_newObj_type (wpAny_bind (wpAny_pure (wpAny_pure ⟨_, rfl, wpAny_pure h⟩))) htake)
    | exact wpAny_bind (wpAny_bind (m := Builtin.Tuple.tupleExact _) (wpAny_newObj_type (wpAny_pure (wpAny_pure ⟨_, rfl, wpAny_pure h⟩)) htake))
    | exact wpAny_bind (wpAny_bind (m := Builtin.Tuple.tupleExact _) (wpAny_newObj_type (wpAny_pure ⟨_, rfl, wpAny_pure h⟩) htake))
end
section
variable {X : Cx} {e st : Expr} {te ts : TE} {pos p2 : Pos}
def tRevT (K : PySem.W.Frag) (te ts : TE) : TE := fun σ H Q => te σ H fun x H1 => ts σ H1 fun y H2 => ∃ a xs, x = .ref a ∧ y = .int (-1) ∧ SqT K H2 a xs ∧ ∀ p, H2 p = none → Q (.ref p) (upd H2 p (.tup xs.reverse))
/-- t[::-1] -/
theorem pe_revT (he : PE X e te) (hs : PE X st ts) : PE X (.Subscript e (.Slice none none (some st) p2) pos) (tRevT X.K te ts) := by
  refine ⟨fun pins s σ H Q I h => ?_⟩
  refine Subscript_ (thn (he.run pins s σ H _ I h) fun v s1 ⟨x, H1, I1, r1, q1⟩ => ?_)
  refine wpAny_Slice ?_
  rw [evalPart_none]
  refine wpAny_pure ?_
  refine wpAny_pure ?_
  rw [evalPart_some]
  refine thn (hs.run pins s1 σ H1 _ I1 q1) fun u s3 ⟨y, H3, I3, r3, q3⟩ => ?_
  obtain ⟨a, xs, rfl, rfl, hx, q⟩ := q3
  obtain ⟨tk, rfl⟩ := r3
  cases r1
  have I4 : Inv X pins σ H3 { s3 with heap := s3.heap.push { cls := .type "slice", data := .fields #[.none, .none, .int (-1) tk] } } := I3.kept (t' := s3.toks) fun b ob q => Heap.get?_push_of_some _ q
  obtain ⟨its, r, ht, hz⟩ := I4.tuple hx
  have hlen : its.toArray.size = xs.length := by rw [List.size_toArray]; exact r.length.symm
  show wpAny (model X.prog X.w) X.A (subscriptTail e (.Slice none none (some st) p2) (.ref a) (.ref s3.heap.objs.size)) (EP X pins σ Q) X.xe { s3 with heap := s3.heap.push { cls := .type "slice", data := .fields #[.none, .none, .int (-1) tk] } }
  refine tail_any (ops := [.ref a, .ref s3.heap.objs.size]) ht.typeIs PyProof.Rows.slot_tuple_getitem.lookup ?_ (by with_unfolding_all rfl)
  refine getItem_tuple_rev ht (Heap.IsSliceOf.new ..) ?_ (by rw [hlen]; exact hz)
  refine ⟨.ref (s3.heap.push { cls := .type "slice", data := .fields #[.none, .none, .int (-1) tk] }).objs.size, _, I4.laid (t' := s3.toks) (o := .tup xs.reverse) (fun b ob q => Heap.get?_push_of_some _ q) (Nat.le_refl _) ?_, rfl, q _ (I4.hok.fresh (Nat.le_refl _))⟩
  exact ⟨by rw [List.length_reverse]; exact hz, _, r.reverse, IsTup.new _ _⟩
end
end XT
/-! data that avoid the stream -/
namespace XT
open PySem PySem.Spec PyProof.Rows L2
mutual
inductive Dv (K : PySem.W.Frag) (N : Addr → Prop) (H : Hp) : V → PyData → Prop
  | non : Dv K N H .non .none
  | bl (b : Bool) : Dv K N H (.bl b) (.bool b)
  | int (i : Int) : Dv K N H (.int i) (.int i)
  | str (x : Str) : Dv K N H (.str x) (.str x)
  | lst {a : Addr} {xs : List V} {ds : List PyData} : SqL K H a xs → a ≠ sysModules → N a → DvAll K N H xs ds → Dv K N H (.ref a) (.list ds)
  | tup {a : Addr} {xs : List V} {ds : List PyData} : SqT K H a xs → DvAll K N H xs ds → Dv K N H (.ref a) (.tuple ds)
  | dct {a : Addr} (kvs : List (Str × Int)) : H a = some (.dK (dkV kvs)) → Dv K N H (.ref a) (dkD kvs)
inductive DvAll (K : PySem.W.Frag) (N : Addr → Prop) (H : Hp) : List V → List PyData → Prop
  | nil : DvAll K N H [] []
  | cons {v : V} {vs : List V} {d : PyData} {ds : List PyData} : Dv K N H v d → DvAll K N H vs ds → DvAll K N H (v :: vs) (d :: ds)
end
/-- not of the stream -/
abbrev Nof (S : Sm) : Addr → Prop := fun a => a ≠ S.s ∧ a ≠ S.p
abbrev Ds (K : PySem.W.Frag) (S : Sm) (H : Hp) : V → PyData → Prop := Dv K (Nof S) H
abbrev DsAll (K : PySem.W.Frag) (S : Sm) (H : Hp) : List V → List PyData → Prop := DvAll K (Nof S) H
mutual
theorem Dv.dz {K : PySem.W.Frag} {N : Addr → Prop} {H : Hp} : ∀ {v : V} {d : PyData}, Dv K N H v d → Dz K H v d
  | _, _, .non => .non
  | _, _, .bl b => .bl b
  | _, _, .int i => .int i
  | _, _, .str x => .str x
  | _, _, .lst h n _ a => .lst h n (DvAll.dz a)
  | _, _, .tup h a => .tup h (DvAll.dz a)
  | _, _, .dct kvs h => .dct kvs h
theorem DvAll.dz {K : PySem.W.Frag} {N : Addr → Prop} {H : Hp} : ∀ {vs : List V} {ds : List PyData}, DvAll K N H vs ds → DzAll K H vs ds
  | _, _, .nil => .nil
  | _, _, .cons h a => .cons (Dv.dz h) (DvAll.dz a)
end
mutual
/-- all that the data stand on is kept -/
theorem Dv.map {K : PySem.W.Frag} {N N' : Addr → Prop} {H H' : Hp} (kt : ∀ b xs, SqT K H b xs → SqT K H' b xs) (kl : ∀ b xs, N b → SqL K H b xs → SqL K H' b xs) (kd : ∀ b kvs, H b = some (.dK kvs) → H' b = some (.dK kvs)) (kn : ∀ b, N b → N' b) :
    ∀ {v : V} {d : PyData}, Dv K N H v d → Dv K N' H' v d
  | _, _, .non => .non
  | _, _, .bl b => .bl b
  | _, _, .int i => .int i
  | _, _, .str x => .str x
  | _, _, .lst h n m a => .lst (kl _ _ m h) n (kn _ m) (DvAll.map kt kl kd kn a)
  | _, _, .tup h a => .tup (kt _ _ h) (DvAll.map kt kl kd kn a)
  | _, _, .dct kvs h => .dct kvs (kd _ _ h)
theorem DvAll.map {K : PySem.W.Frag} {N N' : Addr → Prop} {H H' : Hp} (kt : ∀ b xs, SqT K H b xs → SqT K H' b xs) (kl : ∀ b xs, N b → SqL K H b xs → SqL K H' b xs) (kd : ∀ b kvs, H b = some (.dK kvs) → H' b = some (.dK kvs)) (kn : ∀ b, N b → N' b) :
    ∀ {vs : List V} {ds : List PyData}, DvAll K N H vs ds → DvAll K N' H' vs ds
  | _, _, .nil => .nil
  | _, _, .cons h a => .cons (Dv.map kt kl kd kn h) (DvAll.map kt kl kd kn a)
end
theorem Dv.same {K : PySem.W.Frag} {N : Addr → Prop} {H H' : Hp} (e : Same H H') {v : V} {d : PyData} (h : Dv K N H v d) : Dv K N H' v d := h.map (fun _ _ q => Same.sqT e q) (fun _ _ _ q => e.seq q) (fun _ _ q => e _ _ q) (fun _ q => q)
theorem DvAll.same {K : PySem.W.Frag} {N : Addr → Prop} {H H' : Hp} (e : Same H H') {v : List V} {d : List PyData} (h : DvAll K N H v d) : DvAll K N H' v d := h.map (fun _ _ q => Same.sqT e q) (fun _ _ _ q => e.seq q) (fun _ _ q => e _ _ q) (fun _ q => q)
theorem Dv.imp {K : PySem.W.Frag} {N N' : Addr → Prop} {H : Hp} {v : V} {d : PyData} (h : Dv K N H v d) (k : ∀ b, N b → N' b) : Dv K N' H v d := h.map (fun _ _ q => q) (fun _ _ _ q => q) (fun _ _ q => q) k
theorem DvAll.imp {K : PySem.W.Frag} {N N' : Addr → Prop} {H : Hp} {v : List V} {d : List PyData} (h : DvAll K N H v d) (k : ∀ b, N b → N' b) : DvAll K N' H v d := h.map (fun _ _ q => q) (fun _ _ _ q => q) (fun _ _ q => q) k
theorem Strm.ks {S : Sm} {H : Hp} {t : Int} {b : Addr} {o : HO} (h : Strm S H t) (e : H b = some o) (ne : ∀ xs, o ≠ .lst xs) : b ≠ S.s ∧ b ≠ S.p := by
  obtain ⟨_, h⟩ := h
  refine ⟨fun z => ?_, fun z => ?_⟩
  · rw [z, h.hs] at e
    exact ne _ (Option.some.inj e).symm
  · rw [z, h.hp] at e
    exact ne _ (Option.some.inj e).symm
theorem Keep.ko {S : Sm} {H H' : Hp} {t : Int} {b : Addr} {o : HO} (k : Keep S H H') (h : Strm S H t) (e : H b = some o) (ne : ∀ xs, o ≠ .lst xs) : H' b = some o := k b o (h.ks e ne).1 (h.ks e ne).2 e
theorem Keep.sqT {K : PySem.W.Frag} {S : Sm} {H H' : Hp} {t : Int} {b : Addr} {xs : List V} (k : Keep S H H') (h : Strm S H t) (e : SqT K H b xs) : SqT K H' b xs := by
  rcases e with (e | ⟨o, e⟩) | e
  · exact .inl (.inl (k.ko h e (fun _ z => nomatch z)))
  · exact .inl (.inr ⟨o, k.ko h e (fun _ z => nomatch z)⟩)
  · exact .inr e
theorem Keep.sqL {K : PySem.W.Frag} {S : Sm} {H H' : Hp} {b : Addr} {xs : List V} (k : Keep S H H') (n1 : b ≠ S.s) (n2 : b ≠ S.p) (e : SqL K H b xs) : SqL K H' b xs := by
  rcases e with (e | ⟨o, e⟩) | e
  · exact .inl (.inl (k b _ n1 n2 e))
  · exact .inl (.inr ⟨o, k b _ n1 n2 e⟩)
  · exact .inr e
theorem Dv.keep {K : PySem.W.Frag} {S : Sm} {H H' : Hp} {t : Int} {v : V} {d : PyData} (h : Ds K S H v d) (k : Keep S H H') (st : Strm S H t) : Ds K S H' v d := h.map (fun _ _ q => k.sqT st q) (fun _ _ n q => k.sqL n.1 n.2 q) (fun _ _ q => k.ko st q (fun _ z => nomatch z)) (fun _ q => q)
theorem DvAll.keep {K : PySem.W.Frag} {S : Sm} {H H' : Hp} {t : Int} {v : List V} {d : List PyData} (h : DsAll K S H v d) (k : Keep S H H') (st : Strm S H t) : DsAll K S H' v d := h.map (fun _ _ q => k.sqT st q) (fun _ _ n q => k.sqL n.1 n.2 q) (fun _ _ q => k.ko st q (fun _ z => nomatch z)) (fun _ q => q)
/-- a list of one's own is changed -/
theorem Dv.put {K : PySem.W.Frag} {N : Addr → Prop} {H : Hp} {L : Addr} {xs ys : List V} {v : V} {d : PyData} (h : Dv K N H v d) (hL : H L = some (.lst xs)) (hN : ∀ b, N b → b ≠ L) : Dv K N (upd H L (.lst ys)) v d := by
  refine h.map (fun b zs q => ?_) (fun b zs n q => ?_) (fun b kvs q => ?_) (fun _ q => q)
  · rcases q with (q | ⟨o, q⟩) | q
    · exact .inl (.inl (by rw [upd_ne (ne_of q hL (by intro z; cases z))]; exact q))
    · exact .inl (.inr ⟨o, by rw [upd_ne (ne_of q hL (by intro z; cases z))]; exact q⟩)
    · exact .inr q
  · rcases q with (q | ⟨o, q⟩) | q
    · exact .inl (.inl (by rw [upd_ne (hN b n)]; exact q))
    · exact .inl (.inr ⟨o, by rw [upd_ne (hN b n)]; exact q⟩)
    · exact .inr q
  · rw [upd_ne (ne_of q hL (by intro z; cases z))]
    exact q
theorem DvAll.put {K : PySem.W.Frag} {N : Addr → Prop} {H : Hp} {L : Addr} {xs ys : List V} (hL : H L = some (.lst xs)) (hN : ∀ b, N b → b ≠ L) : ∀ {vs : List V} {ds : List PyData}, DvAll K N H vs ds → DvAll K N (upd H L (.lst ys)) vs ds
  | _, _, .nil => .nil
  | _, _, .cons h a => .cons (h.put hL hN) (DvAll.put hL hN a)
theorem DvAll.at {K : PySem.W.Frag} {N : Addr → Prop} {H : Hp} : ∀ {vs : List V} {ds : List PyData}, DvAll K N H vs ds → ∀ {i : Nat} {v : V}, vs[i]? = some v → ∃ d, ds[i]? = some d ∧ Dv K N H v d
  | _, _, .nil, i, v, h => by simp at h
  | _, _, .cons (d := d) h a, 0, v, e => by
    cases e
    exact ⟨d, rfl, h⟩
  | _, _, .cons h a, i + 1, v, e => DvAll.at a (i := i) e
theorem DvAll.len {K : PySem.W.Frag} {N : Addr → Prop} {H : Hp} : ∀ {vs : List V} {ds : List PyData}, DvAll K N H vs ds → vs.length = ds.length
  | _, _, .nil => rfl
  | _, _, .cons h a => by rw [List.length_cons, List.length_cons, DvAll.len a]
theorem DvAll.app {K : PySem.W.Frag} {N : Addr → Prop} {H : Hp} : ∀ {vs us : List V} {ds es : List PyData}, DvAll K N H vs ds → DvAll K N H us es → DvAll K N H (vs ++ us) (ds ++ es)
  | _, _, _, _, .nil, b => b
  | _, _, _, _, .cons h a, b => .cons h (DvAll.app a b)
theorem DvAll.take {K : PySem.W.Frag} {N : Addr → Prop} {H : Hp} : ∀ {vs : List V} {ds : List PyData} (n : Nat), DvAll K N H vs ds → DvAll K N H (vs.take n) (ds.take n)
  | _, _, 0, _ => by rw [List.take_zero, List.take_zero]; exact .nil
  | _, _, n + 1, .nil => .nil
  | _, _, n + 1, .cons h a => .cons h (DvAll.take n a)
theorem DvAll.drop {K : PySem.W.Frag} {N : Addr → Prop} {H : Hp} : ∀ {vs : List V} {ds : List PyData} (n : Nat), DvAll K N H vs ds → DvAll K N H (vs.drop n) (ds.drop n)
  | _, _, 0, a => a
  | _, _, n + 1, .nil => .nil
  | _, _, n + 1, .cons h a => DvAll.drop n a
theorem DvAll.rev {K : PySem.W.Frag} {N : Addr → Prop} {H : Hp} : ∀ {vs : List V} {ds : List PyData}, DvAll K N H vs ds → DvAll K N H vs.reverse ds.reverse
  | _, _, .nil => .nil
  | _, _, .cons h a => by
    rw [List.reverse_cons, List.reverse_cons]
    exact (DvAll.rev a).app (.cons h .nil)
/-- the data of a cut -/
def cutD (ds : List PyData) (lo hi : Option Int) : List PyData := (ds.drop (HT.sIx ds.length 0 lo)).take (HT.sIx ds.length ds.length hi - HT.sIx ds.length 0 lo)
theorem DvAll.cut {K : PySem.W.Frag} {N : Addr → Prop} {H : Hp} {vs : List V} {ds : List PyData} (h : DvAll K N H vs ds) (lo hi : Option Int) : DvAll K N H (cutV vs lo hi) (cutD ds lo hi) := by
  unfold cutV cutD
  rw [h.len]
  exact (h.drop _).take _
end XT
/-! kinds of data for lots -/
namespace XT
open PySem PySem.Spec PyProof.Rows L2
def isTp : PyData → Bool
  | .tuple _ => true | _ => false
def isSt : PyData → Bool
  | .str _ => true | _ => false
theorem kitT {K : PySem.W.Frag} : ∀ d : PyData, PySem.W.kitOne K (.type (tyD d)) (.type "tuple") = some (isTp d)
  | .none => kit_ty (a := "NoneType") (b := "tuple") (r := false) (by decide +kernel)
  | .bool _ => kit_ty (a := "bool") (b := "tuple") (r := false) (by decide +kernel)
  | .int _ => kit_ty (a := "int") (b := "tuple") (r := false) (by decide +kernel)
  | .str _ => kit_ty (a := "str") (b := "tuple") (r := false) (by decide +kernel)
  | .list _ => kit_ty (a := "list") (b := "tuple") (r := false) (by decide +kernel)
  | .tuple _ => kit_ty (a := "tuple") (b := "tuple") (r := true) (by decide +kernel)
  | .dict _ => kit_ty (a := "dict") (b := "tuple") (r := false) (by decide +kernel)
theorem kitS {K : PySem.W.Frag} : ∀ d : PyData, PySem.W.kitOne K (.type (tyD d)) (.type "str") = some (isSt d)
  | .none => kit_ty (a := "NoneType") (b := "str") (r := false) (by decide +kernel)
  | .bool _ => kit_ty (a := "bool") (b := "str") (r := false) (by decide +kernel)
  | .int _ => kit_ty (a := "int") (b := "str") (r := false) (by decide +kernel)
  | .str _ => kit_ty (a := "str") (b := "str") (r := true) (by decide +kernel)
  | .list _ => kit_ty (a := "list") (b := "str") (r := false) (by decide +kernel)
  | .tuple _ => kit_ty (a := "tuple") (b := "str") (r := false) (by decide +kernel)
  | .dict _ => kit_ty (a := "dict") (b := "str") (r := false) (by decide +kernel)
def isW : PyData → Bool
  | .int i => decide (1 ≤ i) && decide (i ≤ 6)
  | _ => false
def iv : PyData → Int
  | .int i => i
  | _ => 0
def okM (n : Nat) (least : Int) (d : PyData) : Bool := isM n d && decide (least ≤ iv d)
def errM (n : Nat) : Nat → Int → List PyData → PyData
  | _, _, [] => .none
  | i, least, d :: ds => if okM n least d = true then errM n (i + 1) (iv d + 1) ds else .tuple [.int (i : Nat), .str "mask"]
def eT (x : Str) : PyData := .tuple [.none, .str x]
def mskErr (n : Nat) : PyData → PyData
  | .tuple ms => errM n 0 0 ms
  | _ => eT "masks"
def lotErr : PyData → PyData
  | .tuple [a, b] => if isW a = true then mskErr (iv a).toNat b else eT "width"
  | _ => eT "lot"
theorem isW_nat {d : PyData} (h : isW d = true) : ∃ n : Nat, d = .int (n : Int) ∧ 1 ≤ n ∧ n ≤ 6 := by
  cases d with
  | int i =>
    have h : (decide (1 ≤ i) && decide (i ≤ 6)) = true := h
    rw [Bool.and_eq_true, decide_eq_true_iff, decide_eq_true_iff] at h
    obtain ⟨n, rfl⟩ := Int.eq_ofNat_of_zero_le (show 0 ≤ i by omega)
    exact ⟨n, rfl, by omega, by omega⟩
  | _ => exact absurd h (by simp [isW])
theorem isM_int {n : Nat} {d : PyData} (h : isM n d = true) : ∃ a : Nat, d = .int (a : Int) ∧ a < 2 ^ n := by
  cases d with
  | int i =>
    have h : (decide (0 ≤ i) && decide (i < ((2 ^ n : Nat) : Int))) = true := h
    rw [Bool.and_eq_true, decide_eq_true_iff, decide_eq_true_iff] at h
    obtain ⟨a, rfl⟩ := Int.eq_ofNat_of_zero_le h.1
    exact ⟨a, rfl, by omega⟩
  | _ => exact absurd h (by simp [isM])
theorem Dz.cast {K : PySem.W.Frag} {H : Hp} {v : V} {d e : PyData} (h : Dz K H v d) (q : d = e) : Dz K H v e := q ▸ h
theorem dz2 {K : PySem.W.Frag} {H : Hp} {p : Addr} {a b : V} {d e : PyData} (h : H p = some (.tup [a, b])) (x : Dz K H a d) (y : Dz K H b e) : Dz K H (.ref p) (.tuple [d, e]) := .tup (SqT.of h) (.cons x (.cons y .nil))
end XT
/-! cuts, sums, sizes -/
namespace XT
open PySem PySem.Spec PyProof.Rows L2
section
variable {X : Cx}
end
theorem gd_non {M : Nat} : Gd M 10 0 .none := ⟨trivial, Nat.le_refl _, Nat.le_refl _⟩
theorem gd_bl {M : Nat} (b : Bool) : Gd M 10 0 (.bool b) := ⟨trivial, Nat.le_refl _, Nat.le_refl _⟩
theorem gd_int {M : Nat} {i : Int} (h : i.natAbs ≤ M) : Gd M 60 0 (.int i) := ⟨h, Nat.le_refl _, Nat.le_refl _⟩
theorem gd_str {M n : Nat} {x : Str} (h : TxOk x) (l : x.length ≤ n) : Gd M (10 * n + 2) 0 (.str x) := ⟨h, by show 10 * x.length + 2 ≤ _; omega, Nat.le_refl _⟩
theorem gd_odd : ∀ d ∈ oddD, Gd (10 ^ 39) 200 3 d := by
  unfold oddD
  have hs : ∀ (s : String), (Str.ofString s).length ≤ 3 → Gd (10 ^ 39) 200 3 (.str (Str.ofString s)) := fun s h => (gd_str (TxOk.of s) h).mono (Nat.le_refl _) (by omega) (by omega)
  have hi : ∀ i : Int, i.natAbs ≤ 10 ^ 39 → Gd (10 ^ 39) 60 0 (.int i) := fun i h => gd_int h
  have hi3 : ∀ i : Int, i.natAbs ≤ 10 ^ 39 → Gd (10 ^ 39) 200 3 (.int i) := fun i h => (gd_int h).mono (Nat.le_refl _) (by omega) (by omega)
  repeat' (first | exact List.forall_mem_nil _ | refine List.forall_mem_cons.mpr ⟨?_, ?_⟩)
  · exact gd_non.mono (Nat.le_refl _) (by omega) (by omega)
  · exact (gd_bl _).mono (Nat.le_refl _) (by omega) (by omega)
  · exact (gd_bl _).mono (Nat.le_refl _) (by omega) (by omega)
  all_goals first
    | exact hi3 _ (by decide)
    | exact hs "" (by decide)
    | exact hs "0" (by decide)
    | exact hs "lot" (by decide)
    | exact hs "01" (by decide)
    | exact (GdAll.nil (k := 0)).tuple.mono (Nat.le_refl _) (by omega) (by omega)
    | exact (GdAll.nil (k := 0)).list.mono (Nat.le_refl _) (by omega) (by omega)
    | exact (GdAll.cons (hi 0 (by decide)) GdAll.nil).tuple.mono (Nat.le_refl _) (by omega) (by omega)
    | exact (GdAll.cons (hi 0 (by decide)) GdAll.nil).list.mono (Nat.le_refl _) (by omega) (by omega)
    | exact (GdAll.cons (gd_bl true) GdAll.nil).tuple.mono (Nat.le_refl _) (by omega) (by omega)
    | exact (GdAll.cons (hi 0 (by decide)) (GdAll.cons (hi 1 (by decide)) GdAll.nil)).tuple.mono (Nat.le_refl _) (by omega) (by omega)
    | exact (GdAll.cons ((hi 2 (by decide)).mono (Nat.le_refl _) (Nat.le_refl _) (Nat.zero_le 1)) (GdAll.cons (GdAll.cons (hi 0 (by decide)) GdAll.nil).tuple GdAll.nil)).tuple.mono (Nat.le_refl _) (by omega) (by omega)
    | exact ⟨⟨by decide +kernel, by decide +kernel⟩, by decide, by decide⟩
theorem cutD_gd {M n k : Nat} {ds : List PyData} (h : GdAll M n k ds) (lo hi : Option Int) : GdAll M n k (cutD ds lo hi) := (h.drop _).take _
theorem cutD_take {ds : List PyData} {i : Nat} (h : i ≤ ds.length) : cutD ds none (some (i : Int)) = ds.take i := by
  unfold cutD
  rw [HT.sIx_none, HT.sIx_nat, List.drop_zero, Nat.sub_zero, Nat.min_eq_left h]
theorem cutD_drop {ds : List PyData} {i : Nat} (h : i ≤ ds.length) : cutD ds (some (i : Int)) none = ds.drop i := by
  unfold cutD
  rw [HT.sIx_none, HT.sIx_nat, Nat.min_eq_left h]
  exact List.take_of_length_le (by rw [List.length_drop]; exact Nat.le_refl _)
theorem cutV_len {xs : List V} {lo hi : Option Int} : (cutV xs lo hi).length ≤ xs.length := cutV_length xs lo hi
theorem szl {n m : Nat} (h : n ≤ m) (hm : m ≤ 10000000) : n ≤ sizeLine := by rw [sizeLine_eq]; omega
end XT
/-! int(a bool); a tuple once -/
namespace XT
open PySem PySem.Spec PyProof.Rows L2
section
variable {X : Cx}
theorem call_intB : CallR X (.type "int") (fun xs H Q => ∃ b, xs = [.bl b] ∧ Q (.int (if b = true then 1 else 0)) H) := by
  intro pins s σ H xs us Q I rs h
  obtain ⟨b, rfl, h⟩ := h
  cases rs with
  | cons r1 rs =>
    cases rs
    cases r1
    exact PySem.call_int_bool ⟨.int (if b = true then 1 else 0), H, I.tok _, ⟨_, rfl⟩, h⟩
theorem tuple_mul1 (l : Addr) (items : Array Value) (n : Nat) (dd : Option Addr) (sl : Array (Option Value)) (u : Tok) :
    Meets (Builtin.«tuple.__mul__» ⟨[.ref l, .int 1 u], []⟩) (fun _ R s => s.heap.get? l = some { cls := .type "tuple", dict := dd, data := .seq items n, slots := sl } ∧ R (.ok (.ret (Value.ref l))) s) :=
  .of_wp fun prog w A R s h => by
    obtain ⟨hp, g, d, tk, os⟩ := s
    obtain ⟨hl, h⟩ := h
    have f1 := AutoSeq1.idx_int
    wp_walk using wpAny_loadPart' hl
    exact ⟨_, rfl, h⟩
theorem op_rep1 : OpR X (binaryOp .Mult) (fun x y H Q => ∃ l xs, x = .ref l ∧ y = .int 1 ∧ SqT X.K H l xs ∧ Q (.ref l) H) := by
  intro pins s σ H x y v u Q I rx ry h
  obtain ⟨l, xs, rfl, rfl, hT, q⟩ := h
  cases rx
  obtain ⟨t, rfl⟩ := ry
  obtain ⟨its, r, ⟨⟨cls, dd, data, sl⟩, ho, hc, n, hd⟩, hs⟩ := I.tuple hT
  simp only at hc hd
  subst hc hd
  exact wpAny_binaryOp_repeat_ref (T := "tuple") (U := "int") (by decide) ⟨_, ho, rfl⟩ (fun s' => typeIs_int s' 1 t) noFill_tuple_mul F.fills_int_mul F.slot_int_rmul repeat_tuple F.slot_int_index.lookup
    (call_meets F.slot_int_rmul (typeIs_int s 1 t) F.entry_int_rmul (F.args_int_rmul_2 _ _) (int_rmul_tuple 1 t l its.toArray n dd sl)
      ⟨ho, rfl, ⟨_, ho, rfl⟩, call_meets F.slot_tuple_mul ⟨_, ho, rfl⟩ F.entry_tuple_mul (F.args_tuple_mul_2 _ _) (tuple_mul1 l its.toArray n dd sl t) ⟨ho, ⟨.ref l, H, I, rfl, q⟩⟩⟩)
/-- xs == [], xs != [], a list of any things -/
def rEqEL (K : PySem.W.Frag) : R2 := fun x y H Q => ∃ (a b : Addr) (xs : List V), x = .ref a ∧ y = .ref b ∧ SqL K H a xs ∧ SqL K H b [] ∧ Q (.bl xs.isEmpty) H
def rNeEL (K : PySem.W.Frag) : R2 := fun x y H Q => ∃ (a b : Addr) (xs : List V), x = .ref a ∧ y = .ref b ∧ SqL K H a xs ∧ SqL K H b [] ∧ Q (.bl (!xs.isEmpty)) H
theorem op_eqEL (hu : X.A.units < cLine) : OpR X (compareOp .Eq) (rEqEL X.K) := by
  intro pins s σ H x y v u Q I rx ry h
  obtain ⟨a, b, xs, rfl, rfl, ha, hb, q⟩ := h
  cases rx
  cases ry
  obtain ⟨its, r1, p1, _⟩ := I.list ha
  obtain ⟨its2, r2, p2, _⟩ := I.list hb
  cases r2
  cases r1 with
  | nil => exact SeqAt.RcAt.lists (e := fun _ => true) p1.isList p2.isList rfl hu (fun j h1 h2 => absurd h2 (Nat.not_lt_zero _)) X.prog X.w _ _ ⟨.bl true, H, I, rfl, q⟩
  | cons _ _ => exact SeqAt.RcAt.lists_lengths p1.isList p2.isList (by simp) hu X.prog X.w _ _ ⟨.bl false, H, I, rfl, q⟩
theorem op_neEL (hu : X.A.units < cLine) : OpR X (compareOp .NotEq) (rNeEL X.K) := by
  intro pins s σ H x y v u Q I rx ry h
  obtain ⟨a, b, xs, rfl, rfl, ha, hb, q⟩ := h
  cases rx
  cases ry
  obtain ⟨its, r1, p1, _⟩ := I.list ha
  obtain ⟨its2, r2, p2, _⟩ := I.list hb
  cases r2
  cases r1 with
  | nil => exact SeqAt.RcNeAt.lists (e := fun _ => true) p1.isList p2.isList rfl hu (fun j h1 h2 => absurd h2 (Nat.not_lt_zero _)) X.prog X.w _ _ ⟨.bl false, H, I, rfl, q⟩
  | cons _ _ => exact SeqAt.RcNeAt.lists_lengths p1.isList p2.isList (by simp) hu X.prog X.w _ _ ⟨.bl true, H, I, rfl, q⟩
end
end XT
/-! expressions whose value is known as data -/
namespace XT
open PySem PySem.Spec PyProof.Rows L2
abbrev isD (K : PySem.W.Frag) (d : PyData) : RV := fun H z => Dz K H z d
theorem sty_d (K : PySem.W.Frag) (d : PyData) : Sty (isD K d) := fun _ _ _ e h => h.same e
section
variable {K : PySem.W.Frag} {R : RV} {t te : TE} {ta : TA} {σ : L2.St} {H : Hp} {d : PyData} {ds : List PyData}
theorem ev_varD {i : Nat} {v : V} (e : σ[i]? = some (some v)) (h : Dz K H v d) : Ev (isD K d) (tVar i) σ H := ev_var (sty_d K d) e h
theorem ev_i {k : Int} (h : Ev (isV (.int k)) t σ H) : Ev (isD K (.int k)) t σ H := h.mono fun H z e => by subst e; exact .int k
theorem ev_b {b : Bool} (h : Ev (isB b) t σ H) : Ev (isD K (.bool b)) t σ H := h.mono fun H z e => by subst e; exact .bl b
theorem ev_s {x : Str} (h : Ev (isV (.str x)) t σ H) : Ev (isD K (.str x)) t σ H := h.mono fun H z e => by subst e; exact .str x
theorem ev_n (h : Ev (isV .non) t σ H) : Ev (isD K .none) t σ H := h.mono fun H z e => by subst e; exact .non
theorem dz_vm {H : Hp} : ∀ ms : List Nat, DzAll K H (vm ms) (ms.map fun (m : Nat) => .int (m : Int))
  | [] => .nil
  | m :: ms => .cons (.int m) (dz_vm ms)
theorem lot_dz {H : Hp} {v : V} {n : Nat} {p : Nat → Bool} (h : LotAt H v n p) : Dz K H v (dLot n p) := by
  obtain ⟨a, b, rfl, h1, h2⟩ := h
  exact .tup (SqT.of h1) (.cons (.int _) (.cons (.tup (SqT.of h2) (dz_vm _)) .nil))
theorem ev_lotD {n : Nat} {p : Nat → Bool} (h : Ev (isLot n p) t σ H) : Ev (isD K (dLot n p)) t σ H := h.mono fun H z g => lot_dz g
def dTup (ms : List Nat) : PyData := .tuple (ms.map fun (m : Nat) => .int (m : Int))
theorem tup_dz {H : Hp} {v : V} {ms : List Nat} (h : TupAt H v ms) : Dz K H v (dTup ms) := by
  obtain ⟨q, rfl, h⟩ := h
  exact .tup (SqT.of h) (dz_vm _)
theorem ev_tupD {ms : List Nat} (h : Ev (isTup ms) t σ H) : Ev (isD K (dTup ms)) t σ H := h.mono fun H z g => tup_dz g
theorem allV_dz : ∀ {ds : List PyData} {H : Hp} {vs : List V}, AllV (ds.map (isD K)) H vs → DzAll K H vs ds
  | [], _, [], _ => .nil
  | d :: ds, _, v :: vs, h => .cons h.1 (allV_dz h.2)
theorem styA_d : StyA (ds.map (isD K)) := styA_map (fun d => sty_d K d) ds
theorem eva_consD (a : Ev (isD K d) te σ H) (b : EvA (ds.map (isD K)) ta σ H) : EvA ((d :: ds).map (isD K)) (tCons te ta) σ H := eva_cons (sty_d K d) a b
theorem ev_lstD (hl : ds.length ≤ 1000) (a : EvA (ds.map (isD K)) ta σ H) : Ev (isD K (.list ds)) (tLstB ta) σ H := fun H1 s1 Q q =>
  a H1 s1 _ fun H2 vs s2 gv => by
    have g := allV_dz gv
    have hz := g.len
    exact ⟨sz (by omega), fun L nL bL => q _ _ (s2.trans (same_new nL)) (.lst (SqL.of upd_same) bL (g.same (same_new nL)))⟩
theorem ev_tuD (hl : ds.length ≤ 1000) (a : EvA (ds.map (isD K)) ta σ H) : Ev (isD K (.tuple ds)) (tTup ta) σ H := fun H1 s1 Q q =>
  a H1 s1 _ fun H2 vs s2 gv => by
    have g := allV_dz gv
    have hz := g.len
    exact ⟨sz (by omega), fun L nL => q _ _ (s2.trans (same_new nL)) (.tup (SqT.of upd_same) (g.same (same_new nL)))⟩
/-- what repr can tell -/
structure ShD (d : PyData) : Prop where
  dp : d.depth ≤ 64
  sh : d.showable = true
  ln : d.shown.length ≤ sizeLine
theorem Gd.shD {M n k : Nat} {d : PyData} (h : Gd M n k d) (hM : M < 10 ^ 40) (hn : n ≤ 10000000) (hk : k ≤ 64) : ShD d := by
  have s := shown_le hM d h.f
  have z := h.z
  have p := h.p
  exact ⟨by omega, s.1, szl (m := n) (by omega) (by omega)⟩
theorem ev_reprD (s : ShD d) (a : Ev (isD K d) t σ H) : Ev (isV (.str d.shown)) (tCB (rReprA K) (tCons t tNil)) σ H := fun H1 s1 Q q =>
  a H1 s1 _ fun H2 x s2 gx => ⟨x, d, rfl, gx, s.dp, s.sh, s.ln, q _ _ s2 rfl⟩
theorem of_neS {x y : Str} : OpF (isV (.str x)) (isV (.str y)) rNe (isB (!decide (x = y))) := fun H u v ex ey Q q => by
  subst ex ey
  refine ⟨rfl, q _ _ (Same.refl _) (congrArg V.bl (congrArg (!·) ?_))⟩
  rw [Bool.eq_iff_iff, decide_eq_true_iff, decide_eq_true_iff]
  exact ⟨fun e => V.str.inj e, fun e => by rw [e]⟩
theorem of_eqS {x y : Str} : OpF (isV (.str x)) (isV (.str y)) rEq (isB (decide (x = y))) := fun H u v ex ey Q q => by
  subst ex ey
  refine ⟨rfl, q _ _ (Same.refl _) (congrArg V.bl ?_)⟩
  rw [Bool.eq_iff_iff, decide_eq_true_iff, decide_eq_true_iff]
  exact ⟨fun e => V.str.inj e, fun e => by rw [e]⟩
/-- repr(a) != repr(b), of the same data -/
theorem evt_reprs {t' : TE} {e : PyData} (s : ShD d) (he : d = e) (a : Ev (isD K d) t σ H) (b : Ev (isD K e) t' σ H) : EvT false (tTest (tOp rNe (tCB (rReprA K) (tCons t tNil)) (tCB (rReprA K) (tCons t' tNil)))) σ H := by
  subst he
  refine evt_test ((ev_op (sty_v _) (ev_reprD s a) (ev_reprD s b) of_neS).mono fun H z e => ?_)
  rw [e, decide_eq_true rfl]
  rfl
theorem evt_repr1 {i : Nat} {x : Str} (s : ShD d) (he : x = d.shown) (h : σ[i]? = some (some (.str x))) (a : Ev (isD K d) t σ H) : EvT false (tTest (tOp rNe (tCB (rReprA K) (tCons t tNil)) (tVar i))) σ H := by
  subst he
  refine evt_test ((ev_op (sty_v _) (ev_reprD s a) (ev_var (sty_v _) h rfl) of_neS).mono fun H z e => ?_)
  rw [e, decide_eq_true rfl]
  rfl
end
/-- data whose parts are small -/
theorem gd_lot {M n : Nat} (hM : 64 ≤ M) (hn : n ≤ 6) (p : Nat → Bool) : Gd M 5000 2 (dLot n p) := by
  have hl := lot_len hn p
  have h6 := pow6 hn
  have g : ∀ ms : List Nat, (∀ m ∈ ms, m ≤ M) → GdAll M (62 * ms.length) 0 (ms.map fun (m : Nat) => PyData.int (m : Int)) := fun ms => by
    induction ms with
    | nil => intro _; exact GdAll.nil
    | cons m ms ih => intro h; exact (GdAll.cons (gd_int (by have := h m List.mem_cons_self; omega)) (ih fun x hx => h x (List.mem_cons_of_mem _ hx))).mono (Nat.le_refl _) (by rw [List.length_cons]; omega) (Nat.le_refl _)
  have g1 := (g (lotOf n p) fun m hm => by have := (mem_lot.mp hm).1; omega).tuple
  have g2 := (GdAll.cons ((gd_int (M := M) (i := (n : Int)) (by omega)).mono (Nat.le_refl _) (Nat.le_refl _) (Nat.zero_le 1)) (GdAll.cons g1 GdAll.nil)).tuple
  exact g2.mono (Nat.le_refl _) (by omega) (Nat.le_refl _)
end XT
/-! zip of two texts, sign by sign -/
namespace XT
open PySem PySem.Spec PyProof.Rows L2
/-- two texts side by side -/
def ItzS (x y : Str) : It :=
  ⟨fun i _ => i < x.cps.size ∧ i < y.cps.size,
    fun i H v H' => ∃ T c d, v = .ref T ∧ H T = none ∧ H' = upd H T (.tup [.str ⟨#[c]⟩, .str ⟨#[d]⟩]) ∧ x.cps[i]? = some c ∧ y.cps[i]? = some d,
    fun i _ => i ≤ x.cps.size ∧ i ≤ y.cps.size ∧ (i = x.cps.size ∨ i = y.cps.size)⟩
theorem turn_zipS {P : Program} {w : World} {K : PySem.W.Frag} {elts : List Expr} {kk : Nat} {tpos : Pos} {x y : Str} {tx ty : Tok} {z TI TO i1 i2 : Addr} (S : ZipSep2 z TI TO i1 i2 [i1] [i2]) :
    Turn P w K (.Tuple elts kk tpos) (ItzS x y) [z, TI, TO, i1, i2] z (fun i h => IsZip h z TI TO .none ∧ IsTupOf2 h TI (.ref i1) (.ref i2) ∧ (∃ a1 a2, IsTupOf2 h TO a1 a2) ∧ h.IsStrIter i1 (strIterType x) x tx i ∧ h.IsStrIter i2 (strIterType y) y ty i) where
  mem := by simp
  obj := fun i h st c hc => by
    obtain ⟨hz, hTI, ⟨x, y, hTO⟩, ⟨o1, e1, _, d1⟩, ⟨o2, e2, _, d2⟩⟩ := st
    have e' : c = z ∨ c = TI ∨ c = TO ∨ c = i1 ∨ c = i2 := by simpa using hc
    rcases e' with q | q | q | q | q
    · rw [q]; exact ⟨_, hz, fun v q => nomatch q⟩
    · rw [q]; exact ⟨_, hTI, fun v q => nomatch q⟩
    · rw [q]; exact ⟨_, hTO, fun v q => nomatch q⟩
    · rw [q]; exact ⟨o1, e1, fun v q => by rw [d1] at q; cases q⟩
    · rw [q]; exact ⟨o2, e2, fun v q => by rw [d2] at q; cases q⟩
  keep := fun i h h' st k => by
    obtain ⟨hz, hTI, ⟨x, y, hTO⟩, ⟨o1, e1, r1⟩, ⟨o2, e2, r2⟩⟩ := st
    exact ⟨k z (by simp) _ hz, k TI (by simp) _ hTI, ⟨x, y, k TO (by simp) _ hTO⟩, ⟨o1, k i1 (by simp) _ e1, r1⟩, ⟨o2, k i2 (by simp) _ e2, r2⟩⟩
  item := by
    intro X hP hw hK hc i pins s σ H E I hf st hg
    subst hP hw hK
    obtain ⟨hz, hTI, ⟨x0, y0, hTO⟩, h1, h2⟩ := st
    have hzl : z < s.heap.objs.size := Heap.lt_size hz
    have hA : X.A.in1.handled = none := I.ok.hd hc
    refine wpAny_pyNext_zipD2_item S (Draws.text hA i1 x tx) (Draws.text hA i2 y ty) hz hTI hTO h1 h2 hg.1 hg.2 fun u1 u2 h' tk p1 p2 z' TO' h1' h2' hT hsz hk => ?_
    obtain ⟨c, t1, hc1, rfl⟩ := p1
    obtain ⟨d, t2, hd1, rfl⟩ := p2
    refine ⟨_, rfl, wpAny_letOwnedTupleGo_zip (s := { s with heap := h', toks := tk }) z' fun h'' z'' sb => ?_⟩
    have hT2 : h''.get? s.heap.objs.size = some { cls := .type "tuple", data := .seq #[.str ⟨#[c]⟩ t1, .str ⟨#[d]⟩ t2] } := (sb.2 _ (Nat.ne_of_gt hzl)).trans hT
    have new : ObjOk X.prog X.w (upd H s.heap.objs.size (.tup [.str ⟨#[c]⟩, .str ⟨#[d]⟩])) h'' s.heap.objs.size (.tup [.str ⟨#[c]⟩, .str ⟨#[d]⟩]) :=
      ⟨by show 2 ≤ sizeLine; decide, [.str ⟨#[c]⟩ t1, .str ⟨#[d]⟩ t2], .cons ⟨t1, rfl⟩ (.cons ⟨t2, rfl⟩ .nil), ⟨_, hT2, rfl, _, rfl⟩⟩
    have I1 : Inv X pins σ (upd H s.heap.objs.size (.tup [.str ⟨#[c]⟩, .str ⟨#[d]⟩])) { s with heap := h'', toks := tk } :=
      I.turnedNew (t' := tk) (ch := [z, TI, TO, i1, i2]) (fun c o hb q => (sb.2 c (fun q' => hb (by simp [q']))).trans (hk c o (fun q' => hb (by simp [q'])) (fun q' => hb (by simp [q'])) (fun q' => hb (by simp [q'])) (fun q' => hb (by simp [q'])) q)) hf (Nat.le_refl _) new
    refine ⟨.ref s.heap.objs.size, _, I1, rfl, ⟨_, c, d, rfl, I.hok.fresh (Nat.le_refl _), rfl, hc1, hd1⟩, ⟨z'', ?_, ⟨.str ⟨#[c]⟩ t1, .str ⟨#[d]⟩ t2, ?_⟩, ?_, ?_⟩, fun c hcm => ?_⟩
    · exact (sb.2 _ S.TIz).trans (hk _ _ S.TIz S.TITO S.TIi1 S.TIi2 hTI)
    · exact (sb.2 _ S.TOz).trans TO'
    · obtain ⟨o, e, r⟩ := h1'
      exact ⟨o, (sb.2 _ S.zi1.symm).trans e, r⟩
    · obtain ⟨o, e, r⟩ := h2'
      exact ⟨o, (sb.2 _ S.zi2.symm).trans e, r⟩
    · have hlt : c < s.heap.objs.size := by
        have e' : c = z ∨ c = TI ∨ c = TO ∨ c = i1 ∨ c = i2 := by simpa using hcm
        rcases e' with q | q | q | q | q
        · rw [q]; exact hzl
        · rw [q]; exact Heap.lt_size hTI
        · rw [q]; exact Heap.lt_size hTO
        · rw [q]; obtain ⟨_, e1, _⟩ := h1; exact Heap.lt_size e1
        · rw [q]; obtain ⟨_, e2, _⟩ := h2; exact Heap.lt_size e2
      rw [upd_ne (Nat.ne_of_lt hlt)]
      exact (hf c hcm).1
  done := by
    intro X hP hw hK hc i pins s σ H E I hf st hg
    subst hP hw hK
    obtain ⟨hz, hTI, ⟨x0, y0, hTO⟩, h1, h2⟩ := st
    have hA : X.A.in1.handled = none := I.ok.hd hc
    exact wpAny_pyNext_zipD2_end S (Draws.text hA i1 x tx) (Draws.text hA i2 y ty) hz hTI hTO h1 h2 hg.1 hg.2.1 hg.2.2 fun h' tk hk => ⟨rfl, I.turnedL (t' := tk) (ch := [z, TI, TO, i1, i2]) (fun c o hb q =>
      hk c o (fun q' => hb (by simp [q'])) (fun q' => hb (by simp [q'])) (fun q' => hb (by simp [q'])) (fun q' => hb (by simp [q'])) q) hf⟩
  self := fun A i s Q E st h => wpAny_pyIter_zip st.1 h

def iZipS (ta : TA) : TI := fun σ H R => ta σ H fun vs H1 => ∃ x y : Str, vs = [.str x, .str y] ∧ R (ItzS x y) H1
theorem pi_zipS {X : Cx} {e e2 : Expr} {ta : TA} {p pos tpos : Pos} {elts : List Expr} {kk : Nat} (hg : Gl X "zip") (hm : X.mg "zip" = none) (ha : PA X [e, e2] ta)
    (hs : starEach [e, e2] X.env = (false, eval e X.env) :: starEach [e2] X.env := by rfl) (hpl : (backTo pos (starEach [e2] X.env)).any (·.1) = false := by rfl) :
    PI X (.Tuple elts kk tpos) (.Call (.Name "zip" p) [e, e2] [] pos) (iZipS ta) := by
  refine ⟨fun pins s σ H R I h => ?_⟩
  refine Call_ (ld_blt I hg hm PyProof.Rows.boot_zip (PyProof.Rows.callWith_type1 (thn (ha.run pos pins s σ H _ I h) fun us s1 ⟨vs, H1, I1, r1, q1⟩ => ?_) hs hpl))
  obtain ⟨x, y, ex, q1⟩ := q1
  subst ex
  cases r1 with
  | cons r rr =>
    cases rr with
    | cons r' rr =>
      cases rr
      obtain ⟨tx, rfl⟩ := r
      obtain ⟨ty, rfl⟩ := r'
      have fresh5 : ∀ c, c ∈ [s1.heap.objs.size + 4, s1.heap.objs.size + 2, s1.heap.objs.size + 3, s1.heap.objs.size, s1.heap.objs.size + 1] → FpOk X pins H1 c := fun c hcm => by
        have e' : c = s1.heap.objs.size + 4 ∨ c = s1.heap.objs.size + 2 ∨ c = s1.heap.objs.size + 3 ∨ c = s1.heap.objs.size ∨ c = s1.heap.objs.size + 1 := by simpa using hcm
        have hle : s1.heap.objs.size ≤ c := by
          rcases e' with z | z | z | z | z
          · rw [z]; exact Nat.le_add_right _ _
          · rw [z]; exact Nat.le_add_right _ _
          · rw [z]; exact Nat.le_add_right _ _
          · rw [z]; exact Nat.le_refl _
          · rw [z]; exact Nat.le_add_right _ _
        exact I1.fpOk hle (I1.hok.fresh hle)
      refine zip_begins2 (begins_text x tx) (begins_text y ty) trivial trivial fun h' hz hTI hTO h1 h2 hsz hk => wpAny_pyIter_zip hz ?_
      have I2 : Inv X pins σ H1 { s1 with heap := h' } := I1.kept (t' := s1.toks) hk
      exact ⟨s1.heap.objs.size + 4, [s1.heap.objs.size + 4, s1.heap.objs.size + 2, s1.heap.objs.size + 3, s1.heap.objs.size, s1.heap.objs.size + 1], _, _, H1, rfl, I2, turn_zipS (zip_sep2 (fp1 := []) (fp2 := []) (fun b hb => nomatch hb) (fun b hb => nomatch hb)), ⟨hz, hTI, ⟨_, _, hTO⟩, ⟨_, h1, rfl, rfl⟩, ⟨_, h2, rfl, rfl⟩⟩, fresh5, q1⟩
/-- a comprehension over zip of two texts of one length -/
theorem lc_zipS {x y : Str} {g : TG} {tt : TT} {te : TE} {vs : List Nat} {σ : L2.St} {H1 : Hp} {D : Addr} {Qd : Hp → Prop} (hl : x.cps.size = y.cps.size) (Pv : Nat → Hp → Prop) (h0 : Pv 0 (upd H1 D (.lst [])))
    (hs : ∀ i c d T H, x.cps[i]? = some c → y.cps[i]? = some d → Pv i H → H T = none → g (.ref T) (wipe σ vs) (upd H T (.tup [.str ⟨#[c]⟩, .str ⟨#[d]⟩])) fun σ2 H2 => wipe σ2 vs = wipe σ vs ∧ tt σ2 H2 fun b H3 =>
      if b = true then te σ2 H3 fun y H4 => ∃ acc, H4 D = some (.lst acc) ∧ acc.length < sizeLine ∧ Pv (i + 1) (upd H4 D (.lst (acc ++ [y]))) else Pv (i + 1) H3) (hd : ∀ H, Pv x.cps.size H → Qd H) :
    ∃ W : Nat → Nat → Hp → Prop, (∃ m, W 0 m (upd H1 D (.lst []))) ∧ ∀ i m H, W i m H →
      ((ItzS x y).stop i H ∧ Qd H) ∨ ((ItzS x y).go i H ∧ ∃ Nx : Hp → Prop, (∀ H', Nx H' → ∃ m', m' < m ∧ W (i + 1) m' H') ∧ ∀ z H', (ItzS x y).yld i H z H' → g z (wipe σ vs) H' fun σ2 H2 => wipe σ2 vs = wipe σ vs ∧ tt σ2 H2 fun b H3 =>
        if b = true then te σ2 H3 fun y H4 => ∃ acc, H4 D = some (.lst acc) ∧ acc.length < sizeLine ∧ Nx (upd H4 D (.lst (acc ++ [y]))) else Nx H3) := by
  refine ⟨fun i m H => m = x.cps.size - i ∧ i ≤ x.cps.size ∧ Pv i H, ⟨x.cps.size, rfl, Nat.zero_le _, h0⟩, ?_⟩
  rintro i m H ⟨rfl, hi, p⟩
  rcases Nat.lt_or_ge i x.cps.size with lt | ge
  · refine .inr ⟨⟨lt, by omega⟩, Pv (i + 1), fun H' p' => ⟨x.cps.size - (i + 1), by omega, rfl, lt, p'⟩, fun v H' z => ?_⟩
    obtain ⟨T, c, d, rfl, hT, rfl, f1, f2⟩ := z
    exact hs i c d T H f1 f2 p hT
  · have e : i = x.cps.size := by omega
    subst e
    exact .inl ⟨⟨Nat.le_refl _, by omega, .inl rfl⟩, hd H p⟩
/-- turns that only lay new things -/
theorem lcp_zipS {x y : Str} {g : TG} {tt : TT} {te : TE} {vs : List Nat} {σ : L2.St} {H1 : Hp} {D : Addr} {Qd : Hp → Prop} (p : Nat × Nat → Bool) (f : Nat × Nat → V) (hl : x.cps.size = y.cps.size) (nD : H1 D = none) (hz : x.cps.size < sizeLine)
    (ht : ∀ (i c d : Nat) (T : Addr) H, x.cps[i]? = some c → y.cps[i]? = some d → Same H1 H → H T = none → ∀ (R1 : Hp → Prop) (R2 : V → Hp → Prop), (p (c, d) = false → ∀ H3, Same H H3 → R1 H3) → (p (c, d) = true → ∀ H4, Same H H4 → R2 (f (c, d)) H4) →
      g (.ref T) (wipe σ vs) (upd H T (.tup [.str ⟨#[c]⟩, .str ⟨#[d]⟩])) fun σ2 H2 => wipe σ2 vs = wipe σ vs ∧ tt σ2 H2 fun b H3 => if b = true then te σ2 H3 R2 else R1 H3)
    (hd : ∀ H, Same H1 H → H D = some (.lst (((x.cps.toList.zip y.cps.toList).filter p).map f)) → Qd H) :
    ∃ W : Nat → Nat → Hp → Prop, (∃ m, W 0 m (upd H1 D (.lst []))) ∧ ∀ i m H, W i m H →
      ((ItzS x y).stop i H ∧ Qd H) ∨ ((ItzS x y).go i H ∧ ∃ Nx : Hp → Prop, (∀ H', Nx H' → ∃ m', m' < m ∧ W (i + 1) m' H') ∧ ∀ z H', (ItzS x y).yld i H z H' → g z (wipe σ vs) H' fun σ2 H2 => wipe σ2 vs = wipe σ vs ∧ tt σ2 H2 fun b H3 =>
        if b = true then te σ2 H3 fun y H4 => ∃ acc, H4 D = some (.lst acc) ∧ acc.length < sizeLine ∧ Nx (upd H4 D (.lst (acc ++ [y]))) else Nx H3) := by
  have hxl : (x.cps.toList.zip y.cps.toList).length = x.cps.size := by rw [List.length_zip, Array.length_toList, Array.length_toList]; omega
  refine lc_zipS hl (fun i H => PvP H1 D ((((x.cps.toList.zip y.cps.toList).take i).filter p).map f) H) ⟨same_new nD, upd_same⟩ (fun i c d T H hc hd' h nT => ?_) (fun H h => ?_)
  · have hi : i < x.cps.size := (Array.getElem?_eq_some_iff.mp hc).1
    have hx : (x.cps.toList.zip y.cps.toList)[i]? = some (c, d) := by
      rw [List.getElem?_zip_eq_some]
      exact ⟨by rw [Array.getElem?_toList]; exact hc, by rw [Array.getElem?_toList]; exact hd'⟩
    obtain ⟨sm, hD⟩ := h
    have cT := same_new (o := .tup [.str ⟨#[c]⟩, .str ⟨#[d]⟩]) nT
    refine ht i c d T H hc hd' sm nT _ _ (fun hk H3 s3 => ?_) (fun hk H4 s4 => ?_)
    · refine ⟨sm.trans s3, ?_⟩
      rw [take_one f p hx, hk, s3 _ _ hD]
      simp
    · refine ⟨_, s4 _ _ hD, Nat.lt_of_le_of_lt (flt_len f p _ i) (Nat.lt_trans hi hz), fun b o e => ?_, ?_⟩
      · rw [upd_ne (ne_of_none e nD)]
        exact s4 _ _ (sm _ _ e)
      · rw [upd_same, take_one f p hx, hk]
        rfl
  · have h2 := h.2
    rw [← hxl, List.take_length] at h2
    exact hd H h.1 h2
end XT
/-! f"{m:b}" -/
namespace XT
open PySem PySem.Spec PyProof.Rows L2 Builtin
def binL (m : Nat) : List Nat := (Nat.toDigits 2 m).map Char.toNat
def binS (m : Nat) : Str := ⟨(binL m).toArray⟩
def sB : Str := ⟨#[98]⟩
def fB : Float.FormatSpec := { align := 62, type := some 98 }
theorem binL_ne (m : Nat) : (binL m).isEmpty = false := by
  have h := toDigits_len_ge 2 m
  unfold binL
  cases e : Nat.toDigits 2 m with
  | nil => rw [e] at h; simp at h
  | cons a b => rfl
theorem field_b (m : Nat) : intField' fB false [] (binL m) [] 4 = binS m := by
  unfold intField' binS
  have h := binL_ne m
  have h1 : 1 ≤ (binL m).length := by
    cases e : binL m with
    | nil => rw [e] at h; simp at h
    | cons a b => simp
  simp only [h, fB]
  simp
theorem gives_b (m : Nat) (t u : Tok) : Gives («int.__format__» ⟨[.int (m : Int) t, .str sB u], []⟩) (.str (binS m)) := by
  intro prog w A R s hq
  unfold Builtin.«int.__format__»
  simp only [selfAndOne, noKeywords, Int.intOfSelf, asInt?, asStr?, pure_bind, bind_pure, bind_assoc, List.isEmpty_nil, if_true, show (Value.str sB u == Value.none) = false from rfl, Bool.false_eq_true, if_false]
  refine wpAny_bind (wpAny_typeNameOf (T := "str") (typeIs_str s sB u) (by decide) fun _ => ?_)
  rw [if_neg (by decide), if_neg (by decide)]
  refine wpAny_bind (wpAny_typeNameOfCut_int ?_)
  have hp : Float.parseFormatSpec sB.cps.toList "int" 62 = .ok fB := rfl
  rw [hp]
  dsimp only
  have ht : fB.type.getD (if (sB.cps.back? == some 0) = true then 0 else 100) = 98 := rfl
  rw [ht, if_pos (by decide)]
  show wpAny _ _ (retStr _) _ _ _
  unfold retStr
  have hneg : decide ((m : Int) < 0) = false := decide_eq_false (by omega)
  rw [hneg]
  change wpAny _ _ (mkStr (intField' fB false [] (binL m) [] 4) >>= fun d => ret d) _ _ _
  rw [field_b]
  exact wpAny_bind (wpAny_mkStr (wpAny_pure hq.2) hq.1)
/-- {m:b} -/
def tFmtB (te : TE) : TE := fun σ H Q => te σ H fun x H1 => ∃ m : Nat, x = .int (m : Int) ∧ m < 2 ^ 900 ∧ Q (.str (binS m)) H1
theorem binL_len {m k : Nat} (hk : 1 ≤ k) (h : m < 2 ^ k) : (binL m).length ≤ k := by
  unfold binL
  rw [List.length_map]
  exact toDigits_len_pow (by decide) hk h
theorem binS_len (m : Nat) : (binS m).length = (binL m).length := by
  unfold binS Str.length
  simp
section
variable {X : Cx}
theorem pe_fmtB {e : Expr} {te : TE} {pos p1 p2 : Pos} {j : Nat} {b : Str} (hb : b = sB) (he : PE X e te) : PE X (.FormattedValue e (-1) (some (.JoinedStr [.Constant (.str b) j p1] p2)) pos) (tFmtB te) := by
  subst hb
  have hs : PE X (.JoinedStr [.Constant (.str sB) j p1] p2) (tC (.str sB)) := pe_joined1 pe_str
  refine ⟨fun pins s σ H Q I h => ?_⟩
  refine wpAny_FormattedValue_spec (thn (he.run pins s σ H _ I h) fun v s1 hv => ?_)
  obtain ⟨x, H1, I1, r1, m, rfl, hm, q⟩ := hv
  obtain ⟨t, rfl⟩ := r1
  refine thn (hs.run pins s1 σ H1 (fun x H2 => x = .str sB ∧ H2 = H1) I1 ⟨rfl, rfl⟩) fun r s2 hr => ?_
  obtain ⟨y, H2, I2, ry, ey, eH⟩ := hr
  subst ey eH
  obtain ⟨t2, rfl⟩ := ry
  refine ⟨sB, t2, rfl, wpAny_formatField_spec (by decide) (fun s' => typeIs_int s' _ _) PySem.F.slot_int_format PySem.F.entry_int_format PySem.F.args_int_format_2 (fun u => gives_b m t u) ⟨.str (binS m), H2, I2.tok _, ⟨_, rfl⟩, q⟩ (by decide) ?_⟩
  rw [binS_len]
  exact Nat.le_trans (binL_len (by decide) hm) (sz (by decide))
end
end XT
/-! the binary digits of a mask, filled to a width -/
namespace XT
open PySem PySem.Spec PyProof.Rows L2
/-- the last n binary digits of m, the highest first -/
def bitsL : Nat → Nat → List Nat
  | 0, _ => []
  | n + 1, m => bitsL n (m / 2) ++ [48 + m % 2]
theorem bitsL_len : ∀ n m : Nat, (bitsL n m).length = n
  | 0, _ => rfl
  | n + 1, m => by
    show (bitsL n (m / 2) ++ [48 + m % 2]).length = n + 1
    rw [List.length_append, bitsL_len n (m / 2)]
    rfl
theorem bitsL_zero : ∀ n : Nat, bitsL n 0 = List.replicate n 48
  | 0 => rfl
  | n + 1 => by
    show bitsL n (0 / 2) ++ [48 + 0 % 2] = _
    rw [Nat.zero_div, bitsL_zero n, List.replicate_succ']
theorem bitsL_at : ∀ (n m i : Nat), i < n → (bitsL n m)[i]? = some (48 + m / 2 ^ (n - 1 - i) % 2)
  | 0, _, i, h => absurd h (by omega)
  | n + 1, m, i, h => by
    show (bitsL n (m / 2) ++ [48 + m % 2])[i]? = _
    rcases Nat.lt_or_ge i n with h1 | h1
    · rw [List.getElem?_append_left (by rw [bitsL_len]; exact h1), bitsL_at n (m / 2) i h1]
      rw [show n + 1 - 1 - i = (n - 1 - i) + 1 by omega, Nat.pow_succ, Nat.mul_comm, Nat.div_div_eq_div_mul]
    · have e : i = n := by omega
      subst e
      rw [List.getElem?_append_right (by rw [bitsL_len]; exact Nat.le_refl _), bitsL_len, Nat.sub_self]
      rw [show i + 1 - 1 - i = 0 by omega, Nat.pow_zero, Nat.div_one]
      rfl
theorem dchar {k : Nat} (h : k < 2) : (Nat.digitChar k).toNat = 48 + k := by
  match k, h with
  | 0, _ => rfl
  | 1, _ => rfl
theorem binL_lt {m : Nat} (h : m < 2) : binL m = [48 + m] := by
  unfold binL
  rw [Nat.toDigits_of_lt_base h, List.map_cons, List.map_nil, dchar h]
theorem binL_ge {m : Nat} (h : 2 ≤ m) : binL m = binL (m / 2) ++ [48 + m % 2] := by
  unfold binL
  rw [Nat.toDigits_of_base_le (by decide) h, List.map_append, List.map_cons, List.map_nil, dchar (Nat.mod_lt m (by decide))]
theorem fill_bits : ∀ (n m : Nat), 1 ≤ n → m < 2 ^ n → List.replicate (n - (binL m).length) 48 ++ binL m = bitsL n m
  | 0, _, h, _ => absurd h (by omega)
  | 1, m, _, h => by
    rw [binL_lt (by simpa using h)]
    show List.replicate 0 48 ++ [48 + m] = [] ++ [48 + m % 2]
    rw [Nat.mod_eq_of_lt (by simpa using h)]
    rfl
  | n + 2, m, _, h => by
    show _ = bitsL (n + 1) (m / 2) ++ [48 + m % 2]
    rcases Nat.lt_or_ge m 2 with h1 | h1
    · rw [binL_lt h1, Nat.div_eq_of_lt h1, bitsL_zero, Nat.mod_eq_of_lt h1]
      rfl
    · have ih := fill_bits (n + 1) (m / 2) (by omega) (by rw [Nat.pow_succ] at h; omega)
      rw [binL_ge h1, List.length_append, List.length_singleton, ← List.append_assoc, show n + 2 - ((binL (m / 2)).length + 1) = n + 1 - (binL (m / 2)).length by omega, ih]
theorem binL_01 (m : Nat) : ∀ c ∈ binL m, c = 48 ∨ c = 49 := by
  induction m using Nat.strongRecOn with
  | _ m ih =>
    rcases Nat.lt_or_ge m 2 with h1 | h1
    · rw [binL_lt h1]
      intro c hc
      rw [List.mem_singleton.mp hc]
      omega
    · rw [binL_ge h1]
      intro c hc
      rcases List.mem_append.mp hc with hc | hc
      · exact ih (m / 2) (by omega) c hc
      · rw [List.mem_singleton.mp hc]
        omega
/-- the digits of a mask, as many as the width -/
def digW (m n : Nat) : Str := Txt.zfill (binS m) (n : Int)
theorem digW_bits {m n : Nat} (h1 : 1 ≤ n) (h : m < 2 ^ n) : (digW m n).cps.toList = bitsL n m := by
  have hl := binS_len m
  rw [← fill_bits n m h1 h]
  unfold digW Txt.zfill
  by_cases hn : (n : Int) ≤ ((binS m).length : Int)
  · rw [if_pos hn, show n - (binL m).length = 0 by omega]
    show (binL m).toArray.toList = _
    rw [List.toList_toArray]
    rfl
  · rw [if_neg hn]
    have e : zfilled (binS m) ((n : Int).toNat - (binS m).length) = Builtin.Str.padded (binS m) ((n : Int).toNat - (binS m).length) 0 48 := by
      unfold zfilled
      cases hb : (binS m).cps[0]? with
      | none => rfl
      | some c =>
        have hc : c = 48 ∨ c = 49 := binL_01 m c (by
          have := Array.mem_of_getElem? hb
          exact Array.mem_toList_iff.mpr this |> fun z => by simpa [binS] using z)
        rcases hc with rfl | rfl <;> rfl
    rw [e, Int.toNat_natCast, hl]
    show (Array.replicate (n - (binL m).length) 48 ++ (binS m).cps ++ Array.replicate 0 48).toList = _
    simp [binS]
theorem cpowW {n : Nat} (h : n ≤ 60) : CPow 1 (n : Int) := ⟨by omega, by omega, by decide⟩
end XT
/-! the signs of patterns -/
namespace XT
open PySem PySem.Spec PyProof.Rows L2
def sgn3 (c : Nat) : Bool := decide (c ∈ [48, 49, 63])
/-- a pattern of one to forty signs -/
def okP : PyData → Bool
  | .str x => decide (1 ≤ x.length) && decide (x.length ≤ 40) && x.cps.toList.all sgn3
  | _ => false
theorem sgn3_in (c : Nat) : decide (c ∈ (Str.ofString "01?").cps.toList) = sgn3 c := by
  rw [show (Str.ofString "01?").cps.toList = [48, 49, 63] by decide +kernel]
  rfl
abbrev rSg3 : R2 := fun x y H Q => ∃ (c : Nat) (z : Str), x = .str ⟨#[c]⟩ ∧ y = .str z ∧ Q (.bl (decide (c ∈ z.cps.toList))) H
end XT
/-! texts walked; a star in a target -/
namespace XT
open PySem PySem.Spec PyProof.Rows L2
section
variable {K : PySem.W.Frag} {g : TG} {tt : TT} {te : TE} {vs : List Nat} {σ : L2.St} {H1 : Hp} {D : Addr} {Qd : Hp → Prop} {x : Str}
theorem cps_at {x : Str} {i : Nat} (h : i < x.cps.size) : ∃ c, x.cps[i]? = some c ∧ x.cps.toList[i]? = some c := ⟨x.cps[i], Array.getElem?_eq_getElem h, by rw [Array.getElem?_toList]; exact Array.getElem?_eq_getElem h⟩
theorem lc_str (Pv : Nat → Hp → Prop) (h0 : Pv 0 (upd H1 D (.lst [])))
    (hs : ∀ i c H, x.cps.toList[i]? = some c → Pv i H → g (.str ⟨#[c]⟩) (wipe σ vs) H fun σ2 H2 => wipe σ2 vs = wipe σ vs ∧ tt σ2 H2 fun b H3 =>
      if b = true then te σ2 H3 fun y H4 => ∃ acc, H4 D = some (.lst acc) ∧ acc.length < sizeLine ∧ Pv (i + 1) (upd H4 D (.lst (acc ++ [y]))) else Pv (i + 1) H3) (hd : ∀ H, Pv x.cps.size H → Qd H) :
    ∃ W : Nat → Nat → Hp → Prop, (∃ m, W 0 m (upd H1 D (.lst []))) ∧ ∀ i m H, W i m H →
      ((Its x).stop i H ∧ Qd H) ∨ ((Its x).go i H ∧ ∃ Nx : Hp → Prop, (∀ H', Nx H' → ∃ m', m' < m ∧ W (i + 1) m' H') ∧ ∀ v H', (Its x).yld i H v H' → g v (wipe σ vs) H' fun σ2 H2 => wipe σ2 vs = wipe σ vs ∧ tt σ2 H2 fun b H3 =>
        if b = true then te σ2 H3 fun y H4 => ∃ acc, H4 D = some (.lst acc) ∧ acc.length < sizeLine ∧ Nx (upd H4 D (.lst (acc ++ [y]))) else Nx H3) := by
  refine ⟨fun i m H => m = x.cps.size - i ∧ i ≤ x.cps.size ∧ Pv i H, ⟨x.cps.size, by simp, Nat.zero_le _, h0⟩, ?_⟩
  rintro i m H ⟨em, hi, p⟩
  rcases Nat.lt_or_ge i x.cps.size with lt | ge
  · refine .inr ⟨lt, Pv (i + 1), fun H' p' => ⟨x.cps.size - (i + 1), by omega, rfl, lt, p'⟩, fun v H' y => ?_⟩
    obtain ⟨eH, c, hc, ev⟩ := y
    rw [eH, ev]
    exact hs i c H (by rw [Array.getElem?_toList]; exact hc) p
  · have e : i = x.cps.size := Nat.le_antisymm hi ge
    rw [e] at p
    exact .inl ⟨ge, hd H p⟩
theorem lcp_str (p : Nat → Bool) (f : Nat → V) (nD : H1 D = none) (hz : x.cps.size < sizeLine) (ht : ∀ (i c : Nat) H, x.cps.toList[i]? = some c → Same H1 H → TurnP g tt te vs σ (.str ⟨#[c]⟩) (f c) (p c) H)
    (hd : ∀ H, Same H1 H → H D = some (.lst ((x.cps.toList.filter p).map f)) → Qd H) :
    ∃ W : Nat → Nat → Hp → Prop, (∃ m, W 0 m (upd H1 D (.lst []))) ∧ ∀ i m H, W i m H →
      ((Its x).stop i H ∧ Qd H) ∨ ((Its x).go i H ∧ ∃ Nx : Hp → Prop, (∀ H', Nx H' → ∃ m', m' < m ∧ W (i + 1) m' H') ∧ ∀ v H', (Its x).yld i H v H' → g v (wipe σ vs) H' fun σ2 H2 => wipe σ2 vs = wipe σ vs ∧ tt σ2 H2 fun b H3 =>
        if b = true then te σ2 H3 fun y H4 => ∃ acc, H4 D = some (.lst acc) ∧ acc.length < sizeLine ∧ Nx (upd H4 D (.lst (acc ++ [y]))) else Nx H3) := by
  refine lc_str (fun i H => PvP H1 D (((x.cps.toList.take i).filter p).map f) H) ⟨same_new nD, upd_same⟩ (fun i c H hc h => ?_) (fun H h => ?_)
  · have hi : i < x.cps.toList.length := (List.getElem?_eq_some_iff.mp hc).1
    rw [Array.length_toList] at hi
    exact pvp_turn nD h (Nat.lt_of_le_of_lt (flt_len f p _ i) (Nat.lt_trans hi hz)) (ht i c H hc h.1) _ (take_one f p hc)
  · have h2 := h.2
    rw [List.take_of_length_le (by rw [Array.length_toList]; exact Nat.le_refl _)] at h2
    exact hd H h.1 h2
end
/-! a, *b = a list -/
section
open PySem.W
variable {prog : Program} {w : World} {A : Around} {E : Value → Shared → Prop} {s : Shared}
theorem unpack_head {l : Addr} {x : Value} {xs : List Value} {Q : List Value → Shared → Prop} (hl : s.heap.IsList l (x :: xs).toArray) (hh : A.handled = none) (hz : xs.length ≤ 10000)
    (h : ∀ (h' : Heap) (tk : Nat), (∀ b o, s.heap.get? b = some o → h'.get? b = some o) → Q [x, .ref h'.objs.size] { s with heap := h'.push (listOf xs.toArray 0), toks := tk }) : wpAny (model prog w) A (unpackItems (.ref l) 2 (some 1)) Q E s := by
  obtain ⟨o, ho, _⟩ := id hl
  have big : l < s.heap.objs.size := Heap.lt_size ho
  have ne : l ≠ s.heap.objs.size := Nat.ne_of_lt big
  unfold unpackItems notIterableAtAll
  refine wpAny_bind (wpAny_bind (wpAny_specialOf hl.typeIs slot_list_iter.lookup (wpAny_pure ?_)))
  rw [if_neg (by decide)]
  refine wpAny_bind (wpAny_holding (wpAny_pyIter_list hl (wpAny_bind (wpAny_holding (kun_draw ne 1 0 _ _ ⟨_, Heap.get?_push_size _ rfl, rfl, rfl⟩ (hl.push _) (by simp) fun h1 it1 sb1 => ?_)))))
  have hl1 : h1.IsList l (x :: xs).toArray := (hl.push _).extBut sb1.extBut ne
  rw [Nat.zero_add] at it1
  obtain ⟨oi, hoi, _⟩ := id it1
  obtain ⟨ol, hol, _⟩ := id hl1
  show wpAny _ _ (if ([x] : List Value).length < 1 then _ else _) _ _ _
  rw [if_neg (by simp)]
  refine wpAny_bind (wpAny_holding (kun_collect (s := { s with heap := h1 }) (T := "list_iterator") (.inr (.inr (.inl rfl))) (Walks.list (A := A.in1) hh s.heap.objs.size l ne _) (fun j u st => st.1.typeIs) (k := 1) (by simp) ⟨it1, hl1⟩ (Heap.lt_size hoi) (Heap.lt_size hol) (fun h2 tk hk => ?_) (by rw [sizeLine_eq]; simp; omega)))
  show wpAny _ _ (if xs.length < 0 then _ else _) _ _ _
  rw [if_neg (by simp)]
  show wpAny _ _ (newList (xs.take (xs.length - 0)) >>= fun d => pure ([x] ++ [d] ++ xs.drop (xs.length - 0))) _ _ _
  rw [Nat.sub_zero, List.take_length, List.drop_length]
  refine wpAny_bind (wpAny_newList (wpAny_pure (h h2 tk fun b o e => ?_)) (by rw [sizeLine_eq]; omega))
  have nb : b ≠ s.heap.objs.size := Nat.ne_of_lt (Heap.lt_size e)
  exact hk b o nb (sb1.extBut b o nb (Heap.get?_push_of_some _ e))
end
theorem pgs_star {X : Cx} {e : Expr} {es : List Expr} {t : TG} {u : TGs} {p : Pos} (h1 : PG X e t) (h2 : PGs X es u) (hs : (assignEach (.Starred e p :: es) X.env).map (·.2) = assign e X.env :: (assignEach es X.env).map (·.2) := by rfl) : PGs X (.Starred e p :: es) (gCons t u) := by
  refine ⟨fun pins s σ H vs us Q I r h => ?_⟩
  obtain ⟨v, vr, e1, h⟩ := h
  subst e1
  cases r with
  | cons r rr =>
    rw [hs]
    exact assignInOrder_cons (thn (h1.run pins s σ H _ _ _ I r h) fun _ s1 ⟨σ1, H1, I1, q1⟩ => h2.run pins s1 σ1 H1 _ _ Q I1 rr q1)
def gStar (K : PySem.W.Frag) (t : TGs) : TG := fun v σ H Q => ∃ a x xs, v = .ref a ∧ SqL K H a (x :: xs) ∧ xs.length ≤ 10000 ∧ ∀ p, H p = none → t [x, .ref p] σ (upd H p (.lst xs)) Q
theorem pg_star {X : Cx} {es : List Expr} {k : Nat} {t : TGs} {pos : Pos} (hc : X.calm = true) (h : PGs X es t) (hn : (assignEach es X.env).length = 2 := by rfl) (hst : (assignEach es X.env).findIdx? (·.1) = some 1 := by rfl) : PG X (.Tuple es k pos) (gStar X.K t) := by
  refine ⟨fun pins s σ H v u Q I r hw => ?_⟩
  obtain ⟨a, x, xs, e1, hq, hl, hw⟩ := hw
  subst e1
  cases r
  obtain ⟨its, rv, pl, hz⟩ := I.list hq
  cases rv with
  | @cons _ _ x' xs' r1 r2 =>
  rw [PyProof.Rows.assign_Tuple]
  refine wpAny_bind (wpAny_standAt ?_)
  unfold unpack
  rw [hn, hst]
  refine wpAny_bind (wpAny_holding (unpack_head pl.isList (I.ok.hd hc) (by rw [← r2.length]; exact hl) fun h' tk hx => ?_))
  have I1 : Inv X pins σ H { s with heap := h', toks := tk } := I.kept (t' := tk) hx
  have hf : H h'.objs.size = none := I1.hok.fresh (Nat.le_refl _)
  have I2 : Inv X pins σ (upd H h'.objs.size (.lst xs)) { s with heap := h'.push (PySem.W.listOf xs'.toArray 0), toks := tk } := I1.laid (t' := tk) (fun b u e => Heap.get?_push_of_some _ e) (Nat.le_refl _) ⟨by rw [sizeLine_eq]; omega, xs', 0, r2, Heap.get?_push_size _ rfl⟩
  exact h.run pins _ σ _ [x, .ref h'.objs.size] _ Q I2 (.cons r1 (.cons rfl .nil)) (hw _ hf)
end XT
/-! values that avoid the stream -/
namespace XT
open PySem PySem.Spec PyProof.Rows L2
theorem Same.free {H H' : Hp} {b : Addr} (s : Same H H') (e : H' b = none) : H b = none := by
  cases h : H b with
  | none => rfl
  | some o => rw [s b o h] at e; cases e
theorem Dv.keepN {K : PySem.W.Frag} {S : Sm} {Nw : Addr → Prop} {H H' : Hp} {t : Int} {v : V} {d : PyData} (h : Dv K Nw H v d) (hN : ∀ b, Nw b → Nof S b) (k : Keep S H H') (st : Strm S H t) : Dv K Nw H' v d := h.map (fun _ _ q => k.sqT st q) (fun b _ n q => k.sqL (hN b n).1 (hN b n).2 q) (fun _ _ q => k.ko st q (fun _ z => nomatch z)) (fun _ q => q)
theorem DvAll.keepN {K : PySem.W.Frag} {S : Sm} {Nw : Addr → Prop} {H H' : Hp} {t : Int} {v : List V} {d : List PyData} (h : DvAll K Nw H v d) (hN : ∀ b, Nw b → Nof S b) (k : Keep S H H') (st : Strm S H t) : DvAll K Nw H' v d := h.map (fun _ _ q => k.sqT st q) (fun b _ n q => k.sqL (hN b n).1 (hN b n).2 q) (fun _ _ q => k.ko st q (fun _ z => nomatch z)) (fun _ q => q)
/-- the predicate holds of what is new, and not of the stream's lists -/
structure NwOk (S : Sm) (H : Hp) (Nw : Addr → Prop) : Prop where
  n : ∀ b, Nw b → Nof S b
  f : ∀ b, H b = none → Nw b
theorem NwOk.same {S : Sm} {H H' : Hp} {Nw : Addr → Prop} (h : NwOk S H Nw) (s : Same H H') : NwOk S H' Nw := ⟨h.n, fun b e => h.f b (Same.free s e)⟩
theorem NwOk.keep {S : Sm} {H H' : Hp} {t : Int} {Nw : Addr → Prop} (h : NwOk S H Nw) (k : Keep S H H') (st : Strm S H' t) : NwOk S H' Nw := ⟨h.n, fun b e => h.f b (k.free st e)⟩
theorem nw_all {S : Sm} {H : Hp} {t : Int} (st : Strm S H t) : NwOk S H (Nof S) := ⟨fun _ h => h, fun b e => ⟨(strm_ne st e).1, (strm_ne st e).2.1⟩⟩
end XT
/-! a comprehension that draws data -/
namespace XT
open PySem PySem.Spec PyProof.Rows L2
section
variable {K : PySem.W.Frag} {g : TG} {tt : TT} {te : TE} {vs : List Nat} {σ : L2.St} {H1 : Hp} {D : Addr} {Qd : Hp → Prop} {S : Sm} {t0 : Int} {G : PyData → Prop} {d : Nat}
abbrev Nod (S : Sm) (D : Addr) : Addr → Prop := fun b => Nof S b ∧ b ≠ D
def TurnZ (K : PySem.W.Frag) (S : Sm) (D : Addr) (G : PyData → Prop) (d : Nat) (g : TG) (tt : TT) (te : TE) (vs : List Nat) (σ : L2.St) (x : V) (H : Hp) (t : Int) : Prop :=
  ∀ (R1 : Hp → Prop) (R2 : V → Hp → Prop), (∀ v e H4 t4, Step S H t H4 t4 d → Dv K (Nod S D) H4 v e → G e → R2 v H4) →
    g x (wipe σ vs) H fun σ2 H2 => wipe σ2 vs = wipe σ vs ∧ tt σ2 H2 fun b H3 => if b = true then te σ2 H3 R2 else R1 H3
def PvZ (K : PySem.W.Frag) (S : Sm) (G : PyData → Prop) (d : Nat) (H1 : Hp) (t0 : Int) (D : Addr) (i : Nat) (H : Hp) : Prop := ∃ (vs : List V) (ds : List PyData) (t : Int), Step S H1 t0 H t (d * i) ∧ H D = some (.lst vs) ∧ DvAll K (Nod S D) H vs ds ∧ (∀ e ∈ ds, G e) ∧ ds.length = i
theorem nod_ok {S : Sm} {H : Hp} {t : Int} {D : Addr} {o : HO} (st : Strm S H t) (hD : H D = some o) : NwOk S H (Nod S D) := ⟨fun _ h => h.1, fun b e => ⟨(nw_all st).f b e, fun z => by rw [z, hD] at e; cases e⟩⟩
theorem pvz_turn {i : Nat} {x : V} {H : Hp} (st0 : Strm S H1 t0) (nD : H1 D = none) (hi : i ≤ 1000) (h : PvZ K S G d H1 t0 D i H) (ht : ∀ t, Step S H1 t0 H t (d * i) → NwOk S H (Nod S D) → TurnZ K S D G d g tt te vs σ x H t) :
    g x (wipe σ vs) H fun σ2 H2 => wipe σ2 vs = wipe σ vs ∧ tt σ2 H2 fun b H3 =>
      if b = true then te σ2 H3 fun y H4 => ∃ acc, H4 D = some (.lst acc) ∧ acc.length < sizeLine ∧ PvZ K S G d H1 t0 D (i + 1) (upd H4 D (.lst (acc ++ [y]))) else PvZ K S G d H1 t0 D (i + 1) H3 := by
  obtain ⟨us, ds, t, stp, hD, hk, hg, hl⟩ := h
  have ok := nod_ok stp.st hD
  refine ht t stp ok _ _ (fun v e H4 t4 s4 hv he => ?_)
  have hD4 := s4.keep.mine st0 nD hD
  have hul := hk.len
  refine ⟨_, hD4, small64 (by omega), us ++ [v], ds ++ [e], t4, ?_, upd_same, ?_, ?_, by rw [List.length_append, hl]; rfl⟩
  · have z := stp.trans s4
    have nDs : D ≠ S.s := fun e => by obtain ⟨_, h⟩ := st0; rw [e, h.hs] at nD; cases nD
    have nDp : D ≠ S.p := fun e => by obtain ⟨_, h⟩ := st0; rw [e, h.hp] at nD; cases nD
    have nDq : D ≠ S.q := fun e => by obtain ⟨_, h⟩ := st0; rw [e, h.hq] at nD; cases nD
    refine ⟨fun b o n1 n2 e => ?_, strm_upd z.st nDs nDp nDq, z.lo, by have := z.hi; rw [Nat.mul_succ]; exact this⟩
    rw [upd_ne (ne_of_none e nD)]
    exact z.keep b o n1 n2 e
  · have a1 := (hk.keepN ok.n s4.keep stp.st).app (.cons hv .nil)
    exact DvAll.put hD4 (fun b hb => hb.2) a1
  · intro f hf
    rcases List.mem_append.mp hf with hf | hf
    · exact hg f hf
    · rw [List.mem_singleton.mp hf]; exact he
theorem lcz_range {n : Nat} (st0 : Strm S H1 t0) (nD : H1 D = none) (hn : n ≤ 1000) (ht : ∀ (i : Nat) H t, i < n → Step S H1 t0 H t (d * i) → NwOk S H (Nod S D) → TurnZ K S D G d g tt te vs σ (.int (0 + (i : Int))) H t) (hd : ∀ H, PvZ K S G d H1 t0 D n H → Qd H) :
    ∃ W : Nat → Nat → Hp → Prop, (∃ m, W 0 m (upd H1 D (.lst []))) ∧ ∀ i m H, W i m H →
      ((Itr 0 n).stop i H ∧ Qd H) ∨ ((Itr 0 n).go i H ∧ ∃ Nx : Hp → Prop, (∀ H', Nx H' → ∃ m', m' < m ∧ W (i + 1) m' H') ∧ ∀ x H', (Itr 0 n).yld i H x H' → g x (wipe σ vs) H' fun σ2 H2 => wipe σ2 vs = wipe σ vs ∧ tt σ2 H2 fun b H3 =>
        if b = true then te σ2 H3 fun y H4 => ∃ acc, H4 D = some (.lst acc) ∧ acc.length < sizeLine ∧ Nx (upd H4 D (.lst (acc ++ [y]))) else Nx H3) :=
  lc_range (lo := 0) (n := n) (fun i H => PvZ K S G d H1 t0 D i H) ⟨[], [], t0, ((Step.refl st0).same (same_new nD)).mono (Nat.zero_le _), upd_same, .nil, by simp, rfl⟩ (fun i H hi h => pvz_turn st0 nD (by omega) h fun t s o => ht i H t hi s o) hd
end
end XT
/-! patterns: their signs -/
namespace XT
open PySem PySem.Spec PyProof.Rows L2
/-- a pattern of n signs -/
def OkW (n : Nat) (x : Str) : Prop := x.length = n ∧ ∀ c ∈ x.cps.toList, sgn3 c = true
def chsL : List Str := ["01?", "010101?", "01????", "01???"]
theorem chs_ok : ∀ x ∈ chsL, (∀ c ∈ x.cps.toList, sgn3 c = true) ∧ 0 < x.length ∧ x.length ≤ 1000 := by
  have h : chsL.all (fun x => x.cps.toList.all sgn3 && (decide (0 < x.length) && decide (x.length ≤ 1000))) = true := by decide +kernel
  intro x hx
  have := List.all_eq_true.mp h x hx
  rw [Bool.and_eq_true, Bool.and_eq_true, decide_eq_true_iff, decide_eq_true_iff] at this
  exact ⟨fun c hc => List.all_eq_true.mp this.1 c hc, this.2.1, this.2.2⟩
theorem cut_take (y : Str) (k : Nat) : (cutS y none (some (k : Int))).cps.toList = y.cps.toList.take k := by
  have hl : y.cps.toList.length = y.length := by rw [Array.length_toList]; rfl
  show ((y.cps.toList.drop (HT.sIx y.length 0 none)).take (HT.sIx y.length y.length (some (k : Int)) - HT.sIx y.length 0 none)).toArray.toList = _
  rw [HT.sIx_none, HT.sIx_nat, List.drop_zero, Nat.sub_zero, List.toList_toArray]
  rcases Nat.le_total k y.length with h | h
  · rw [Nat.min_eq_left h]
  · rw [Nat.min_eq_right h, List.take_of_length_le (by omega), List.take_of_length_le (by omega)]
theorem cut_drop (y : Str) (k : Nat) : (cutS y (some (k : Int)) none).cps.toList = y.cps.toList.drop k := by
  have hl : y.cps.toList.length = y.length := by rw [Array.length_toList]; rfl
  show ((y.cps.toList.drop (HT.sIx y.length 0 (some (k : Int)))).take (HT.sIx y.length y.length none - HT.sIx y.length 0 (some (k : Int)))).toArray.toList = _
  rw [HT.sIx_none, HT.sIx_nat, List.toList_toArray]
  rcases Nat.le_total k y.length with h | h
  · rw [Nat.min_eq_left h, List.take_of_length_le (by rw [List.length_drop]; omega)]
  · rw [Nat.min_eq_right h, List.drop_eq_nil_of_le (by omega), List.drop_eq_nil_of_le (by omega), List.take_nil]
theorem str_app_list (x y : Str) : (x ++ y).cps.toList = x.cps.toList ++ y.cps.toList := by
  show (x.cps ++ y.cps).toList = _
  simp
/-- one sign is exchanged -/
theorem okW_put {n k : Nat} {y e : Str} (h : OkW n y) (hk : k < n) (he : OkW 1 e) : OkW n (cutS y none (some (k : Int)) ++ e ++ cutS y (some ((k : Int) + 1)) none) := by
  have hl : y.cps.toList.length = n := by rw [Array.length_toList]; exact h.1
  have el : e.cps.toList.length = 1 := by rw [Array.length_toList]; exact he.1
  have e1 : (cutS y none (some (k : Int)) ++ e ++ cutS y (some ((k : Int) + 1)) none).cps.toList = y.cps.toList.take k ++ e.cps.toList ++ y.cps.toList.drop (k + 1) := by
    rw [str_app_list, str_app_list, cut_take, show (k : Int) + 1 = ((k + 1 : Nat) : Int) by omega, cut_drop]
  refine ⟨?_, fun c hc => ?_⟩
  · have : (cutS y none (some (k : Int)) ++ e ++ cutS y (some ((k : Int) + 1)) none).cps.toList.length = n := by
      rw [e1, List.length_append, List.length_append, List.length_take, List.length_drop, el, hl]
      omega
    rw [Array.length_toList] at this
    exact this
  · rw [e1] at hc
    rcases List.mem_append.mp hc with hc | hc
    · rcases List.mem_append.mp hc with hc | hc
      · exact h.2 c (List.mem_of_mem_take hc)
      · exact he.2 c hc
    · exact h.2 c (List.mem_of_mem_drop hc)
/-- signs one after the other -/
theorem okW_join : ∀ cs : List Nat, (∀ c ∈ cs, sgn3 c = true) → OkW cs.length (Str.join Str.empty (cs.map fun c => (⟨#[c]⟩ : Str)))
  | [], _ => ⟨rfl, fun c hc => absurd hc (by show ¬ c ∈ ([] : List Nat); simp)⟩
  | [a], h => ⟨rfl, fun c hc => by rw [List.mem_singleton.mp (show c ∈ [a] from hc)]; exact h a (by simp)⟩
  | a :: b :: r, h => by
    have ih := okW_join (b :: r) fun c hc => h c (List.mem_cons_of_mem a hc)
    have e : Str.join Str.empty ((a :: b :: r).map fun c => (⟨#[c]⟩ : Str)) = (⟨#[a]⟩ : Str) ++ Str.empty ++ Str.join Str.empty ((b :: r).map fun c => (⟨#[c]⟩ : Str)) := rfl
    rw [e]
    refine ⟨?_, fun c hc => ?_⟩
    · rw [str_app_len, str_app_len, ih.1]
      show 1 + 0 + _ = _
      rw [List.length_cons (a := a)]
      omega
    · rw [str_app_list, str_app_list] at hc
      rcases List.mem_append.mp hc with hc | hc
      · rcases List.mem_append.mp hc with hc | hc
        · rw [List.mem_singleton.mp (show c ∈ [a] from hc)]
          exact h a (by simp)
        · exact absurd hc (by show ¬ c ∈ ([] : List Nat); simp)
      · exact ih.2 c hc
theorem step_put {S : Sm} {H H1 : Hp} {t t1 : Int} {k : Nat} {F : Addr} {o : HO} (s : Step S H t H1 t1 k) (st : Strm S H t) (n : H F = none) : Step S H t (upd H1 F o) t1 k := by
  obtain ⟨n1, n2, n3⟩ := strm_ne st n
  refine ⟨fun b o' h1 h2 e => ?_, strm_upd s.st n1 n2 n3, s.lo, s.hi⟩
  rw [upd_ne (ne_of_none e n)]
  exact s.keep b o' h1 h2 e
theorem dv_signs {K : PySem.W.Frag} {N : Addr → Prop} {H : Hp} : ∀ {vs : List V} {ds : List PyData}, DvAll K N H vs ds → (∀ e ∈ ds, ∃ c : Nat, e = .str ⟨#[c]⟩ ∧ sgn3 c = true) → ∃ cs : List Nat, vs = (cs.map fun c => (⟨#[c]⟩ : Str)).map V.str ∧ (∀ c ∈ cs, sgn3 c = true) ∧ cs.length = ds.length
  | _, _, .nil, _ => ⟨[], rfl, by simp, rfl⟩
  | _, _, .cons (d := d) h a, g => by
    obtain ⟨cs, e, hc, hl⟩ := dv_signs a fun e he => g e (List.mem_cons_of_mem _ he)
    obtain ⟨c, rfl, h1⟩ := g d List.mem_cons_self
    cases h
    refine ⟨c :: cs, by rw [e]; rfl, fun x hx => ?_, by rw [List.length_cons, List.length_cons, hl]⟩
    rcases List.mem_cons.mp hx with rfl | hx
    · exact h1
    · exact hc x hx
theorem sum_ones : ∀ cs : List Nat, ((cs.map fun c => (⟨#[c]⟩ : Str)).map (·.length)).sum = cs.length
  | [] => rfl
  | c :: cs => by
    rw [List.map_cons, List.map_cons, List.sum_cons, sum_ones cs, List.length_cons]
    show 1 + _ = _
    omega
end XT
/-! wide lots -/
namespace XT
open PySem PySem.Spec PyProof.Rows L2
/-- a pattern allows the digits, sign by sign -/
def fitL (ds ps : List Nat) : Bool := (ds.zip ps).all fun q => decide (q.2 = q.1) || decide (q.2 = 63)
/-- a wide lot at T: the patterns, of n signs each -/
structure WideT (H : Hp) (T : Addr) (ws : List Str) (n : Nat) : Prop where
  h : H T = some (.tup (ws.map V.str))
  l1 : 1 ≤ ws.length
  l6 : ws.length ≤ 6
  n1 : 1 ≤ n
  n40 : n ≤ 40
  ok : ∀ x ∈ ws, OkW n x
theorem WideT.same {H H' : Hp} {T : Addr} {ws : List Str} {n : Nat} (h : WideT H T ws n) (e : Same H H') : WideT H' T ws n := ⟨e _ _ h.h, h.l1, h.l6, h.n1, h.n40, h.ok⟩
theorem WideT.step {S : Sm} {H H' : Hp} {t t' : Int} {k : Nat} {T : Addr} {ws : List Str} {n : Nat} (h : WideT H T ws n) (st : Strm S H t) (s : Step S H t H' t' k) : WideT H' T ws n := ⟨s.keep.tup st h.h, h.l1, h.l6, h.n1, h.n40, h.ok⟩
theorem WideT.hd {H : Hp} {T : Addr} {ws : List Str} {n : Nat} (h : WideT H T ws n) : ∃ x, ws[0]? = some x ∧ x.length = n ∧ x ∈ ws := ⟨ws[0]'h.l1, List.getElem?_eq_getElem h.l1, (h.ok _ (List.getElem_mem _)).1, List.getElem_mem _⟩
/-- as many patterns as may be -/
structure WideG (H : Hp) (T : Addr) (ws : List Str) (n : Nat) : Prop where
  h : H T = some (.tup (ws.map V.str))
  l1 : 1 ≤ ws.length
  n1 : 1 ≤ n
  n40 : n ≤ 40
  ok : ∀ x ∈ ws, OkW n x
theorem WideT.g {H : Hp} {T : Addr} {ws : List Str} {n : Nat} (h : WideT H T ws n) : WideG H T ws n := ⟨h.h, h.l1, h.n1, h.n40, h.ok⟩
theorem WideG.same {H H' : Hp} {T : Addr} {ws : List Str} {n : Nat} (h : WideG H T ws n) (e : Same H H') : WideG H' T ws n := ⟨e _ _ h.h, h.l1, h.n1, h.n40, h.ok⟩
theorem WideG.hd {H : Hp} {T : Addr} {ws : List Str} {n : Nat} (h : WideG H T ws n) : ∃ x, ws[0]? = some x ∧ x.length = n ∧ x ∈ ws := ⟨ws[0]'h.l1, List.getElem?_eq_getElem h.l1, (h.ok _ (List.getElem_mem _)).1, List.getElem_mem _⟩
/-- the mask is one of the wide lot's -/
def hasM (n : Nat) (ws : List Str) (m : Nat) : Bool := ws.any fun x => fitL (bitsL n m) x.cps.toList
def hasW (n : Nat) (ws : List Str) (d : PyData) : Bool := isM n d && hasM n ws (iv d).toNat
theorem str1_eq {c d : Nat} : ((⟨#[c]⟩ : Str) == ⟨#[d]⟩) = decide (c = d) := by
  by_cases h : c = d
  · rw [h, decide_eq_true rfl]
    exact beq_self_eq_true _
  · rw [decide_eq_false h]
    refine beq_eq_false_iff_ne.mpr fun e => h ?_
    have := congrArg (fun s : Str => s.cps.toList) e
    simpa using this
theorem in_sign {c d : Nat} : inV (.str ⟨#[d]⟩) [.str ⟨#[c]⟩, .str "?"] = (decide (d = c) || decide (d = 63)) := by
  have e : (Str.ofString "?") = ⟨#[63]⟩ := by decide +kernel
  show ((⟨#[c]⟩ : Str) == ⟨#[d]⟩ || ((Str.ofString "?" == (⟨#[d]⟩ : Str)) || false)) = _
  rw [e, str1_eq, str1_eq, Bool.or_false]
  congr 1
  · exact decide_eq_decide.mpr ⟨Eq.symm, Eq.symm⟩
  · exact decide_eq_decide.mpr ⟨Eq.symm, Eq.symm⟩
theorem bAny : bootBuiltins "any" = some (.builtin "any") := by decide +kernel
theorem digW_len {m n : Nat} (h1 : 1 ≤ n) (h : m < 2 ^ n) : (digW m n).cps.size = n := by rw [← Array.length_toList, digW_bits h1 h, bitsL_len]
end XT
/-! wide lots as data; statements by Ev -/
namespace XT
open PySem PySem.Spec PyProof.Rows L2
def tS (ss : List Str) : PyData := .tuple (ss.map PyData.str)
theorem gs {x : Str} (h : TxOk x) (l : x.length ≤ 41) : Gd (10 ^ 39 + 2) 412 0 (.str x) := gd_str h l
theorem gStrs : ∀ ss : List Str, (∀ x ∈ ss, TxOk x ∧ x.length ≤ 41) → GdAll (10 ^ 39 + 2) (414 * ss.length) 0 (ss.map PyData.str)
  | [], _ => GdAll.nil
  | x :: ss, h => (GdAll.cons (gs (h x List.mem_cons_self).1 (h x List.mem_cons_self).2) (gStrs ss fun y hy => h y (List.mem_cons_of_mem x hy))).mono (Nat.le_refl _) (by rw [List.length_cons]; omega) (Nat.le_refl _)
theorem dz_strs {K : PySem.W.Frag} {H : Hp} : ∀ ss : List Str, DzAll K H (ss.map V.str) (ss.map PyData.str)
  | [] => .nil
  | x :: ss => .cons (.str x) (dz_strs ss)
theorem WideT.dz {K : PySem.W.Frag} {H : Hp} {T : Addr} {ws : List Str} {n : Nat} (h : WideT H T ws n) : Dz K H (.ref T) (tS ws) := .tup (SqT.of h.h) (dz_strs ws)
theorem okW_tx {n : Nat} {x : Str} (h : OkW n x) (hn : n ≤ 41) : TxOk x ∧ x.length ≤ 41 := ⟨fun c hc => by
    have h := h.2 c hc
    unfold sgn3 at h
    have h := of_decide_eq_true h
    simp only [List.mem_cons, List.not_mem_nil, or_false] at h
    rcases h with rfl | rfl | rfl <;> decide, by have := h.1; omega⟩
theorem WideT.gd {H : Hp} {T : Addr} {ws : List Str} {n : Nat} (h : WideT H T ws n) : Gd (10 ^ 39 + 2) 2500 1 (tS ws) := (gStrs ws fun x hx => okW_tx (h.ok x hx) (by have := h.n40; omega)).tuple.mono (Nat.le_refl _) (by have := h.l6; omega) (Nat.le_refl _)
section
variable {R R' : RV} {ta tb : TE} {σ : L2.St} {H : Hp} {u : TS} {D : Ends}
theorem par_ev {i j : Nat} (hR : Sty R) (a : Ev R ta σ H) (b : Ev R' tb σ H) (q : ∀ H2 x y, Same H H2 → R H2 x → R' H2 y → u D ((σ.set i (some x)).set j (some y)) H2) : tSeq (tPar i j (tCons ta (tCons tb tNil))) u D σ H :=
  a H (Same.refl _) _ fun H2 x s2 gx => b H2 s2 _ fun H3 y s3 gy => ⟨x, y, rfl, q H3 x y (s2.trans s3) (hR _ _ _ s3 gx) gy⟩
theorem ev_and2 {b c : Bool} (h : Ev (isB b) ta σ H) (k : b = true → Ev (isB c) tb σ H) : Ev (isB (b && c)) (tAndV ta tb) σ H := fun H1 s1 Q q => h H1 s1 _ fun H2 z s2 e => by
  refine ⟨b, e, ?_⟩
  cases b with
  | true => exact iteT (k rfl H2 (s1.trans s2) _ fun H3 z3 s3 e3 => q _ _ (s2.trans s3) e3)
  | false => exact iteF (q _ _ s2 rfl)
end
end XT
/-! expressions that draw, and that change what they own -/
namespace XT
open PySem PySem.Spec PyProof.Rows L2
abbrev Ow := Addr → Prop
abbrev HpP := Hp → Prop
/-- all but the owned cells stays -/
def KeepX (X : Ow) (H H' : Hp) : Prop := ∀ b o, ¬ X b → H b = some o → H' b = some o
theorem KeepX.refl (X : Ow) (H : Hp) : KeepX X H H := fun _ _ _ h => h
theorem KeepX.trans {X : Ow} {H H1 H2 : Hp} (a : KeepX X H H1) (b : KeepX X H1 H2) : KeepX X H H2 := fun c o n h => b c o n (a c o n h)
theorem KeepX.of {X : Ow} {H H' : Hp} (a : Same H H') : KeepX X H H' := fun c o _ h => a c o h
theorem KeepX.mono {X Y : Ow} {H H' : Hp} (a : KeepX X H H') (h : ∀ b, X b → Y b) : KeepX Y H H' := fun c o n e => a c o (fun z => n (h c z)) e
/-- what is owned and what is a tuple stays -/
def Sim (X : Ow) (H H' : Hp) : Prop := ∀ b o, H b = some o → (X b ∨ ∃ xs, o = .tup xs) → H' b = some o
theorem Sim.of {X : Ow} {H H' : Hp} (a : Same H H') : Sim X H H' := fun b o e _ => a b o e
theorem Sim.put {X : Ow} {H : Hp} {D : Addr} {xs : List V} {o : HO} (h : H D = some (.lst xs)) (n : ¬ X D) : Sim X H (upd H D o) := fun b o' e c => by
  have : b ≠ D := fun z => by
    subst z
    rcases c with c | ⟨ys, rfl⟩
    · exact n c
    · rw [h] at e; cases e
  rw [upd_ne this]
  exact e
/-- true by what is owned and by tuples alone -/
def StyW (X : Ow) (W : HpP) : Prop := ∀ H H', Sim X H H' → W H → W H'
/-- what changes: a list, an instance -/
def MutO (o : HO) : Prop := (∃ xs, o = .lst xs) ∨ ∃ C dx fs, o = .ins C dx fs
def noW : HpP := fun _ => True
def noX : Ow := fun _ => False
theorem sty_no (X : Ow) : StyW X noW := fun _ _ _ _ => trivial
theorem StyW.and {X : Ow} {W V : HpP} (a : StyW X W) (b : StyW X V) : StyW X (fun H => W H ∧ V H) := fun H H' s h => ⟨a H H' s h.1, b H H' s h.2⟩
def XS (S : Sm) (X : Ow) : Ow := fun b => b = S.s ∨ b = S.p ∨ b = S.q ∨ X b
/-- a stream that has been drawn from so often at most, and what else is owned -/
structure Wld (S : Sm) (X : Ow) (W : HpP) (B : Int) (H : Hp) : Prop where
  t : ∃ t, Strm S H t ∧ t ≤ B
  w : W H
  o : ∀ b, X b → b ≠ S.s ∧ b ≠ S.p ∧ b ≠ S.q ∧ ∃ o, H b = some o ∧ MutO o
section
variable {S : Sm} {X : Ow} {W W1 W2 W3 : HpP} {B B1 B2 B3 : Int} {H H' : Hp}
theorem Wld.own (h : Wld S X W B H) {b : Addr} (c : XS S X b) : ∃ o, H b = some o ∧ MutO o := by
  obtain ⟨⟨t, ⟨big, st⟩, _⟩, _, o⟩ := h
  rcases c with rfl | rfl | rfl | c
  · exact ⟨_, st.hs, .inl ⟨_, rfl⟩⟩
  · exact ⟨_, st.hp, .inl ⟨_, rfl⟩⟩
  · exact ⟨_, st.hq, .inl ⟨_, rfl⟩⟩
  · exact (o b c).2.2.2
theorem Wld.new (h : Wld S X W B H) {b : Addr} (e : H b = none) : ¬ XS S X b := fun c => by
  obtain ⟨o, e2, _⟩ := h.own c
  rw [e] at e2; cases e2
/-- what never changes is not owned -/
theorem Wld.nown (h : Wld S X W B H) {b : Addr} {o : HO} (e : H b = some o) (n : ¬ MutO o) : ¬ XS S X b := fun c => by
  obtain ⟨o', e2, m⟩ := h.own c
  rw [e] at e2; cases e2; exact n m
theorem Wld.fix (h : Wld S X W B H) (k : KeepX (XS S X) H H') {b : Addr} {o : HO} (e : H b = some o) (n : ¬ MutO o) : H' b = some o := k b _ (h.nown e n) e
theorem nm_tup {xs : List V} : ¬ MutO (.tup xs) := fun h => by rcases h with ⟨_, e⟩ | ⟨_, _, _, e⟩ <;> cases e
theorem Wld.ntup (h : Wld S X W B H) {b : Addr} {xs : List V} (e : H b = some (.tup xs)) : ¬ XS S X b := h.nown e nm_tup
theorem Wld.tup (h : Wld S X W B H) (k : KeepX (XS S X) H H') {b : Addr} {xs : List V} (e : H b = some (.tup xs)) : H' b = some (.tup xs) := k b _ (h.ntup e) e
theorem Wld.mono (h : Wld S X W B H) (b : B ≤ B1) : Wld S X W B1 H := ⟨let ⟨t, st, l⟩ := h.t; ⟨t, st, Int.le_trans l b⟩, h.w, h.o⟩
theorem Wld.imp (h : Wld S X W B H) (i : W H → W1 H) : Wld S X W1 B H := ⟨h.t, i h.w, h.o⟩
theorem Wld.sim (sw : StyW X W) (h : Wld S X W B H) (s : Sim (XS S X) H H') : Wld S X W B H' := by
  obtain ⟨⟨t, ⟨big, st⟩, l⟩, w, o⟩ := h
  refine ⟨⟨t, ⟨big, s _ _ st.hs (.inl (.inl rfl)), s _ _ st.hp (.inl (.inr (.inl rfl))), s _ _ st.hq (.inl (.inr (.inr (.inl rfl)))), st.sp, st.sq, st.pq, st.ne, st.t0⟩, l⟩, sw H H' (fun b o' e c => s b o' e (c.imp (fun z => .inr (.inr (.inr z))) id)) w, fun b c => ?_⟩
  obtain ⟨n1, n2, n3, o', e, nt⟩ := o b c
  exact ⟨n1, n2, n3, o', s _ _ e (.inl (.inr (.inr (.inr c)))), nt⟩
theorem Wld.same (sw : StyW X W) (h : Wld S X W B H) (s : Same H H') : Wld S X W B H' := h.sim sw (Sim.of s)
theorem Wld.step (sw : StyW X W) (h : Wld S X W B H) {t t' : Int} {k : Nat} (st : Strm S H t) (l : t ≤ B) (s : Step S H t H' t' k) : Wld S X W (B + k) H' ∧ KeepX (XS S X) H H' := by
  refine ⟨⟨⟨t', s.st, by have := s.hi; omega⟩, sw H H' (fun b o e c => ?_) h.w, fun b c => ?_⟩, fun b o n e => s.keep b o (fun z => n (.inl z)) (fun z => n (.inr (.inl z))) e⟩
  · rcases c with c | ⟨xs, rfl⟩
    · obtain ⟨n1, n2, _⟩ := h.o b c
      exact s.keep b o n1 n2 e
    · exact s.keep.tup st e
  · obtain ⟨n1, n2, n3, o', e, nt⟩ := h.o b c
    exact ⟨n1, n2, n3, o', s.keep b o' n1 n2 e, nt⟩
/-- what is true of a value stays true while only owned cells change -/
def StyK (S : Sm) (X : Ow) (R : RV) : Prop := ∀ (W : HpP) (B : Int) (H H' : Hp) (z : V), Wld S X W B H → KeepX (XS S X) H H' → R H z → R H' z
theorem sk_v (v : V) : StyK S X (isV v) := fun _ _ _ _ _ _ _ h => h
theorem LotAt.kx {v : V} {n : Nat} {p : Nat → Bool} (h : LotAt H v n p) (w : Wld S X W B H) (k : KeepX (XS S X) H H') : LotAt H' v n p := by
  obtain ⟨a, b, e, h1, h2⟩ := h
  exact ⟨a, b, e, w.tup k h1, w.tup k h2⟩
theorem TupAt.kx {v : V} {ms : List Nat} (h : TupAt H v ms) (w : Wld S X W B H) (k : KeepX (XS S X) H H') : TupAt H' v ms := by
  obtain ⟨a, e, h1⟩ := h
  exact ⟨a, e, w.tup k h1⟩
theorem WideT.kx {T : Addr} {ws : List Str} {n : Nat} (h : WideT H T ws n) (w : Wld S X W B H) (k : KeepX (XS S X) H H') : WideT H' T ws n := ⟨w.tup k h.h, h.l1, h.l6, h.n1, h.n40, h.ok⟩
theorem sk_lot (n : Nat) (p : Nat → Bool) : StyK S X (isLot n p) := fun _ _ _ _ _ w k h => h.kx w k
theorem sk_tup (ms : List Nat) : StyK S X (isTup ms) := fun _ _ _ _ _ w k h => h.kx w k
theorem sk_ex {α : Type} {P : α → RV} (h : ∀ a, StyK S X (P a)) : StyK S X (fun H z => ∃ a, P a H z) := fun W B H H' z w k ⟨a, q⟩ => ⟨a, h a W B H H' z w k q⟩
theorem sk_pure (p : V → Prop) : StyK S X (fun _ z => p z) := fun _ _ _ _ _ _ _ h => h
/-- from H on, in the world W B, the expression gives a value of which R is true, in the world W' B' -/
def EvD (S : Sm) (X : Ow) (W : HpP) (B : Int) (W' : HpP) (B' : Int) (R : RV) (t : TE) (σ : L2.St) (H : Hp) : Prop :=
  ∀ H', KeepX (XS S X) H H' → Wld S X W B H' → ∀ Q : VK, (∀ H2 z, KeepX (XS S X) H' H2 → Wld S X W' B' H2 → R H2 z → Q z H2) → t σ H' Q
def EvDT (S : Sm) (X : Ow) (W : HpP) (B : Int) (W' : HpP) (B' : Int) (b : Bool) (t : TT) (σ : L2.St) (H : Hp) : Prop :=
  ∀ H', KeepX (XS S X) H H' → Wld S X W B H' → ∀ Q : Bool → Hp → Prop, (∀ H2, KeepX (XS S X) H' H2 → Wld S X W' B' H2 → Q b H2) → t σ H' Q
def EvDA (S : Sm) (X : Ow) (W : HpP) (B : Int) (W' : HpP) (B' : Int) (Rs : List RV) (t : TA) (σ : L2.St) (H : Hp) : Prop :=
  ∀ H', KeepX (XS S X) H H' → Wld S X W B H' → ∀ Q : List V → Hp → Prop, (∀ H2 vs, KeepX (XS S X) H' H2 → Wld S X W' B' H2 → AllV Rs H2 vs → Q vs H2) → t σ H' Q
variable {R Ra Rb Rc : RV} {Rs : List RV} {t ta tb : TE} {ts : TA} {σ : L2.St}
theorem EvD.kx (h : EvD S X W B W1 B1 R t σ H) (k : KeepX (XS S X) H H') : EvD S X W B W1 B1 R t σ H' := fun H2 s w Q q => h H2 (k.trans s) w Q q
theorem EvD.mono {R' : RV} (h : EvD S X W B W1 B1 R t σ H) (i : ∀ H z, R H z → R' H z) : EvD S X W B W1 B1 R' t σ H := fun H2 s w Q q => h H2 s w Q fun H3 z s3 w3 g => q H3 z s3 w3 (i _ _ g)
theorem EvD.mono2 {R' : RV} (h : EvD S X W B W1 B1 R t σ H) (i : ∀ H z, Wld S X W1 B1 H → R H z → R' H z) : EvD S X W B W1 B1 R' t σ H := fun H2 s w Q q => h H2 s w Q fun H3 z s3 w3 g => q H3 z s3 w3 (i _ _ w3 g)
theorem EvD.late (h : EvD S X W B W1 B1 R t σ H) (b : B1 ≤ B2) : EvD S X W B W1 B2 R t σ H := fun H2 s w Q q => h H2 s w Q fun H3 z s3 w3 g => q H3 z s3 (w3.mono b) g
theorem ed_pure (sw : StyW X W) (f : ∀ H', KeepX (XS S X) H H' → Wld S X W B H' → Ev R t σ H') : EvD S X W B W B R t σ H := fun H1 s w Q q => f H1 s w H1 (Same.refl _) _ fun H2 z s2 g => q H2 z (KeepX.of s2) (w.same sw s2) g
theorem ed_var {i : Nat} {z : V} (hs : StyK S X R) (w0 : Wld S X W3 B3 H) (e : σ[i]? = some (some z)) (h : R H z) : EvD S X W B W B R (tVar i) σ H := fun H2 s w Q q => ⟨z, e, q _ _ (KeepX.refl _ _) w (hs _ _ _ _ _ w0 s h)⟩
theorem ed_varV {i : Nat} {v : V} (e : σ[i]? = some (some v)) : EvD S X W B W B (isV v) (tVar i) σ H := fun H2 s w Q q => ⟨v, e, q _ _ (KeepX.refl _ _) w rfl⟩
theorem ed_c (v : V) : EvD S X W B W B (isV v) (tC v) σ H := fun H2 s w Q q => q _ _ (KeepX.refl _ _) w rfl
theorem ed_op {r : R2} (sw : StyW X W2) (ha : StyK S X Ra) (a : EvD S X W B W1 B1 Ra ta σ H) (b : EvD S X W1 B1 W2 B2 Rb tb σ H) (f : OpF Ra Rb r Rc) : EvD S X W B W2 B2 Rc (tOp r ta tb) σ H := fun H1 s1 w1 Q q =>
  a H1 s1 w1 _ fun H2 x s2 w2 gx => b H2 (s1.trans s2) w2 _ fun H3 y s3 w3 gy => f H3 x y (ha _ _ _ _ _ w2 s3 gx) gy _ fun H4 z s4 gz => q H4 z ((s2.trans s3).trans (KeepX.of s4)) (w3.same sw s4) gz
theorem ed_opW {r : R2} (sw : StyW X W2) (ha : StyK S X Ra) (a : EvD S X W B W1 B1 Ra ta σ H) (b : EvD S X W1 B1 W2 B2 Rb tb σ H) (f : ∀ H x y, Wld S X W2 B2 H → Ra H x → Rb H y → ∀ Q : VK, (∀ H2 z, Same H H2 → Rc H2 z → Q z H2) → r x y H Q) : EvD S X W B W2 B2 Rc (tOp r ta tb) σ H := fun H1 s1 w1 Q q =>
  a H1 s1 w1 _ fun H2 x s2 w2 gx => b H2 (s1.trans s2) w2 _ fun H3 y s3 w3 gy => f H3 x y w3 (ha _ _ _ _ _ w2 s3 gx) gy _ fun H4 z s4 gz => q H4 z ((s2.trans s3).trans (KeepX.of s4)) (w3.same sw s4) gz
theorem ed_test {b : Bool} (h : EvD S X W B W1 B1 (isB b) t σ H) : EvDT S X W B W1 B1 b (tTest t) σ H := fun H1 s1 w1 Q q => h H1 s1 w1 _ fun H2 z s2 w2 e => ⟨b, e, q _ s2 w2⟩
theorem ed_b {b : Bool} (h : EvD S X W B W1 B1 (isB b) t σ H) : EvDT S X W B W1 B1 b (tB t) σ H := fun H1 s1 w1 Q q => h H1 s1 w1 _ fun H2 z s2 w2 e => ⟨b, e, q _ s2 w2⟩
theorem ed_not {b : Bool} {t : TT} (h : EvDT S X W B W1 B1 b t σ H) : EvDT S X W B W1 B1 (!b) (tNot t) σ H := fun H1 s1 w1 Q q => h H1 s1 w1 _ fun H2 s2 w2 => q _ s2 w2
theorem ed_tpure {b : Bool} {t : TT} (sw : StyW X W) (f : ∀ H', KeepX (XS S X) H H' → Wld S X W B H' → EvT b t σ H') : EvDT S X W B W B b t σ H := fun H1 s w Q q => f H1 s w H1 (Same.refl _) _ fun H2 s2 => q H2 (KeepX.of s2) (w.same sw s2)
theorem ed_or {b c : Bool} {t u : TT} (h : EvDT S X W B W1 B1 b t σ H) (k : b = false → EvDT S X W1 B1 W2 B2 c u σ H) (k2 : b = true → ∀ H, Wld S X W1 B1 H → Wld S X W2 B2 H) : EvDT S X W B W2 B2 (b || c) (tOr t u) σ H := fun H1 s1 w1 Q q => h H1 s1 w1 _ fun H2 s2 w2 => by
  cases b with
  | true => exact iteT (q _ s2 (k2 rfl _ w2))
  | false => exact iteF (k rfl H2 (s1.trans s2) w2 _ fun H3 s3 w3 => q _ (s2.trans s3) w3)
theorem ed_and {b c : Bool} {t u : TT} (h : EvDT S X W B W1 B1 b t σ H) (k : b = true → EvDT S X W1 B1 W2 B2 c u σ H) (k2 : b = false → ∀ H, Wld S X W1 B1 H → Wld S X W2 B2 H) : EvDT S X W B W2 B2 (b && c) (tAnd t u) σ H := fun H1 s1 w1 Q q => h H1 s1 w1 _ fun H2 s2 w2 => by
  cases b with
  | true => exact iteT (k rfl H2 (s1.trans s2) w2 _ fun H3 s3 w3 => q _ (s2.trans s3) w3)
  | false => exact iteF (q _ s2 (k2 rfl _ w2))
theorem ed_ifE {b : Bool} {c : TT} (h : EvDT S X W B W1 B1 b c σ H) (k1 : b = true → EvD S X W1 B1 W2 B2 R ta σ H) (k2 : b = false → EvD S X W1 B1 W2 B2 R tb σ H) : EvD S X W B W2 B2 R (tIf c ta tb) σ H := fun H1 s1 w1 Q q => h H1 s1 w1 _ fun H2 s2 w2 => by
  cases b with
  | true => exact iteT (k1 rfl H2 (s1.trans s2) w2 _ fun H3 z s3 w3 g => q _ _ (s2.trans s3) w3 g)
  | false => exact iteF (k2 rfl H2 (s1.trans s2) w2 _ fun H3 z s3 w3 g => q _ _ (s2.trans s3) w3 g)
theorem eda_nil : EvDA S X W B W B [] tNil σ H := fun H1 s1 w Q q => q _ _ (KeepX.refl _ _) w trivial
theorem eda_cons (hs : StyK S X R) (a : EvD S X W B W1 B1 R t σ H) (b : EvDA S X W1 B1 W2 B2 Rs ts σ H) : EvDA S X W B W2 B2 (R :: Rs) (tCons t ts) σ H := fun H1 s1 w1 Q q =>
  a H1 s1 w1 _ fun H2 x s2 w2 gx => b H2 (s1.trans s2) w2 _ fun H3 vs s3 w3 gv => q _ _ (s2.trans s3) w3 ⟨hs _ _ _ _ _ w2 s3 gx, gv⟩
/-! statements -/
theorem asg_ed {g : TG} {u : TS} {D : Ends} (h : EvD S X W B W1 B1 R t σ H) (w : Wld S X W B H) (q : ∀ H2 z, KeepX (XS S X) H H2 → Wld S X W1 B1 H2 → R H2 z → g z σ H2 (u D)) : tSeq (tAsg t g) u D σ H := h H (KeepX.refl _ _) w _ fun H2 z s2 w2 gz => q H2 z s2 w2 gz
theorem ret_ed {D : Ends} (h : EvD S X W B W1 B1 R t σ H) (w : Wld S X W B H) (q : ∀ H2 z, KeepX (XS S X) H H2 → Wld S X W1 B1 H2 → R H2 z → D.rt z H2) : tRet t D σ H := h H (KeepX.refl _ _) w _ fun H2 z s2 w2 gz => q H2 z s2 w2 gz
theorem ifs_ed {b : Bool} {t : TT} {u v rest : TS} {D : Ends} (h : EvDT S X W B W1 B1 b t σ H) (w : Wld S X W B H) (q1 : b = true → ∀ H2, KeepX (XS S X) H H2 → Wld S X W1 B1 H2 → u { D with nx := rest D } σ H2) (q2 : b = false → ∀ H2, KeepX (XS S X) H H2 → Wld S X W1 B1 H2 → v { D with nx := rest D } σ H2) : tSeq (tIfS t u v) rest D σ H := h H (KeepX.refl _ _) w _ fun H2 s2 w2 => by
  cases b with
  | true => exact iteT (q1 rfl H2 s2 w2)
  | false => exact iteF (q2 rfl H2 s2 w2)
theorem if_ed {b : Bool} {t : TT} {u v : TS} {D : Ends} (h : EvDT S X W B W1 B1 b t σ H) (w : Wld S X W B H) (q1 : b = true → ∀ H2, KeepX (XS S X) H H2 → Wld S X W1 B1 H2 → u D σ H2) (q2 : b = false → ∀ H2, KeepX (XS S X) H H2 → Wld S X W1 B1 H2 → v D σ H2) : tIfS t u v D σ H := h H (KeepX.refl _ _) w _ fun H2 s2 w2 => by
  cases b with
  | true => exact iteT (q1 rfl H2 s2 w2)
  | false => exact iteF (q2 rfl H2 s2 w2)
theorem par_ed {i j : Nat} {u : TS} {D : Ends} (ha : StyK S X Ra) (a : EvD S X W B W1 B1 Ra ta σ H) (b : EvD S X W1 B1 W2 B2 Rb tb σ H) (w : Wld S X W B H) (q : ∀ H2 x y, KeepX (XS S X) H H2 → Wld S X W2 B2 H2 → Ra H2 x → Rb H2 y → u D ((σ.set i (some x)).set j (some y)) H2) : tSeq (tPar i j (tCons ta (tCons tb tNil))) u D σ H :=
  a H (KeepX.refl _ _) w _ fun H2 x s2 w2 gx => b H2 s2 w2 _ fun H3 y s3 w3 gy => ⟨x, y, rfl, q H3 x y (s2.trans s3) w3 (ha _ _ _ _ _ w2 s3 gx) gy⟩
end
end XT
/-! draws; comprehensions that draw -/
namespace XT
open PySem PySem.Spec PyProof.Rows L2
/-- a list of one's own: n values, of each of which G is true -/
def isLG (S : Sm) (X : Ow) (G : V → Prop) (n : Nat) : RV := fun H z => ∃ L vs, z = .ref L ∧ H L = some (.lst vs) ∧ vs.length = n ∧ (∀ v ∈ vs, G v) ∧ ¬ XS S X L
theorem sk_lg {S : Sm} {X : Ow} (G : V → Prop) (n : Nat) : StyK S X (isLG S X G n) := fun _ _ _ _ _ w k ⟨L, vs, ez, hL, hl, hG, nX⟩ => ⟨L, vs, ez, k L _ nX hL, hl, hG, nX⟩
section
variable {S : Sm} {X : Ow} {W W1 W2 W3 : HpP} {B B1 B2 B3 : Int} {H H' : Hp} {R Ra Rb Rc : RV} {t ta tb te : TE} {σ : L2.St}
theorem ed_draw {m : Nat} (sw : StyW X W2) (m0 : 0 < m) (m1 : m ≤ 1000) (hB : B2 < 100000000) (a : EvD S X W B W1 B1 (isV (.ref S.s)) ta σ H) (b : EvD S X W1 B1 W2 B2 (isV (.int (m : Int))) tb σ H) : EvD S X W B W2 (B2 + 1) (fun _ z => ∃ r : Nat, z = .int (r : Int) ∧ r < m) (tDf spDrawN (tCons ta (tCons tb tNil))) σ H := fun H1 s1 w1 Q q =>
  a H1 s1 w1 _ fun H2 x s2 w2 ex => b H2 (s1.trans s2) w2 _ fun H3 y s3 w3 ey => by
    obtain ⟨t, st, ht⟩ := w3.t
    refine ⟨S, t, m, by rw [ex, ey], st, m0, m1, by omega, fun H4 r t4 s4 hr => ?_⟩
    obtain ⟨w4, k4⟩ := w3.step sw st ht s4
    exact q _ _ ((s2.trans s3).trans k4) w4 ⟨r, rfl, hr⟩
/-- a comprehension over range(n), every turn of which may draw d times -/
theorem ed_lcR {i n d : Nat} {G : V → Prop} (sw : StyW X W1) (hn : n ≤ 1000) (hw : ∀ z : V, wipe ((wipe σ [i]).set i (some z)) [i] = wipe σ [i]) (a : EvD S X W B W1 B1 (isV (.int (n : Int))) ta σ H)
    (b : ∀ (j : Nat) (H1 : Hp) (B' : Int), j < n → B1 ≤ B' → B' ≤ B1 + d * j → KeepX (XS S X) H H1 → EvD S X W1 B' W1 (B' + d) (fun _ z => G z) te ((wipe σ [i]).set i (some (.int (j : Int)))) H1) :
    EvD S X W B W1 (B1 + d * n) (isLG S X G n) (tLc (iRng1 (tCons ta tNil)) (gName i) tYes te [i]) σ H := fun H1 s1 w1 Q q =>
  a H1 s1 w1 _ fun H2 x s2 w2 ex => by
    subst ex
    refine ⟨(n : Int), rfl, by omega, by omega, fun D nD => ?_⟩
    have nX := w2.new nD
    refine lc_range (lo := 0) (n := n) (fun j H' => ∃ acc : List V, KeepX (XS S X) H2 H' ∧ Wld S X W1 (B1 + d * j) H' ∧ H' D = some (.lst acc) ∧ acc.length = j ∧ ∀ v ∈ acc, G v) ⟨[], KeepX.of (same_new nD), (w2.same sw (same_new nD)).mono (by omega), upd_same, rfl, by simp⟩ (fun j H' hj h => ?_) (fun H' h => ?_)
    · obtain ⟨acc, k, w, hD, hl, hG⟩ := h
      refine ⟨hw _, ?_⟩
      dsimp only [tYes]
      rw [if_pos rfl, Int.zero_add]
      refine b j H' _ hj (by have := Int.mul_nonneg (Int.natCast_nonneg d) (Int.natCast_nonneg j); omega) (Int.le_refl _) ((s1.trans s2).trans k) H' (KeepX.refl _ _) w _ fun H3 y k3 w3 gy => ?_
      have hD3 := k3 D _ nX hD
      have k3' : KeepX (XS S X) H2 (upd H3 D (.lst (acc ++ [y]))) := fun c o n e => by
        rw [upd_ne (ne_of_none e nD)]
        exact k3 c o n (k c o n e)
      have e : B1 + (d : Int) * (j : Int) + d = B1 + d * ((j + 1 : Nat) : Int) := by
        rw [Int.natCast_add, Int.mul_add]
        omega
      rw [e] at w3
      refine ⟨acc, hD3, small64 (by omega), acc ++ [y], k3', w3.sim sw (Sim.put hD3 nX), upd_same, by rw [List.length_append, hl]; rfl, fun v hv => ?_⟩
      rcases List.mem_append.mp hv with hv | hv
      · exact hG v hv
      · rw [List.mem_singleton.mp hv]; exact gy
    · obtain ⟨acc, k, w, hD, hl, hG⟩ := h
      exact q _ _ (s2.trans k) w ⟨D, acc, rfl, hD, hl, hG, nX⟩
end
end XT
/-! cuts and sums of tuples that are laid -/
namespace XT
open PySem PySem.Spec PyProof.Rows L2
section
variable {X : Cx}
def rSlV : V → Option Int → Option Int → Hp → VK → Prop := fun x lo hi H Q => ∃ a xs, x = .ref a ∧ H a = some (.tup xs) ∧ ∀ H' p, Same H H' → H' p = some (.tup (cutV xs lo hi)) → Q (.ref p) H'
theorem sl_tupV : SlR X rSlV := by
  intro pins s σ H x v vl vu lo hi sl Q I rx hs pl pu h
  obtain ⟨a, xs, rfl, hx, q⟩ := h
  exact sl_tupA pins s σ H _ v vl vu lo hi sl Q I rx hs pl pu ⟨a, xs, rfl, SqT.of hx, fun hw => q H a (Same.refl H) (by rw [cutV_whole hw]; exact hx), fun _ p np => q _ p (same_new np) upd_same⟩
def rCatV : R2 := fun x y H Q => ∃ a b xs ys, x = .ref a ∧ y = .ref b ∧ H a = some (.tup xs) ∧ H b = some (.tup ys) ∧ xs.length + ys.length ≤ sizeLine ∧ ∀ H' p, Same H H' → H' p = some (.tup (xs ++ ys)) → Q (.ref p) H'
theorem op_catV : OpR X (binaryOp .Add) rCatV := by
  intro pins s σ H x y v u Q I rx ry h
  obtain ⟨a, b, xs, ys, rfl, rfl, ha, hb, hz, q⟩ := h
  exact op_catA pins s σ H _ _ v u Q I rx ry ⟨a, b, xs, ys, rfl, rfl, SqT.of ha, SqT.of hb, hz, fun e => q H b (Same.refl H) (by rw [e]; exact hb), fun _ e => q H a (Same.refl H) (by rw [e, List.append_nil]; exact ha), fun _ _ p np => q _ p (same_new np) upd_same⟩
end
theorem cut_vm (ms : List Nat) (lo hi : Option Int) : ∃ ks : List Nat, cutV (vm ms) lo hi = vm ks ∧ ks.Sublist ms := by
  refine ⟨(ms.drop (HT.sIx (vm ms).length 0 lo)).take (HT.sIx (vm ms).length (vm ms).length hi - HT.sIx (vm ms).length 0 lo), ?_, (List.take_sublist _ _).trans (List.drop_sublist _ _)⟩
  unfold cutV vm
  rw [← List.map_drop, ← List.map_take]
end XT
/-! more comprehensions as values -/
namespace XT
open PySem PySem.Spec PyProof.Rows L2
/-- [te for x in range(n)], of any kind -/
theorem ev_lcRG {i N : Nat} {Rs : List RV} {ta te : TE} {σ : L2.St} {H : Hp} (hl : Rs.length = N) (hN : N ≤ 1000) (hL : ∀ S ∈ Rs, StyL S) (hS : StyA Rs) (hw : ∀ z : V, wipe ((wipe σ [i]).set i (some z)) [i] = wipe σ [i])
    (a : Ev (isV (.int (N : Int))) ta σ H) (b : ∀ (j : Nat) (R : RV) (H1 : Hp), Rs[j]? = some R → Same H H1 → Ev R te ((wipe σ [i]).set i (some (.int (j : Int)))) H1) : Ev (isLst Rs) (tLc (iRng1 (tCons ta tNil)) (gName i) tYes te [i]) σ H := fun H1 s1 Q q =>
  a H1 s1 _ fun H2 x s2 ex => by
    refine ⟨(N : Int), by rw [ex], by omega, by omega, fun D nD => lcg_range (n := N) (G := fun j y H => ∀ S, Rs[j]? = some S → S H y) ⟨fun {j y H H'} h e S hs => hS S (List.mem_of_getElem? hs) _ _ _ e (h S hs), fun {j y H D xs ys} h e S hs => hL S (List.mem_of_getElem? hs) _ _ _ _ _ e (h S hs)⟩ nD hN (fun j Hc hj sc => ?_) (fun H3 hpv => ?_)⟩
    · intro R1 R2 h2
      have hj2 : j < Rs.length := by omega
      rw [Int.zero_add]
      refine ⟨hw _, ?_⟩
      exact iteT (B := R1 Hc) (b j _ Hc (List.getElem?_eq_getElem hj2) ((s1.trans s2).trans sc) Hc (Same.refl _) _ fun H4 o s4 go => h2 _ _ s4 fun S hs => by
        cases hs.symm.trans (List.getElem?_eq_getElem hj2)
        exact go)
    · obtain ⟨s3, ys, hD, hyl, hys⟩ := hpv
      exact q _ _ (s2.trans s3) ⟨D, ys, rfl, hD, allV_of (by rw [hyl, hl]) fun j R v hRj hv => hys j v hv R hRj⟩
/-- [te for x in xs if ..], none -/
theorem ev_lcLN {K : PySem.W.Frag} {i : Nat} {Rs : List RV} {t te : TE} {tt : TT} {σ : L2.St} {H : Hp} (hN : Rs.length ≤ 1000) (hR : StyA Rs) (a : Ev (isLst Rs) t σ H) (hw : ∀ z : V, wipe ((wipe σ [i]).set i (some z)) [i] = wipe σ [i])
    (b : ∀ (j : Nat) (R : RV) (z : V) (H1 : Hp), Rs[j]? = some R → R H1 z → Same H H1 → EvT false tt ((wipe σ [i]).set i (some z)) H1) : Ev (isLsN []) (tLc (iList K t) (gName i) tt te [i]) σ H := fun H1 s1 Q q =>
  a H1 s1 _ fun H2 x s2 ⟨L, vs, ex, hLv, gv⟩ => by
    have hvl : vs.length = Rs.length := allV_len gv
    refine ⟨L, ex, ⟨_, SqL.of hLv⟩, fun D nD => ?_⟩
    refine lc_list (xs := vs) (fun j H => PvP H2 D [] H) ⟨same_new nD, upd_same⟩ (fun j Hc _ h => SqL.of (h.1 _ _ hLv)) (fun j z Hc hz h => ?_) (fun H4 h => q _ _ (s2.trans h.1) ⟨D, rfl, h.2⟩)
    have hj : j < Rs.length := by rw [← hvl]; exact (List.getElem?_eq_some_iff.mp hz).1
    obtain ⟨z', hz', gz⟩ := allV_at gv (List.getElem?_eq_getElem hj)
    cases hz.symm.trans hz'
    refine ⟨hw _, ?_⟩
    refine b j _ z Hc (List.getElem?_eq_getElem hj) (hR _ (List.getElem_mem hj) _ _ _ h.1 gz) ((s1.trans s2).trans h.1) Hc (Same.refl _) _ fun H4 s4 => iteF ⟨h.1.trans s4, s4 _ _ h.2⟩
/-- xs[i] -/
theorem of_ixLs {K : PySem.W.Frag} {Rs : List RV} {j : Nat} {R : RV} (h : Rs[j]? = some R) : OpF (isLst Rs) (isV (.int (j : Int))) (rIxL K) R := fun H x y ⟨L, vs, ex, hL, al⟩ ey Q q => by
  subst ex ey
  obtain ⟨v, hv, gv⟩ := allV_at al h
  exact ⟨L, vs, j, v, rfl, rfl, SqL.of hL, atI_nat hv, q _ _ (Same.refl _) gv⟩
end XT
/-! comprehensions whose values are given one by one -/
namespace XT
open PySem PySem.Spec PyProof.Rows L2
section
variable {K : PySem.W.Frag} {a : Addr} {g : TG} {tt : TT} {te : TE} {vs : List Nat} {σ : L2.St} {H1 : Hp} {D : Addr} {Qd : Hp → Prop}
theorem lcq_list {xs : List V} (ys : List V) (hl : ys.length = xs.length) (nD : H1 D = none) (hA : SqL K H1 a xs) (hz : xs.length < sizeLine) (ht : ∀ (i : Nat) x y H, xs[i]? = some x → ys[i]? = some y → Same H1 H → TurnP g tt te vs σ x y true H)
    (hd : ∀ H, Same H1 H → H D = some (.lst ys) → Qd H) :
    ∃ W : Nat → Nat → Hp → Prop, (∃ m, W 0 m (upd H1 D (.lst []))) ∧ ∀ i m H, W i m H →
      ((Itl K a).stop i H ∧ Qd H) ∨ ((Itl K a).go i H ∧ ∃ Nx : Hp → Prop, (∀ H', Nx H' → ∃ m', m' < m ∧ W (i + 1) m' H') ∧ ∀ x H', (Itl K a).yld i H x H' → g x (wipe σ vs) H' fun σ2 H2 => wipe σ2 vs = wipe σ vs ∧ tt σ2 H2 fun b H3 =>
        if b = true then te σ2 H3 fun y H4 => ∃ acc, H4 D = some (.lst acc) ∧ acc.length < sizeLine ∧ Nx (upd H4 D (.lst (acc ++ [y]))) else Nx H3) := by
  refine lc_list (xs := xs) (fun i H => PvP H1 D (ys.take i) H) ⟨same_new nD, upd_same⟩ (fun i H _ h => h.1.seq hA) (fun i x H hx h => ?_) (fun H h => ?_)
  · have hi : i < xs.length := (List.getElem?_eq_some_iff.mp hx).1
    have hy : ys[i]? = some (ys[i]'(by omega)) := List.getElem?_eq_getElem _
    exact pvp_turn nD h (by rw [List.length_take]; omega) (ht i x _ H hx hy h.1) _ (by rw [List.take_add_one, hy]; rfl)
  · have h2 := h.2
    rw [← hl, List.take_length] at h2
    exact hd H h.1 h2
theorem lcq_tup {xs : List V} (ys : List V) (hl : ys.length = xs.length) (nD : H1 D = none) (hA : SqT K H1 a xs) (hz : xs.length < sizeLine) (ht : ∀ (i : Nat) x y H, xs[i]? = some x → ys[i]? = some y → Same H1 H → TurnP g tt te vs σ x y true H)
    (hd : ∀ H, Same H1 H → H D = some (.lst ys) → Qd H) :
    ∃ W : Nat → Nat → Hp → Prop, (∃ m, W 0 m (upd H1 D (.lst []))) ∧ ∀ i m H, W i m H →
      ((Itt K a).stop i H ∧ Qd H) ∨ ((Itt K a).go i H ∧ ∃ Nx : Hp → Prop, (∀ H', Nx H' → ∃ m', m' < m ∧ W (i + 1) m' H') ∧ ∀ x H', (Itt K a).yld i H x H' → g x (wipe σ vs) H' fun σ2 H2 => wipe σ2 vs = wipe σ vs ∧ tt σ2 H2 fun b H3 =>
        if b = true then te σ2 H3 fun y H4 => ∃ acc, H4 D = some (.lst acc) ∧ acc.length < sizeLine ∧ Nx (upd H4 D (.lst (acc ++ [y]))) else Nx H3) := by
  refine lc_tup (xs := xs) (fun i H => PvP H1 D (ys.take i) H) ⟨same_new nD, upd_same⟩ (fun i H _ h => Same.sqT h.1 hA) (fun i x H hx h => ?_) (fun H h => ?_)
  · have hi : i < xs.length := (List.getElem?_eq_some_iff.mp hx).1
    have hy : ys[i]? = some (ys[i]'(by omega)) := List.getElem?_eq_getElem _
    exact pvp_turn nD h (by rw [List.length_take]; omega) (ht i x _ H hx hy h.1) _ (by rw [List.take_add_one, hy]; rfl)
  · have h2 := h.2
    rw [← hl, List.take_length] at h2
    exact hd H h.1 h2
theorem cutV_takeN (xs : List V) (k : Nat) : cutV xs none (some (k : Int)) = xs.take k := by
  unfold cutV
  rw [HT.sIx_none, HT.sIx_nat, List.drop_zero, Nat.sub_zero]
  rcases Nat.le_total k xs.length with h | h
  · rw [Nat.min_eq_left h]
  · rw [Nat.min_eq_right h, List.take_of_length_le (Nat.le_refl _), List.take_of_length_le h]
theorem cutV_dropN (xs : List V) (k : Nat) : cutV xs (some (k : Int)) none = xs.drop k := by
  unfold cutV
  rw [HT.sIx_none, HT.sIx_nat]
  rcases Nat.le_total k xs.length with h | h
  · rw [Nat.min_eq_left h]
    exact List.take_of_length_le (by rw [List.length_drop]; exact Nat.le_refl _)
  · rw [Nat.min_eq_right h, List.drop_eq_nil_of_le (Nat.le_refl _), List.drop_eq_nil_of_le h, List.take_nil]
end
end XT
/-! a comprehension that filters a tuple; a list of any things beside [] -/
namespace XT
open PySem PySem.Spec PyProof.Rows L2
abbrev isTV (xs : List V) : RV := fun H z => ∃ T, z = .ref T ∧ H T = some (.tup xs)
abbrev isLV (xs : List V) : RV := fun H z => ∃ D, z = .ref D ∧ H D = some (.lst xs)
theorem sty_tv (xs : List V) : Sty (isTV xs) := fun _ _ _ e ⟨T, ez, h⟩ => ⟨T, ez, e _ _ h⟩
theorem sty_lV (xs : List V) : Sty (isLV xs) := fun _ _ _ e ⟨T, ez, h⟩ => ⟨T, ez, e _ _ h⟩
section
variable {K : PySem.W.Frag} {t : TE} {tt : TT} {σ : L2.St} {H : Hp} {xs : List V}
theorem ev_lcTF {i : Nat} (p : V → Bool) (hN : xs.length ≤ 1000) (a : Ev (isTV xs) t σ H) (hw : ∀ z : V, wipe ((wipe σ [i]).set i (some z)) [i] = wipe σ [i]) (he : ∀ z : V, ((wipe σ [i]).set i (some z))[i]? = some (some z))
    (b : ∀ z ∈ xs, ∀ H1, Same H H1 → EvT (p z) tt ((wipe σ [i]).set i (some z)) H1) : Ev (isLV (xs.filter p)) (tLc (iTup K t) (gName i) tt (tVar i) [i]) σ H := fun H1 s1 Q q =>
  a H1 s1 _ fun H2 x s2 ⟨T, ex, hT⟩ => by
    subst ex
    refine ⟨T, rfl, ⟨_, SqT.of hT⟩, fun D nD => lcp_tup (p := p) (f := id) nD (SqT.of hT) (small64 hN) (fun j z Hc hz sc => ?_) (fun H3 s3 hD => ?_)⟩
    · intro R1 R2 h1 h2
      refine ⟨hw _, b z (List.mem_of_getElem? hz) Hc ((s1.trans s2).trans sc) Hc (Same.refl _) _ fun H4 s4 => ?_⟩
      cases hq : p z with
      | true => exact iteT ⟨_, he _, h2 hq _ s4⟩
      | false => exact iteF (h1 hq _ s4)
    · exact q _ _ (s2.trans s3) ⟨D, rfl, by rw [hD, List.map_id]⟩
theorem ev_lcTM {i : Nat} {te : TE} (f : V → V) (hN : xs.length ≤ 1000) (a : Ev (isTV xs) t σ H) (hw : ∀ z : V, wipe ((wipe σ [i]).set i (some z)) [i] = wipe σ [i])
    (b : ∀ z ∈ xs, ∀ H1, Same H H1 → Ev (isV (f z)) te ((wipe σ [i]).set i (some z)) H1) : Ev (isLV (xs.map f)) (tLc (iTup K t) (gName i) tYes te [i]) σ H := fun H1 s1 Q q =>
  a H1 s1 _ fun H2 x s2 ⟨T, ex, hT⟩ => by
    subst ex
    refine ⟨T, rfl, ⟨_, SqT.of hT⟩, fun D nD => lcp_tup (p := fun _ => true) (f := f) nD (SqT.of hT) (small64 hN) (fun j z Hc hz sc => ?_) (fun H3 s3 hD => ?_)⟩
    · intro R1 R2 h1 h2
      refine ⟨hw _, iteT (B := R1 Hc) (b z (List.mem_of_getElem? hz) Hc ((s1.trans s2).trans sc) Hc (Same.refl _) _ fun H4 y s4 ey => ?_)⟩
      rw [ey]
      exact h2 rfl _ s4
    · exact q _ _ (s2.trans s3) ⟨D, rfl, by rw [hD, List.filter_eq_self.mpr (fun _ _ => rfl)]⟩
theorem ev_tupLV (a : Ev (isLV xs) t σ H) : Ev (isTV xs) (tCB (rTupO K) (tCons t tNil)) σ H := fun H1 s1 Q q =>
  a H1 s1 _ fun H2 x s2 ⟨D, ex, hD⟩ => ⟨D, xs, by rw [ex], .inl ⟨SqL.of hD, fun U nU => q _ _ (s2.trans (same_new nU)) ⟨U, rfl, upd_same⟩⟩⟩
theorem ev_nil : Ev (isLV []) (tLst tNil) σ H := fun H1 s1 Q q => ⟨sz (n := 0) (by decide), fun L nL => q _ _ (same_new nL) ⟨L, rfl, upd_same⟩⟩
theorem of_eqEL : OpF (isLV xs) (isLV []) (rEqEL K) (isB xs.isEmpty) := fun H x y ⟨D, ex, hD⟩ ⟨E, ey, hE⟩ Q q => ⟨D, E, xs, ex, ey, SqL.of hD, SqL.of hE, q _ _ (Same.refl _) rfl⟩
theorem of_neEL : OpF (isLV xs) (isLV []) (rNeEL K) (isB (!xs.isEmpty)) := fun H x y ⟨D, ex, hD⟩ ⟨E, ey, hE⟩ Q q => ⟨D, E, xs, ex, ey, SqL.of hD, SqL.of hE, q _ _ (Same.refl _) rfl⟩
/-- t[:k], t + u -/
theorem ev_cutK {k : Nat} (a : Ev (isTV xs) t σ H) : Ev (isTV (xs.take k)) (tSl rSlV t tNoPart (tPart (tC (.int (k : Int))))) σ H := fun H1 s1 Q q =>
  a H1 s1 _ fun H2 x s2 ⟨T, ex, hT⟩ => ⟨(k : Int), rfl, T, _, ex, hT, fun H3 p s3 hp => q _ _ (s2.trans s3) ⟨p, rfl, by rw [hp, cutV_takeN]⟩⟩
theorem of_catT {ys : List V} (hl : xs.length + ys.length ≤ 1000) : OpF (isTV xs) (isTV ys) rCatV (isTV (xs ++ ys)) := fun H x y ⟨T, ex, hT⟩ ⟨U, ey, hU⟩ Q q => ⟨T, U, _, _, ex, ey, hT, hU, sz hl, fun H' p s h => q _ _ s ⟨p, rfl, h⟩⟩
end
end XT
/-! text * int -/
namespace XT
open PySem PySem.Spec PyProof.Rows L2
theorem op_mul_str {X : Cx} : OpR X (binaryOp .Mult) (fun x y H Q => ∃ a n, x = .str a ∧ y = .int n ∧ MulOk a n ∧ Q (.str (Txt.mul a n)) H) := by
  intro pins s σ H x y v u Q I rx ry h
  obtain ⟨a, n, rfl, rfl, hok, q⟩ := h
  obtain ⟨t, rfl⟩ := rx
  obtain ⟨t', rfl⟩ := ry
  exact SB.mul hok fun t' k => ⟨.str (Txt.mul a n), H, I.tok _, ⟨_, rfl⟩, q⟩
end XT
/-! patterns that are drawn -/
namespace XT
open PySem PySem.Spec PyProof.Rows L2
theorem occ_in (s sub : Str) (hi limit : Nat) : ∀ (l : List Nat) (st : Array Nat × Nat), (∀ i ∈ st.fst.toList, i + sub.length ≤ hi) → ∀ i ∈ (forIn l st (StrLaws.occBody s sub hi limit)).run.fst.toList, i + sub.length ≤ hi
  | [], st, h => h
  | a :: l, st, h => by
    rw [List.forIn_cons]
    unfold StrLaws.occBody
    split
    · rename_i hc
      refine occ_in s sub hi limit l _ fun i hi' => ?_
      simp only [Array.toList_push, List.mem_append, List.mem_singleton] at hi'
      rcases hi' with h1 | rfl
      · exact h i h1
      · exact hc.1.2
    · exact occ_in s sub hi limit l _ h
theorem occ_first {x y : Str} {i : Nat} {rest : List Nat} (h : Builtin.Str.occurrences x y 0 x.length 1 = i :: rest) : i + y.length ≤ x.length := by
  rw [StrLaws.occ_eq] at h
  exact occ_in x y x.length 1 _ (#[], 0) (by simp) i (by rw [h]; exact List.mem_cons_self)
abbrev isPat (n : Nat) : RV := fun _ z => ∃ x, z = .str x ∧ OkW n x
/-- a tuple of lo to hi patterns of n signs -/
abbrev isTP (n lo hi : Nat) : RV := fun H z => ∃ (T : Addr) (ws : List Str), z = .ref T ∧ H T = some (.tup (ws.map V.str)) ∧ lo ≤ ws.length ∧ ws.length ≤ hi ∧ ∀ x ∈ ws, OkW n x
theorem sk_tp {S : Sm} {X : Ow} (n lo hi : Nat) : StyK S X (isTP n lo hi) := fun _ _ _ _ _ w k ⟨T, ws, ez, h, a, b, c⟩ => ⟨T, ws, ez, w.tup k h, a, b, c⟩
theorem sty_tp (n lo hi : Nat) : Sty (isTP n lo hi) := fun _ _ _ e ⟨T, ws, ez, h, a, b, c⟩ => ⟨T, ws, ez, e _ _ h, a, b, c⟩
theorem sk_pat {S : Sm} {X : Ow} (n : Nat) : StyK S X (isPat n) := fun _ _ _ _ _ _ _ h => h
theorem WideT.tp {H : Hp} {T : Addr} {ws : List Str} {n : Nat} (h : WideT H T ws n) {hi : Nat} (l : ws.length ≤ hi) : isTP n 1 hi H (.ref T) := ⟨T, ws, rfl, h.h, h.l1, l, h.ok⟩
section
variable {K : PySem.W.Frag} {S : Sm} {X : Ow} {W W1 W2 W3 : HpP} {B B1 B2 B3 : Int} {H H' : Hp} {R Ra Rb Rc : RV} {t ta tb te : TE} {σ : L2.St}
abbrev rAddStr : R2 := fun x y H Q => ∃ i j : Str, x = .str i ∧ y = .str j ∧ i.length + j.length ≤ sizeLine ∧ Q (.str (i ++ j)) H
/-- x[:k] + e + x[k + 1:] -/
theorem ed_put {i j k n : Nat} {y : Str} (ok : OkW n y) (hn : n ≤ 40) (hk : k < n) (hi : σ[i]? = some (some (.str y))) (hj : σ[j]? = some (some (.int (k : Int)))) (e : EvD S X W B W1 B1 (isPat 1) te σ H) :
    EvD S X W B W1 B1 (isPat n) (tOp rAddStr (tOp rAddStr (tSl rSlS (tVar i) tNoPart (tPart (tVar j))) te) (tSl rSlS (tVar i) (tPart (tOp (rI0 fun i j => .int (i + j)) (tVar j) (tC (.int 1)))) tNoPart)) σ H := fun H1 s1 w1 Q q => by
  have hy : y.length ≤ sizeLine := szl (m := 1000) (by have := ok.1; omega) (by decide)
  refine ⟨.str y, hi, .int (k : Int), hj, (k : Int), rfl, y, rfl, hy, e H1 s1 w1 _ fun H2 z s2 w2 ⟨x, ex, okx⟩ => ⟨_, x, rfl, ex, ?_, .str y, hi, .int (k : Int), hj, (k : Int), 1, rfl, rfl, (k : Int) + 1, rfl, y, rfl, hy, _, _, rfl, rfl, ?_, q H2 _ s2 w2 ⟨_, rfl, okW_put ok hk okx⟩⟩⟩
  · have e1 : (cutS y none (some (k : Int))).length = k := by
      show (cutS y none (some (k : Int))).cps.size = k
      have hl : y.cps.toList.length = n := by rw [Array.length_toList]; exact ok.1
      rw [← Array.length_toList, cut_take, List.length_take]
      omega
    have := okx.1
    exact szl (m := 1000) (by omega) (by decide)
  · have := (okW_put ok hk okx).1
    have e3 : (cutS y none (some (k : Int)) ++ x ++ cutS y (some ((k : Int) + 1)) none).length = (cutS y none (some (k : Int)) ++ x).length + (cutS y (some ((k : Int) + 1)) none).length := by
      show ((cutS y none (some (k : Int)) ++ x).cps ++ (cutS y (some ((k : Int) + 1)) none).cps).size = _
      rw [Array.size_append]
      rfl
    exact szl (m := 1000) (by omega) (by decide)
theorem put_len {n k : Nat} {y e : Str} (ok : OkW n y) (hk : k < n) (l : e.length = 1) : (cutS y none (some (k : Int)) ++ e ++ cutS y (some ((k : Int) + 1)) none).length = n ∧ (cutS y none (some (k : Int))).length + e.length ≤ n ∧ (cutS y none (some (k : Int)) ++ e).length + (cutS y (some ((k : Int) + 1)) none).length = n := by
  have hl : y.cps.toList.length = n := by rw [Array.length_toList]; exact ok.1
  have e1 : (cutS y none (some (k : Int))).length = k := by
    show (cutS y none (some (k : Int))).cps.size = k
    rw [← Array.length_toList, cut_take, List.length_take]
    omega
  have e2 : (cutS y (some ((k : Int) + 1)) none).length = n - (k + 1) := by
    show (cutS y (some ((k : Int) + 1)) none).cps.size = _
    rw [← Array.length_toList, show (k : Int) + 1 = ((k + 1 : Nat) : Int) by omega, cut_drop, List.length_drop]
    omega
  have e3 : (cutS y none (some (k : Int)) ++ e ++ cutS y (some ((k : Int) + 1)) none).length = (cutS y none (some (k : Int)) ++ e).length + (cutS y (some ((k : Int) + 1)) none).length := by
    show ((cutS y none (some (k : Int)) ++ e).cps ++ (cutS y (some ((k : Int) + 1)) none).cps).size = _
    rw [Array.size_append]
    rfl
  have e4 : (cutS y none (some (k : Int)) ++ e).length = (cutS y none (some (k : Int))).length + e.length := by
    show ((cutS y none (some (k : Int))).cps ++ e.cps).size = _
    rw [Array.size_append]
    rfl
  omega
theorem ev_putV {i j k n : Nat} {y e : Str} (ok : OkW n y) (hn : n ≤ 40) (hk : k < n) (l : e.length = 1) (hi : σ[i]? = some (some (.str y))) (hj : σ[j]? = some (some (.int (k : Int)))) (a : Ev (isV (.str e)) te σ H) :
    Ev (isV (.str (cutS y none (some (k : Int)) ++ e ++ cutS y (some ((k : Int) + 1)) none))) (tOp rAddStr (tOp rAddStr (tSl rSlS (tVar i) tNoPart (tPart (tVar j))) te) (tSl rSlS (tVar i) (tPart (tOp (rI0 fun i j => .int (i + j)) (tVar j) (tC (.int 1)))) tNoPart)) σ H := fun H1 s1 Q q => by
  have hy : y.length ≤ sizeLine := szl (m := 1000) (by have := ok.1; omega) (by decide)
  obtain ⟨l1, l2, l3⟩ := put_len ok hk l
  exact ⟨.str y, hi, .int (k : Int), hj, (k : Int), rfl, y, rfl, hy, a H1 s1 _ fun H2 z s2 ez => ⟨_, e, rfl, ez, szl (m := 1000) (by omega) (by decide), .str y, hi, .int (k : Int), hj, (k : Int), 1, rfl, rfl, (k : Int) + 1, rfl, y, rfl, hy, _, _, rfl, rfl, szl (m := 1000) (by omega) (by decide), q H2 _ s2 rfl⟩⟩
/-- t[i], a pattern of a tuple -/
theorem of_ixP {n lo hi k : Nat} (hk : k < lo) : OpF (isTP n lo hi) (isV (.int (k : Int))) (rIxT K) (isPat n) := fun H x y ⟨T, ws, ex, hT, l, _, ok⟩ ey Q q => by
  have hw : k < ws.length := by omega
  exact ⟨T, _, (k : Int), .str (ws[k]'hw), ex, ey, SqT.of hT, atI_nat (by rw [List.getElem?_map, List.getElem?_eq_getElem hw]; rfl), q _ _ (Same.refl _) ⟨_, rfl, ok _ (List.getElem_mem _)⟩⟩
theorem of_ixPv {n k : Nat} {ws : List Str} {T : Addr} {x : Str} (hx : ws[k]? = some x) : OpF (fun H z => z = .ref T ∧ H T = some (.tup (ws.map V.str))) (isV (.int (k : Int))) (rIxT K) (isV (.str x)) := fun H z y ⟨ez, hT⟩ ey Q q =>
  ⟨T, _, (k : Int), .str x, ez, ey, SqT.of hT, atI_nat (by rw [List.getElem?_map, hx]; rfl), q _ _ (Same.refl _) rfl⟩
theorem ev_lenP {n : Nat} (hn : n ≤ 40) (a : Ev (isPat n) t σ H) {r : List V → Hp → VK → Prop} (hr : ∀ (x : Str) H Q, x.length ≤ sizeLine → Q (.int (x.length : Nat)) H → r [.str x] H Q) : Ev (isV (.int (n : Int))) (tCB r (tCons t tNil)) σ H := fun H1 s1 Q q =>
  a H1 s1 _ fun H2 z s2 ⟨x, ez, ok⟩ => by
    subst ez
    refine hr x H2 _ (szl (m := 1000) (by have := ok.1; omega) (by decide)) (q _ _ s2 ?_)
    show V.int (x.length : Nat) = _
    rw [ok.1]
theorem ed_tupP {n : Nat} (sw : StyW X W1) (a : EvD S X W B W1 B1 (isPat n) t σ H) : EvD S X W B W1 B1 (isTP n 1 1) (tTup (tCons t tNil)) σ H := fun H1 s1 w1 Q q =>
  a H1 s1 w1 _ fun H2 z s2 w2 ⟨y, ez, ok⟩ => ⟨sz (n := 1) (by decide), fun U nU => q _ _ (s2.trans (KeepX.of (same_new nU))) (w2.same sw (same_new nU)) ⟨U, [y], rfl, by rw [upd_same, ez]; rfl, Nat.le_refl _, Nat.le_refl _, fun z hz => by rw [List.mem_singleton.mp hz]; exact ok⟩⟩
/-- a, b = e, f, where one is a cell -/
theorem asg2_ed {i j : Nat} {u : TS} {D : Ends} (ha : StyK S X Ra) (hb : ∀ H z p o, H p = none → Rb H z → Rb (upd H p o) z) (ha2 : ∀ H z p o, H p = none → Ra H z → Ra (upd H p o) z) (sw : StyW X W2) (a : EvD S X W B W1 B1 Ra ta σ H) (b : EvD S X W1 B1 W2 B2 Rb tb σ H) (w : Wld S X W B H)
    (q : ∀ H2 x y, KeepX (XS S X) H H2 → Wld S X W2 B2 H2 → Ra H2 x → Rb H2 y → u D ((σ.set i (some x)).set j (some y)) H2) : tSeq (tAsg (tTup (tCons ta (tCons tb tNil))) (gTup K 2 (gCons (gName i) (gCons (gName j) gNil)))) u D σ H :=
  a H (KeepX.refl _ _) w _ fun H2 x s2 w2 gx => b H2 s2 w2 _ fun H3 y s3 w3 gy => ⟨sz (n := 2) (by decide), fun T nT => ⟨T, _, rfl, SqT.of upd_same, rfl, _, _, rfl, _, _, rfl, rfl,
    q _ x y ((s2.trans s3).trans (KeepX.of (same_new nT))) (w3.same sw (same_new nT)) (ha2 _ _ _ _ nT (ha _ _ _ _ _ w2 s3 gx)) (hb _ _ _ _ nT gy)⟩⟩
end
end XT
/-! statements that draw; lists of one's own -/
namespace XT
open PySem PySem.Spec PyProof.Rows L2
section
variable {K : PySem.W.Frag} {S : Sm} {X : Ow} {W W1 W2 W3 : HpP} {B B1 B2 B3 : Int} {H H' : Hp} {R Ra Rb Rc : RV} {t ta tb tc te : TE} {σ : L2.St}
theorem KeepX.put {X : Ow} {L : Addr} {o : HO} (k : KeepX X H H') (n : H L = none) : KeepX X H (upd H' L o) := fun b o' c e => by
  rw [upd_ne (ne_of_none e n)]
  exact k b o' c e
theorem Wld.put {L : Addr} {xs : List V} {o : HO} (sw : StyW X W) (w : Wld S X W B H) (hL : H L = some (.lst xs)) (n : ¬ XS S X L) : Wld S X W B (upd H L o) := w.sim sw (Sim.put hL n)
/-- a new list of one's own -/
abbrev isNL (S : Sm) (X : Ow) (H0 : Hp) (xs : List V) : RV := fun H z => ∃ L, z = .ref L ∧ H L = some (.lst xs) ∧ H0 L = none ∧ ¬ XS S X L
theorem sk_nl (H0 : Hp) (xs : List V) : StyK S X (isNL S X H0 xs) := fun _ _ _ _ _ _ k ⟨L, ez, h, a, b⟩ => ⟨L, ez, k L _ b h, a, b⟩
theorem Wld.free (w : Wld S X W B H') (k : KeepX (XS S X) H H') {L : Addr} (e : H' L = none) : H L = none := by
  cases h : H L with
  | none => rfl
  | some o =>
    have := k L o (w.new e) h
    rw [e] at this
    cases this
theorem ed_nil (sw : StyW X W) : EvD S X W B W B (isNL S X H []) (tLst tNil) σ H := fun H1 k1 w1 Q q => ⟨sz (n := 0) (by decide), fun L nL => q _ _ (KeepX.of (same_new nL)) (w1.same sw (same_new nL)) ⟨L, rfl, upd_same, w1.free k1 nL, w1.new nL⟩⟩
theorem par3_ed {i j l : Nat} {u : TS} {D : Ends} (ha : StyK S X Ra) (hb : StyK S X Rb) (a : EvD S X W B W1 B1 Ra ta σ H) (b : EvD S X W1 B1 W2 B2 Rb tb σ H) (c : EvD S X W2 B2 W3 B3 Rc tc σ H) (w : Wld S X W B H)
    (q : ∀ H2 x y z, KeepX (XS S X) H H2 → Wld S X W3 B3 H2 → Ra H2 x → Rb H2 y → Rc H2 z → u D (((σ.set i (some x)).set j (some y)).set l (some z)) H2) : tSeq (tPar3 i j l (tCons ta (tCons tb (tCons tc tNil)))) u D σ H :=
  a H (KeepX.refl _ _) w _ fun H2 x s2 w2 gx => b H2 s2 w2 _ fun H3 y s3 w3 gy => c H3 (s2.trans s3) w3 _ fun H4 z s4 w4 gz => ⟨x, y, z, rfl, q H4 x y z ((s2.trans s3).trans s4) w4 (ha _ _ _ _ _ w3 s4 (ha _ _ _ _ _ w2 s3 gx)) (hb _ _ _ _ _ w3 s4 gy) gz⟩
theorem app_ed {i : Nat} {L : Addr} {xs : List V} {D : Ends} (hi : σ[i]? = some (some (.ref L))) (nX : ¬ XS S X L) (hL : H L = some (.lst xs)) (hz : xs.length < 1000) (a : EvD S X W B W1 B1 R te σ H) (w : Wld S X W B H)
    (q : ∀ H2 z, KeepX (XS S X) H H2 → Wld S X W1 B1 H2 → R H2 z → H2 L = some (.lst xs) → D.nx σ (upd H2 L (.lst (xs ++ [z])))) : tDrop (tBM K "list" rAppend (tVar i) (tCons te tNil)) D σ H :=
  ⟨.ref L, hi, .inl ⟨rfl, _, SqL.of hL⟩, a H (KeepX.refl _ _) w _ fun H2 z k2 w2 g => ⟨L, xs, z, rfl, rfl, k2 L _ nX hL, small64 (by omega), q H2 z k2 w2 g (k2 L _ nX hL)⟩⟩
theorem apps_ed {i : Nat} {L : Addr} {xs : List V} {D : Ends} {rest : TS} (hi : σ[i]? = some (some (.ref L))) (nX : ¬ XS S X L) (hL : H L = some (.lst xs)) (hz : xs.length < 1000) (a : EvD S X W B W1 B1 R te σ H) (w : Wld S X W B H)
    (q : ∀ H2 z, KeepX (XS S X) H H2 → Wld S X W1 B1 H2 → R H2 z → H2 L = some (.lst xs) → rest D σ (upd H2 L (.lst (xs ++ [z])))) : tSeq (tDrop (tBM K "list" rAppend (tVar i) (tCons te tNil))) rest D σ H := app_ed (D := { D with nx := rest D }) hi nX hL hz a w q
/-- for x in e -/
theorem for_edL {D : Ends} {g : TG} {tb : TS} (a : EvD S X W B W1 B1 R te σ H) (w : Wld S X W B H) (q : ∀ H2 z, KeepX (XS S X) H H2 → Wld S X W1 B1 H2 → R H2 z → tFor (iList K (tC z)) g tb D σ H2) : tFor (iList K te) g tb D σ H := a H (KeepX.refl _ _) w _ fun H2 z k2 w2 g2 => q H2 z k2 w2 g2
theorem fors_edL {D : Ends} {g : TG} {tb rest : TS} (a : EvD S X W B W1 B1 R te σ H) (w : Wld S X W B H) (q : ∀ H2 z, KeepX (XS S X) H H2 → Wld S X W1 B1 H2 → R H2 z → tFor (iList K (tC z)) g tb { D with nx := rest D } σ H2) : tSeq (tFor (iList K te) g tb) rest D σ H := a H (KeepX.refl _ _) w _ fun H2 z k2 w2 g2 => q H2 z k2 w2 g2
/-- a, b = e, f, one of them a cell; nothing is drawn -/
theorem asg2_ev {i j : Nat} {u : TS} {D : Ends} (ha : Sty Ra) (hb : Sty Rb) (a : Ev Ra ta σ H) (b : Ev Rb tb σ H)
    (q : ∀ H2 x y, Same H H2 → Ra H2 x → Rb H2 y → u D ((σ.set i (some x)).set j (some y)) H2) : tSeq (tAsg (tTup (tCons ta (tCons tb tNil))) (gTup K 2 (gCons (gName i) (gCons (gName j) gNil)))) u D σ H :=
  a H (Same.refl _) _ fun H2 x s2 gx => b H2 s2 _ fun H3 y s3 gy => ⟨sz (n := 2) (by decide), fun T nT => ⟨T, _, rfl, SqT.of upd_same, rfl, _, _, rfl, _, _, rfl, rfl,
    q _ x y ((s2.trans s3).trans (same_new nT)) (ha _ _ _ (same_new nT) (ha _ _ _ s3 gx)) (hb _ _ _ (same_new nT) gy)⟩⟩
/-- [i for i in range(n) if t] -/
theorem ev_lcRF {i n : Nat} {tt : TT} (p : Nat → Bool) (hn : n ≤ 1000) (hw : ∀ z : V, wipe ((wipe σ [i]).set i (some z)) [i] = wipe σ [i]) (he : ∀ z : V, ((wipe σ [i]).set i (some z))[i]? = some (some z)) (a : Ev (isV (.int (n : Int))) ta σ H)
    (b : ∀ (j : Nat) (H1 : Hp), j < n → Same H H1 → EvT (p j) tt ((wipe σ [i]).set i (some (.int (j : Int)))) H1) : Ev (isLV (((List.range n).filter p).map fun (m : Nat) => V.int (m : Int))) (tLc (iRng1 (tCons ta tNil)) (gName i) tt (tVar i) [i]) σ H := fun H1 s1 Q q =>
  a H1 s1 _ fun H2 x s2 ex => by
    subst ex
    refine ⟨(n : Int), rfl, by omega, by omega, fun D nD => ?_⟩
    refine lcp_range (n := n) (p := p) (f := fun (m : Nat) => .int (m : Int)) nD (small64 hn) (fun j H3 hj s3 => ?_) (fun H3 s3 hD => q _ _ (s2.trans s3) ⟨D, rfl, hD⟩)
    intro R1 R2 r1 r2
    rw [Int.zero_add]
    refine ⟨hw _, b j H3 hj ((s1.trans s2).trans s3) H3 (Same.refl _) _ fun H4 s4 => ?_⟩
    cases hp : p j with
    | true => exact iteT ⟨_, he _, r2 hp _ s4⟩
    | false => exact iteF (r1 hp _ s4)
theorem ifs_no0 {b : Bool} {t : TT} {rest : TS} {D : Ends} (h : EvT b t σ H) (e : b = false) (q : ∀ H2, Same H H2 → rest D σ H2) : tSeq (tIfS t tNever tNext) rest D σ H := if_no h e q
/-- (a,), (a, b) of given values -/
theorem ev_tv1 {x : V} (a : Ev (isV x) ta σ H) : Ev (isTV [x]) (tTup (tCons ta tNil)) σ H := fun H1 s1 Q q => a H1 s1 _ fun H2 u s2 eu => ⟨sz (n := 1) (by decide), fun T nT => q _ _ (s2.trans (same_new nT)) ⟨T, rfl, by rw [upd_same, eu]⟩⟩
theorem ev_tv2 {x y : V} (a : Ev (isV x) ta σ H) (b : Ev (isV y) tb σ H) : Ev (isTV [x, y]) (tTup (tCons ta (tCons tb tNil))) σ H := fun H1 s1 Q q => a H1 s1 _ fun H2 u s2 eu => b H2 (s1.trans s2) _ fun H3 v s3 ev => ⟨sz (n := 2) (by decide), fun T nT => q _ _ ((s2.trans s3).trans (same_new nT)) ⟨T, rfl, by rw [upd_same, eu, ev]⟩⟩
theorem ifs_ev {b : Bool} {t : TT} {u rest : TS} {D : Ends} (h : EvT b t σ H) (q1 : b = true → ∀ H2, Same H H2 → u { D with nx := rest D } σ H2) (q2 : b = false → ∀ H2, Same H H2 → rest D σ H2) : tSeq (tIfS t u tNext) rest D σ H := h H (Same.refl _) _ fun H2 s2 => by
  cases b with
  | true => exact iteT (q1 rfl H2 s2)
  | false => exact iteF (q2 rfl H2 s2)
theorem if_ev {b : Bool} {t : TT} {u : TS} {D : Ends} (h : EvT b t σ H) (q1 : b = true → ∀ H2, Same H H2 → u D σ H2) (q2 : b = false → ∀ H2, Same H H2 → D.nx σ H2) : tIfS t u tNext D σ H := h H (Same.refl _) _ fun H2 s2 => by
  cases b with
  | true => exact iteT (q1 rfl H2 s2)
  | false => exact iteF (q2 rfl H2 s2)
/-- a list display -/
abbrev isLO (S : Sm) (X : Ow) (Rs : List RV) : RV := fun H z => ∃ L vs, z = .ref L ∧ H L = some (.lst vs) ∧ AllV Rs H vs ∧ ¬ XS S X L
theorem ed_lst {Rs : List RV} {ta : TA} (sw : StyW X W1) (hs : StyA Rs) (hl : Rs.length ≤ 1000) (a : EvDA S X W B W1 B1 Rs ta σ H) : EvD S X W B W1 B1 (isLO S X Rs) (tLst ta) σ H := fun H1 k1 w1 Q q =>
  a H1 k1 w1 _ fun H2 vs k2 w2 gv => ⟨by rw [allV_len gv]; exact sz hl, fun L nL => q _ _ (k2.trans (KeepX.of (same_new nL))) (w2.same sw (same_new nL)) ⟨L, vs, rfl, upd_same, allV_same hs (same_new nL) gv, w2.new nL⟩⟩
theorem allV_kx : ∀ {Rs : List RV} {H H' : Hp} {vs : List V}, (∀ R ∈ Rs, StyK S X R) → Wld S X W B H → KeepX (XS S X) H H' → AllV Rs H vs → AllV Rs H' vs
  | [], _, _, [], _, _, _, h => h
  | R :: Rs, _, _, v :: vs, hs, w, e, h => ⟨hs R List.mem_cons_self _ _ _ _ _ w e h.1, allV_kx (fun R' h' => hs R' (List.mem_cons_of_mem _ h')) w e h.2⟩
/-- ''.join of signs that are drawn -/
theorem ed_joinP {n : Nat} {r : V → List V → Hp → VK → Prop} (hn : n ≤ 1000) (a : EvD S X W B W1 B1 (isLG S X (fun z => ∃ c : Nat, z = .str ⟨#[c]⟩ ∧ sgn3 c = true) n) te σ H)
    (hr : ∀ (cs : List Nat) p H Q, H p = some (.lst ((cs.map fun c => (⟨#[c]⟩ : Str)).map V.str)) → cs.length ≤ 1000 → Q (.str (Str.join Str.empty (cs.map fun c => (⟨#[c]⟩ : Str)))) H → r (.str "") [.ref p] H Q) : EvD S X W B W1 B1 (isPat n) (tM1 r (tC (.str "")) te) σ H := fun H1 s1 w1 Q q => by
  refine ⟨⟨_, rfl⟩, a H1 s1 w1 _ fun H2 z s2 w2 ⟨L, vs, ez, hL, hl, hG, nX⟩ => ?_⟩
  obtain ⟨cs, e, hc⟩ : ∃ cs : List Nat, vs = (cs.map fun c => (⟨#[c]⟩ : Str)).map V.str ∧ ∀ c ∈ cs, sgn3 c = true := by
    clear hL hl
    induction vs with
    | nil => exact ⟨[], rfl, by simp⟩
    | cons v vs ih =>
      obtain ⟨cs, e, hc⟩ := ih fun v hv => hG v (List.mem_cons_of_mem _ hv)
      obtain ⟨c, ec, h1⟩ := hG v List.mem_cons_self
      refine ⟨c :: cs, by rw [e, ec]; rfl, fun x hx => ?_⟩
      rcases List.mem_cons.mp hx with rfl | hx
      · exact h1
      · exact hc x hx
  subst e ez
  rw [List.length_map, List.length_map] at hl
  have ok := okW_join cs hc
  rw [hl] at ok
  exact hr cs L H2 _ hL (by omega) (q _ _ s2 w2 ⟨_, rfl, ok⟩)
/-- a + b, texts -/
theorem of_addS {a b : Str} (h : a.length + b.length ≤ 1000) : OpF (isV (.str a)) (isV (.str b)) rAddStr (isV (.str (a ++ b))) := fun H x y ex ey Q q => ⟨a, b, ex, ey, szl (m := 1000) h (by decide), q _ _ (Same.refl _) rfl⟩
theorem of_addP {n m : Nat} (h : n + m ≤ 1000) : OpF (isPat n) (isPat m) rAddStr (isPat (n + m)) := fun H x y ⟨a, ex, ha⟩ ⟨b, ey, hb⟩ Q q => by
  refine ⟨a, b, ex, ey, szl (m := 1000) (by have := ha.1; have := hb.1; omega) (by decide), q _ _ (Same.refl _) ⟨_, rfl, ?_, fun c hc => ?_⟩⟩
  · show (a.cps ++ b.cps).size = _
    rw [Array.size_append]
    have h1 : a.cps.size = n := ha.1
    have h2 : b.cps.size = m := hb.1
    rw [h1, h2]
  · rw [str_app_list] at hc
    rcases List.mem_append.mp hc with hc | hc
    · exact ha.2 c hc
    · exact hb.2 c hc
end
end XT
namespace XT
open PySem PySem.Spec PyProof.Rows L2

def topS (i : Nat) : Stmt := PySem.Challenge.pw_xorturns_k56_equality_and_texts_of_sets.main.body.getD i (.Pass ⟨0, 0, 0, 0⟩)
abbrev sWall : Stmt := topS 0
def sOW : Stmt := match topS 4 with | .ClassDef _ _ _ (s :: _) .. => s | _ => topS 4
abbrev sNum : Stmt := topS 10
abbrev sIsW : Stmt := topS 11
abbrev sMask : Stmt := topS 12
abbrev sLotE : Stmt := topS 13
abbrev sCheckLot : Stmt := topS 14
abbrev sMaskE : Stmt := topS 15
abbrev sTurned : Stmt := topS 16
abbrev sRest : Stmt := topS 17
abbrev sLeft : Stmt := topS 18
abbrev sUnited : Stmt := topS 19
abbrev sShared : Stmt := topS 20
abbrev sWidth : Stmt := topS 21
abbrev sPairCounts : Stmt := topS 23
abbrev sSumOf : Stmt := topS 25
abbrev sGreatestAddend : Stmt := topS 26
abbrev sDigitsOf : Stmt := topS 28
abbrev sPatternsOf : Stmt := topS 29
abbrev sWordsOrNone : Stmt := topS 31
def sMsInit : Stmt := match topS 32 with | .ClassDef _ _ _ b .. => b.getD 0 (topS 32) | _ => topS 32
def sMsOfWide : Stmt := match topS 32 with | .ClassDef _ _ _ b .. => b.getD 1 (topS 32) | _ => topS 32
def sMsLot : Stmt := match topS 32 with | .ClassDef _ _ _ b .. => b.getD 2 (topS 32) | _ => topS 32
def sMsWidth : Stmt := match topS 32 with | .ClassDef _ _ _ b .. => b.getD 3 (topS 32) | _ => topS 32
def sMsMasks : Stmt := match topS 32 with | .ClassDef _ _ _ b .. => b.getD 4 (topS 32) | _ => topS 32
def sMsKeepers : Stmt := match topS 32 with | .ClassDef _ _ _ b .. => b.getD 5 (topS 32) | _ => topS 32
def sMsXor : Stmt := match topS 32 with | .ClassDef _ _ _ b .. => b.getD 6 (topS 32) | _ => topS 32
def sMsOr : Stmt := match topS 32 with | .ClassDef _ _ _ b .. => b.getD 7 (topS 32) | _ => topS 32
def sMsAnd : Stmt := match topS 32 with | .ClassDef _ _ _ b .. => b.getD 8 (topS 32) | _ => topS 32
def sMsSub : Stmt := match topS 32 with | .ClassDef _ _ _ b .. => b.getD 9 (topS 32) | _ => topS 32
def sMsAdd : Stmt := match topS 32 with | .ClassDef _ _ _ b .. => b.getD 10 (topS 32) | _ => topS 32
def sMsInvert : Stmt := match topS 32 with | .ClassDef _ _ _ b .. => b.getD 11 (topS 32) | _ => topS 32
def sMsContains : Stmt := match topS 32 with | .ClassDef _ _ _ b .. => b.getD 12 (topS 32) | _ => topS 32
def sMsGetitem : Stmt := match topS 32 with | .ClassDef _ _ _ b .. => b.getD 13 (topS 32) | _ => topS 32
def sMsIter : Stmt := match topS 32 with | .ClassDef _ _ _ b .. => b.getD 14 (topS 32) | _ => topS 32
def sMsCall : Stmt := match topS 32 with | .ClassDef _ _ _ b .. => b.getD 15 (topS 32) | _ => topS 32
def sMsEq : Stmt := match topS 32 with | .ClassDef _ _ _ b .. => b.getD 16 (topS 32) | _ => topS 32
def sMsWithin : Stmt := match topS 32 with | .ClassDef _ _ _ b .. => b.getD 17 (topS 32) | _ => topS 32
def sMsAddend : Stmt := match topS 32 with | .ClassDef _ _ _ b .. => b.getD 18 (topS 32) | _ => topS 32
def sMsLen : Stmt := match topS 32 with | .ClassDef _ _ _ b .. => b.getD 19 (topS 32) | _ => topS 32
def sMsBool : Stmt := match topS 32 with | .ClassDef _ _ _ b .. => b.getD 20 (topS 32) | _ => topS 32
def sMsStr : Stmt := match topS 32 with | .ClassDef _ _ _ b .. => b.getD 21 (topS 32) | _ => topS 32
abbrev sStream : Stmt := topS 34
abbrev sDraw : Stmt := topS 35
abbrev sLOdd : Stmt := topS 36
abbrev sDrawn : Stmt := topS 37
abbrev sLike : Stmt := topS 38
abbrev sLGreatest : Stmt := topS 39
abbrev sLText : Stmt := topS 40
abbrev sLPairRight : Stmt := topS 41
abbrev sLaw : Stmt := topS 42

theorem scD : FnScope ["_law_stream_here", "_law_many", "_law_rest", "_law_turn", "_law_cell", "_law_mixed"] ["_law_stream_here", "_law_many"] (defScope sDraw) := ⟨rfl, rfl, rfl, by decide +kernel, rfl, by decide +kernel, by decide +kernel⟩
section
variable {P : Program} {w : World} {K : PySem.W.Frag} {mg : Str → Option Value} {base : Heap}
theorem ok_draw {f : Addr} {fd : FuncData} {k : Nat} (F : Fun K "_law_draw" "_law_draw" sDraw f fd) (ml : mg "len" = none) : FnOk P w K mg base CX0 (k + 1) f fd ["_law_stream_here", "_law_many"] spDraw := by
  refine F.ok scD (fun vs H Q E h => ?_) (fun cdv A outer s H vs Q E hr h => ?_)
  · obtain ⟨S, t, m, rfl, _⟩ := h
    rfl
  · obtain ⟨S, t, m, rfl, ⟨big0, hS0⟩, m0, m1, t1, q⟩ := h
    refine ⟨_, pss_cons (ps_while PassesOwn.never
        (pt_cmpR (op_neD hr.units) (pe_ix ix_list (pv 0) pe_int (fun _ _ => rfl)) (pe_lst pa_nil) (nomark _))
        (pss_cons (ps_set (i := 2) scD.nd rfl (.inl rfl) (pe_ix ix_list (pe_ix ix_list (pv 0) pe_int (fun _ _ => rfl)) pe_int (fun _ _ => rfl)))
        (pss_cons (ps_if (pt_cmpR op_gt (pv 2) pe_int (nomark _))
          (pss_cons (ps_asg (pe_op op_fdiv (pv 2) (pv 1)) (pg_sub (pe_ix ix_list (pv 0) pe_int (fun _ _ => rfl)) pe_int set_list))
          (pss_one (ps_ret (pe_op op_mod (pv 2) (pv 1))))) pss_nil)
        (pss_one (ps_expr (pe_bm PySem.F.plainAttrs_list PySem.F.slot_list_pop PySem.F.type_list_pop mt_popAt (pe_ix ix_list (pv 0) pe_int (fun _ _ => rfl)) (pa_cons pe_int pa_nil)))))))
      (pss_cons (ps_set (i := 3) scD.nd rfl (.inl rfl) (pe_op op_add (pe_ix ix_list (pv 0) pe_int (fun _ _ => rfl)) pe_int))
      (pss_cons (ps_asg (pv 3) (pg_sub (pv 0) pe_int set_list))
      (pss_cons (ps_set (i := 4) scD.nd rfl (.inl rfl) (pe_op op_mod (pe_ix ix_list (pe_ix ix_list (pv 0) pe_int (fun _ _ => rfl)) (pe_op op_mod (pv 3) (pe_callB call_len_seq (by rfl) ml PySem.boot_len (pa_cons (pe_ix ix_list (pv 0) pe_int (fun _ _ => rfl)) pa_nil))) (fun _ _ => rfl)) pe_int))
      (pss_cons (ps_set (i := 5) scD.nd rfl (.inl rfl) (pe_op op_mod (pe_op op_add (pe_op op_add (pe_op op_mul (pv 4) (pe_op op_add pe_int (pe_op op_mul pe_int (pv 3)))) (pe_op op_mul (pe_op op_mul pe_int (pv 3)) (pv 3))) pe_int) pe_int))
      (pss_one (ps_ret (pe_op op_mod (pe_op op_fdiv (pe_op op_mod (pe_op op_mul (pv 5) (pv 5)) pe_int) pe_int) (pv 1)))))))), ?_⟩
    refine ⟨fun n σ H1 => ∃ big y2, σ = [some (.ref S.s), some (.int m), y2, none, none, none] ∧ n = big.length ∧ StrmB S H1 t big ∧ Keep S H H1,
      ⟨big0.length, big0, none, rfl, rfl, hS0, Keep.refl S H⟩, ?_⟩
    rintro n σ H1 ⟨big, y2, rfl, rfl, hS, hk⟩
    -- while stream[0] != []
    refine ⟨.ref S.s, rfl, S.s, _, 0, .ref S.p, rfl, rfl, SqL.of hS.hs, rfl, Nat.zero_le _, fun z nz => ?_⟩
    have sm : Same H1 (upd H1 z (.lst [])) := same_new nz
    have hz : (upd H1 z (.lst [])) z = some (.lst []) := upd_same
    have hS' := hS.same sm
    have hk' : Keep S H (upd H1 z (.lst [])) := hk.trans (Keep.of sm)
    generalize upd H1 z (.lst []) = H2 at *
    clear hS hk sm nz
    refine ⟨_, _, .lst (SqL.of hS'.hp) (dpInts big), .lst (SqL.of hz) .nil, ke_shaped big, rfl, _, rfl, ?_⟩
    cases big with
    | cons x rest =>
      have e : (!PyData.eqv (.list ((x :: rest).map PyData.int)) (.list [])) = true := rfl
      rw [e]
      refine iteT ?_
      refine ⟨fun σ' H' => ∃ y2, σ' = [some (.ref S.s), some (.int m), y2, none, none, none] ∧ StrmB S H' t rest ∧ Keep S H H', ?_, ?_⟩
      · rintro σ' H' ⟨y, rfl, h1, h2⟩
        exact ⟨rest.length, Nat.lt_succ_self _, rest, y, rfl, rfl, h1, h2⟩
      · refine ⟨.ref S.s, rfl, S.s, _, 0, .ref S.p, rfl, rfl, SqL.of hS'.hs, rfl, S.p, _, 0, .int x, rfl, rfl, SqL.of hS'.hp, atI_nat (j := 0) rfl, ?_⟩
        refine ⟨.int x, rfl, x, 0, rfl, rfl, _, rfl, ite2 (fun hx => ?_) (fun hx => ?_)⟩
        · refine ⟨.int x, rfl, .int m, rfl, x, m, rfl, rfl, ⟨m0, m1⟩, ?_⟩
          refine ⟨.ref S.s, rfl, S.s, _, 0, .ref S.p, rfl, rfl, SqL.of hS'.hs, rfl, S.p, _, 0, 0, rfl, rfl, hS'.hp, ix0 (Nat.succ_pos _), ?_⟩
          refine ⟨.int x, rfl, .int m, rfl, x, m, rfl, rfl, m0, ?_⟩
          refine q _ _ t (fun b o n1 n2 eb => ?_) ⟨(x / m) :: rest, ?_⟩ (Int.le_refl _) (by omega) (Int.emod_nonneg _ (by omega)) (Int.emod_lt_of_pos _ m0)
          · rw [upd_ne n2]; exact hk' b o n1 n2 eb
          · refine ⟨?_, upd_same, ?_, hS'.sp, hS'.sq, hS'.pq, hS'.ne, hS'.t0⟩
            · rw [upd_ne hS'.sp]; exact hS'.hs
            · rw [upd_ne hS'.pq.symm]; exact hS'.hq
        · refine ⟨.ref S.s, rfl, S.s, _, 0, .ref S.p, rfl, rfl, SqL.of hS'.hs, rfl, .inl ⟨rfl, _, SqL.of hS'.hp⟩, S.p, _, 0, 0, .int x, rfl, rfl, hS'.hp, by decide, by decide, sq0 (Nat.succ_pos _), rfl, ?_⟩
          refine ⟨_, rfl, ⟨?_, upd_same, ?_, hS'.sp, hS'.sq, hS'.pq, hS'.ne, hS'.t0⟩, fun b o n1 n2 eb => ?_⟩
          · rw [upd_ne hS'.sp]; exact hS'.hs
          · rw [upd_ne hS'.pq.symm]; exact hS'.hq
          · rw [upd_ne n2]; exact hk' b o n1 n2 eb
    | nil =>
      have e : (!PyData.eqv (.list (([] : List Int).map PyData.int)) (.list [])) = false := rfl
      rw [e]
      refine iteF ?_
      have t0 := hS'.t0
      -- turn = stream[2] + 1; stream[2] = turn
      refine ⟨.ref S.s, rfl, S.s, _, 2, .int t, rfl, rfl, SqL.of hS'.hs, rfl, t, 1, rfl, rfl, ?_⟩
      refine ⟨.int (t + 1), rfl, .ref S.s, rfl, S.s, _, 2, 2, rfl, rfl, hS'.hs, rfl, ?_⟩
      generalize hH3 : upd H2 S.s (.lst ([V.ref S.p, .ref S.q, .int t].set 2 (.int (t + 1)))) = H3
      have hS3 : StrmB S H3 (t + 1) [] := by
        subst hH3
        refine ⟨upd_same, ?_, ?_, hS'.sp, hS'.sq, hS'.pq, hS'.ne, by omega⟩
        · rw [upd_ne hS'.sp.symm]; exact hS'.hp
        · rw [upd_ne hS'.sq.symm]; exact hS'.hq
      have hk3 : Keep S H H3 := fun b o n1 n2 eb => by
        subst hH3
        rw [upd_ne n1]; exact hk' b o n1 n2 eb
      clear hH3
      -- cell
      have hl : (0 : Int) < ((S.cs.map V.int).length : Nat) := by rw [List.length_map]; have := hS'.ne; omega
      have hm1 : (t + 1) % ((S.cs.map V.int).length : Nat) < ((S.cs.map V.int).length : Nat) := Int.emod_lt_of_pos _ hl
      have hm0 : 0 ≤ (t + 1) % ((S.cs.map V.int).length : Nat) := Int.emod_nonneg _ (by omega)
      obtain ⟨j, hj⟩ : ∃ j : Nat, (t + 1) % ((S.cs.map V.int).length : Nat) = j := ⟨_, (Int.toNat_of_nonneg hm0).symm⟩
      have hjl : j < S.cs.length := by rw [List.length_map] at hm1 hj; omega
      have hat : atI (S.cs.map V.int) ((t + 1) % ((S.cs.map V.int).length : Nat)) = some (.int S.cs[j]) := by
        rw [hj]
        refine atI_nat ?_
        rw [List.getElem?_map, List.getElem?_eq_getElem hjl]
        rfl
      refine ⟨.ref S.s, rfl, S.s, _, 1, .ref S.q, rfl, rfl, SqL.of hS3.hs, rfl, .int (t + 1), rfl, .ref S.s, rfl, S.s, _, 1, .ref S.q, rfl, rfl, SqL.of hS3.hs, rfl, S.q, _, rfl, .inl (SqL.of hS3.hq), _, _, rfl, rfl, hl, ?_⟩
      have k87 : (0 : Int) < 2147483587 := by decide
      have k47 : (0 : Int) < 2147483647 := by decide
      have k29 : (0 : Int) < 2147483629 := by decide
      refine ⟨S.q, _, _, .int S.cs[j], rfl, rfl, SqL.of hS3.hq, hat, S.cs[j], _, rfl, rfl, k87, ?_⟩
      obtain ⟨c1, c0⟩ := pm87 (x := S.cs[j])
      obtain ⟨c, hc⟩ : ∃ c, S.cs[j] % 2147483587 = c := ⟨_, rfl⟩
      rw [hc] at c1 c0
      -- mixed
      refine ⟨.int c, congrArg (fun x => some (some (V.int x))) hc, .int (t + 1), rfl, 40692, t + 1, rfl, rfl, .inl ⟨by decide, by decide⟩, 69621, 40692 * (t + 1), rfl, rfl, c, 69621 + 40692 * (t + 1), rfl, rfl, .inl ⟨by omega, by omega⟩, ?_⟩
      refine ⟨.int (t + 1), rfl, 48271, t + 1, rfl, rfl, .inl ⟨by decide, by decide⟩, .int (t + 1), rfl, 48271 * (t + 1), t + 1, rfl, rfl, .inr ⟨by omega, by omega⟩, c * (69621 + 40692 * (t + 1)), 48271 * (t + 1) * (t + 1), rfl, rfl, _, 47, rfl, rfl, c * (69621 + 40692 * (t + 1)) + 48271 * (t + 1) * (t + 1) + 47, 2147483647, rfl, rfl, k47, ?_⟩
      obtain ⟨d1, d0⟩ := pm31 (x := c * (69621 + 40692 * (t + 1)) + 48271 * (t + 1) * (t + 1) + 47)
      obtain ⟨d, hd⟩ : ∃ d, (c * (69621 + 40692 * (t + 1)) + 48271 * (t + 1) * (t + 1) + 47) % 2147483647 = d := ⟨_, rfl⟩
      rw [hd] at d1 d0
      have ed : some (some (V.int ((c * (69621 + 40692 * (t + 1)) + 48271 * (t + 1) * (t + 1) + 47) % 2147483647))) = some (some (V.int d)) := congrArg (fun x => some (some (V.int x))) hd
      refine ⟨.int d, ed, .int d, ed, d, d, rfl, rfl, .inl ⟨by omega, by omega⟩, d * d, 2147483629, rfl, rfl, k29, d * d % 2147483629, 16, rfl, rfl, ⟨by decide, by decide⟩, .int m, rfl, _, m, rfl, rfl, m0, ?_⟩
      exact q _ _ (t + 1) hk3 ⟨_, hS3⟩ (by omega) (Int.le_refl _) (Int.emod_nonneg _ (by omega)) (Int.emod_lt_of_pos _ m0)
end
end XT
namespace XT
open PySem PySem.Spec PyProof.Rows L2

theorem scSt : FnScope ["_law_script", "_law_cells", "_law_cell"] ["_law_script"] (defScope sStream) := ⟨rfl, rfl, rfl, by decide +kernel, rfl, by decide +kernel, by decide +kernel⟩
section
variable {P : Program} {w : World} {K : PySem.W.Frag} {mg : Str → Option Value} {base : Heap}
theorem ok_stream {f : Addr} {fd : FuncData} {k : Nat} (F : Fun K "_law_stream" "_law_stream" sStream f fd) (ml : mg "len" = none) (ma : mg "abs" = none) : FnOk P w K mg base CX0 (k + 1) f fd ["_law_script"] (spStream K) := by
  refine F.ok scSt (fun vs H Q E h => ?_) (fun cdv A outer s H vs Q E hr h => ?_)
  · obtain ⟨a, ns, rfl, _⟩ := h
    rfl
  · obtain ⟨a, ns, rfl, hA, hlen, q⟩ := h
    refine ⟨_, pss_cons (ps_setLc (i := 1) (own := [("_law_cell", 2)]) (g := gName 2) (tt := tYes) rfl scSt.nd rfl rfl (sw_true rfl rfl rfl (by decide +kernel)) (pi_list (pv 0)) (blkOk_by (own := [("_law_cell", 2)]) (N := ["_law_script", "_law_cells", "_law_cell"]) (sc := defScope sStream) (by decide +kernel))
          (fun _ _ _ _ _ => pg_name (i := 2) scSt.nd rfl (Or.inl rfl)) (fun _ _ _ _ _ => pts_nil) (fun _ _ _ _ _ => pe_callB call_abs (by rfl) ma (by decide +kernel) (pa_cons (pv 2) pa_nil)))
        (pss_one (ps_ret (pe_lst (pa_cons
          (pe_lc (own := [("_law_cell", 2)]) (g := gName 2) rfl scSt.nd (pi_list (pv 1)) (blkOk_by (own := [("_law_cell", 2)]) (N := ["_law_script", "_law_cells", "_law_cell"]) (sc := defScope sStream) (by decide +kernel))
            (fun _ _ _ _ _ => pg_name (i := 2) scSt.nd rfl (Or.inl rfl)) (fun _ _ _ _ _ => pts_one (pt_cmpR op_ge (pv 2) (pe_op op_pow pe_int pe_int) (nomark _))) (fun _ _ _ _ _ => pv 2))
          (pa_cons (pe_op op_cat (pv 1) (pe_lst (pa_cons (pe_op op_add (pe_callB call_len_seq (by rfl) ml PySem.boot_len (pa_cons (pv 1) pa_nil)) pe_int) pa_nil)))
          (pa_cons pe_int pa_nil)))))), ?_⟩
    have hml : (ns.map V.int).length ≤ 63 := by rw [List.length_map]; exact hlen
    refine ⟨.ref a, rfl, a, rfl, ⟨_, hA⟩, fun D nD => lcp_list (p := fun _ => true) (f := fun v => match v with | .int i => .int (ab i) | v => v) nD hA (small64 (by omega)) (fun i x H3 hx sm => ?_) (fun H3 sm hD => ?_)⟩
    · intro R1 R2 h1 h2
      rw [List.getElem?_map] at hx
      obtain ⟨n, -, rfl⟩ := Option.map_eq_some_iff.mp hx
      exact ⟨rfl, iteT (B := R1 H3) ⟨_, rfl, n, rfl, h2 rfl _ (Same.refl _)⟩⟩
    · -- cells
      obtain ⟨cs, hcs, hcl⟩ : ∃ cs : List Int, (((ns.map V.int).filter fun _ => true).map fun v => match v with | .int i => V.int (ab i) | v => v) = cs.map V.int ∧ cs.length = ns.length := by
        refine ⟨ns.map ab, ?_, List.length_map _⟩
        rw [List.filter_eq_self.mpr (fun _ _ => rfl), List.map_map, List.map_map]
        rfl
      rw [hcs] at hD
      have hDl : (cs.map V.int).length ≤ 63 := by rw [List.length_map]; omega
      refine ⟨.ref D, rfl, D, rfl, ⟨_, SqL.of hD⟩, fun B nB => lcp_list (p := fun v => match v with | .int i => decide (10 ^ 18 ≤ i) | _ => false) (f := id) nB (SqL.of hD) (small64 (by omega)) (fun i x H4 hx sm4 => ?_) (fun H4 sm4 hB => ?_)⟩
      · intro R1 R2 h1 h2
        rw [List.getElem?_map] at hx
        obtain ⟨n, -, rfl⟩ := Option.map_eq_some_iff.mp hx
        refine ⟨rfl, _, rfl, 10, 18, rfl, rfl, ⟨by decide, by decide, by decide⟩, n, _, rfl, rfl, _, rfl, ite2 (fun e => ?_) (fun e => ?_)⟩
        · exact ⟨_, rfl, h2 e _ (Same.refl _)⟩
        · exact h1 (by simpa using e) _ (Same.refl _)
      · have hD4 := sm4 _ _ hD
        obtain ⟨big, hbig⟩ : ∃ big : List Int, (((cs.map V.int).filter fun v => match v with | .int i => decide (10 ^ 18 ≤ i) | _ => false).map id) = big.map V.int := by
          refine ⟨cs.filter fun i => decide (10 ^ 18 ≤ i), ?_⟩
          rw [List.map_id, List.filter_map]
          rfl
        rw [hbig] at hB
        refine ⟨.ref D, rfl, .ref D, rfl, D, _, rfl, .inl (SqL.of hD4), _, _, rfl, rfl, sz (n := 1) (by decide), fun L nL => ?_⟩
        have s5 : Same H4 (upd H4 L (.lst [.int (((cs.map V.int).length : Nat) + 37)])) := same_new nL
        refine ⟨D, L, _, _, rfl, rfl, s5 _ _ hD4, upd_same, ?_, fun C nC => ?_⟩
        · rw [sizeLine_eq]; simp only [List.length_map, List.length_cons, List.length_nil]; omega
        · have s6 := same_new (o := .lst (cs.map V.int ++ [.int (((cs.map V.int).length : Nat) + 37)])) nC
          refine ⟨sz (n := 3) (by decide), fun G nG => ?_⟩
          have s7 := same_new (o := .lst [V.ref B, .ref C, .int 0]) nG
          have hBC : B ≠ C := ne_of_none (s5 _ _ hB) nC
          refine q _ ⟨G, B, C, cs ++ [(((cs.map V.int).length : Nat) : Int) + 37]⟩ (((sm.trans sm4).trans (s5.trans s6)).trans s7) ⟨big, upd_same, s7 _ _ (s6 _ _ (s5 _ _ hB)), s7 _ _ ?_, ?_, ?_, hBC, ?_, Int.le_refl _⟩
          · rw [upd_same, List.map_append]; rfl
          · exact (ne_of_none (s6 _ _ (s5 _ _ hB)) nG).symm
          · exact (ne_of_none (show (upd _ C _) C = some _ from upd_same) nG).symm
          · show 0 < (cs ++ _).length
            rw [List.length_append]; exact Nat.succ_pos _
end
end XT
namespace XT
open PySem PySem.Spec PyProof.Rows L2
abbrev nDn : List Str := ["_law_stream_here", "_law_most", "_law_width", "_law_way", "_law_count", "_law_masks", "_law_k", "_law_turn", "_law_out", "_law_mask"]
theorem scDn : FnScope nDn ["_law_stream_here", "_law_most"] (defScope sDrawn) := ⟨rfl, rfl, rfl, by decide +kernel, rfl, by decide +kernel, by decide +kernel⟩
section
variable {P : Program} {w : World} {K : PySem.W.Frag} {mg : Str → Option Value} {base : Heap}
def spDrawn : Sp := fun vs H Q _ => ∃ (S : Sm) (t : Int) (most : Nat), vs = [.ref S.s, .int (most : Int)] ∧ Strm S H t ∧ 1 ≤ most ∧ most ≤ 6 ∧ t < 10000000 ∧
  ∀ (H' : Hp) (r : V) (n : Nat) (p : Nat → Bool) (t' : Int), Step S H t H' t' 300 → 1 ≤ n → n ≤ most → LotAt H' r n p → Q r H'
/-- the masks so far -/
def MidD (S : Sm) (H : Hp) (t : Int) (most n way B : Nat) (σ : L2.St) (H' : Hp) : Prop := ∃ (M : Addr) (ks : List Nat) (t' : Int) (y6 y7 y8 : Option V),
  σ = [some (.ref S.s), some (.int (most : Int)), some (.int (n : Int)), some (.int (way : Int)), some (.int ((2 ^ n : Nat) : Int)), some (.ref M), y6, y7, y8, none] ∧
  Step S H t H' t' B ∧ H' M = some (.lst (vm ks)) ∧ M ≠ S.s ∧ M ≠ S.p ∧ (∀ k ∈ ks, k < 2 ^ n) ∧ ks.length ≤ 64
theorem fresh_s {S : Sm} {H : Hp} {t : Int} {x : Addr} (h : Strm S H t) (n : H x = none) : x ≠ S.s ∧ x ≠ S.p := by
  obtain ⟨_, h⟩ := h
  exact ⟨fun e => (by rw [e, h.hs] at n; cases n), fun e => (by rw [e, h.hp] at n; cases n)⟩
abbrev tDr (m : TE) : TE := fun σ H Q => tCons (tVar 0) (tCons m tNil) σ H fun vs H1 => spDrawN vs H1 Q E0
theorem or_eq {σ : L2.St} {H : Hp} {i : Nat} {x a b : Int} {Q : Bool → Hp → Prop} (hx : σ[i]? = some (some (.int x))) (h : Q (decide (x = a ∨ x = b)) H) : tOr (tTest (tOp rEq (tVar i) (tC (.int a)))) (tTest (tOp rEq (tVar i) (tC (.int b)))) σ H Q := by
  refine ⟨.int x, hx, rfl, _, rfl, ite2 (fun e => ?_) (fun e => ⟨.int x, hx, rfl, _, rfl, ?_⟩)⟩
  · have e1 : x = a := V.int.inj (of_decide_eq_true e)
    rw [decide_eq_true (Or.inl e1)] at h
    exact h
  · have e1 : x ≠ a := fun z => e (decide_eq_true (by rw [z]))
    by_cases e2 : x = b
    · rw [decide_eq_true (Or.inr e2)] at h
      rw [decide_eq_true (by rw [e2])]
      exact h
    · rw [decide_eq_false (fun z => z.elim e1 e2)] at h
      rw [decide_eq_false (fun z => e2 (V.int.inj z))]
      exact h
theorem ok_drawn {f : Addr} {fd : FuncData} {k : Nat} (B : Bl mg) (F : Fun K "_law_drawn" "_law_drawn" sDrawn f fd) (dD : DefR P w K mg base 1 "_law_draw" spDrawN) : FnOk P w K mg base CX0 (k + 2) f fd ["_law_stream_here", "_law_most"] spDrawn := by
  refine F.ok scDn (fun vs H Q E h => ?_) (fun cdv A outer s H vs Q E hr h => ?_)
  · obtain ⟨S, t, most, rfl, _⟩ := h
    rfl
  · obtain ⟨S, t, most, rfl, st, ml, mh, ht, q⟩ := h
    have hr1 : Room 1 (A.deeper (envOfC "_law_drawn" (defScope sDrawn) s.heap.objs.size f cdv)) := hr.mono (by omega)
    refine ⟨_, pss_cons (ps_asg (pe_tup (pa_cons (pe_op op_add pe_int (pe_def dD hr1 (by rfl) (pa_cons (pv 0) (pa_cons (pv 1) pa_nil)))) (pa_cons (pe_def dD hr1 (by rfl) (pa_cons (pv 0) (pa_cons pe_int pa_nil))) pa_nil)))
          (pg_tup rfl (pgs_cons (pg_name (i := 2) scDn.nd rfl (.inl rfl)) (pgs_cons (pg_name (i := 3) scDn.nd rfl (.inr rfl)) pgs_nil))))
      (C8.pss_cut (ps_asg (pe_tup (pa_cons (pe_op op_shl pe_int (pv 2)) (pa_cons (pe_lst pa_nil) pa_nil)))
          (pg_tup rfl (pgs_cons (pg_name (i := 4) scDn.nd rfl (.inr rfl)) (pgs_cons (pg_name (i := 5) scDn.nd rfl (.inl rfl)) pgs_nil))))
      (C8.pss_cut (ps_if (pt_cmpR op_eq (pv 3) pe_int (nomark _))
          (pss_one (ps_setLc (i := 5) (own := [("_law_mask", 9)]) (g := gName 9) (te := tVar 9) rfl scDn.nd rfl rfl (sw_true rfl rfl rfl (by decide +kernel)) (pi_range1 (by rfl) B.range (pa_cons (pv 4) pa_nil)) (blkOk_by (own := [("_law_mask", 9)]) (N := nDn) (sc := defScope sDrawn) (by decide +kernel))
            (fun _ _ _ _ _ => pg_name (i := 9) scDn.nd rfl (Or.inl rfl)) (fun _ _ _ _ _ => pts_one (pt_cmpR op_eq (pe_def dD hr1 (by rfl) (pa_cons (pv 0) (pa_cons pe_int pa_nil))) pe_int (nomark _))) (fun _ _ _ _ _ => pv 9))) pss_nil)
      (C8.pss_cut (ps_if (PW.pt (pw_or (pt_cmpR op_eq (pv 3) pe_int (nomark _)) (pw_or1 (pt_cmpR op_eq (pv 3) pe_int (nomark _)))))
          (pss_one (ps_setLc (i := 5) (own := [("_law_k", 6)]) (g := gName 6) (tt := tYes) rfl scDn.nd rfl rfl (sw_true rfl rfl rfl (by decide +kernel))
            (pi_range1 (by rfl) B.range (pa_cons (pe_def dD hr1 (by rfl) (pa_cons (pv 0) (pa_cons (pe_ix ix_list (pe_lst (pa_cons pe_int (pa_cons pe_int pa_nil))) (pe_op op_sub (pv 3) pe_int) (fun _ _ => rfl)) pa_nil))) pa_nil)) (blkOk_by (own := [("_law_k", 6)]) (N := nDn) (sc := defScope sDrawn) (by decide +kernel))
            (fun _ _ _ _ _ => pg_name (i := 6) scDn.nd rfl (Or.inl rfl)) (fun _ _ _ _ _ => pts_nil) (fun _ _ _ _ _ => pe_def dD hr1 (by rfl) (pa_cons (pv 0) (pa_cons (pv 4) pa_nil))))) pss_nil)
      (C8.pss_cut (ps_if (PW.pt (pw_or (pt_cmpR op_eq (pv 3) pe_int (nomark _)) (pw_or1 (pt_cmpR op_eq (pv 3) pe_int (nomark _)))))
          (pss_cons (ps_set (i := 5) scDn.nd rfl (.inl rfl) (pe_lst (pa_cons (pe_def dD hr1 (by rfl) (pa_cons (pv 0) (pa_cons (pv 4) pa_nil))) pa_nil)))
          (pss_one (ps_for PassesOwn.never rfl (pi_range1 (by rfl) B.range (pa_cons (pe_def dD hr1 (by rfl) (pa_cons (pv 0) (pa_cons pe_int pa_nil))) pa_nil)) (pg_name (i := 6) scDn.nd rfl (.inl rfl))
            (pss_cons (ps_set (i := 7) scDn.nd rfl (.inr rfl) (pe_def dD hr1 (by rfl) (pa_cons (pv 0) (pa_cons (pv 4) pa_nil))))
            (pss_one (ps_set (i := 5) scDn.nd rfl (.inl rfl) (pe_op op_cat (pv 5)
              (pe_lc (own := [("_law_mask", 9)]) (g := gName 9) rfl scDn.nd (pi_list (pv 5)) (blkOk_by (own := [("_law_mask", 9)]) (N := nDn) (sc := defScope sDrawn) (by decide +kernel))
                (fun _ _ _ _ _ => pg_name (i := 9) scDn.nd rfl (Or.inl rfl)) (fun _ _ _ _ _ => pts_one (pt_cmpR op_gt (pe_def dD hr1 (by rfl) (pa_cons (pv 0) (pa_cons pe_int pa_nil))) (pe_op op_sub pe_int (pv 3)) (nomark _)))
                (fun _ _ _ _ _ => pe_op op_xor (pv 9) (pv 7)))))))))) pss_nil)
      (C8.pss_cut (ps_if (pt_cmpR op_eq (pv 3) pe_int (nomark _))
          (pss_cons (ps_set (i := 8) scDn.nd rfl (.inr rfl)
            (pe_lc (own := [("_law_k", 6)]) (g := gName 6) (tt := tYes) rfl scDn.nd (pi_range1 (by rfl) B.range (pa_cons (pe_def dD hr1 (by rfl) (pa_cons (pv 0) (pa_cons pe_int pa_nil))) pa_nil)) (blkOk_by (own := [("_law_k", 6)]) (N := nDn) (sc := defScope sDrawn) (by decide +kernel))
              (fun _ _ _ _ _ => pg_name (i := 6) scDn.nd rfl (Or.inl rfl)) (fun _ _ _ _ _ => pts_nil) (fun _ _ _ _ _ => pe_def dD hr1 (by rfl) (pa_cons (pv 0) (pa_cons (pv 4) pa_nil)))))
          (pss_one (ps_setLc (i := 5) (own := [("_law_mask", 9)]) (g := gName 9) (tt := tTest (tOp (rIn K true) (tVar 9) (tVar 8))) (te := tVar 9) rfl scDn.nd rfl rfl (sw_true rfl rfl rfl (by decide +kernel)) (pi_range1 (by rfl) B.range (pa_cons (pv 4) pa_nil)) (blkOk_by (own := [("_law_mask", 9)]) (N := nDn) (sc := defScope sDrawn) (by decide +kernel))
            (fun _ _ _ _ _ => pg_name (i := 9) scDn.nd rfl (Or.inl rfl)) (fun _ _ _ _ _ => pts_one (pt_cmpR op_notIn_seq (pv 9) (pv 8) (by rfl))) (fun _ _ _ _ _ => pv 9)))) pss_nil)
      (pss_one (ps_ret (pe_tup (pa_cons (pv 2) (pa_cons (pe_callTy call_tuple_of (by rfl) B.tuple bT (pa_cons (pe_callB (cr_sortS rfl) (by rfl) B.sorted bS (pa_cons (pe_callTy (cr_setL rfl) (by rfl) B.set bSet (pa_cons (pv 5) pa_nil)) pa_nil)) pa_nil)) pa_nil)))))))))), ?_⟩
    -- width, way
    refine ⟨.ref S.s, rfl, .int most, rfl, S, t, most, rfl, st, by omega, by omega, by omega, fun H1 r1 t1 s1 hr1 => ?_⟩
    refine ⟨1, r1, rfl, rfl, .ref S.s, rfl, S, t1, 6, rfl, s1.st, by omega, by omega, by have := s1.hi; omega, fun H2 way t2 s2 hway => ?_⟩
    refine ⟨sz (n := 2) (by decide), fun T nT => ⟨T, _, rfl, SqT.of upd_same, rfl, _, _, rfl, _, _, rfl, rfl, ?_⟩⟩
    have s3 := (s1.trans s2).same (same_new (o := .tup [.int (1 + (r1 : Int)), .int (way : Int)]) nT)
    obtain ⟨n, hn⟩ : ∃ n : Nat, n = 1 + r1 := ⟨_, rfl⟩
    have hn1 : 1 ≤ n := by omega
    have hn6 : n ≤ most := by omega
    -- count, masks
    refine ⟨MidD S H t most n way 10, ?_, fun σ0 H0 mid0 => ?_⟩
    · refine ⟨.int (1 + (r1 : Int)), rfl, 1, (n : Int), rfl, by rw [hn]; rfl, cpow (by omega), sz (n := 0) (by decide), fun M nM => ⟨sz (n := 2) (by decide), fun T2 nT2 => ⟨T2, _, rfl, SqT.of upd_same, rfl, _, _, rfl, _, _, rfl, rfl, ?_⟩⟩⟩
      have fs := fresh_s s3.st nM
      have s4 := s3.same (same_new (o := .lst []) nM)
      refine ⟨M, [], t2, none, none, none, ?_, (s4.same (same_new nT2)).mono (by omega), ?_, fs.1, fs.2, by simp, by simp⟩
      · rw [← shl1 n, hn]
        rfl
      · rw [upd_ne (ne_of_none upd_same nT2)]
        exact upd_same
    -- if way == 0
    refine ⟨MidD S H t most n way 80, ?_, fun σ1 H1 mid1 => ?_⟩
    · obtain ⟨M, ks, t', y6, y7, y8, rfl, stp, hM, as, ap, hk, hl⟩ := mid0
      refine ⟨.int way, rfl, rfl, _, rfl, ite2 (fun e => ?_) (fun e => ?_)⟩
      · refine ⟨.int ((2 ^ n : Nat) : Int), rfl, ((2 ^ n : Nat) : Int), rfl, l62, r62 (by omega), fun D nD => ?_⟩
        have p6 := pow6 (w := n) (by omega)
        have hi0 := stp.hi
        refine lcs_range (S := S) (c := 2 ^ n) (d := 1) (n := 2 ^ n) stp.st nD (by omega) (fun i H3 t3 hi s3 => ?_) (fun H3 pv => ?_)
        · intro R1 R2 h1 h2
          have hi3 := s3.hi
          refine ⟨rfl, .ref S.s, rfl, S, t3, 2, rfl, s3.st, by omega, by omega, by omega, fun H4 r t4 s4 hr4 => ⟨rfl, _, rfl, ite2 (fun e => ?_) (fun e => ?_)⟩⟩
          · refine ⟨.int (0 + (i : Int)), rfl, ?_⟩
            rw [Int.zero_add]
            exact h2 i H4 t4 s4 hi
          · exact h1 H4 t4 s4
        · obtain ⟨ks2, t3, s3, hD, hk2, hl2⟩ := pv
          have fs := fresh_s stp.st nD
          exact ⟨D, ks2, t3, y6, y7, y8, rfl, (stp.trans s3).mono (by omega), hD, fs.1, fs.2, hk2, by omega⟩
      · exact ⟨M, ks, t', y6, y7, y8, rfl, stp.mono (by omega), hM, as, ap, hk, hl⟩
    -- if way == 1 or way == 2
    refine ⟨MidD S H t most n way 100, ?_, fun σ2 H2 mid2 => ?_⟩
    · obtain ⟨M, ks, t', y6, y7, y8, rfl, stp, hM, as, ap, hk, hl⟩ := mid1
      refine or_eq (x := (way : Int)) rfl (ite2 (fun e => ?_) (fun e => ?_))
      · have e1 : way = 1 ∨ way = 2 := by
          have := of_decide_eq_true e
          omega
        obtain ⟨m, hm, hm7⟩ : ∃ m : Nat, atI [V.int 3, V.int 7] ((way : Int) - 1) = some (.int (m : Int)) ∧ (m = 3 ∨ m = 7) := by
          rcases e1 with rfl | rfl
          · exact ⟨3, rfl, .inl rfl⟩
          · exact ⟨7, rfl, .inr rfl⟩
        have hi0 := stp.hi
        refine ⟨.ref S.s, rfl, sz (n := 2) (by decide), fun L nL => ⟨.int way, rfl, way, 1, rfl, rfl, L, _, (way : Int) - 1, .int (m : Int), rfl, rfl, SqL.of upd_same, hm, ?_⟩⟩
        have s0 := stp.same (same_new (o := .lst [.int 3, .int 7]) nL)
        refine ⟨S, t', m, rfl, s0.st, by omega, by omega, by omega, fun H3 r t3 s3 hr3 => ?_⟩
        have hi3 := s3.hi
        refine ⟨r, rfl, by omega, by omega, fun D nD => ?_⟩
        have p6 := pow6 (w := n) (by omega)
        have p0 := pow0 n
        refine lcs_range (S := S) (c := 2 ^ n) (d := 1) (n := r) (g := gName 6) (tt := tYes) (te := tDr (tVar 4)) (vs := [6]) s3.st nD (by omega) (fun i H4 t4 hi s4 => ?_) (fun H4 pv => ?_)
        · intro R1 R2 h1 h2
          have hi4 := s4.hi
          refine ⟨rfl, iteT (B := R1 H4) ⟨.ref S.s, rfl, .int ((2 ^ n : Nat) : Int), rfl, S, t4, 2 ^ n, rfl, s4.st, by omega, by omega, by omega, fun H5 r5 t5 s5 hr5 => h2 r5 H5 t5 s5 hr5⟩⟩
        · obtain ⟨ks2, t4, s4, hD, hk2, hl2⟩ := pv
          have fs := fresh_s s3.st nD
          exact ⟨D, ks2, t4, y6, y7, y8, rfl, ((s0.trans s3).trans s4).mono (by omega), hD, fs.1, fs.2, hk2, by omega⟩
      · exact ⟨M, ks, t', y6, y7, y8, rfl, stp.mono (by omega), hM, as, ap, hk, hl⟩
    -- if way == 3 or way == 4
    refine ⟨MidD S H t most n way 200, ?_, fun σ3 H3 mid3 => ?_⟩
    · obtain ⟨M, ks, t', y6, y7, y8, rfl, stp, hM, as, ap, hk, hl⟩ := mid2
      refine or_eq (x := (way : Int)) rfl (ite2 (fun e => ?_) (fun e => ?_))
      · have hi0 := stp.hi
        have p6 := pow6 (w := n) (by omega)
        have p0 := pow0 n
        refine ⟨.ref S.s, rfl, .int ((2 ^ n : Nat) : Int), rfl, S, t', 2 ^ n, rfl, stp.st, by omega, by omega, by omega, fun H3 r t3 s3 hr3 => ⟨sz (n := 1) (by decide), fun L nL => ?_⟩⟩
        have fs := fresh_s s3.st nL
        have s4 := (stp.trans s3).same (same_new (o := .lst [.int (r : Int)]) nL)
        have hi4 := s4.hi
        refine ⟨.ref S.s, rfl, S, t3, 4, rfl, s4.st, by omega, by omega, by omega, fun H5 r5 t5 s5 hr5 => ⟨r5, rfl, by omega, by omega, ?_⟩⟩
        have hL5 := s5.keep L _ fs.1 fs.2 (show (upd H3 L (.lst [.int (r : Int)])) L = some (.lst (vm [r])) from upd_same)
        refine for_range (lo := 0) (n := r5) (fun i σ K0 => ∃ (M : Addr) (ks : List Nat) (t' : Int) (z6 z7 : Option V),
          σ = [some (.ref S.s), some (.int (most : Int)), some (.int (n : Int)), some (.int (way : Int)), some (.int ((2 ^ n : Nat) : Int)), some (.ref M), z6, z7, y8, none] ∧
          Step S H t K0 t' (102 + 9 * i) ∧ K0 M = some (.lst (vm ks)) ∧ M ≠ S.s ∧ M ≠ S.p ∧ (∀ k ∈ ks, k < 2 ^ n) ∧ ks.length ≤ 2 ^ i) ?_ (fun i σ K0 hi h => ?_) (fun σ K0 h => ?_)
        · exact ⟨L, [r], t5, y6, y7, rfl, (s4.trans s5).mono (by omega), hL5, fs.1, fs.2, by simpa using hr3, by simp⟩
        · obtain ⟨M, ks, t6, z6, z7, rfl, s6, hM6, as6, ap6, hk6, hl6⟩ := h
          have hi6 := s6.hi
          have pi : 2 ^ i ≤ 4 := by
            have : i = 0 ∨ i = 1 ∨ i = 2 := by omega
            rcases this with rfl | rfl | rfl <;> decide
          refine ⟨.ref S.s, rfl, .int ((2 ^ n : Nat) : Int), rfl, S, t6, 2 ^ n, rfl, s6.st, by omega, by omega, by omega, fun H7 r7 t7 s7 hr7 => ?_⟩
          have hi7 := s7.hi
          have hM7 := s7.keep M _ as6 ap6 hM6
          refine ⟨.ref M, rfl, .ref M, rfl, M, rfl, ⟨_, SqL.of hM7⟩, fun D nD => ?_⟩
          have fsD := fresh_s s7.st nD
          refine lcs_list (S := S) (c := 2 ^ n) (d := 1) (ms := ks) s7.st nD hM7 as6 ap6 (by omega) (fun j m H8 t8 hj s8 => ?_) (fun H8 pv => ?_)
          · intro R1 R2 h1 h2
            have hi8 := s8.hi
            have hjl : j < ks.length := (List.getElem?_eq_some_iff.mp hj).1
            refine ⟨rfl, .ref S.s, rfl, S, t8, 9, rfl, s8.st, by omega, by omega, by omega, fun H9 r9 t9 s9 hr9 => ⟨.int way, rfl, 4, way, rfl, rfl, r9, _, rfl, rfl, _, rfl, ite2 (fun e => ?_) (fun e => ?_)⟩⟩
            · refine ⟨.int m, rfl, .int r7, rfl, m, r7, rfl, rfl, ?_⟩
              show R2 (.int (Builtin.bitXor (m : Int) (r7 : Int))) H9
              rw [bx]
              exact h2 (m ^^^ r7) H9 t9 s9 (xor_lt (hk6 m (List.mem_of_getElem? hj)) hr7)
            · exact h1 H9 t9 s9
          · obtain ⟨ks8, t8, s8, hD8, hk8, hl8⟩ := pv
            have hM8 := s8.keep M _ as6 ap6 hM7
            refine ⟨M, D, vm ks, vm ks8, rfl, rfl, hM8, hD8, ?_, fun C nC => ?_⟩
            · rw [vm_len, vm_len]; exact sz (by omega)
            · have fsC := fresh_s s8.st nC
              have s9 := ((s6.trans s7).trans s8).same (same_new (o := .lst (vm ks ++ vm ks8)) nC)
              refine ⟨C, ks ++ ks8, t8, some (.int (0 + (i : Int))), some (.int (r7 : Int)), rfl, s9.mono (by omega), ?_, fsC.1, fsC.2, ?_, ?_⟩
              · rw [upd_same]; unfold vm; rw [List.map_append]
              · intro k hk
                rcases List.mem_append.mp hk with hk | hk
                · exact hk6 k hk
                · exact hk8 k hk
              · rw [List.length_append, Nat.pow_succ]; omega
        · obtain ⟨M, ks, t6, z6, z7, rfl, s6, hM6, as6, ap6, hk6, hl6⟩ := h
          have pi : 2 ^ r5 ≤ 8 := by
            have : r5 = 0 ∨ r5 = 1 ∨ r5 = 2 ∨ r5 = 3 := by omega
            rcases this with rfl | rfl | rfl | rfl <;> decide
          exact ⟨M, ks, t6, z6, z7, y8, rfl, s6.mono (by omega), hM6, as6, ap6, hk6, by omega⟩
      · exact ⟨M, ks, t', y6, y7, y8, rfl, stp.mono (by omega), hM, as, ap, hk, hl⟩
    -- if way == 5
    refine ⟨MidD S H t most n way 300, ?_, fun σ4 H4 mid4 => ?_⟩
    · obtain ⟨M, ks, t', y6, y7, y8, rfl, stp, hM, as, ap, hk, hl⟩ := mid3
      refine ⟨.int way, rfl, rfl, _, rfl, ite2 (fun e => ?_) (fun e => ?_)⟩
      · have hi0 := stp.hi
        have p6 := pow6 (w := n) (by omega)
        have p0 := pow0 n
        refine ⟨.ref S.s, rfl, S, t', 4, rfl, stp.st, by omega, by omega, by omega, fun H5 r5 t5 s5 hr5 => ⟨r5, rfl, by omega, by omega, fun D nD => ?_⟩⟩
        have hi5 := s5.hi
        have fs := fresh_s s5.st nD
        refine lcs_range (S := S) (c := 2 ^ n) (d := 1) (n := r5) (g := gName 6) (tt := tYes) (te := tDr (tVar 4)) (vs := [6]) s5.st nD (by omega) (fun i H6 t6 hi s6 => ?_) (fun H6 pv => ?_)
        · intro R1 R2 h1 h2
          have hi6 := s6.hi
          refine ⟨rfl, iteT (B := R1 H6) ⟨.ref S.s, rfl, .int ((2 ^ n : Nat) : Int), rfl, S, t6, 2 ^ n, rfl, s6.st, by omega, by omega, by omega, fun H7 r7 t7 s7 hr7 => h2 r7 H7 t7 s7 hr7⟩⟩
        · obtain ⟨ks6, t6, s6, hD6, hk6, hl6⟩ := pv
          refine ⟨.int ((2 ^ n : Nat) : Int), rfl, ((2 ^ n : Nat) : Int), rfl, l62, r62 (by omega), fun L nL => ?_⟩
          have fsL := fresh_s s6.st nL
          refine lcp_range (n := 2 ^ n) (p := fun m => !decide (m ∈ ks6)) (f := fun m => .int (m : Int)) nL (small64 (by omega)) (fun i H7 hi s7 => ?_) (fun H7 s7 hL => ?_)
          · intro R1 R2 h1 h2
            refine ⟨rfl, _, rfl, .ref D, rfl, D, _, rfl, .inl (SqL.of (s7 _ _ hD6)), rfl, vm_flat _, _, rfl, ?_⟩
            have e : inV (.int (0 + (i : Int))) (vm ks6) = decide (i ∈ ks6) := by
              rw [Int.zero_add]; exact in_vm i ks6
            show if (!inV (.int (0 + (i : Int))) (vm ks6)) = true then _ else _
            rw [e]
            refine ite2 (fun z => ?_) (fun z => ?_)
            · refine ⟨.int (0 + (i : Int)), rfl, ?_⟩
              rw [Int.zero_add]
              exact h2 z _ (Same.refl _)
            · exact h1 (by simpa using z) _ (Same.refl _)
          · refine ⟨L, (List.range (2 ^ n)).filter fun m => !decide (m ∈ ks6), t6, y6, y7, some (.ref D), rfl, (((stp.trans s5).trans s6).same s7).mono (by omega), hL, fsL.1, fsL.2, fun k hk => ?_, ?_⟩
            · exact List.mem_range.mp (List.mem_filter.mp hk).1
            · refine Nat.le_trans (List.length_filter_le _ _) ?_
              rw [List.length_range]; exact p6
      · exact ⟨M, ks, t', y6, y7, y8, rfl, stp.mono (by omega), hM, as, ap, hk, hl⟩
    -- return
    obtain ⟨M, ks, t', y6, y7, y8, rfl, stp, hM, as, ap, hk, hl⟩ := mid4
    refine ⟨.int n, rfl, .ref M, rfl, M, ks.map fun (k : Nat) => (k : Int), rfl, SqL.of (by rw [hM, vm_ints]), by rw [List.length_map]; omega, fun G c nG => ?_⟩
    have sG := same_new (o := SetO w G (fun j => decide (j ∈ ks.map fun (k : Nat) => (k : Int))) c) nG
    refine ⟨G, _, c, rfl, upd_same, fun ns L asc hm nL => ?_⟩
    have sL := same_new (o := .lst (ns.map V.int)) nL
    refine ⟨L, _, rfl, .inl ⟨SqL.of upd_same, fun T3 nT3 => ⟨sz (n := 2) (by decide), fun U nU => ?_⟩⟩⟩
    refine q _ _ n (fun m => decide (m ∈ ks)) t' ((((stp.same sG).same sL).same (same_new nT3)).same (same_new nU)) hn1 hn6 ⟨U, T3, rfl, upd_same, ?_⟩
    rw [upd_ne (ne_of_none upd_same nU), upd_same, rising_lot (w := n) (P := fun m => decide (m ∈ ks)) asc fun z => ?_]
    rw [hm z, decide_eq_true_iff, List.mem_map]
    constructor
    · rintro ⟨m, h1, h2⟩
      exact ⟨m, h2.symm, hk m h1, decide_eq_true h1⟩
    · rintro ⟨m, h1, h2, h3⟩
      exact ⟨m, of_decide_eq_true h3, h1.symm⟩
end
end XT
/-! drawn lots in a world; one of several values by a drawn index -/
namespace XT
open PySem PySem.Spec PyProof.Rows L2
section
variable {K : PySem.W.Frag} {S : Sm} {X : Ow} {W W1 W2 W3 : HpP} {B B1 B2 B3 : Int} {H H' : Hp} {t ta tb te : TE} {σ : L2.St}
theorem ed_drawn {m : Nat} (sw : StyW X W2) (m1 : 1 ≤ m) (m6 : m ≤ 6) (hB : B2 < 1000000) (a : EvD S X W B W1 B1 (isV (.ref S.s)) ta σ H) (b : EvD S X W1 B1 W2 B2 (isV (.int (m : Int))) tb σ H) : EvD S X W B W2 (B2 + 300) (fun H z => ∃ n p, LotAt H z n p ∧ 1 ≤ n ∧ n ≤ m) (tDf spDrawn (tCons ta (tCons tb tNil))) σ H := fun H1 s1 w1 Q q =>
  a H1 s1 w1 _ fun H2 x s2 w2 ex => b H2 (s1.trans s2) w2 _ fun H3 y s3 w3 ey => by
    obtain ⟨t, st, ht⟩ := w3.t
    refine ⟨S, t, m, by rw [ex, ey], st, m1, m6, by omega, fun H4 r n p t4 s4 n1 nm hl => ?_⟩
    obtain ⟨w4, k4⟩ := w3.step sw st ht s4
    exact q _ _ ((s2.trans s3).trans k4) w4 ⟨n, p, hl, n1, nm⟩
theorem sk_lo {Rs : List RV} (h : ∀ R ∈ Rs, StyK S X R) : StyK S X (isLO S X Rs) := fun _ _ _ _ _ w k ⟨L, vs, e, hL, g, n⟩ => ⟨L, vs, e, k L _ n hL, allV_kx h w k g, n⟩
theorem of_ixLO {Rs : List RV} {m : Nat} (h : m ≤ Rs.length) : OpF (isLO S X Rs) (fun _ z => ∃ r : Nat, z = .int (r : Int) ∧ r < m) (rIxL K) (fun H z => ∃ R ∈ Rs, R H z) := fun H x y ⟨L, vs, ex, hL, g, n⟩ ⟨r, ey, hr⟩ Q q => by
  have hlen := allV_len g
  obtain ⟨v, hv, gv⟩ := allV_at g (List.getElem?_eq_getElem (show r < Rs.length by omega))
  exact ⟨L, vs, r, v, ex, ey, SqL.of hL, atI_nat hv, q _ _ (Same.refl _) ⟨_, List.getElem_mem _, gv⟩⟩
end
end XT
/-! data in a world that changes -/
namespace XT
open PySem PySem.Spec PyProof.Rows L2
/-- where the lists of data may lie -/
structure NF (S : Sm) (X : Ow) where
  N : Hp → Addr → Prop
  own : ∀ {H b}, N H b → ¬ XS S X b
  keep : ∀ {H H' b}, KeepX (XS S X) H H' → N H b → N H' b
  new : ∀ {H p o}, ¬ XS S X p → N (upd H p o) p
theorem keep_none {X : Ow} {H H' : Hp} (k : KeepX X H H') {b : Addr} (n : ¬ X b) (h : H b ≠ none) : H' b ≠ none := fun e => by
  cases hb : H b with
  | none => exact h hb
  | some o => rw [k b o n hb] at e; cases e
/-- not owned -/
def nfX (S : Sm) (X : Ow) : NF S X := ⟨fun _ b => ¬ XS S X b, fun h => h, fun _ h => h, fun h => h⟩
/-- .. and there -/
def nfP (S : Sm) (X : Ow) : NF S X := ⟨fun H b => ¬ XS S X b ∧ H b ≠ none, fun h => h.1, fun k h => ⟨h.1, keep_none k h.1 h.2⟩, fun h => ⟨h, by rw [upd_same]; exact fun e => by cases e⟩⟩
/-- data -/
abbrev isDN (K : PySem.W.Frag) {S : Sm} {X : Ow} (F : NF S X) (d : PyData) : RV := fun H z => Dv K (F.N H) H z d
abbrev isDX (K : PySem.W.Frag) (S : Sm) (X : Ow) (d : PyData) : RV := isDN K (nfX S X) d
abbrev isDP (K : PySem.W.Frag) (S : Sm) (X : Ow) (d : PyData) : RV := isDN K (nfP S X) d
section
variable {K : PySem.W.Frag} {S : Sm} {X Y : Ow} {W W1 W2 W3 : HpP} {B B1 B2 B3 : Int} {H H' : Hp} {R Ra Rb Rc : RV} {t ta tb te : TE} {σ : L2.St} {d e : PyData} {ds es : List PyData} {v : V} {xs : List V}
theorem nm_frz {o : Obj} {u : HO} : ¬ MutO (.frz o u) := fun h => by rcases h with ⟨_, e⟩ | ⟨_, _, _, e⟩ <;> cases e
theorem nm_dK {kvs : List (Key × V)} : ¬ MutO (.dK kvs) := fun h => by rcases h with ⟨_, e⟩ | ⟨_, _, _, e⟩ <;> cases e
theorem Wld.sqT (w : Wld S X W B H) (k : KeepX (XS S X) H H') {b : Addr} (e : SqT K H b xs) : SqT K H' b xs := by
  rcases e with (e | ⟨o, e⟩) | e
  · exact .inl (.inl (w.tup k e))
  · exact .inl (.inr ⟨o, w.fix k e nm_frz⟩)
  · exact .inr e
theorem KeepX.sqL (k : KeepX (XS S X) H H') {b : Addr} (n : ¬ XS S X b) (e : SqL K H b xs) : SqL K H' b xs := by
  rcases e with (e | ⟨o, e⟩) | e
  · exact .inl (.inl (k b _ n e))
  · exact .inl (.inr ⟨o, k b _ n e⟩)
  · exact .inr e
theorem Dv.kx {N N' : Addr → Prop} (w : Wld S X W B H) (k : KeepX (XS S X) H H') (i : ∀ b, N b → ¬ XS S X b) (j : ∀ b, N b → N' b) (h : Dv K N H v d) : Dv K N' H' v d := h.map (fun _ _ q => w.sqT k q) (fun _ _ n q => k.sqL (i _ n) q) (fun _ _ q => w.fix k q nm_dK) j
theorem DvAll.kx {N N' : Addr → Prop} (w : Wld S X W B H) (k : KeepX (XS S X) H H') (i : ∀ b, N b → ¬ XS S X b) (j : ∀ b, N b → N' b) (h : DvAll K N H xs ds) : DvAll K N' H' xs ds := h.map (fun _ _ q => w.sqT k q) (fun _ _ n q => k.sqL (i _ n) q) (fun _ _ q => w.fix k q nm_dK) j
variable {F : NF S X}
theorem sk_dn (d : PyData) : StyK S X (isDN K F d) := fun _ _ _ _ _ w k h => h.kx w k (fun _ n => F.own n) (fun _ n => F.keep k n)
theorem dp_dx (h : isDP K S X d H v) : isDX K S X d H v := Dv.imp h fun _ n => n.1
theorem dn_same (s : Same H H') (h : isDN K F d H v) : isDN K F d H' v := (Dv.same s h).imp fun _ n => F.keep (KeepX.of s) n
theorem dna_same (s : Same H H') (h : DvAll K (F.N H) H xs ds) : DvAll K (F.N H') H' xs ds := (DvAll.same s h).imp fun _ n => F.keep (KeepX.of s) n
theorem dna_kx (w : Wld S X W B H) (k : KeepX (XS S X) H H') (h : DvAll K (F.N H) H xs ds) : DvAll K (F.N H') H' xs ds := h.kx w k (fun _ n => F.own n) (fun _ n => F.keep k n)
/-- a list of one's own whose items are such data -/
abbrev isDL (K : PySem.W.Frag) {S : Sm} {X : Ow} (F : NF S X) (ds : List PyData) : RV := fun H z => ∃ L xs, z = .ref L ∧ H L = some (.lst xs) ∧ DvAll K (F.N H) H xs ds ∧ ¬ XS S X L
theorem sk_dl (ds : List PyData) : StyK S X (isDL K F ds) := fun _ _ _ _ _ w k ⟨L, xs, e, hL, a, n⟩ => ⟨L, xs, e, k L _ n hL, dna_kx w k a, n⟩
theorem allV_dn : ∀ {ds : List PyData} {H : Hp} {vs : List V}, AllV (ds.map (isDN K F)) H vs → DvAll K (F.N H) H vs ds
  | [], _, [], _ => .nil
  | d :: ds, _, v :: vs, h => .cons h.1 (allV_dn h.2)
theorem ed_dl {ta : TA} (sw : StyW X W1) (hl : ds.length ≤ 1000) (a : EvDA S X W B W1 B1 (ds.map (isDN K F)) ta σ H) : EvD S X W B W1 B1 (isDL K F ds) (tLst ta) σ H := fun H1 k1 w1 Q q =>
  a H1 k1 w1 _ fun H2 vs k2 w2 gv => by
    have g := allV_dn gv
    have hz := g.len
    exact ⟨sz (by omega), fun L nL => q _ _ (k2.trans (KeepX.of (same_new nL))) (w2.same sw (same_new nL)) ⟨L, vs, rfl, upd_same, dna_same (same_new nL) g, w2.new nL⟩⟩
/-- a + b, lists of data -/
theorem ed_catD (sw : StyW X W2) (hl : ds.length + es.length ≤ 1000) (a : EvD S X W B W1 B1 (isDL K F ds) ta σ H) (b : EvD S X W1 B1 W2 B2 (isDL K F es) tb σ H) : EvD S X W B W2 B2 (isDL K F (ds ++ es)) (tOp rCat ta tb) σ H := fun H1 k1 w1 Q q =>
  a H1 k1 w1 _ fun H2 x k2 w2 gx => b H2 (k1.trans k2) w2 _ fun H3 y k3 w3 ⟨L', us, ey, hL', a', n'⟩ => by
    obtain ⟨L, vs, ex, hL, a, n⟩ := sk_dl ds W1 B1 _ _ _ w2 k3 gx
    exact ⟨L, L', vs, us, ex, ey, hL, hL', by rw [a.len, a'.len]; exact sz hl, fun p np => q _ _ ((k2.trans k3).trans (KeepX.of (same_new np))) (w3.same sw (same_new np)) ⟨p, _, rfl, upd_same, (dna_same (same_new np) a).app (dna_same (same_new np) a'), w3.new np⟩⟩
theorem ed_tupD {ta : TA} (sw : StyW X W1) (hl : ds.length ≤ 1000) (a : EvDA S X W B W1 B1 (ds.map (isDN K F)) ta σ H) : EvD S X W B W1 B1 (isDN K F (.tuple ds)) (tTup ta) σ H := fun H1 k1 w1 Q q =>
  a H1 k1 w1 _ fun H2 vs k2 w2 gv => by
    have g := allV_dn gv
    have hz := g.len
    exact ⟨sz (by omega), fun L nL => q _ _ (k2.trans (KeepX.of (same_new nL))) (w2.same sw (same_new nL)) (.tup (SqT.of upd_same) (dna_same (same_new nL) g))⟩
theorem ed_lstD {ta : TA} (sw : StyW X W1) (hl : ds.length ≤ 1000) (a : EvDA S X W B W1 B1 (ds.map (isDN K F)) ta σ H) : EvD S X W B W1 B1 (isDN K F (.list ds)) (tLstB ta) σ H := fun H1 k1 w1 Q q =>
  a H1 k1 w1 _ fun H2 vs k2 w2 gv => by
    have g := allV_dn gv
    have hz := g.len
    exact ⟨sz (by omega), fun L nL bL => q _ _ (k2.trans (KeepX.of (same_new nL))) (w2.same sw (same_new nL)) (.lst (SqL.of upd_same) bL (F.new (w2.new nL)) (dna_same (same_new nL) g))⟩
theorem eda_dn {ta : TA} (a : EvD S X W B W1 B1 (isDN K F d) te σ H) (b : EvDA S X W1 B1 W2 B2 (ds.map (isDN K F)) ta σ H) : EvDA S X W B W2 B2 ((d :: ds).map (isDN K F)) (tCons te ta) σ H := eda_cons (sk_dn d) a b
theorem ed_dni {i : Int} (a : EvD S X W B W1 B1 (isV (.int i)) te σ H) : EvD S X W B W1 B1 (isDN K F (.int i)) te σ H := a.mono fun H z e => by rw [e]; exact .int i
theorem ed_dns {x : Str} (a : EvD S X W B W1 B1 (isV (.str x)) te σ H) : EvD S X W B W1 B1 (isDN K F (.str x)) te σ H := a.mono fun H z e => by rw [e]; exact .str x
theorem ed_dnn (a : EvD S X W B W1 B1 (isV .non) te σ H) : EvD S X W B W1 B1 (isDN K F .none) te σ H := a.mono fun H z e => by rw [e]; exact .non
theorem ed_dnb {b : Bool} (a : EvD S X W B W1 B1 (isB b) te σ H) : EvD S X W B W1 B1 (isDN K F (.bool b)) te σ H := a.mono fun H z e => by rw [e]; exact .bl b
/-- data without lists -/
theorem dn_pure (h : Dv K (fun _ => False) H v d) : isDN K F d H v := Dv.imp h fun _ f => f.elim
theorem pure_kx (w : Wld S X W B H) (k : KeepX (XS S X) H H') (h : Dv K (fun _ => False) H v d) : Dv K (fun _ => False) H' v d := h.kx w k (fun _ f => f.elim) (fun _ f => f)
theorem pureA_kx (w : Wld S X W B H) (k : KeepX (XS S X) H H') (h : DvAll K (fun _ => False) H xs ds) : DvAll K (fun _ => False) H' xs ds := h.kx w k (fun _ f => f.elim) (fun _ f => f)
abbrev isDZ (K : PySem.W.Frag) (d : PyData) : RV := fun H z => Dv K (fun _ => False) H z d
theorem sk_dz (d : PyData) : StyK S X (isDZ K d) := fun _ _ _ _ _ w k h => pure_kx w k h
theorem ed_dz (a : EvD S X W B W1 B1 (isDZ K d) te σ H) : EvD S X W B W1 B1 (isDN K F d) te σ H := a.mono fun H z h => dn_pure h
theorem dz_ints : ∀ ns : List Int, DvAll K (fun _ => False) H (ns.map V.int) (ns.map PyData.int)
  | [] => .nil
  | n :: ns => .cons (.int n) (dz_ints ns)
theorem dz_tv (ns : List Int) : ∀ H z, isTV (ns.map V.int) H z → isDZ K (.tuple (ns.map PyData.int)) H z := fun H z ⟨T, e, h⟩ => by rw [e]; exact .tup (SqT.of h) (dz_ints ns)
theorem dz_lot {n : Nat} {p : Nat → Bool} (h : LotAt H v n p) : isDZ K (dLot n p) H v := by
  obtain ⟨a, b, e, h1, h2⟩ := h
  rw [e]
  have := dz_ints (K := K) (H := H) ((lotOf n p).map fun (m : Nat) => (m : Int))
  rw [List.map_map, List.map_map] at this
  exact .tup (SqT.of h1) (.cons (.int _) (.cons (.tup (SqT.of h2) this) .nil))
end
section
variable {K : PySem.W.Frag} {S : Sm} {X : Ow} {W W1 W2 : HpP} {B B1 B2 : Int} {H : Hp} {ta tb te : TE} {σ : L2.St} {F : NF S X} {G : PyData → Prop} {lo hi lo' hi' : Nat}
/-- data of some kind; a list of them -/
abbrev isDG (K : PySem.W.Frag) {S : Sm} {X : Ow} (F : NF S X) (G : PyData → Prop) : RV := fun H z => ∃ d, isDN K F d H z ∧ G d
abbrev isDLG (K : PySem.W.Frag) {S : Sm} {X : Ow} (F : NF S X) (G : PyData → Prop) (lo hi : Nat) : RV := fun H z => ∃ ds, isDL K F ds H z ∧ lo ≤ ds.length ∧ ds.length ≤ hi ∧ ∀ d ∈ ds, G d
/-- .. which do not stand on the list itself -/
abbrev isDLO (K : PySem.W.Frag) (S : Sm) (X : Ow) (H0 : Hp) (G : PyData → Prop) (lo hi : Nat) : RV := fun H z => ∃ ds L xs, z = .ref L ∧ H0 L = none ∧ H L = some (.lst xs) ∧ DvAll K (fun b => ¬ XS S X b ∧ b ≠ L) H xs ds ∧ ¬ XS S X L ∧ lo ≤ ds.length ∧ ds.length ≤ hi ∧ ∀ d ∈ ds, G d
theorem sk_dg : StyK S X (isDG K F G) := fun W B H H' z w k ⟨d, h, g⟩ => ⟨d, sk_dn d W B H H' z w k h, g⟩
theorem sk_dlg : StyK S X (isDLG K F G lo hi) := fun W B H H' z w k ⟨ds, h, g⟩ => ⟨ds, sk_dl ds W B H H' z w k h, g⟩
theorem allV_dg : ∀ {n : Nat} {H : Hp} {vs : List V}, AllV (List.replicate n (isDG K F G)) H vs → ∃ ds, DvAll K (F.N H) H vs ds ∧ ds.length = n ∧ ∀ d ∈ ds, G d
  | 0, _, [], _ => ⟨[], .nil, rfl, by simp⟩
  | n + 1, _, v :: vs, h => by
    obtain ⟨⟨d, hd, g⟩, h2⟩ := h
    obtain ⟨ds, h3, h4, h5⟩ := allV_dg h2
    exact ⟨d :: ds, .cons hd h3, by rw [List.length_cons, h4], fun e he => by
      rcases List.mem_cons.mp he with rfl | he
      · exact g
      · exact h5 e he⟩
theorem ed_dlg {n : Nat} {ta : TA} (sw : StyW X W1) (hl : n ≤ 1000) (a : EvDA S X W B W1 B1 (List.replicate n (isDG K F G)) ta σ H) : EvD S X W B W1 B1 (isDLG K F G n n) (tLst ta) σ H := fun H1 k1 w1 Q q =>
  a H1 k1 w1 _ fun H2 vs k2 w2 gv => by
    obtain ⟨ds, g, hd, hg⟩ := allV_dg gv
    have hz := g.len
    exact ⟨sz (by omega), fun L nL => q _ _ (k2.trans (KeepX.of (same_new nL))) (w2.same sw (same_new nL)) ⟨ds, ⟨L, vs, rfl, upd_same, dna_same (same_new nL) g, w2.new nL⟩, by omega, by omega, hg⟩⟩
theorem ed_catG (sw : StyW X W2) (hl : hi + hi' ≤ 1000) (a : EvD S X W B W1 B1 (isDLG K F G lo hi) ta σ H) (b : EvD S X W1 B1 W2 B2 (isDLG K F G lo' hi') tb σ H) : EvD S X W B W2 B2 (isDLG K F G (lo + lo') (hi + hi')) (tOp rCat ta tb) σ H := fun H1 k1 w1 Q q =>
  a H1 k1 w1 _ fun H2 x k2 w2 gx => b H2 (k1.trans k2) w2 _ fun H3 y k3 w3 ⟨es, ⟨L', us, ey, hL', a', n'⟩, l1, l2, g2⟩ => by
    obtain ⟨ds, ⟨L, vs, ex, hL, a, n⟩, l3, l4, g4⟩ := sk_dlg W1 B1 _ _ _ w2 k3 gx
    have z1 := a.len
    have z2 := a'.len
    exact ⟨L, L', vs, us, ex, ey, hL, hL', sz (by omega), fun p np => q _ _ ((k2.trans k3).trans (KeepX.of (same_new np))) (w3.same sw (same_new np)) ⟨ds ++ es, ⟨p, _, rfl, upd_same, (dna_same (same_new np) a).app (dna_same (same_new np) a'), w3.new np⟩, by rw [List.length_append]; omega, by rw [List.length_append]; omega, fun d hd => (List.mem_append.mp hd).elim (g4 d) (g2 d)⟩⟩
theorem ed_catO (sw : StyW X W2) (hl : hi + hi' ≤ 1000) (a : EvD S X W B W1 B1 (isDLG K (nfP S X) G lo hi) ta σ H) (b : EvD S X W1 B1 W2 B2 (isDLG K (nfP S X) G lo' hi') tb σ H) : EvD S X W B W2 B2 (isDLO K S X H G (lo + lo') (hi + hi')) (tOp rCat ta tb) σ H := fun H1 k1 w1 Q q =>
  a H1 k1 w1 _ fun H2 x k2 w2 gx => b H2 (k1.trans k2) w2 _ fun H3 y k3 w3 ⟨es, ⟨L', us, ey, hL', a', n'⟩, l1, l2, g2⟩ => by
    obtain ⟨ds, ⟨L, vs, ex, hL, a, n⟩, l3, l4, g4⟩ := sk_dlg W1 B1 _ _ _ w2 k3 gx
    have z1 := a.len
    have z2 := a'.len
    exact ⟨L, L', vs, us, ex, ey, hL, hL', sz (by omega), fun p np => q _ _ ((k2.trans k3).trans (KeepX.of (same_new np))) (w3.same sw (same_new np)) ⟨ds ++ es, p, _, rfl, w3.free ((k1.trans k2).trans k3) np, upd_same, ((a.same (same_new np)).app (a'.same (same_new np))).imp fun b hb => ⟨hb.1, fun e => hb.2 (by rw [e]; exact np)⟩, w3.new np, by rw [List.length_append]; omega, by rw [List.length_append]; omega, fun d hd => (List.mem_append.mp hd).elim (g4 d) (g2 d)⟩⟩
theorem dl_g {ds : List PyData} (h : ∀ d ∈ ds, G d) {H : Hp} {z : V} (g : isDL K F ds H z) : isDLG K F G ds.length ds.length H z := ⟨ds, g, Nat.le_refl _, Nat.le_refl _, h⟩
end
section
variable {K : PySem.W.Frag} {t : TE} {tt : TT} {σ : L2.St} {H : Hp} {xs : List V}
/-- a new list -/
abbrev isNw (H0 : Hp) (xs : List V) : RV := fun H z => ∃ D, z = .ref D ∧ H D = some (.lst xs) ∧ H0 D = none
theorem ev_lcTFn {i : Nat} (p : V → Bool) (hN : xs.length ≤ 1000) (a : Ev (isTV xs) t σ H) (hw : ∀ z : V, wipe ((wipe σ [i]).set i (some z)) [i] = wipe σ [i]) (he : ∀ z : V, ((wipe σ [i]).set i (some z))[i]? = some (some z))
    (b : ∀ z ∈ xs, ∀ H1, Same H H1 → EvT (p z) tt ((wipe σ [i]).set i (some z)) H1) : Ev (isNw H (xs.filter p)) (tLc (iTup K t) (gName i) tt (tVar i) [i]) σ H := fun H1 s1 Q q =>
  a H1 s1 _ fun H2 x s2 ⟨T, ex, hT⟩ => by
    subst ex
    refine ⟨T, rfl, ⟨_, SqT.of hT⟩, fun D nD => lcp_tup (p := p) (f := id) nD (SqT.of hT) (small64 hN) (fun j z Hc hz sc => ?_) (fun H3 s3 hD => ?_)⟩
    · intro R1 R2 h1 h2
      refine ⟨hw _, b z (List.mem_of_getElem? hz) Hc ((s1.trans s2).trans sc) Hc (Same.refl _) _ fun H4 s4 => ?_⟩
      cases hq : p z with
      | true => exact iteT ⟨_, he _, h2 hq _ s4⟩
      | false => exact iteF (h1 hq _ s4)
    · exact q _ _ (s2.trans s3) ⟨D, rfl, by rw [hD, List.map_id], Same.free (s1.trans s2) nD⟩
end
mutual
/-- no list, no dict -/
def noLs : PyData → Bool
  | .list _ => false
  | .dict _ => false
  | .tuple ds => noLsA ds
  | _ => true
def noLsA : List PyData → Bool
  | [] => true
  | d :: ds => noLs d && noLsA ds
end
mutual
theorem dp_pure {K : PySem.W.Frag} {H : Hp} : ∀ {v : V} {d : PyData}, Dp K H v d → noLs d = true → Dv K (fun _ => False) H v d
  | _, _, .non, _ => .non
  | _, _, .bl b, _ => .bl b
  | _, _, .int i, _ => .int i
  | _, _, .str x, _ => .str x
  | _, _, .lst _ _, h => by simp [noLs] at h
  | _, _, .tup h a, n => .tup h (dpA_pure a (by simpa [noLs] using n))
theorem dpA_pure {K : PySem.W.Frag} {H : Hp} : ∀ {vs : List V} {ds : List PyData}, DpAll K H vs ds → noLsA ds = true → DvAll K (fun _ => False) H vs ds
  | _, _, .nil, _ => .nil
  | _, _, .cons h a, n => by
    simp only [noLsA, Bool.and_eq_true] at n
    exact .cons (dp_pure h n.1) (dpA_pure a n.2)
end
end XT
/-! _law_odd, _law_pick -/
namespace XT
open PySem PySem.Spec PyProof.Rows L2
abbrev nOd : List Str := ["_law_stream_here", "_law_some"]
theorem scOd : FnScope nOd ["_law_stream_here"] (defScope sLOdd) := ⟨rfl, rfl, rfl, by decide +kernel, rfl, by decide +kernel, by decide +kernel⟩
section
variable {P : Program} {w : World} {K : PySem.W.Frag} {mg : Str → Option Value} {base : Heap}
def spOddS (K : PySem.W.Frag) : Sp := fun vs H Q _ => ∃ (S : Sm) (t : Int) (Nw : Addr → Prop), vs = [.ref S.s] ∧ Strm S H t ∧ t < 1000000 ∧ NwOk S H Nw ∧ ∀ (H' : Hp) (v : V) (d : PyData) (t' : Int), Step S H t H' t' 1 → Dv K (fun b => Nw b ∧ H' b ≠ none) H' v d → d ∈ oddD → Q v H'
theorem ok_oddS {f : Addr} {fd : FuncData} {k : Nat} (F : Fun K "_law_odd" "_law_odd" sLOdd f fd) (dD : DefR P w K mg base 1 "_law_draw" spDrawN) : FnOk P w K mg base CX0 (k + 2) f fd ["_law_stream_here"] (spOddS K) := by
  refine F.ok scOd (fun vs H Q E h => ?_) (fun cdv A outer s H vs Q E hr h => ?_)
  · obtain ⟨S, t, Nw, rfl, _⟩ := h
    rfl
  · obtain ⟨S, t, Nw, rfl, st, ht, hw, q⟩ := h
    refine ⟨_, pss_cons (ps_set (i := 1) scOd.nd rfl (.inl rfl) (pe_lst (pa_cons pe_non (pa_cons pe_bl (pa_cons pe_bl (pa_cons (pe_un un_neg pe_int) (pa_cons pe_int (pa_cons pe_int (pa_cons pe_int (pa_cons pe_int (pa_cons pe_int (pa_cons pe_int (pa_cons pe_int (pa_cons pe_int
        (pa_cons (pe_op op_pow pe_int pe_int) (pa_cons pe_str (pa_cons pe_str (pa_cons pe_str (pa_cons (pe_tup pa_nil) (pa_cons (pe_lstB pa_nil) (pa_cons pe_dnewK (pa_cons (pe_tup (pa_cons pe_int pa_nil)) (pa_cons (pe_lstB (pa_cons pe_int pa_nil)) (pa_cons (pe_tup (pa_cons pe_bl pa_nil)) pa_nil))))))))))))))))))))))))
      (pss_one (ps_ret (pe_ix ix_list (pe_op op_cat (pv 1) (pe_lst (pa_cons (pe_tup (pa_cons pe_int (pa_cons (pe_tup (pa_cons pe_int pa_nil)) pa_nil))) (pa_cons (pe_tup (pa_cons pe_int (pa_cons pe_int pa_nil))) (pa_cons (pe_disp (pps_cons pe_str pe_int pps_nil) rfl rfl (by decide) (by decide)) (pa_cons pe_str pa_nil))))))
        (pe_def dD (hr.mono (by omega)) (by rfl) (pa_cons (pv 0) (pa_cons pe_int pa_nil))) (fun _ _ => rfl)))), ?_⟩
    refine ⟨1, rfl, 10, 39, rfl, rfl, ⟨by decide, by decide, by decide⟩, sz (n := 0) (by decide), fun T1 nT1 => ⟨sz (n := 0) (by decide), fun L1 nL1 bL1 D1 nD1 => ⟨sz (n := 1) (by decide), fun T2 nT2 => ⟨sz (n := 1) (by decide), fun L2 nL2 bL2 => ⟨sz (n := 1) (by decide), fun T3 nT3 => ⟨sz (n := 22) (by decide), fun S0 nS0 => ?_⟩⟩⟩⟩⟩⟩
    have m1 := same_new (o := .tup []) nT1
    have m2 := same_new (o := .lst []) nL1
    have m3 := same_new (o := .dK []) nD1
    have m4 := same_new (o := .tup [.int 0]) nT2
    have m5 := same_new (o := .lst [.int 0]) nL2
    have m6 := same_new (o := .tup [.bl true]) nT3
    let xs : List V := [.non, .bl true, .bl false, .int (-1), .int 0, .int 1, .int 2, .int 3, .int 6, .int 7, .int 63, .int 64, .int (10 ^ (39 : Int).toNat), .str "", .str "0", .str "lot", .ref T1, .ref L1, .ref D1, .ref T2, .ref L2, .ref T3]
    have m7 := same_new (o := .lst xs) nS0
    refine ⟨.ref S0, rfl, sz (n := 1) (by decide), fun T4 nT4 => ⟨sz (n := 2) (by decide), fun T5 nT5 => ⟨sz (n := 2) (by decide), fun T6 nT6 D2 nD2 => ⟨upd_same, [(.inr "a", .int 1)], rfl, by decide, sz (n := 4) (by decide), fun M nM => ?_⟩⟩⟩⟩
    have m8 := same_new (o := .tup [.int 0]) nT4
    have m9 := same_new (o := .tup [.int 2, .ref T4]) nT5
    have m10 := same_new (o := .tup [.int 0, .int 1]) nT6
    have m11 : Same _ (upd (upd (upd (upd (upd (upd (upd (upd (upd (upd (upd (upd H T1 (.tup [])) L1 (.lst [])) D1 (.dK [])) T2 (.tup [.int 0])) L2 (.lst [.int 0])) T3 (.tup [.bl true])) S0 (.lst xs)) T4 (.tup [.int 0])) T5 (.tup [.int 2, .ref T4])) T6 (.tup [.int 0, .int 1])) D2 (.dK [])) D2 (.dK (mergeK [] [(.inr "a", .int 1)]))) := fun b o e => by
      rw [upd_ne (ne_of_none e nD2), upd_ne (ne_of_none e nD2)]
      exact e
    have m12 := same_new (o := .lst [.ref T5, .ref T6, .ref D2, .str "01"]) nM
    refine ⟨S0, M, _, _, rfl, rfl, m12 _ _ (m11 _ _ (m10 _ _ (m9 _ _ (m8 _ _ upd_same)))), upd_same, (by rw [sizeLine_eq]; show 22 + 4 ≤ 16777216; decide), fun C nC => ?_⟩
    have m13 := same_new (o := .lst (xs ++ [.ref T5, .ref T6, .ref D2, .str "01"])) nC
    have st1 := st.same m1
    have st2 := st1.same m2
    have st3 := st2.same m3
    have st4 := st3.same m4
    have st5 := st4.same m5
    have st6 := st5.same m6
    have st7 := st6.same m7
    have st8 := st7.same m8
    have st9 := st8.same m9
    have st10 := st9.same m10
    have st11 := st10.same m11
    have st12 := st11.same m12
    have st13 := st12.same m13
    refine ⟨.ref S.s, rfl, S, t, 26, rfl, st13, by omega, by omega, by omega, fun H9 r t9 s9 hr26 => ?_⟩
    have c12 := m12.trans m13
    have c11 := m11.trans c12
    have c10 := m10.trans c11
    have c9 := m9.trans c10
    have c8 := m8.trans c9
    have c7 := m7.trans c8
    have c6 := m6.trans c7
    have c5 := m5.trans c6
    have c4 := m4.trans c5
    have c3 := m3.trans c4
    have c2 := m2.trans c3
    have kT : ∀ {b : Addr} {zs : List V}, _ = some (HO.tup zs) → H9 b = some (.tup zs) := fun {b zs} e => s9.keep.tup st13 e
    have gT1 := kT (c2 T1 _ upd_same)
    have gT2 := kT (c5 T2 _ upd_same)
    have gT3 := kT (c7 T3 _ upd_same)
    have gT4 := kT (c9 T4 _ upd_same)
    have gT5 := kT (c10 T5 _ upd_same)
    have gT6 := kT (c11 T6 _ upd_same)
    have nL1s := strm_ne st1 nL1
    have nL2s := strm_ne st4 nL2
    have nD1s := strm_ne st2 nD1
    have nD2s := strm_ne st10 nD2
    have nCs := strm_ne st12 nC
    have gL1 := s9.keep L1 _ nL1s.1 nL1s.2.1 (c3 L1 _ upd_same)
    have gL2 := s9.keep L2 _ nL2s.1 nL2s.2.1 (c6 L2 _ upd_same)
    have gD1 := s9.keep D1 _ nD1s.1 nD1s.2.1 (c4 D1 _ upd_same)
    have gD2 := s9.keep D2 _ nD2s.1 nD2s.2.1 (c12 D2 _ upd_same)
    have gC := s9.keep C _ nCs.1 nCs.2.1 upd_same
    have all : DvAll K (fun b => Nw b ∧ H9 b ≠ none) H9 (xs ++ [.ref T5, .ref T6, .ref D2, .str "01"]) oddD :=
      .cons .non (.cons (.bl _) (.cons (.bl _) (.cons (.int _) (.cons (.int _) (.cons (.int _) (.cons (.int _) (.cons (.int _) (.cons (.int _) (.cons (.int _) (.cons (.int _) (.cons (.int _) (.cons (.int _) (.cons (.str _) (.cons (.str _) (.cons (.str _)
        (.cons (.tup (SqT.of gT1) .nil) (.cons (.lst (SqL.of gL1) bL1 ⟨hw.f _ (Same.free m1 nL1), by rw [gL1]; exact fun z => nomatch z⟩ .nil) (.cons (.dct [] gD1) (.cons (.tup (SqT.of gT2) (.cons (.int _) .nil)) (.cons (.lst (SqL.of gL2) bL2 ⟨hw.f _ (Same.free (((m1.trans m2).trans m3).trans m4) nL2), by rw [gL2]; exact fun z => nomatch z⟩ (.cons (.int _) .nil)) (.cons (.tup (SqT.of gT3) (.cons (.bl _) .nil))
        (.cons (.tup (SqT.of gT5) (.cons (.int _) (.cons (.tup (SqT.of gT4) (.cons (.int _) .nil)) .nil))) (.cons (.tup (SqT.of gT6) (.cons (.int _) (.cons (.int _) .nil))) (.cons (.dct [("a", 1)] gD2) (.cons (.str _) .nil)))))))))))))))))))))))))
    have hlt : r < (xs ++ [V.ref T5, V.ref T6, V.ref D2, V.str "01"]).length := by
      show r < 26
      exact hr26
    obtain ⟨d, hd, hz⟩ := all.at (List.getElem?_eq_getElem hlt)
    refine ⟨C, _, r, _, rfl, rfl, SqL.of gC, atI_nat (List.getElem?_eq_getElem hlt), ?_⟩
    exact q H9 _ d t9 ⟨(Keep.of (((m1.trans c2)))).trans s9.keep, s9.st, s9.lo, s9.hi⟩ hz (List.mem_of_getElem? hd)
end
end XT
/-! odd values in a world -/
namespace XT
open PySem PySem.Spec PyProof.Rows L2
section
variable {K : PySem.W.Frag} {S : Sm} {X : Ow} {W W1 W2 W3 : HpP} {B B1 B2 B3 : Int} {H H' : Hp} {t ta tb te : TE} {σ : L2.St} {d e : PyData} {ds : List PyData}
theorem nw_world (w : Wld S X W B H) : NwOk S H (fun b => ¬ XS S X b) := ⟨fun b h => ⟨fun e => h (.inl e), fun e => h (.inr (.inl e))⟩, fun b e => w.new e⟩
theorem ed_odd (sw : StyW X W1) (hB : B1 < 1000000) (a : EvD S X W B W1 B1 (isV (.ref S.s)) ta σ H) : EvD S X W B W1 (B1 + 1) (fun H z => ∃ d, isDP K S X d H z ∧ d ∈ oddD) (tDf (spOddS K) (tCons ta tNil)) σ H := fun H1 k1 w1 Q q =>
  a H1 k1 w1 _ fun H2 x k2 w2 ex => by
    obtain ⟨t, st, ht⟩ := w2.t
    refine ⟨S, t, fun b => ¬ XS S X b, by rw [ex], st, by omega, nw_world w2, fun H4 v d t4 s4 hv hd => ?_⟩
    obtain ⟨w4, k4⟩ := w2.step sw st ht s4
    exact q _ _ (k2.trans k4) w4 ⟨d, hv, hd⟩
end
end XT
namespace XT
open PySem PySem.Spec PyProof.Rows L2
abbrev nLk : List Str := ["_law_stream_here", "_law_lot", "_law_width", "_law_masks", "_law_count", "_law_way", "_law_turn", "_law_fresh", "_law_found", "_law_mask"]
theorem scLk : FnScope nLk ["_law_stream_here", "_law_lot"] (defScope sLike) := ⟨rfl, rfl, rfl, by decide +kernel, rfl, by decide +kernel, by decide +kernel⟩
theorem cut_tail (ks : List Nat) : cutV (vm ks) (some 1) none = vm (ks.drop 1) := by
  have e1 : HT.sIx (vm ks).length 0 (some 1) = min 1 (vm ks).length := HT.sIx_nat _ 0 1
  unfold cutV
  rw [e1, HT.sIx_none, vm_len]
  unfold vm
  cases ks with
  | nil => rfl
  | cons k ks =>
    have e2 : min 1 (k :: ks).length = 1 := by rw [List.length_cons]; omega
    rw [e2]
    show List.take ((k :: ks).length - 1) (ks.map fun (m : Nat) => V.int (m : Int)) = ks.map fun (m : Nat) => V.int (m : Int)
    exact List.take_of_length_le (by rw [List.length_map, List.length_cons]; omega)
section
variable {P : Program} {w : World} {K : PySem.W.Frag} {mg : Str → Option Value} {base : Heap}
def spLike : Sp := fun vs H Q _ => ∃ (S : Sm) (t : Int) (v : V) (n : Nat) (p : Nat → Bool), vs = [.ref S.s, v] ∧ Strm S H t ∧ LotAt H v n p ∧ n ≤ 6 ∧ t < 10000000 ∧
  ∀ (H' : Hp) (r : V) (p' : Nat → Bool) (t' : Int), Step S H t H' t' 100 → LotAt H' r n p' → Q r H'
def MidL (S : Sm) (H : Hp) (t : Int) (v : V) (n : Nat) (y : Addr) (way fr B : Nat) (σ : L2.St) (H' : Hp) : Prop := ∃ (M : Addr) (ks : List Nat) (t' : Int) (z6 : Option V),
  σ = [some (.ref S.s), some v, some (.int (n : Int)), some (.ref y), some (.int ((2 ^ n : Nat) : Int)), some (.int (way : Int)), z6, some (.int (fr : Int)), some (.ref M), none] ∧
  Step S H t H' t' B ∧ H' M = some (.lst (vm ks)) ∧ M ≠ S.s ∧ M ≠ S.p ∧ (∀ k ∈ ks, k < 2 ^ n) ∧ ks.length ≤ 70
theorem ok_like {f : Addr} {fd : FuncData} {k : Nat} (B : Bl mg) (F : Fun K "_law_like" "_law_like" sLike f fd) (dD : DefR P w K mg base 1 "_law_draw" spDrawN) : FnOk P w K mg base CX0 (k + 2) f fd ["_law_stream_here", "_law_lot"] spLike := by
  refine F.ok scLk (fun vs H Q E h => ?_) (fun cdv A outer s H vs Q E hr h => ?_)
  · obtain ⟨S, t, v, n, p, rfl, _⟩ := h
    rfl
  · obtain ⟨S, t, v, n, p, rfl, st, ⟨x, y, rfl, hx, hy⟩, hn, ht, q⟩ := h
    have hr1 : Room 1 (A.deeper (envOfC "_law_like" (defScope sLike) s.heap.objs.size f cdv)) := hr.mono (by omega)
    refine ⟨_, pss_cons (ps_asg (pv 1) (pg_tup rfl (pgs_cons (pg_name (i := 2) scLk.nd rfl (.inl rfl)) (pgs_cons (pg_name (i := 3) scLk.nd rfl (.inr rfl)) pgs_nil))))
      (pss_cons (ps_par (i := 4) (j := 5) (by rfl) scLk.nd rfl rfl (by decide) rfl rfl (pa_cons (pe_op op_shl pe_int (pv 2)) (pa_cons (pe_def dD hr1 (by rfl) (pa_cons (pv 0) (pa_cons pe_int pa_nil))) pa_nil)) (by rfl))
      (pss_cons (ps_asg (pe_tup (pa_cons (pe_def dD hr1 (by rfl) (pa_cons (pv 0) (pa_cons (pv 4) pa_nil))) (pa_cons (pe_def dD hr1 (by rfl) (pa_cons (pv 0) (pa_cons (pv 4) pa_nil))) pa_nil)))
          (pg_tup rfl (pgs_cons (pg_name (i := 6) scLk.nd rfl (.inr rfl)) (pgs_cons (pg_name (i := 7) scLk.nd rfl (.inl rfl)) pgs_nil))))
      (C8.pss_cut (ps_setLc (i := 8) (own := [("_law_mask", 9)]) (g := gName 9) (tt := tYes) rfl scLk.nd rfl rfl (sw_true rfl rfl rfl (by decide +kernel)) (pi_tup (pv 3)) (blkOk_by (own := [("_law_mask", 9)]) (N := nLk) (sc := defScope sLike) (by decide +kernel))
            (fun _ _ _ _ _ => pg_name (i := 9) scLk.nd rfl (Or.inl rfl)) (fun _ _ _ _ _ => pts_nil) (fun _ _ _ _ _ => pe_op op_xor (pv 9) (pv 6)))
      (C8.pss_cut (ps_if (pt_cmpR op_eq (pv 5) pe_int (nomark _)) (pss_one (ps_set (i := 8) scLk.nd rfl (.inl rfl) (pe_op op_cat (pe_slice sl_list (pv 8) (po_some pe_int) po_none) (pe_lst (pa_cons (pv 7) pa_nil))))) pss_nil)
      (C8.pss_cut (ps_if (pt_cmpR op_eq (pv 5) pe_int (nomark _))
          (pss_one (ps_setLc (i := 8) (own := [("_law_mask", 9)]) (g := gName 9) (te := tVar 9) rfl scLk.nd rfl rfl (sw_true rfl rfl rfl (by decide +kernel)) (pi_range1 (by rfl) B.range (pa_cons (pv 4) pa_nil)) (blkOk_by (own := [("_law_mask", 9)]) (N := nLk) (sc := defScope sLike) (by decide +kernel))
            (fun _ _ _ _ _ => pg_name (i := 9) scLk.nd rfl (Or.inl rfl)) (fun _ _ _ _ _ => pts_one (pt_cmpR op_eq (pe_def dD hr1 (by rfl) (pa_cons (pv 0) (pa_cons pe_int pa_nil))) pe_int (nomark _))) (fun _ _ _ _ _ => pv 9))) pss_nil)
      (C8.pss_cut (ps_if (pt_cmpR op_eq (pv 5) pe_int (nomark _))
          (pss_one (ps_setLc (i := 8) (own := [("_law_mask", 9)]) (g := gName 9) (tt := tTest (tOp (rIn K true) (tVar 9) (tVar 3))) (te := tVar 9) rfl scLk.nd rfl rfl (sw_true rfl rfl rfl (by decide +kernel)) (pi_range1 (by rfl) B.range (pa_cons (pv 4) pa_nil)) (blkOk_by (own := [("_law_mask", 9)]) (N := nLk) (sc := defScope sLike) (by decide +kernel))
            (fun _ _ _ _ _ => pg_name (i := 9) scLk.nd rfl (Or.inl rfl)) (fun _ _ _ _ _ => pts_one (pt_cmpR op_notIn_seq (pv 9) (pv 3) (by rfl))) (fun _ _ _ _ _ => pv 9))) pss_nil)
      (pss_one (ps_ret (pe_tup (pa_cons (pv 2) (pa_cons (pe_callTy call_tuple_of (by rfl) B.tuple bT (pa_cons (pe_callB (cr_sortS rfl) (by rfl) B.sorted bS (pa_cons (pe_callTy (cr_setL rfl) (by rfl) B.set bSet (pa_cons (pv 8) pa_nil)) pa_nil)) pa_nil)) pa_nil))))))))))), ?_⟩
    have p6 := pow6 (w := n) hn
    have p0 := pow0 n
    have hl := lot_len hn p
    refine ⟨.ref x, rfl, x, _, rfl, SqT.of hx, rfl, _, _, rfl, _, _, rfl, rfl, ?_⟩
    refine ⟨.int n, rfl, 1, n, rfl, rfl, cpow hn, .ref S.s, rfl, S, t, 5, rfl, st, by omega, by omega, by omega, fun H1 way t1 s1 hway => ⟨_, _, rfl, ?_⟩⟩
    have hi1 := s1.hi
    have ec : some (some (V.int (1 * 2 ^ ((n : Int).toNat)))) = some (some (V.int ((2 ^ n : Nat) : Int))) := congrArg (fun z => some (some (V.int z))) (shl1 n)
    refine ⟨.ref S.s, rfl, .int ((2 ^ n : Nat) : Int), ec, S, t1, 2 ^ n, rfl, s1.st, by omega, by omega, by omega, fun H2 tn t2 s2 htn => ?_⟩
    have hi2 := s2.hi
    refine ⟨.ref S.s, rfl, .int ((2 ^ n : Nat) : Int), ec, S, t2, 2 ^ n, rfl, s2.st, by omega, by omega, by omega, fun H3 fr t3 s3 hfr => ?_⟩
    refine ⟨sz (n := 2) (by decide), fun T nT => ⟨T, _, rfl, SqT.of upd_same, rfl, _, _, rfl, _, _, rfl, rfl, ?_⟩⟩
    have s4 := ((s1.trans s2).trans s3).same (same_new (o := .tup [.int (tn : Int), .int (fr : Int)]) nT)
    have hy4 := s4.keep.tup st hy
    -- found = [mask ^ turn for mask in masks]
    refine ⟨MidL S H t (.ref x) n y way fr 10, ?_, fun σ0 H0 mid0 => ?_⟩
    · refine ⟨.ref y, rfl, y, rfl, ⟨_, SqT.of hy4⟩, fun D nD => ?_⟩
      have fs := fresh_s s4.st nD
      refine lcp_tup (p := fun _ => true) (f := fun v => match v with | .int i => .int (Builtin.bitXor i tn) | v => v) nD (SqT.of hy4) (small64 (by rw [vm_len]; omega)) (fun i z H5 hz sm => ?_) (fun H5 sm hD => ?_)
      · intro R1 R2 h1 h2
        obtain ⟨m, hm, rfl⟩ := mem_vm hz
        exact ⟨rfl, iteT (B := R1 H5) ⟨_, rfl, .int tn, rfl, m, tn, rfl, rfl, h2 rfl _ (Same.refl _)⟩⟩
      · have e : (((vm (lotOf n p)).filter fun _ => true).map fun v => match v with | .int i => V.int (Builtin.bitXor i tn) | v => v) = vm ((lotOf n p).map fun m => m ^^^ tn) := by
          rw [List.filter_eq_self.mpr (fun _ _ => rfl)]
          unfold vm
          rw [List.map_map, List.map_map]
          refine List.map_congr_left fun m _ => ?_
          show V.int (Builtin.bitXor (m : Int) (tn : Int)) = V.int ((m ^^^ tn : Nat) : Int)
          rw [bx]
        rw [e] at hD
        refine ⟨D, _, t3, some (.int (tn : Int)), ?_, (s4.same sm).mono (by omega), hD, fs.1, fs.2, ?_, by rw [List.length_map]; omega⟩
        · rw [← shl1 n]; rfl
        · intro k hk
          obtain ⟨m, hm, rfl⟩ := List.mem_map.mp hk
          exact xor_lt (mem_lot.mp hm).1 htn
    -- if way == 1
    refine ⟨MidL S H t (.ref x) n y way fr 20, ?_, fun σ1 H1 mid1 => ?_⟩
    · obtain ⟨M, ks, t', z6, rfl, stp, hM, as, ap, hk, hl⟩ := mid0
      refine ⟨.int way, rfl, rfl, _, rfl, ite2 (fun e => ?_) (fun e => ?_)⟩
      · refine ⟨.ref M, rfl, 1, rfl, M, _, rfl, SqL.of hM, fun L nL => ?_⟩
        have sL := same_new (o := .lst (cutV (vm ks) (some 1) none)) nL
        refine ⟨.int fr, rfl, sz (n := 1) (by decide), fun G nG => ?_⟩
        have sG := same_new (o := .lst [.int (fr : Int)]) nG
        refine ⟨L, G, vm (ks.drop 1), vm [fr], rfl, rfl, ?_, upd_same, ?_, fun C nC => ?_⟩
        · rw [upd_ne (ne_of_none upd_same nG), upd_same, cut_tail]
        · rw [vm_len, vm_len, List.length_drop]; exact sz (by simp; omega)
        · have fs := fresh_s ((stp.same sL).same sG).st nC
          refine ⟨C, ks.drop 1 ++ [fr], t', z6, rfl, (((stp.same sL).same sG).same (same_new nC)).mono (by omega), ?_, fs.1, fs.2, ?_, ?_⟩
          · rw [upd_same]; unfold vm; rw [List.map_append]
          · intro k hk2
            rcases List.mem_append.mp hk2 with hk2 | hk2
            · exact hk k (List.mem_of_mem_drop hk2)
            · rw [List.mem_singleton.mp hk2]; exact hfr
          · rw [List.length_append, List.length_drop]; simp; omega
      · exact ⟨M, ks, t', z6, rfl, stp.mono (by omega), hM, as, ap, hk, hl⟩
    -- if way == 2
    refine ⟨MidL S H t (.ref x) n y way fr 90, ?_, fun σ2 H2 mid2 => ?_⟩
    · obtain ⟨M, ks, t', z6, rfl, stp, hM, as, ap, hk, hl⟩ := mid1
      refine ⟨.int way, rfl, rfl, _, rfl, ite2 (fun e => ?_) (fun e => ?_)⟩
      · refine ⟨.int ((2 ^ n : Nat) : Int), rfl, ((2 ^ n : Nat) : Int), rfl, l62, r62 (by omega), fun D nD => ?_⟩
        have hi0 := stp.hi
        refine lcs_range (S := S) (c := 2 ^ n) (d := 1) (n := 2 ^ n) stp.st nD (by omega) (fun i H3 t3 hi s3 => ?_) (fun H3 pv => ?_)
        · intro R1 R2 h1 h2
          have hi3 := s3.hi
          refine ⟨rfl, .ref S.s, rfl, S, t3, 2, rfl, s3.st, by omega, by omega, by omega, fun H4 r t4 s4 hr4 => ⟨rfl, _, rfl, ite2 (fun e => ?_) (fun e => ?_)⟩⟩
          · refine ⟨.int (0 + (i : Int)), rfl, ?_⟩
            rw [Int.zero_add]
            exact h2 i H4 t4 s4 hi
          · exact h1 H4 t4 s4
        · obtain ⟨ks2, t3, s3, hD, hk2, hl2⟩ := pv
          have fs := fresh_s stp.st nD
          exact ⟨D, ks2, t3, z6, rfl, (stp.trans s3).mono (by omega), hD, fs.1, fs.2, hk2, by omega⟩
      · exact ⟨M, ks, t', z6, rfl, stp.mono (by omega), hM, as, ap, hk, hl⟩
    -- if way == 3
    refine ⟨MidL S H t (.ref x) n y way fr 100, ?_, fun σ3 H3 mid3 => ?_⟩
    · obtain ⟨M, ks, t', z6, rfl, stp, hM, as, ap, hk, hl⟩ := mid2
      have hyH := stp.keep.tup st hy
      refine ⟨.int way, rfl, rfl, _, rfl, ite2 (fun e => ?_) (fun e => ?_)⟩
      · refine ⟨.int ((2 ^ n : Nat) : Int), rfl, ((2 ^ n : Nat) : Int), rfl, l62, r62 (by omega), fun L nL => ?_⟩
        have fsL := fresh_s stp.st nL
        refine lcp_range (n := 2 ^ n) (p := fun m => !decide (m ∈ lotOf n p)) (f := fun m => .int (m : Int)) nL (small64 (by omega)) (fun i H7 hi s7 => ?_) (fun H7 s7 hL => ?_)
        · intro R1 R2 h1 h2
          refine ⟨rfl, _, rfl, .ref y, rfl, y, _, rfl, .inr (SqT.of (s7 _ _ hyH)), rfl, vm_flat _, _, rfl, ?_⟩
          have e : inV (.int (0 + (i : Int))) (vm (lotOf n p)) = decide (i ∈ lotOf n p) := by
            rw [Int.zero_add]; exact in_vm i _
          show if (!inV (.int (0 + (i : Int))) (vm (lotOf n p))) = true then _ else _
          rw [e]
          refine ite2 (fun z => ?_) (fun z => ?_)
          · refine ⟨.int (0 + (i : Int)), rfl, ?_⟩
            rw [Int.zero_add]
            exact h2 z _ (Same.refl _)
          · exact h1 (by simpa using z) _ (Same.refl _)
        · refine ⟨L, (List.range (2 ^ n)).filter fun m => !decide (m ∈ lotOf n p), t', z6, rfl, (stp.same s7).mono (by omega), hL, fsL.1, fsL.2, fun k hk => ?_, ?_⟩
          · exact List.mem_range.mp (List.mem_filter.mp hk).1
          · refine Nat.le_trans (List.length_filter_le _ _) ?_
            rw [List.length_range]; omega
      · exact ⟨M, ks, t', z6, rfl, stp.mono (by omega), hM, as, ap, hk, hl⟩
    -- return
    obtain ⟨M, ks, t', z6, rfl, stp, hM, as, ap, hk, hl⟩ := mid3
    refine ⟨.int n, rfl, .ref M, rfl, M, ks.map fun (k : Nat) => (k : Int), rfl, SqL.of (by rw [hM, vm_ints]), by rw [List.length_map]; omega, fun G c nG => ?_⟩
    have sG := same_new (o := SetO w G (fun j => decide (j ∈ ks.map fun (k : Nat) => (k : Int))) c) nG
    refine ⟨G, _, c, rfl, upd_same, fun ns L asc hm nL => ?_⟩
    have sL := same_new (o := .lst (ns.map V.int)) nL
    refine ⟨L, _, rfl, .inl ⟨SqL.of upd_same, fun T3 nT3 => ⟨sz (n := 2) (by decide), fun U nU => ?_⟩⟩⟩
    refine q _ _ (fun m => decide (m ∈ ks)) t' ((((stp.same sG).same sL).same (same_new nT3)).same (same_new nU)) ⟨U, T3, rfl, upd_same, ?_⟩
    rw [upd_ne (ne_of_none upd_same nU), upd_same, rising_lot (w := n) (P := fun m => decide (m ∈ ks)) asc fun z => ?_]
    rw [hm z, decide_eq_true_iff, List.mem_map]
    constructor
    · rintro ⟨m, h1, h2⟩
      exact ⟨m, h2.symm, hk m h1, decide_eq_true h1⟩
    · rintro ⟨m, h1, h2, h3⟩
      exact ⟨m, of_decide_eq_true h3, h1.symm⟩
end
end XT
/-! drawn lots in a world; one of several values by a drawn index -/
namespace XT
open PySem PySem.Spec PyProof.Rows L2
section
variable {K : PySem.W.Frag} {S : Sm} {X : Ow} {W W1 W2 W3 : HpP} {B B1 B2 B3 : Int} {H H' : Hp} {t ta tb te : TE} {σ : L2.St}
theorem ed_like {n : Nat} {p : Nat → Bool} (sw : StyW X W2) (hn : n ≤ 6) (hB : B2 < 1000000) (a : EvD S X W B W1 B1 (isV (.ref S.s)) ta σ H) (b : EvD S X W1 B1 W2 B2 (isLot n p) tb σ H) : EvD S X W B W2 (B2 + 100) (fun H z => ∃ p', LotAt H z n p') (tDf spLike (tCons ta (tCons tb tNil))) σ H := fun H1 s1 w1 Q q =>
  a H1 s1 w1 _ fun H2 x s2 w2 ex => b H2 (s1.trans s2) w2 _ fun H3 y s3 w3 gy => by
    obtain ⟨t, st, ht⟩ := w3.t
    refine ⟨S, t, y, n, p, by rw [ex], st, gy, hn, by omega, fun H4 r p' t4 s4 hl => ?_⟩
    obtain ⟨w4, k4⟩ := w3.step sw st ht s4
    exact q _ _ ((s2.trans s3).trans k4) w4 ⟨p', hl⟩
end
end XT
namespace XT
open PySem PySem.Spec PyProof.Rows L2
section
variable {P : Program} {w : World} {K : PySem.W.Frag} {mg : Str → Option Value} {base : Heap}
theorem scNum : FnScope ["value"] ["value"] (defScope sNum) := ⟨rfl, rfl, rfl, by decide +kernel, rfl, by decide +kernel, by decide +kernel⟩
def spNum : Sp := fun vs H Q _ => ∃ i, vs = [.int i] ∧ Q (.bl true) H
theorem ok_num {f : Addr} {fd : FuncData} {k : Nat} (B : Bl mg) (F : Fun K "is_number" "is_number" sNum f fd) : FnOk P w K mg base CX0 (k + 1) f fd ["value"] spNum := by
  refine F.ok scNum (fun vs H Q E h => ?_) (fun cdv A outer s H vs Q E hr h => ?_)
  · obtain ⟨i, rfl, _⟩ := h
    rfl
  · obtain ⟨i, rfl, q⟩ := h
    refine ⟨_, pss_one (ps_ret (pe_and (pe_callB call_isi (by rfl) B.isinstance bI (pa_cons (pv 0) (pa_cons (pe_bltn (v := .ty "int") (by rfl) B.int bInt rfl) pa_nil)))
      (pe_one (pe_not (pe_callB call_isi (by rfl) B.isinstance bI (pa_cons (pv 0) (pa_cons (pe_bltn (v := .ty "bool") (by rfl) B.bool bBool rfl) pa_nil))))))), ?_⟩
    refine ⟨.int i, rfl, .int i, .ty "int", _, _, true, rfl, .ty _, .base (.int i), kit_ty (by decide +kernel), true, rfl, iteT ?_⟩
    refine ⟨.int i, rfl, .int i, .ty "bool", _, _, false, rfl, .ty _, .base (.int i), kit_ty (by decide +kernel), false, rfl, ?_⟩
    exact q
end
end XT
namespace XT
open PySem PySem.Spec PyProof.Rows L2
section
variable {P : Program} {w : World} {K : PySem.W.Frag} {mg : Str → Option Value} {base : Heap}
theorem scMask : FnScope ["value", "width"] ["value", "width"] (defScope sMask) := ⟨rfl, rfl, rfl, by decide +kernel, rfl, by decide +kernel, by decide +kernel⟩
def spMask : Sp := fun vs H Q _ => ∃ (a n : Nat), vs = [.int (a : Int), .int (n : Int)] ∧ n ≤ 6 ∧ a < 2 ^ n ∧ Q (.bl true) H
theorem ok_mask {f : Addr} {fd : FuncData} {k : Nat} (F : Fun K "is_mask" "is_mask" sMask f fd) (dN : DefR P w K mg base 1 "is_number" spNum) : FnOk P w K mg base CX0 (k + 2) f fd ["value", "width"] spMask := by
  refine F.ok scMask (fun vs H Q E h => ?_) (fun cdv A outer s H vs Q E hr h => ?_)
  · obtain ⟨a, n, rfl, _⟩ := h
    rfl
  · obtain ⟨a, n, rfl, hn, ha, q⟩ := h
    refine ⟨_, pss_one (ps_ret (pe_and (pe_def dN (hr.mono (by omega)) (by rfl) (pa_cons (pv 0) pa_nil)) (pe_one (pe_chain op_le op_lt pe_int (pv 0) (pe_op op_shl pe_int (pv 1)))))), ?_⟩
    refine ⟨.int a, rfl, a, rfl, true, rfl, iteT ?_⟩
    refine ⟨.int a, rfl, 0, a, rfl, rfl, true, ?_, iteT ?_⟩
    · exact congrArg V.bl (decide_eq_true (by omega))
    · refine ⟨.int n, rfl, 1, n, rfl, rfl, cpow hn, a, _, rfl, rfl, ?_⟩
      have e : decide ((a : Int) < 1 * 2 ^ ((n : Int).toNat)) = true := decide_eq_true (by rw [shl1]; omega)
      show Q (V.bl (decide ((a : Int) < 1 * 2 ^ ((n : Int).toNat)))) H
      rw [e]
      exact q
end
end XT
/-! lots that are valid are judged so -/
namespace XT
open PySem PySem.Spec PyProof.Rows L2
section
variable {P : Program} {w : World} {K : PySem.W.Frag} {mg : Str → Option Value} {base : Heap}
theorem scIw : FnScope ["value"] ["value"] (defScope sIsW) := ⟨rfl, rfl, rfl, by decide +kernel, rfl, by decide +kernel, by decide +kernel⟩
def spIw : Sp := fun vs H Q _ => ∃ (n : Nat), vs = [.int (n : Int)] ∧ 1 ≤ n ∧ n ≤ 6 ∧ Q (.bl true) H
theorem ok_iw {f : Addr} {fd : FuncData} {k : Nat} {tk : Tok} (F : Fun K "is_width" "is_width" sIsW f fd) (hW : mg "MAX_WIDTH" = some (.int 6 tk)) (dN : DefR P w K mg base 1 "is_number" spNum) : FnOk P w K mg base CX0 (k + 2) f fd ["value"] spIw := by
  refine F.ok scIw (fun vs H Q E h => ?_) (fun cdv A outer s H vs Q E hr h => ?_)
  · obtain ⟨n, rfl, _⟩ := h
    rfl
  · obtain ⟨n, rfl, h1, h6, q⟩ := h
    refine ⟨_, pss_one (ps_ret (pe_and (pe_def dN (hr.mono (by omega)) (by rfl) (pa_cons (pv 0) pa_nil)) (pe_one (pe_chain op_le op_le pe_int (pv 0) (pe_glob (v := .int 6) (by rfl) hW ⟨tk, rfl⟩))))), ?_⟩
    refine ⟨.int n, rfl, n, rfl, true, rfl, iteT ?_⟩
    refine ⟨.int n, rfl, 1, n, rfl, rfl, true, ?_, iteT ?_⟩
    · exact congrArg V.bl (decide_eq_true (by omega))
    · refine ⟨n, _, rfl, rfl, ?_⟩
      have e : decide ((n : Int) ≤ 6) = true := decide_eq_true (by omega)
      show Q (V.bl (decide ((n : Int) ≤ 6))) H
      rw [e]
      exact q
abbrev nMe : List Str := ["width", "masks", "least", "index", "mask"]
theorem scMe : FnScope nMe ["width", "masks"] (defScope sMaskE) := ⟨rfl, rfl, rfl, by decide +kernel, rfl, by decide +kernel, by decide +kernel⟩
def spMe : Sp := fun vs H Q _ => ∃ (n : Nat) (p : Nat → Bool) (y : Addr), vs = [.int (n : Int), .ref y] ∧ H y = some (.tup (vm (lotOf n p))) ∧ n ≤ 6 ∧ ∀ H', Same H H' → Q .non H'
theorem ok_me {f : Addr} {fd : FuncData} {k : Nat} (B : Bl mg) (F : Fun K "mask_error" "mask_error" sMaskE f fd) (dM : DefR P w K mg base 2 "is_mask" spMask) : FnOk P w K mg base CX0 (k + 3) f fd ["width", "masks"] spMe := by
  refine F.ok scMe (fun vs H Q E h => ?_) (fun cdv A outer s H vs Q E hr h => ?_)
  · obtain ⟨n, p, y, rfl, _⟩ := h
    rfl
  · obtain ⟨n, p, y, rfl, hy, hn, q⟩ := h
    refine ⟨_, pss_cons (ps_set (i := 2) scMe.nd rfl (by first | exact Or.inl rfl | exact Or.inr rfl) pe_int)
      (pss_cons (ps_for PassesOwn.never rfl (pi_enumT (by rfl) B.enumerate (pa_cons (pv 1) pa_nil)) (pg_tup rfl (pgs_cons (pg_name (i := 3) scMe.nd rfl (by first | exact Or.inl rfl | exact Or.inr rfl)) (pgs_cons (pg_name (i := 4) scMe.nd rfl (by first | exact Or.inl rfl | exact Or.inr rfl)) pgs_nil)))
        (pss_cons (ps_if (PW.pt (pw_or (pt_not (pt_val (pe_def dM (hr.mono (by omega)) (by rfl) (pa_cons (pv 4) (pa_cons (pv 0) pa_nil))))) (pw_or1 (pt_cmpR op_lt (pv 4) (pv 2) (nomark _))))) pss_never pss_nil)
        (pss_one (ps_set (i := 2) scMe.nd rfl (by first | exact Or.inl rfl | exact Or.inr rfl) (pe_op op_add (pv 4) pe_int)))))
      (pss_one (ps_ret pe_non))), ?_⟩
    refine ⟨.ref y, rfl, y, _, rfl, SqT.of hy, for_enumT (K := K) (xs := vm (lotOf n p)) (fun i σ H' => Same H H' ∧ ∃ (l : Nat) (z3 z4 : Option V), σ = [some (.int (n : Int)), some (.ref y), some (.int (l : Int)), z3, z4] ∧ ∀ j m, i ≤ j → (lotOf n p)[j]? = some m → l ≤ m) ⟨Same.refl _, 0, none, none, rfl, fun _ _ _ _ => Nat.zero_le _⟩ (fun i σ H' _ h => SqT.of (h.1 _ _ hy)) (fun i x σ H1 T hx1 h nT => ?_) (fun σ H1 h => ?_)⟩
    · obtain ⟨s1, l, z3, z4, rfl, hl⟩ := h
      obtain ⟨m, hm, rfl⟩ := mem_vm hx1
      have hm2 := mem_lot.mp (List.mem_of_getElem? hm)
      have sT := same_new (o := .tup [.int (i : Nat), .int (m : Int)]) nT
      have lm := hl i m (Nat.le_refl _) hm
      refine ⟨T, _, rfl, SqT.of upd_same, rfl, _, _, rfl, _, _, rfl, rfl, ?_⟩
      refine ⟨.int (m : Int), rfl, .int (n : Int), rfl, m, n, rfl, hn, hm2.1, true, rfl, iteF ?_⟩
      refine ⟨.int (m : Int), rfl, .int (l : Int), rfl, _, _, rfl, rfl, _, rfl, iteNT (decide_eq_false (by omega)) ?_⟩
      refine ⟨.int (m : Int), rfl, _, _, rfl, rfl, s1.trans sT, m + 1, _, _, rfl, fun j m' hj hm' => ?_⟩
      have hi := (List.getElem?_eq_some_iff.mp hm).1
      obtain ⟨hj2, ej⟩ := List.getElem?_eq_some_iff.mp hm'
      have r := lot_rising n p
      rw [List.pairwise_map] at r
      have := List.pairwise_iff_getElem.mp r i j hi hj2 (by omega)
      rw [(List.getElem?_eq_some_iff.mp hm).2, ej] at this
      omega
    · obtain ⟨s1, l, z3, z4, rfl, hl⟩ := h
      exact q _ s1
abbrev nLe : List Str := ["value", "width", "masks"]
theorem scLe : FnScope nLe ["value"] (defScope sLotE) := ⟨rfl, rfl, rfl, by decide +kernel, rfl, by decide +kernel, by decide +kernel⟩
def spLe : Sp := fun vs H Q _ => ∃ (v : V) (n : Nat) (p : Nat → Bool), vs = [v] ∧ LotAt H v n p ∧ 1 ≤ n ∧ n ≤ 6 ∧ ∀ H', Same H H' → Q .non H'
theorem ok_le {f : Addr} {fd : FuncData} {k : Nat} (B : Bl mg) (F : Fun K "lot_error" "lot_error" sLotE f fd) (dW : DefR P w K mg base 2 "is_width" spIw) (dE : DefR P w K mg base 3 "mask_error" spMe) : FnOk P w K mg base CX0 (k + 4) f fd ["value"] spLe := by
  refine F.ok scLe (fun vs H Q E h => ?_) (fun cdv A outer s H vs Q E hr h => ?_)
  · obtain ⟨v, n, p, rfl, _⟩ := h
    rfl
  · obtain ⟨v, n, p, rfl, ⟨x, y, rfl, hx, hy⟩, h1, h6, q⟩ := h
    refine ⟨_, pss_cons (ps_if (PW.pt (pw_or (pt_not (pt_val (pe_callB call_isi (by rfl) B.isinstance bI (pa_cons (pv 0) (pa_cons (pe_bltn (v := .ty "tuple") (by rfl) B.tuple bT rfl) pa_nil))))) (pw_or1 (pt_cmpR op_ne (pe_callB call_len_seq (by rfl) B.len PySem.boot_len (pa_cons (pv 0) pa_nil)) pe_int (nomark _))))) pss_never pss_nil)
      (pss_cons (ps_asg (pv 0) (pg_tup rfl (pgs_cons (pg_name (i := 1) scLe.nd rfl (by first | exact Or.inl rfl | exact Or.inr rfl)) (pgs_cons (pg_name (i := 2) scLe.nd rfl (by first | exact Or.inl rfl | exact Or.inr rfl)) pgs_nil))))
      (pss_cons (ps_if (pt_not (pt_val (pe_def dW (hr.mono (by omega)) (by rfl) (pa_cons (pv 1) pa_nil)))) pss_never pss_nil)
      (pss_cons (ps_if (pt_not (pt_val (pe_callB call_isi (by rfl) B.isinstance bI (pa_cons (pv 2) (pa_cons (pe_bltn (v := .ty "tuple") (by rfl) B.tuple bT rfl) pa_nil))))) pss_never pss_nil)
      (pss_one (ps_ret (pe_def dE (hr.mono (by omega)) (by rfl) (pa_cons (pv 1) (pa_cons (pv 2) pa_nil)))))))), ?_⟩
    refine ⟨.ref x, rfl, .ref x, .ty "tuple", _, _, true, rfl, .ty _, .base (.tup hx), kit_ty (by decide +kernel), true, rfl, iteF ?_⟩
    refine ⟨.ref x, rfl, x, _, rfl, .inr (SqT.of hx), rfl, _, rfl, iteNT rfl ?_⟩
    refine ⟨.ref x, rfl, x, _, rfl, SqT.of hx, rfl, _, _, rfl, _, _, rfl, rfl, ?_⟩
    refine ⟨.int n, rfl, n, rfl, h1, h6, true, rfl, iteF ?_⟩
    refine ⟨.ref y, rfl, .ref y, .ty "tuple", _, _, true, rfl, .ty _, .base (.tup hy), kit_ty (by decide +kernel), true, rfl, iteF ?_⟩
    exact ⟨.int n, rfl, .ref y, rfl, n, p, y, rfl, hy, h6, q⟩
end
end XT
namespace XT
open PySem PySem.Spec PyProof.Rows L2
section
variable {P : Program} {w : World} {K : PySem.W.Frag} {mg : Str → Option Value} {base : Heap}
abbrev nCk : List Str := ["value", "error"]
theorem scCk : FnScope nCk ["value"] (defScope sCheckLot) := ⟨rfl, rfl, rfl, by decide +kernel, rfl, by decide +kernel, by decide +kernel⟩
def spCk : Sp := fun vs H Q _ => ∃ (v : V) (n : Nat) (p : Nat → Bool), vs = [v] ∧ LotAt H v n p ∧ 1 ≤ n ∧ n ≤ 6 ∧ ∀ H', Same H H' → Q .non H'
theorem ok_ck {f : Addr} {fd : FuncData} {k : Nat} (F : Fun K "check_lot" "check_lot" sCheckLot f fd) (dE : DefR P w K mg base 4 "lot_error" spLe) : FnOk P w K mg base CX0 (k + 5) f fd ["value"] spCk := by
  refine F.ok scCk (fun vs H Q E h => ?_) (fun cdv A outer s H vs Q E hr h => ?_)
  · obtain ⟨v, n, p, rfl, _⟩ := h
    rfl
  · obtain ⟨v, n, p, rfl, hv, h1, h6, q⟩ := h
    refine ⟨_, pss_cons (ps_set (i := 1) scCk.nd rfl (by first | exact Or.inl rfl | exact Or.inr rfl) (pe_def dE (hr.mono (by omega)) (by rfl) (pa_cons (pv 0) pa_nil)))
      (pss_one (ps_if (pt_cmpR op_notN (pv 1) pe_non (nomark _)) pss_never pss_nil)), ?_⟩
    exact ⟨v, rfl, v, n, p, rfl, hv, h1, h6, fun H' s' => ⟨.non, rfl, rfl, _, rfl, iteNT rfl (q _ s')⟩⟩
end
end XT
namespace XT
open PySem PySem.Spec PyProof.Rows L2
section
variable {P : Program} {w : World} {K : PySem.W.Frag} {mg : Str → Option Value} {base : Heap}
theorem scTurned : FnScope ["lot", "mask", "width", "masks", "x"] ["lot", "mask"] (defScope sTurned) := ⟨rfl, rfl, rfl, by decide +kernel, rfl, by decide +kernel, by decide +kernel⟩
def spTurned : Sp := fun vs H Q _ => ∃ (v : V) (n a : Nat) (p : Nat → Bool), vs = [v, .int (a : Int)] ∧ LotAt H v n p ∧ n ≤ 6 ∧ a < 2 ^ n ∧
  ∀ H' r, Same H H' → LotAt H' r n (fun m => p (m ^^^ a)) → (lotOf n fun m => p (m ^^^ a)).length = (lotOf n p).length → Q r H'
theorem lot_nodup (n : Nat) (p : Nat → Bool) : (lotOf n p).Nodup := by
  unfold lotOf
  exact List.Pairwise.filter _ (List.nodup_range)
theorem xor_nodup (a : Nat) {l : List Nat} (h : l.Nodup) : (l.map fun (m : Nat) => ((m ^^^ a : Nat) : Int)).Nodup := by
  unfold List.Nodup at h ⊢
  rw [List.pairwise_map]
  refine h.imp fun {x y} hxy e => hxy ?_
  have e2 : x ^^^ a = y ^^^ a := by omega
  have e3 := congrArg (· ^^^ a) e2
  simpa [Nat.xor_assoc] using e3
theorem ok_turned {f : Addr} {fd : FuncData} {k : Nat} (B : Bl mg) (F : Fun K "turned" "turned" sTurned f fd) (dM : DefR P w K mg base 2 "is_mask" spMask) : FnOk P w K mg base CX0 (k + 3) f fd ["lot", "mask"] spTurned := by
  refine F.ok scTurned (fun vs H Q E h => ?_) (fun cdv A outer s H vs Q E hr h => ?_)
  · obtain ⟨v, n, a, p, rfl, _⟩ := h
    rfl
  · obtain ⟨v, n, a, p, rfl, ⟨x, y, rfl, hx, hy⟩, hn, ha, q⟩ := h
    refine ⟨_, pss_cons (ps_asg (pv 0) (pg_tup rfl (pgs_cons (pg_name (i := 2) scTurned.nd rfl (.inl rfl)) (pgs_cons (pg_name (i := 3) scTurned.nd rfl (.inl rfl)) pgs_nil))))
      (pss_cons (ps_if (pt_not (pt_val (pe_def dM (hr.mono (by omega)) (by rfl) (pa_cons (pv 1) (pa_cons (pv 2) pa_nil))))) pss_never pss_nil)
      (pss_one (ps_ret (pe_tup (pa_cons (pv 2) (pa_cons (pe_callTy call_tuple_of (by rfl) B.tuple bT (pa_cons (pe_callB cr_sortedI (by rfl) B.sorted bS (pa_cons
        (pe_lc (own := [("x", 4)]) (g := gName 4) (tt := tYes) rfl scTurned.nd (pi_tup (pv 3)) (blkOk_by (own := [("x", 4)]) (N := ["lot", "mask", "width", "masks", "x"]) (sc := defScope sTurned) (by decide +kernel))
          (fun _ _ _ _ _ => pg_name (i := 4) scTurned.nd rfl (Or.inl rfl)) (fun _ _ _ _ _ => pts_nil) (fun _ _ _ _ _ => pe_op op_xor (pv 4) (pv 1))) pa_nil)) pa_nil)) pa_nil)))))), ?_⟩
    refine ⟨.ref x, rfl, x, _, rfl, SqT.of hx, rfl, _, _, rfl, _, _, rfl, rfl, ?_⟩
    refine ⟨.int a, rfl, .int n, rfl, a, n, rfl, hn, ha, true, rfl, iteF ?_⟩
    have hl := lot_len hn p
    refine ⟨.int n, rfl, .ref y, rfl, y, rfl, ⟨_, SqT.of hy⟩, fun D nD => lcp_tup (p := fun _ => true) (f := fun v => match v with | .int i => .int (Builtin.bitXor i a) | v => v) nD (SqT.of hy) (small64 (by rw [vm_len]; omega)) (fun i z H3 hz sm => ?_) (fun H3 sm hD => ?_)⟩
    · intro R1 R2 h1 h2
      unfold vm at hz
      rw [List.getElem?_map] at hz
      obtain ⟨m, -, rfl⟩ := Option.map_eq_some_iff.mp hz
      exact ⟨rfl, iteT (B := R1 H3) ⟨_, rfl, .int a, rfl, m, a, rfl, rfl, h2 rfl _ (Same.refl _)⟩⟩
    · have e : (((vm (lotOf n p)).filter fun _ => true).map fun v => match v with | .int i => V.int (Builtin.bitXor i a) | v => v) = ((lotOf n p).map fun (m : Nat) => ((m ^^^ a : Nat) : Int)).map V.int := by
        rw [List.filter_eq_self.mpr (fun _ _ => rfl), List.map_map]
        unfold vm
        rw [List.map_map]
        refine List.map_congr_left fun m _ => ?_
        show V.int (Builtin.bitXor (m : Int) (a : Int)) = V.int ((m ^^^ a : Nat) : Int)
        rw [bx]
      rw [e] at hD
      refine ⟨D, _, rfl, SqL.of hD, fun ns L perm asc nL => ?_⟩
      have s4 : Same H3 (upd H3 L (.lst (ns.map V.int))) := same_new nL
      refine ⟨L, _, rfl, .inl ⟨SqL.of upd_same, fun T nT => ?_⟩⟩
      have s5 := same_new (o := .tup (ns.map V.int)) nT
      refine ⟨sz (n := 2) (by decide), fun U nU => ?_⟩
      have s6 := same_new (o := .tup [.int (n : Int), .ref T]) nU
      -- the masks
      have nd : ns.Nodup := by
        rw [perm.nodup_iff]
        exact xor_nodup a (lot_nodup n p)
      have hm : ns.map V.int = vm (lotOf n fun m => p (m ^^^ a)) := by
        refine rising_lot (lt_of_le_nodup ns asc nd) fun k => ?_
        rw [perm.mem_iff, List.mem_map]
        constructor
        · rintro ⟨m, hm, rfl⟩
          obtain ⟨h1, h2⟩ := mem_lot.mp hm
          exact ⟨m ^^^ a, rfl, xor_lt h1 ha, by rw [Nat.xor_assoc, Nat.xor_self, Nat.xor_zero]; exact h2⟩
        · rintro ⟨m, rfl, h1, h2⟩
          exact ⟨m ^^^ a, mem_lot.mpr ⟨xor_lt h1 ha, h2⟩, by rw [Nat.xor_assoc, Nat.xor_self, Nat.xor_zero]⟩
      refine q _ _ (((sm.trans s4).trans s5).trans s6) ⟨U, T, rfl, upd_same, ?_⟩ ?_
      · rw [upd_ne (ne_of_none upd_same nU), upd_same, hm]
      · have h1 := congrArg List.length hm
        rw [vm_len, List.length_map, perm.length_eq, List.length_map] at h1
        exact h1.symm
end
end XT
/-! common_width, at lots of one width -/
namespace XT
open PySem PySem.Spec PyProof.Rows L2
section
variable {P : Program} {w : World} {K : PySem.W.Frag} {mg : Str → Option Value} {base : Heap}
theorem scWidth : FnScope ["lots", "width", "index", "lot"] ["lots"] (defScope sWidth) := ⟨rfl, rfl, rfl, by decide +kernel, rfl, by decide +kernel, by decide +kernel⟩
abbrev Lots := List (V × (Nat → Bool))
def LotsAt (H : Hp) (ls : Lots) (n : Nat) : Prop := ls ≠ [] ∧ ls.length ≤ 8 ∧ n ≤ 6 ∧ ∀ l ∈ ls, LotAt H l.1 n l.2
theorem LotsAt.same {H H' : Hp} {ls : Lots} {n : Nat} (h : LotsAt H ls n) (e : Same H H') : LotsAt H' ls n := ⟨h.1, h.2.1, h.2.2.1, fun l hl => (h.2.2.2 l hl).same e⟩
def spWidth (K : PySem.W.Frag) : Sp := fun vs H Q _ => ∃ (t : Addr) (ls : Lots) (n : Nat), vs = [.ref t] ∧ SqT K H t (ls.map (·.1)) ∧ LotsAt H ls n ∧ ∀ H', Same H H' → Q (.int (n : Int)) H'
theorem ok_width {f : Addr} {fd : FuncData} {k : Nat} (B : Bl mg) (F : Fun K "common_width" "common_width" sWidth f fd) : FnOk P w K mg base CX0 (k + 1) f fd ["lots"] (spWidth K) := by
  refine F.ok scWidth (fun vs H Q E h => ?_) (fun cdv A outer s H vs Q E hr h => ?_)
  · obtain ⟨t, ls, n, rfl, _⟩ := h
    rfl
  · obtain ⟨t, ls, n, rfl, ht, hL, q⟩ := h
    refine ⟨_, pss_cons (ps_if (pt_cmpR op_eq (pe_callB call_len_seq (by rfl) B.len PySem.boot_len (pa_cons (pv 0) pa_nil)) pe_int (nomark _)) pss_never pss_nil)
      (pss_cons (ps_set (i := 1) scWidth.nd rfl (.inl rfl) (pe_ix ix_tup (pe_ix ix_tup (pv 0) pe_int (fun _ _ => rfl)) pe_int (fun _ _ => rfl)))
      (pss_cons (ps_for PassesOwn.never rfl (pi_enumT (by rfl) B.enumerate (pa_cons (pv 0) pa_nil)) (pg_tup rfl (pgs_cons (pg_name (i := 2) scWidth.nd rfl (.inl rfl)) (pgs_cons (pg_name (i := 3) scWidth.nd rfl (.inl rfl)) pgs_nil)))
        (pss_one (ps_if (pt_cmpR op_ne (pe_ix ix_tup (pv 3) pe_int (fun _ _ => rfl)) (pv 1) (nomark _)) pss_never pss_nil)))
      (pss_one (ps_ret (pv 1))))), ?_⟩
    obtain ⟨hne, hlen, hn, hall⟩ := hL
    obtain ⟨l0, ls', rfl⟩ : ∃ l0 ls', ls = l0 :: ls' := by
      cases ls with
      | nil => exact absurd rfl hne
      | cons a b => exact ⟨a, b, rfl⟩
    refine ⟨.ref t, rfl, t, _, rfl, .inr ht, rfl, _, rfl, ?_⟩
    have e0 : decide (V.int (((l0 :: ls').map (·.1)).length : Nat) = V.int 0) = false := by
      rw [decide_eq_false]
      intro z
      have z2 := V.int.inj z
      rw [List.map_cons, List.length_cons] at z2
      omega
    rw [e0]
    refine iteF ?_
    obtain ⟨x0, y0, e1, hx0, hy0⟩ := hall l0 List.mem_cons_self
    refine ⟨.ref t, rfl, t, _, 0, l0.1, rfl, rfl, ht, atI_nat (j := 0) rfl, x0, _, 0, .int n, e1, rfl, SqT.of hx0, rfl, ?_⟩
    refine ⟨.ref t, rfl, t, _, rfl, ht, for_enumT (K := K) (xs := (l0 :: ls').map (·.1)) (fun i σ H' => Same H H' ∧ ∃ a b, σ = [some (.ref t), some (.int (n : Int)), a, b]) ⟨Same.refl H, none, none, rfl⟩ (fun i σ H' _ h => Same.sqT h.1 ht) (fun i v σ H' T hv h nT => ?_) (fun σ H' h => ?_)⟩
    · obtain ⟨sm, a, b, rfl⟩ := h
      have sT := same_new (o := .tup [.int (i : Nat), v]) nT
      rw [List.getElem?_map] at hv
      obtain ⟨l, hl, rfl⟩ := Option.map_eq_some_iff.mp hv
      obtain ⟨x, y, ev, hx, hy⟩ := hall l (List.mem_of_getElem? hl)
      refine ⟨T, _, rfl, SqT.of upd_same, rfl, _, _, rfl, _, _, rfl, rfl, ?_⟩
      refine ⟨l.1, rfl, x, _, 0, .int n, ev, rfl, SqT.of (sT _ _ (sm _ _ hx)), rfl, .int n, rfl, rfl, _, rfl, iteNS rfl ?_⟩
      exact ⟨sm.trans sT, _, _, rfl⟩
    · obtain ⟨sm, a, b, rfl⟩ := h
      exact ⟨.int n, rfl, q H' sm⟩
theorem lots2 {H : Hp} {u v : V} {n : Nat} {p r : Nat → Bool} (hu : LotAt H u n p) (hv : LotAt H v n r) (hn : n ≤ 6) : LotsAt H [(u, p), (v, r)] n :=
  ⟨by simp, (by decide : 2 ≤ 8), hn, fun l hl => by
    rcases List.mem_cons.mp hl with rfl | hl
    · exact hu
    · rw [List.mem_singleton.mp hl]; exact hv⟩
end
end XT
namespace XT
open PySem PySem.Spec PyProof.Rows L2
section
variable {P : Program} {w : World} {K : PySem.W.Frag} {mg : Str → Option Value} {base : Heap}
theorem scLeft : FnScope ["one", "other", "width", "x"] ["one", "other"] (defScope sLeft) := ⟨rfl, rfl, rfl, by decide +kernel, rfl, by decide +kernel, by decide +kernel⟩
def spLeft : Sp := fun vs H Q _ => ∃ (v u : V) (n : Nat) (p r : Nat → Bool), vs = [v, u] ∧ LotAt H v n p ∧ LotAt H u n r ∧ n ≤ 6 ∧ ∀ H' z, Same H H' → LotAt H' z n (fun m => p m && !r m) → Q z H'
theorem ok_left {f : Addr} {fd : FuncData} {k : Nat} (B : Bl mg) (F : Fun K "left_over" "left_over" sLeft f fd) (dW : DefR P w K mg base 1 "common_width" (spWidth K)) : FnOk P w K mg base CX0 (k + 2) f fd ["one", "other"] spLeft := by
  refine F.ok scLeft (fun vs H Q E h => ?_) (fun cdv A outer s H vs Q E hr h => ?_)
  · obtain ⟨v, u, n, p, r, rfl, _⟩ := h
    rfl
  · obtain ⟨v, u, n, p, r, rfl, hv, hu, hn, q⟩ := h
    refine ⟨_, pss_cons (ps_set (i := 2) scLeft.nd rfl (.inl rfl) (pe_def dW (hr.mono (by omega)) (by rfl) (pa_cons (pe_tup (pa_cons (pv 0) (pa_cons (pv 1) pa_nil))) pa_nil)))
      (pss_one (ps_ret (pe_tup (pa_cons (pv 2) (pa_cons (pe_callTy call_tuple_of (by rfl) B.tuple bT (pa_cons
        (pe_lc (own := [("x", 3)]) (g := gName 3) (tt := tTest (tOp (rIn K true) (tVar 3) (tOp (rIxT K) (tVar 1) (tC (.int 1))))) rfl scLeft.nd (pi_tup (pe_ix ix_tup (pv 0) pe_int (fun _ _ => rfl))) (blkOk_by (own := [("x", 3)]) (N := ["one", "other", "width", "x"]) (sc := defScope sLeft) (by decide +kernel))
          (fun _ _ _ _ _ => pg_name (i := 3) scLeft.nd rfl (Or.inl rfl)) (fun _ _ _ _ _ => pts_one (pt_cmpR op_notIn_seq (pv 3) (pe_ix ix_tup (pv 1) pe_int (fun _ _ => rfl)) (by rfl))) (fun _ _ _ _ _ => pv 3)) pa_nil)) pa_nil))))), ?_⟩
    refine ⟨v, rfl, u, rfl, sz (n := 2) (by decide), fun T nT => ?_⟩
    have sT := same_new (o := .tup [v, u]) nT
    refine ⟨T, [(v, p), (u, r)], n, rfl, SqT.of upd_same, ⟨by simp, (by decide : 2 ≤ 8), hn, ?_⟩, fun H2 s2 => ?_⟩
    · intro l hl
      rcases List.mem_cons.mp hl with rfl | hl
      · exact hv.same sT
      · rw [List.mem_singleton.mp hl]; exact hu.same sT
    have hv2 := (hv.same sT).same s2
    have hu2 := (hu.same sT).same s2
    obtain ⟨x, y, rfl, hx, hy⟩ := hv2
    obtain ⟨x', y', rfl, hx', hy'⟩ := hu2
    have hl := lot_len hn p
    refine ⟨.int n, rfl, .ref x, rfl, x, _, 1, .ref y, rfl, rfl, SqT.of hx, rfl, y, rfl, ⟨_, SqT.of hy⟩, fun D nD => ?_⟩
    refine lcp_tup (p := fun z => !inV z (vm (lotOf n r))) (f := id) nD (SqT.of hy) (small64 (by rw [vm_len]; omega)) (fun i z H3 hz sm => ?_) (fun H3 sm hD => ?_)
    · intro R1 R2 h1 h2
      obtain ⟨m, hm, rfl⟩ := mem_vm hz
      refine ⟨rfl, _, rfl, .ref x', rfl, x', _, 1, .ref y', rfl, rfl, SqT.of (sm _ _ hx'), rfl, y', _, rfl, .inr (SqT.of (sm _ _ hy')), rfl, vm_flat _, _, rfl, ite2 (fun z => ?_) (fun z => ?_)⟩
      · exact ⟨_, rfl, h2 z _ (Same.refl _)⟩
      · exact h1 (by simpa using z) _ (Same.refl _)
    · have e : ((vm (lotOf n p)).filter fun z => !inV z (vm (lotOf n r))).map id = vm (lotOf n fun m => p m && !r m) := by
        rw [vm_filter (lotOf n p) (fun m => !r m) _ fun m hm => by rw [in_lot (mem_lot.mp hm).1], lot_filter]
      rw [e] at hD
      refine ⟨D, _, rfl, .inl ⟨SqL.of hD, fun L nL => ⟨sz (n := 2) (by decide), fun U nU => ?_⟩⟩⟩
      refine q _ _ ((((sT.trans s2).trans sm).trans (same_new nL)).trans (same_new nU)) ⟨U, L, rfl, upd_same, ?_⟩
      rw [upd_ne (ne_of_none upd_same nU), upd_same]
end
end XT
namespace XT
open PySem PySem.Spec PyProof.Rows L2
section
variable {P : Program} {w : World} {K : PySem.W.Frag} {mg : Str → Option Value} {base : Heap}
/-- def f( *lots): by its body -/
theorem star_ok {x : Str} {st : Stmt} {f : Addr} {fd : FuncData} {N : List Str} {k : Nat} {sp : Sp} {pv : Str} (F : Fun K x x st f fd) (S : FnScope N [pv] (defScope st))
    (hb : ∀ (kV doc pm : Value) (an : Option Addr) (cdv ct : Value) (rest : List Value), bindArgs (PySem.W.fnOf x x (defArgs st) (defBody st) (defScope st) .none kV doc pm an cdv ct) ⟨rest, []⟩ = (newTuple rest >>= fun t => pure [(pv, t)]))
    (hbody : ∀ (cdv : Value) (A : Around) (outer : List Env) (s : Shared) (H : Hp) (vs : List V) (Q : VK) (E : XK), Room k (A.deeper (envOfC x (defScope st) s.heap.objs.size f cdv)) → sp vs H Q E →
      ∃ t, PSs (cxOf CX0 P w K mg base N x (defScope st) f cdv A outer s H E).nox (defBody st) t ∧ t { nx := fun _ H' => Q .non H', rt := Q } (start N vs) H) :
    FnR P w K mg base CX0 (k + 1) f (fun vs H Q E => vs.length ≤ 1000 ∧ ∀ p, H p = none → sp [V.ref p] (upd H p (.tup vs)) Q E) := by
  obtain ⟨oc, od, kV, doc, pm, an, cdv, ct, osl, rfl, lk, hcd⟩ := F.ex
  refine (StX.fn_star (ps := []) (sp := sp) lk hcd S StX.cxUp_none (fun us rest hl => ?_) fun A outer s H vs Q E hr hsp => ?_).imp fun vs H Q E h => ⟨[], vs, rfl, rfl, sz h.1, h.2⟩
  · have e : us = [] := List.eq_nil_of_length_eq_zero hl
    subst e
    exact hb kV doc pm an cdv ct rest
  · obtain ⟨t, h1, h2⟩ := hbody cdv A outer s H vs Q E hr hsp
    exact ⟨t, h1.nox, h2⟩
def spMany (op : List Bool → Bool) : Sp := fun vs H Q _ => ∃ (ls : Lots) (n : Nat), vs = ls.map (·.1) ∧ LotsAt H ls n ∧ ∀ H' r, Same H H' → LotAt H' r n (fun m => op (ls.map fun l => l.2 m)) → Q r H'
def spManyT (K : PySem.W.Frag) (op : List Bool → Bool) : Sp := fun vs H Q _ => ∃ (t : Addr) (ls : Lots) (n : Nat), vs = [.ref t] ∧ SqT K H t (ls.map (·.1)) ∧ LotsAt H ls n ∧ ∀ H' r, Same H H' → LotAt H' r n (fun m => op (ls.map fun l => l.2 m)) → Q r H'
theorem many_of {op : List Bool → Bool} {k : Nat} {f : Addr} (h : FnR P w K mg base CX0 k f (fun vs H Q E => vs.length ≤ 1000 ∧ ∀ p, H p = none → spManyT K op [V.ref p] (upd H p (.tup vs)) Q E)) : FnR P w K mg base CX0 k f (spMany op) :=
  h.imp fun vs H Q E ⟨ls, n, ev, hL, q⟩ => by
    subst ev
    refine ⟨by rw [List.length_map]; exact Nat.le_trans hL.2.1 (by decide), fun p np => ⟨p, ls, n, rfl, SqT.of upd_same, hL.same (same_new np), fun H' r sm => q H' r ((same_new np).trans sm)⟩⟩
end
end XT
/-! {e for a in s for b in t}, ints -/
namespace XT
open PySem PySem.Spec PyProof.Rows L2
abbrev C2 (elt ta ia tb ib : Expr) (sc : Scope) (pos : Pos) : Expr := .SetComp elt [⟨ta, ia, [], 0⟩, ⟨tb, ib, [], 0⟩] sc pos
section
variable {prog : Program} {w : World} {A : Around} {R : Result → Shared → Prop} {s : Shared} {elt ta ia tb ib : Expr} {sc : Scope} {pos : Pos} {it acc : Value} {env : Env}
theorem c2_first : compTurn (C2 elt ta ia tb ib sc pos) 0 it acc env = (do
    standAt ia.pos
    match ← pyNext it with
    | none => pure (.done .next)
    | some v =>
      letOwnedTupleGo ta it v
      assign ta env v
      let x ← eval ib env
      standAt ib.pos
      let x ← foldedSetIterable ib env x
      let _ ← runOwn (.compStart (C2 elt ta ia tb ib sc pos) 1 (← holding [x] (pyIter x)) acc env) env
      again (.compLoop (C2 elt ta ia tb ib sc pos) 0 it acc env)) := by rfl
theorem c2_second : compTurn (C2 elt ta ia tb ib sc pos) 1 it acc env = (do
    standAt ib.pos
    match ← pyNext it with
    | none => pure (.done .next)
    | some v =>
      letOwnedTupleGo tb it v
      assign tb env v
      (do let v ← eval elt env; standAt elt.pos; let _ ← call (.builtin "set.add") [acc, v])
      again (.compLoop (C2 elt ta ia tb ib sc pos) 1 it acc env)) := by rfl
abbrev Out (R : Result → Shared → Prop) (M : Model) (A : Around) (env : Env) : Value → Shared → Prop := notedBy M A env fun e s2 => R (.error e) s2
theorem c2_loop0 (hs : ∀ x, foldedSetIterable ib env x = pure x) (J : Nat → Shared → Prop)
    (turn : ∀ n s, J n s → wpAny (model prog w) A (pyNext it) (fun r s1 => match r with
      | none => R (.ok .next) s1
      | some v => wpAny (model prog w) A (letOwnedTupleGo ta it v) (fun _ s2 => wpAny (model prog w) A (assign ta env v) (fun _ s3 => wpAny (model prog w) A (eval ib env) (fun x s4 => wpAny (model prog w) A (pyIter x) (fun it1 s5 =>
          codeAny (model prog w) A (.compStart (C2 elt ta ia tb ib sc pos) 1 it1 acc env) (fun r s6 => match r with
            | .ok _ => ∃ m, m < n ∧ J m s6
            | .error _ => False) s5) (Out R (model prog w) A env) s4) (Out R (model prog w) A env) s3) (Out R (model prog w) A env) s2) (Out R (model prog w) A env) s1) (Out R (model prog w) A env) s) (n : Nat) (h : J n s) :
    codeAny (model prog w) A (.compLoop (C2 elt ta ia tb ib sc pos) 0 it acc env) R s := by
  refine codeAny_loop rfl J (fun n s hJ => ?_) n h
  show wpAny _ A ((compTurn (C2 elt ta ia tb ib sc pos) 0 it acc env).onRaise (fun x => do noteFrame x env; theTreesLotGoes x)) _ _ s
  refine wpAny_noted ?_
  rw [c2_first]
  refine wpAny_bind (wpAny_standAt (wpAny_bind (wpAny_mono (turn n s hJ) (fun r s1 h1 => ?_) fun _ _ z => z)))
  match r, h1 with
  | none, h1 => exact wpAny_pure h1
  | some v, h1 =>
    refine wpAny_bind (wpAny_mono h1 (fun _ s2 h2 => wpAny_bind (wpAny_mono h2 (fun _ s3 h3 => wpAny_bind (wpAny_mono h3 (fun x s4 h4 => ?_) fun _ _ z => z)) fun _ _ z => z)) fun _ _ z => z)
    refine wpAny_bind (wpAny_standAt (wpAny_bind (wpAny_of_eq (hs x) (wpAny_bind (wpAny_holding (wpAny_mono h4 (fun it1 s5 h5 => ?_) fun _ _ z => z))))))
    refine wpAny_bind (wpAny_runOwn ?_)
    rw [Around.mark_none]
    refine codeAny_mono h5 fun r s6 hr => ?_
    match r, hr with
    | .ok f, hr => exact wpAny_pure ⟨rfl, hr⟩
    | .error e, hr => exact hr.elim
theorem c2_loop1 (J : Nat → Shared → Prop)
    (turn : ∀ n s, J n s → wpAny (model prog w) A (pyNext it) (fun r s1 => match r with
      | none => R (.ok .next) s1
      | some v => wpAny (model prog w) A (letOwnedTupleGo tb it v) (fun _ s2 => wpAny (model prog w) A (assign tb env v) (fun _ s3 => wpAny (model prog w) A (eval elt env) (fun x s4 =>
          wpAny (model prog w) A (call (.builtin "set.add") [acc, x]) (fun _ s5 => ∃ m, m < n ∧ J m s5) (Out R (model prog w) A env) s4) (Out R (model prog w) A env) s3) (Out R (model prog w) A env) s2) (Out R (model prog w) A env) s1) (Out R (model prog w) A env) s) (n : Nat) (h : J n s) :
    codeAny (model prog w) A (.compLoop (C2 elt ta ia tb ib sc pos) 1 it acc env) R s := by
  refine codeAny_loop rfl J (fun n s hJ => ?_) n h
  show wpAny _ A ((compTurn (C2 elt ta ia tb ib sc pos) 1 it acc env).onRaise (fun x => do noteFrame x env; theTreesLotGoes x)) _ _ s
  refine wpAny_noted ?_
  rw [c2_second]
  refine wpAny_bind (wpAny_standAt (wpAny_bind (wpAny_mono (turn n s hJ) (fun r s1 h1 => ?_) fun _ _ z => z)))
  match r, h1 with
  | none, h1 => exact wpAny_pure h1
  | some v, h1 =>
    refine wpAny_bind (wpAny_mono h1 (fun _ s2 h2 => wpAny_bind (wpAny_mono h2 (fun _ s3 h3 => ?_) fun _ _ z => z)) fun _ _ z => z)
    exact wpAny_bind (wpAny_bind (wpAny_mono h3 (fun x s4 h4 => wpAny_bind (wpAny_standAt (wpAny_bind (wpAny_mono h4 (fun _ s5 h5 => wpAny_pure (wpAny_pure ⟨rfl, h5⟩)) fun _ _ z => z)))) fun _ _ z => z))
theorem c2_start (k : Nat) (hk : k = 0 ∨ k = 1) (h0 : codeAny (model prog w) A (.compLoop (C2 elt ta ia tb ib sc pos) k it acc env) R s)
    (h : wpAny (model prog w) A (pyIter it) (fun it2 s2 => codeAny (model prog w) A (.compLoop (C2 elt ta ia tb ib sc pos) k it2 acc env) R s2) (Out R (model prog w) A env) s) :
    codeAny (model prog w) A (.compStart (C2 elt ta ia tb ib sc pos) k it acc env) R s := by
  rcases hk with rfl | rfl
  · refine codeAny_of_tree ?_
    show wpAny _ _ ((compStart (C2 elt ta ia tb ib sc pos) 0 it acc env).onRaise (fun x => do noteFrame x env; standAt theWindowsPlace)) _ _ s
    refine wpAny_notedAt ?_
    unfold compStart
    show wpAny _ _ (ask >>= _) _ _ s
    refine wpAny_bind (wpAny_askSetting (wpAny_ite ?_))
    split
    · exact wpAny_pure (And.intro rfl h0)
    · refine wpAny_bind (wpAny_rule ?_)
      show wpAny _ _ (standAt ia.pos >>= _) _ _ s
      exact wpAny_bind (wpAny_standAt (wpAny_bind (wpAny_mono h (fun it2 s2 h2 => wpAny_pure (And.intro rfl h2)) fun _ _ x => x)))
  · refine codeAny_of_tree ?_
    show wpAny _ _ ((compStart (C2 elt ta ia tb ib sc pos) 1 it acc env).onRaise (fun x => do noteFrame x env; standAt theWindowsPlace)) _ _ s
    refine wpAny_notedAt ?_
    unfold compStart
    show wpAny _ _ (ask >>= _) _ _ s
    refine wpAny_bind (wpAny_askSetting (wpAny_ite ?_))
    split
    · exact wpAny_pure (And.intro rfl h0)
    · refine wpAny_bind (wpAny_rule ?_)
      show wpAny _ _ (standAt ib.pos >>= _) _ _ s
      exact wpAny_bind (wpAny_standAt (wpAny_bind (wpAny_mono h (fun it2 s2 h2 => wpAny_pure (And.intro rfl h2)) fun _ _ x => x)))
end
end XT
namespace XT
open PySem PySem.Spec PyProof.Rows L2
section
variable {X : Cx}
/-- {elt for ta in ia for tb in ib}, elt an int: D the new set; vs: the block's names, vb: those of the second target -/
def tSc2 (w : World) (wa : TI) (ga : TG) (wb : TI) (gb : TG) (te : TE) (vs vb : List Nat) : TE := fun σ H Q => wa σ H fun J H1 => ∀ D, H1 D = none →
  ∃ W : Nat → Nat → Hp → Prop, (∃ m, W 0 m (upd H1 D (SetO w D (fun _ => false) 0))) ∧ ∀ i m H, W i m H →
    (J.stop i H ∧ Q (.ref D) H) ∨ (J.go i H ∧ ∃ N : Hp → Prop, (∀ H', N H' → ∃ m', m' < m ∧ W (i + 1) m' H') ∧ ∀ x H', J.yld i H x H' → ga x (wipe σ vs) H' fun σ2 H2 => wipe σ2 vs = wipe σ vs ∧
      wb σ2 H2 fun J1 H4 => ∃ W1 : Nat → Nat → Hp → Prop, (∃ m, W1 0 m H4) ∧ ∀ j k H, W1 j k H →
        (J1.stop j H ∧ N H) ∨ (J1.go j H ∧ ∃ N1 : Hp → Prop, (∀ H', N1 H' → ∃ k', k' < k ∧ W1 (j + 1) k' H') ∧ ∀ x H', J1.yld j H x H' → gb x (wipe σ2 vb) H' fun σ3 H5 => wipe σ3 vb = wipe σ2 vb ∧
          te σ3 H5 fun y H6 => rSAdd w (.ref D) [y] H6 fun _ H7 => N1 H7))
abbrev Blk (X : Cx) (sc : Scope) (p : Cx → Prop) : Prop := ∀ (s : Shared) (H : Hp) (C : Addr) (cl : List (Str × Addr)) (fp : List Addr), p (X.blk s H sc (compEnvC sc cl C X.env) fp)
theorem pe_sc2 {elt ta ia tb ib : Expr} {sc : Scope} {own : List (Str × Nat)} {vb : List Nat} {pos : Pos} {wa wb : TI} {ga gb : TG} {te : TE} (hc : X.calm = true) (hN : X.N.Nodup) (hi : PI X ta ia wa) (ok : BlkOk X.N X.env.scope sc own) (hv : ∀ i ∈ vb, i ∈ own.map (·.2))
    (hg : Blk X sc fun Y => PG Y ta ga) (hib : Blk X sc fun Y => PI Y tb ib wb) (hgb : Blk X sc fun Y => PG Y tb gb) (he : Blk X sc fun Y => PE Y elt te)
    (hs : ∀ x, foldedSetIterable ia X.env x = pure x := by intro _; rfl) (hs1 : ∀ env x, foldedSetIterable ib env x = pure x := by intro _ _; rfl) :
    PE X (C2 elt ta ia tb ib sc pos) (tSc2 X.w wa ga wb gb te (own.map (·.2)) vb) := by
  refine ⟨fun pins s σ H Q I h => ?_⟩
  rw [PpSet.eval_SetComp]
  have hfree : ∀ y ∈ sc.names, y.2 = .free → ∃ c, X.env.cells.lookup y.1 = some c := fun y hy e => (ok.free y hy e).elim (fun k => I.ok.has _ (.inl k)) fun k => I.ok.has _ (.inr k)
  refine wpAny_comprehension_free (use := none) rfl hs (closure_ok hfree) ok.kind (fun y hy e => by rw [ok.uniq y hy, e]) (thn (hi.run pins s σ H _ I h) fun xv s1 hx => thn hx fun itv s2 h2 => ?_)
  obtain ⟨it, fp, tn, J, H2, e, I2, T, st2, f2, q⟩ := h2
  subst e
  refine PpSet.newSet_ok (newEnv_comp ?_)
  generalize hD : s2.heap.objs.size = D
  have hDn : H2 D = none := I2.hok.fresh (Nat.le_of_eq hD)
  obtain ⟨W, ⟨m0, w0⟩, turn⟩ := q D hDn
  generalize hs3 : ({ s2 with heap := s2.heap.push (newS X.w) } : Shared) = s3
  have h3 : s3.heap = s2.heap.push (newS X.w) := by rw [← hs3]
  have I3 : Inv X pins σ (upd H2 D (SetO X.w D (fun _ => false) 0)) s3 := by
    rw [← hs3]
    refine I2.laid (t' := s2.toks) (fun b o e => Heap.get?_push_of_some _ e) (Nat.le_of_eq hD) ?_
    rw [← hD]
    exact setO_new (setR_fresh X.w)
  have f3 : ∀ b ∈ fp, FpOk X pins (upd H2 D (SetO X.w D (fun _ => false) 0)) b ∧ b < s3.heap.objs.size := fun b hb => by
    obtain ⟨o, e, _⟩ := T.obj _ _ st2 b hb
    have lt := Heap.lt_size e
    refine ⟨⟨?_, (f2 b hb).2⟩, by rw [h3, Heap.size_push]; exact Nat.lt_succ_of_lt lt⟩
    rw [upd_ne (by rw [← hD]; exact Nat.ne_of_lt lt)]
    exact (f2 b hb).1
  have st3 : tn 0 s3.heap := T.keep _ _ _ st2 fun b _ o e => by rw [h3]; exact Heap.get?_push_of_some _ e
  have I4 := block_start I3 ok hN f3
  have pg := hg s3 (upd H2 D (SetO X.w D (fun _ => false) 0)) s3.heap.objs.size (cellsFrom (s3.heap.objs.size + 1) sc.names (cloFrom X.env.cells sc.names [])) fp
  have pb := hib s3 (upd H2 D (SetO X.w D (fun _ => false) 0)) s3.heap.objs.size (cellsFrom (s3.heap.objs.size + 1) sc.names (cloFrom X.env.cells sc.names [])) fp
  have pgb := hgb s3 (upd H2 D (SetO X.w D (fun _ => false) 0)) s3.heap.objs.size (cellsFrom (s3.heap.objs.size + 1) sc.names (cloFrom X.env.cells sc.names [])) fp
  have pe := he s3 (upd H2 D (SetO X.w D (fun _ => false) 0)) s3.heap.objs.size (cellsFrom (s3.heap.objs.size + 1) sc.names (cloFrom X.env.cells sc.names [])) fp
  show codeAny _ _ (.compStart (C2 elt ta ia tb ib sc pos) 0 (.ref it) (.ref D) (compEnvC sc (cellsFrom (s3.heap.objs.size + 1) sc.names (cloFrom X.env.cells sc.names [])) s3.heap.objs.size X.env)) (compPost (model X.prog X.w) X.A X.xe none (EP X pins σ Q) (.ref D) s3.heap.objs.size) { s3 with heap := pushCells (s3.heap.push { cls := .type "dict", data := .dict #[] }) sc.names }
  have nfp : ∀ b ∈ fp, (upd H2 D (SetO X.w D (fun _ => false) 0)) b = none := fun b hb => (f3 b hb).1.1
  generalize hce : compEnvC sc (cellsFrom (s3.heap.objs.size + 1) sc.names (cloFrom X.env.cells sc.names [])) s3.heap.objs.size X.env = ce at I4 pg pb pgb pe ⊢
  have cL : ce.locals = s3.heap.objs.size := by subst hce; rfl
  generalize hH3 : upd H2 D (SetO X.w D (fun _ => false) 0) = H3 at I3 I4 pg pb pgb pe w0 nfp f3
  generalize hs4 : ({ s3 with heap := pushCells (s3.heap.push { cls := .type "dict", data := .dict #[] }) sc.names } : Shared) = s4 at I4 ⊢
  have st4 : tn 0 s4.heap := T.keep _ _ _ st3 fun b _ o e => by rw [← hs4]; exact pushCells_keeps _ _ _ _ (Heap.get?_push_of_some _ e)
  have stat : ∀ {σ' : L2.St} {H' : Hp} {s' : Shared}, Inv (X.blk s3 H3 sc ce fp) [] σ' H' s' → (∀ b ∈ fp, H' b = none) → ∀ b ∈ fp, FpOk (X.blk s3 H3 sc ce fp) [] H' b := fun {σ' H' s'} K' hn b hb =>
    ⟨hn b hb, (K'.ok.exf b hb).1, K'.ok.exfs b hb, .inl hb, fun x c e => (K'.ok.exf b hb).2 x c e, fun p hp => absurd (show p ∈ ([] : List (Addr × Obj)) ++ [] from hp) (by simp)⟩
  have loop : codeAny (model X.prog X.w) X.A (.compLoop (C2 elt ta ia tb ib sc pos) 0 (.ref it) (.ref D) ce) (compPost (model X.prog X.w) X.A X.xe none (EP X pins σ Q) (.ref D) s3.heap.objs.size) s4 := by
    refine c2_loop0 (hs1 ce) (fun n s' => ∃ i H', Inv (X.blk s3 H3 sc ce fp) [] (wipe σ (own.map (·.2))) H' s' ∧ tn i s'.heap ∧ (∀ b ∈ fp, H' b = none) ∧ W i n H') ?_ m0 ⟨0, H3, I4, st4, nfp, w0⟩
    rintro n s5 ⟨i, H5, I5, st5, n5, w5⟩
    rcases turn i n H5 w5 with ⟨stop, qq⟩ | ⟨go, N, hNx, step⟩
    · refine thnF (T.done (X.blk s3 H3 sc ce fp) rfl rfl rfl hc i [] s5 _ H5 (fun _ _ => False) I5 (stat I5 n5) st5 stop) fun r s6 ⟨hr, I6⟩ => ?_
      subst hr
      have I7 : Inv X pins σ H5 s6 := I3.call' (ch := fp) I6.os I6.base I6.hok I6.bare fun b hb => ⟨(f3 b hb).1.2.2.2.1, (f3 b hb).1.2.1, (f3 b hb).1.2.2.2.2.1, (f3 b hb).1.2.2.2.2.2⟩
      have nC : H5 s3.heap.objs.size = none := by
        have z : H5 ce.locals = none := I6.free
        rwa [cL] at z
      obtain ⟨m, hn, _⟩ := I6.loc
      have hn : s6.heap.Ns ce.locals m := hn
      rw [cL] at hn
      obtain ⟨z0, z1, z2, z3, z4, z5⟩ := I3.fpOk (H' := H5) (Nat.le_refl s3.heap.objs.size) nC
      exact ⟨m, hn, fun h9 sb => ⟨.ref D, H5, I7.turned (t' := s6.toks) (fun b o hb e => (sb.2 b hb).trans e) z0 z1 z3 z4 z5, rfl, qq⟩⟩
    · refine thnF (T.item (X.blk s3 H3 sc ce fp) rfl rfl rfl hc i [] s5 _ H5 (fun _ _ => False) I5 (stat I5 n5) st5 go) fun r s6 ⟨u, hr, h6⟩ => ?_
      subst hr
      refine thnF h6 fun _ s7 ⟨x, H7, I7, r7, y7, st7, n7⟩ => ?_
      refine thnF (pg.run _ s7 _ H7 x u _ (I7.pinned (stat I7 n7) (T.obj _ _ st7)) r7 (step x H7 y7)) fun _ s8 ⟨σ8, H8, I8, hw8, q8⟩ => ?_
      have len8 : (wipe σ (own.map (·.2))).length = σ8.length := by rw [← hw8, wipe_length]
      have more8 : ∀ (j : Nat) v, (wipe σ (own.map (·.2)))[j]? = some (some v) → (wipe σ8 vb)[j]? = some (some v) := fun j v e => by
        rw [← hw8] at e
        obtain ⟨e1, e2⟩ := wipe_some e
        rw [wipe_out fun z => e2 (hv j z)]
        exact e1
      have fin : ∀ {s' : Shared} {H' : Hp}, Inv (X.blk s3 H3 sc ce fp) ([] ++ pinsAt fp s7.heap) (wipe σ8 vb) H' s' → N H' →
          ∃ m, m < n ∧ ∃ i H', Inv (X.blk s3 H3 sc ce fp) [] (wipe σ (own.map (·.2))) H' s' ∧ tn i s'.heap ∧ (∀ b ∈ fp, H' b = none) ∧ W i m H' := fun {s' H'} K' nx => by
        obtain ⟨m1, hm, w1⟩ := hNx H' nx
        have old : ∀ b ∈ fp, ∀ o, s7.heap.get? b = some o → s'.heap.get? b = some o ∧ H' b = none := fun b hb o e =>
          have z := K'.pin (b, o) (List.mem_append_right _ (List.mem_append_right _ (mem_pinsAt hb e)))
          ⟨z.1, z.2.1⟩
        refine ⟨m1, hm, i + 1, H', (K'.unpinned (pins := [])).weak (by rw [wipe_length σ8 vb]; exact len8) more8, T.keep _ _ _ st7 fun b hb o e => (old b hb o e).1, fun b hb => ?_, w1⟩
        obtain ⟨o, e, _⟩ := T.obj _ _ st7 b hb
        exact (old b hb o e).2
      refine thnF (pb.run _ s8 σ8 H8 _ I8 q8) fun xv s10 hx => thnF hx fun itv s11 h11 => ?_
      obtain ⟨it1, fp1, tn1, J1, H11, e1, I11, T1, st11, f11, W1, ⟨m1, w1⟩, turn1⟩ := h11
      subst e1
      have stat1 : ∀ {H' : Hp}, (∀ b ∈ fp1, H' b = none) → ∀ b ∈ fp1, FpOk (X.blk s3 H3 sc ce fp) ([] ++ pinsAt fp s7.heap) H' b := fun hn b hb => ⟨hn b hb, (f11 b hb).2⟩
      have inner : codeAny (model X.prog X.w) X.A (.compLoop (C2 elt ta ia tb ib sc pos) 1 (.ref it1) (.ref D) ce) (fun r s' => match r with
          | .ok _ => ∃ m, m < n ∧ ∃ i H', Inv (X.blk s3 H3 sc ce fp) [] (wipe σ (own.map (·.2))) H' s' ∧ tn i s'.heap ∧ (∀ b ∈ fp, H' b = none) ∧ W i m H'
          | .error _ => False) s11 := by
        refine c2_loop1 (fun k s' => ∃ j H', Inv (X.blk s3 H3 sc ce fp) ([] ++ pinsAt fp s7.heap) (wipe σ8 vb) H' s' ∧ tn1 j s'.heap ∧ (∀ b ∈ fp1, H' b = none) ∧ W1 j k H') ?_ m1 ⟨0, H11, I11.weak (wipe_length _ _) (fun j v e => (wipe_some e).1), st11, fun b hb => (f11 b hb).1, w1⟩
        rintro k s12 ⟨j, H12, I12, st12, n12, w12⟩
        rcases turn1 j k H12 w12 with ⟨stop1, nx1⟩ | ⟨go1, N1, hN1, step1⟩
        · refine thnF (T1.done (X.blk s3 H3 sc ce fp) rfl rfl rfl hc j _ s12 (wipe σ8 vb) H12 (fun _ _ => False) I12 (stat1 n12) st12 stop1) fun r s13 ⟨hr, I13⟩ => ?_
          subst hr
          exact fin I13 nx1
        · refine thnF (T1.item (X.blk s3 H3 sc ce fp) rfl rfl rfl hc j _ s12 (wipe σ8 vb) H12 (fun _ _ => False) I12 (stat1 n12) st12 go1) fun r s13 ⟨u1, hr, h13⟩ => ?_
          subst hr
          refine thnF h13 fun _ s14 ⟨x1, H14, I14, r14, y14, st14, n14⟩ => ?_
          refine thnF (pgb.run _ s14 (wipe σ8 vb) H14 x1 u1 _ (I14.pinned (stat1 n14) (T1.obj _ _ st14)) r14 (step1 x1 H14 y14)) fun _ s15 ⟨σ15, H15, I15, hw15, q15⟩ => ?_
          refine thnF (pe.run _ s15 σ15 H15 _ I15 q15) fun z s17 ⟨yv, H17, I17, r17, q17⟩ => ?_
          refine thnF (mt_sadd (X := X.blk s3 H3 sc ce fp) _ s17 σ15 H17 (.ref D) [yv] (.ref D) [z] _ I17 rfl (.cons r17 .nil) q17) fun v s18 ⟨_, H18, I18, _, nx⟩ => ?_
          obtain ⟨m2, hm2, w2⟩ := hN1 H18 nx
          have old1 : ∀ b ∈ fp1, ∀ o, s14.heap.get? b = some o → s18.heap.get? b = some o ∧ H18 b = none := fun b hb o e =>
            have z := I18.pin (b, o) (List.mem_append_right _ (List.mem_append_right _ (mem_pinsAt hb e)))
            ⟨z.1, z.2.1⟩
          refine ⟨m2, hm2, j + 1, H18, I18.unpinned.weak (by rw [← hw15, wipe_length]) (fun j v e => by rw [← hw15] at e; exact (wipe_some e).1), T1.keep _ _ _ st14 fun b hb o e => (old1 b hb o e).1, fun b hb => ?_, w2⟩
          obtain ⟨o, e, _⟩ := T1.obj _ _ st14 b hb
          exact (old1 b hb o e).2
      exact c2_start 1 (.inr rfl) inner (T1.self X.A 0 _ _ _ st11 inner)
  exact c2_start 0 (.inl rfl) loop (T.self X.A 0 _ _ _ st4 loop)
end
end XT
namespace XT
open PySem PySem.Spec PyProof.Rows L2
section
variable {P : Program} {w : World} {K : PySem.W.Frag} {mg : Str → Option Value} {base : Heap}
theorem scUnited : FnScope ["lots", "width", "lot", "x"] ["lots"] (defScope sUnited) := ⟨rfl, rfl, rfl, by decide +kernel, rfl, by decide +kernel, by decide +kernel⟩
def HasM (n : Nat) (ls : Lots) (z : Int) : Prop := ∃ l ∈ ls, ∃ m : Nat, z = m ∧ m ∈ lotOf n l.2
theorem hasM_take {n : Nat} {ls : Lots} {i : Nat} {l : V × (Nat → Bool)} (h : ls[i]? = some l) (z : Int) : HasM n (ls.take (i + 1)) z ↔ HasM n (ls.take i) z ∨ ∃ m : Nat, z = m ∧ m ∈ lotOf n l.2 := by
  unfold HasM
  rw [List.take_add_one, h]
  constructor
  · rintro ⟨x, hx, m, h1, h2⟩
    rcases List.mem_append.mp hx with hx | hx
    · exact .inl ⟨x, hx, m, h1, h2⟩
    · have e : x = l := by simpa using hx
      subst e
      exact .inr ⟨m, h1, h2⟩
  · rintro (⟨x, hx, m, h1, h2⟩ | ⟨m, h1, h2⟩)
    · exact ⟨x, List.mem_append_left _ hx, m, h1, h2⟩
    · exact ⟨l, List.mem_append_right _ (by simp), m, h1, h2⟩
theorem ok_united {f : Addr} {fd : FuncData} {k : Nat} (B : Bl mg) (F : Fun K "united" "united" sUnited f fd) (dW : DefR P w K mg base 1 "common_width" (spWidth K)) : FnR P w K mg base CX0 (k + 2) f (spMany (fun bs => bs.any id)) := by
  refine many_of (star_ok F scUnited (fun _ _ _ _ _ _ rest => by cases rest <;> rfl) fun cdv A outer s H vs Q E hr h => ?_)
  obtain ⟨t, ls, n, rfl, ht, hL, q⟩ := h
  refine ⟨_, pss_cons (ps_set (i := 1) scUnited.nd rfl (.inl rfl) (pe_def dW (hr.mono (by omega)) (by rfl) (pa_cons (pv 0) pa_nil)))
      (pss_one (ps_ret (pe_tup (pa_cons (pv 1) (pa_cons (pe_callTy call_tuple_of (by rfl) B.tuple bT (pa_cons (pe_callB (cr_sortS rfl) (by rfl) B.sorted bS (pa_cons
        (pe_sc2 (own := [("lot", 2), ("x", 3)]) (vb := [3]) (ga := gName 2) (gb := gName 3) (wb := iTup K (tOp (rIxT K) (tVar 2) (tC (.int 1)))) (te := tVar 3) rfl scUnited.nd (pi_tup (pv 0))
          (blkOk_by (own := [("lot", 2), ("x", 3)]) (N := ["lots", "width", "lot", "x"]) (sc := defScope sUnited) (by decide +kernel)) (by decide)
          (fun _ _ _ _ _ => pg_name (i := 2) scUnited.nd rfl (Or.inl rfl)) (fun _ _ _ _ _ => pi_tup (pe_ix ix_tup (pv 2) pe_int (fun _ _ => rfl))) (fun _ _ _ _ _ => pg_name (i := 3) scUnited.nd rfl (Or.inl rfl)) (fun _ _ _ _ _ => pv 3)) pa_nil)) pa_nil)) pa_nil))))), ?_⟩
  refine ⟨.ref t, rfl, t, ls, n, rfl, ht, hL, fun H1 s1 => ?_⟩
  have ht1 := Same.sqT s1 ht
  have hL1 := hL.same s1
  obtain ⟨hne, hlen, hn, hall⟩ := hL1
  refine ⟨.int n, rfl, .ref t, rfl, t, rfl, ⟨_, ht1⟩, fun D nD => ?_⟩
  refine ⟨fun i m H => m = ls.length - i ∧ i ≤ ls.length ∧ Same H1 H ∧ ∃ S c, H D = some (SetO w D S c) ∧ c ≤ 64 * i ∧ ∀ z, S z = true ↔ HasM n (ls.take i) z, ⟨ls.length, by simp, Nat.zero_le _, same_new nD, _, 0, upd_same, by simp, fun z => by simp [HasM]⟩, ?_⟩
  rintro i m H2 ⟨rfl, hi, s2, S, c, hD, hc, hS⟩
  have ht2 := Same.sqT s2 ht1
  rcases Nat.lt_or_ge i ls.length with lt | ge
  · have gl : (ls.map (·.1))[i]? = some (ls[i].1) := by rw [List.getElem?_map, List.getElem?_eq_getElem lt]; rfl
    refine .inr ⟨⟨_, _, ht2, gl⟩, fun H' => Same H1 H' ∧ ∃ S c, H' D = some (SetO w D S c) ∧ c ≤ 64 * (i + 1) ∧ ∀ z, S z = true ↔ HasM n (ls.take (i + 1)) z, ?_, ?_⟩
    · rintro H' ⟨a, S', c', b⟩
      exact ⟨ls.length - (i + 1), by omega, rfl, lt, a, S', c', b⟩
    · rintro v H' ⟨rfl, fv⟩
      have ev : v = ls[i].1 := Option.some.inj ((fv _ ht2).symm.trans gl)
      subst ev
      obtain ⟨x, y, ex, hx, hy⟩ := hall ls[i] (List.getElem_mem lt)
      have hx2 := s2 _ _ hx
      have hy2 := s2 _ _ hy
      refine ⟨rfl, ls[i].1, rfl, x, _, 1, .ref y, ex, rfl, SqT.of hx2, rfl, y, rfl, ⟨_, SqT.of hy2⟩, ?_⟩
      have hlm := lot_len hn ls[i].2
      refine ⟨fun j k H => k = (lotOf n ls[i].2).length - j ∧ j ≤ (lotOf n ls[i].2).length ∧ Same H1 H ∧ ∃ S c, H D = some (SetO w D S c) ∧ c ≤ 64 * i + j ∧ ∀ z, S z = true ↔ HasM n (ls.take i) z ∨ ∃ m : Nat, z = m ∧ m ∈ (lotOf n ls[i].2).take j,
        ⟨_, rfl, Nat.zero_le _, s2, S, c, hD, hc, fun z => by rw [hS z]; simp⟩, ?_⟩
      rintro j k H3 ⟨rfl, hj, s3, S3, c3, hD3, hc3, hS3⟩
      have hy3 := s3 _ _ hy
      rcases Nat.lt_or_ge j (lotOf n ls[i].2).length with lt2 | ge2
      · have gm : (vm (lotOf n ls[i].2))[j]? = some (.int ((lotOf n ls[i].2)[j] : Int)) := by unfold vm; rw [List.getElem?_map, List.getElem?_eq_getElem lt2]; rfl
        refine .inr ⟨⟨_, _, SqT.of hy3, gm⟩, fun H' => Same H1 H' ∧ ∃ S c, H' D = some (SetO w D S c) ∧ c ≤ 64 * i + (j + 1) ∧ ∀ z, S z = true ↔ HasM n (ls.take i) z ∨ ∃ m : Nat, z = m ∧ m ∈ (lotOf n ls[i].2).take (j + 1), ?_, ?_⟩
        · rintro H' ⟨a, S', c', b⟩
          exact ⟨(lotOf n ls[i].2).length - (j + 1), by omega, rfl, lt2, a, S', c', b⟩
        · rintro u H' ⟨rfl, fu⟩
          have eu : u = .int ((lotOf n ls[i].2)[j] : Int) := Option.some.inj ((fu _ (SqT.of hy3)).symm.trans gm)
          subst eu
          refine ⟨rfl, _, rfl, D, _, S3, c3, rfl, rfl, hD3, ?_, ?_⟩
          · unfold scanBound; omega
          · refine ⟨fun b o e => ?_, _, _, upd_same, ?_, fun z => ?_⟩
            · rw [upd_ne (ne_of_none e nD)]
              exact s3 _ _ e
            · split <;> omega
            · rw [Bool.or_eq_true, hS3 z, decide_eq_true_iff, List.take_add_one, List.getElem?_eq_getElem lt2]
              constructor
              · rintro ((h | ⟨m, h1, h2⟩) | h)
                · exact .inl h
                · exact .inr ⟨m, h1, List.mem_append_left _ h2⟩
                · exact .inr ⟨_, h, List.mem_append_right _ (by simp)⟩
              · rintro (h | ⟨m, h1, h2⟩)
                · exact .inl (.inl h)
                · rcases List.mem_append.mp h2 with h2 | h2
                  · exact .inl (.inr ⟨m, h1, h2⟩)
                  · have e : m = (lotOf n ls[i].2)[j] := by simpa using h2
                    exact .inr (by rw [h1, e])
      · have e : j = (lotOf n ls[i].2).length := by omega
        refine .inl ⟨⟨_, SqT.of hy3, by rw [vm_len]; omega⟩, s3, S3, c3, hD3, by omega, fun z => ?_⟩
        rw [hS3 z, hasM_take (List.getElem?_eq_getElem lt), show (lotOf n ls[i].2).take j = lotOf n ls[i].2 from List.take_of_length_le (by omega)]
  · have e : i = ls.length := by omega
    refine .inl ⟨⟨_, ht2, by rw [List.length_map]; omega⟩, D, S, c, rfl, hD, fun ns L asc hm nL => ?_⟩
    have s3 := same_new (o := .lst (ns.map V.int)) nL
    refine ⟨L, _, rfl, .inl ⟨SqL.of upd_same, fun T nT => ⟨sz (n := 2) (by decide), fun U nU => ?_⟩⟩⟩
    refine q _ _ ((((s1.trans s2).trans s3).trans (same_new nT)).trans (same_new nU)) ⟨U, T, rfl, upd_same, ?_⟩
    rw [upd_ne (ne_of_none upd_same nU), upd_same, rising_lot (w := n) (P := fun m => (ls.map fun l => l.2 m).any id) asc fun z => ?_]
    rw [hm z, hS z, e, List.take_length]
    unfold HasM
    constructor
    · rintro ⟨l, hl, m, h1, h2⟩
      obtain ⟨h3, h4⟩ := mem_lot.mp h2
      exact ⟨m, h1, h3, by rw [List.any_eq_true]; exact ⟨true, List.mem_map.mpr ⟨l, hl, h4⟩, rfl⟩⟩
    · rintro ⟨m, h1, h3, h4⟩
      obtain ⟨b, hb, hb2⟩ := List.any_eq_true.mp h4
      obtain ⟨l, hl, rfl⟩ := List.mem_map.mp hb
      exact ⟨l, hl, m, h1, mem_lot.mpr ⟨h3, hb2⟩⟩
end
end XT
namespace XT
open PySem PySem.Spec PyProof.Rows L2
section
variable {P : Program} {w : World} {K : PySem.W.Frag} {mg : Str → Option Value} {base : Heap}
theorem scShared : FnScope ["lots", "width", "x", "lot"] ["lots"] (defScope sShared) := ⟨rfl, rfl, rfl, by decide +kernel, rfl, by decide +kernel, by decide +kernel⟩
def outSc : Scope := match (defBody sShared).getD 1 (.Pass ⟨0, 0, 0, 0⟩) with
  | .Return (some (.Tuple [_, .Call _ [.ListComp _ _ sc _] _ _] _ _)) _ => sc
  | _ => defScope sShared
theorem ok_shared {f : Addr} {fd : FuncData} {k : Nat} (B : Bl mg) (F : Fun K "shared" "shared" sShared f fd) (dW : DefR P w K mg base 1 "common_width" (spWidth K)) : FnR P w K mg base CX0 (k + 2) f (spMany (fun bs => bs.all id)) := by
  refine many_of (star_ok F scShared (fun _ _ _ _ _ _ rest => by cases rest <;> rfl) fun cdv A outer s H vs Q E hr h => ?_)
  obtain ⟨t, ls, n, rfl, ht, hL, q⟩ := h
  refine ⟨_, pss_cons (ps_set (i := 1) scShared.nd rfl (.inl rfl) (pe_def dW (hr.mono (by omega)) (by rfl) (pa_cons (pv 0) pa_nil)))
      (pss_one (ps_ret (pe_tup (pa_cons (pv 1) (pa_cons (pe_callTy call_tuple_of (by rfl) B.tuple bT (pa_cons
        (pe_lc (own := [("x", 2)]) (g := gName 2) (te := tVar 2)
          (tt := tTest (tCB (rAll K) (tCons (tLc (iTup K (tVar 0)) (gName 3) tYes (tOp (rIn K false) (tVar 2) (tOp (rIxT K) (tVar 3) (tC (.int 1)))) [3]) tNil)))
          rfl scShared.nd (pi_tup (pe_ix ix_tup (pe_ix ix_tup (pv 0) pe_int (fun _ _ => rfl)) pe_int (fun _ _ => rfl)))
          (blkOk_by (own := [("x", 2)]) (N := ["lots", "width", "x", "lot"]) (sc := defScope sShared) (by decide +kernel))
          (fun _ _ _ _ _ => pg_name (i := 2) scShared.nd rfl (Or.inr rfl))
          (fun _ _ _ _ _ => pts_one (pt_val (pe_callB (L2.cr_all rfl) (by rfl) B.all bAll (pa_cons
            (pe_lc (own := [("lot", 3)]) (g := gName 3) (tt := tYes) (te := tOp (rIn K false) (tVar 2) (tOp (rIxT K) (tVar 3) (tC (.int 1)))) rfl scShared.nd (pi_tup (pv 0))
              (blkOk_by (own := [("lot", 3)]) (N := ["lots", "width", "x", "lot"]) (sc := relS outSc (defScope sShared)) (by decide +kernel))
              (fun _ _ _ _ _ => pg_name (i := 3) scShared.nd rfl (Or.inl rfl)) (fun _ _ _ _ _ => pts_nil) (fun _ _ _ _ _ => pe_cmpR op_in_seq (pv 2) (pe_ix ix_tup (pv 3) pe_int (fun _ _ => rfl)) (by rfl))) pa_nil))))
          (fun _ _ _ _ _ => pv 2)) pa_nil)) pa_nil))))), ?_⟩
  refine ⟨.ref t, rfl, t, ls, n, rfl, ht, hL, fun H1 s1 => ?_⟩
  have ht1 := Same.sqT s1 ht
  have hL1 := hL.same s1
  obtain ⟨hne, hlen, hn, hall⟩ := hL1
  obtain ⟨l0, ls', rfl⟩ : ∃ l0 ls', ls = l0 :: ls' := by
    cases ls with
    | nil => exact absurd rfl hne
    | cons a b => exact ⟨a, b, rfl⟩
  obtain ⟨x0, y0, e1, hx0, hy0⟩ := hall l0 List.mem_cons_self
  have hl0 := lot_len hn l0.2
  refine ⟨.int n, rfl, .ref t, rfl, t, _, 0, l0.1, rfl, rfl, ht1, atI_nat (j := 0) rfl, x0, _, 1, .ref y0, e1, rfl, SqT.of hx0, rfl, y0, rfl, ⟨_, SqT.of hy0⟩, fun D nD => ?_⟩
  let ls : Lots := l0 :: ls'
  refine lcp_tup (p := fun v => match v with | .int i => (ls.map fun l => l.2 i.toNat).all id | _ => false) (f := id) nD (SqT.of hy0) (small64 (by rw [vm_len]; omega)) (fun i z H3 hz s3 => ?_) (fun H3 s3 hD => ?_)
  · intro R1 R2 h1 h2
    obtain ⟨m, hm, rfl⟩ := mem_vm hz
    have hm2 : m < 2 ^ n := (mem_lot.mp (List.mem_of_getElem? hm)).1
    have ht3 := Same.sqT s3 ht1
    refine ⟨rfl, .ref t, rfl, t, rfl, ⟨_, ht3⟩, fun B2 nB => ?_⟩
    refine lc_tup (K := K) (xs := ls.map (·.1)) (fun i H => PvP H3 B2 ((ls.take i).map fun l => V.bl (l.2 m)) H) ⟨same_new nB, upd_same⟩ (fun i H _ h => Same.sqT h.1 ht3) (fun i v H4 hv h => ?_) (fun H4 h => ?_)
    · rw [List.getElem?_map] at hv
      obtain ⟨l, hl, rfl⟩ := Option.map_eq_some_iff.mp hv
      obtain ⟨x, y, ex, hx, hy⟩ := hall l (List.mem_of_getElem? hl)
      refine pvp_turn (y := .bl (l.2 m)) (keep := true) nB h ?_ ?_ _ ?_
      · rw [List.length_map, List.length_take]
        exact small64 (Nat.le_trans (Nat.min_le_right _ _) (Nat.le_trans hlen (by decide)))
      · intro R3 R4 h3 h4
        refine ⟨rfl, iteT (B := R3 H4) ⟨_, rfl, l.1, rfl, x, _, 1, .ref y, ex, rfl, SqT.of (h.1 _ _ (s3 _ _ hx)), rfl, y, _, rfl, .inr (SqT.of (h.1 _ _ (s3 _ _ hy))), rfl, vm_flat _, ?_⟩⟩
        show R4 (.bl (inV (.int (m : Int)) (vm (lotOf n l.2)))) H4
        rw [in_lot hm2]
        exact h4 rfl _ (Same.refl _)
      · rw [List.take_add_one, hl, List.map_append]
        rfl
    · have hB := h.2
      rw [List.length_map, List.take_length] at hB
      refine ⟨B2, ls.map fun l => l.2 m, rfl, SqL.of ?_, _, rfl, ite2 (fun z => ?_) (fun z => ?_)⟩
      · rw [hB, List.map_map]
        rfl
      · exact ⟨_, rfl, h2 z _ h.1⟩
      · exact h1 (by simpa using z) _ h.1
  · have e : ((vm (lotOf n l0.2)).filter fun v => match v with | .int i => (ls.map fun l => l.2 i.toNat).all id | _ => false).map id = vm (lotOf n fun m => (ls.map fun l => l.2 m).all id) := by
      rw [vm_filter (lotOf n l0.2) (fun m => (ls.map fun l => l.2 m).all id) _ fun m hm => rfl, lot_filter]
      congr 1
      refine lot_congr fun m _ => ?_
      show (l0.2 m && (l0.2 m && (ls'.map fun l => l.2 m).all id)) = (l0.2 m && (ls'.map fun l => l.2 m).all id)
      cases l0.2 m <;> rfl
    rw [e] at hD
    refine ⟨D, _, rfl, .inl ⟨SqL.of hD, fun T nT => ⟨sz (n := 2) (by decide), fun U nU => ?_⟩⟩⟩
    refine q _ _ (((s1.trans s3).trans (same_new nT)).trans (same_new nU)) ⟨U, T, rfl, upd_same, ?_⟩
    rw [upd_ne (ne_of_none upd_same nU), upd_same]
end
end XT
namespace XT
open PySem PySem.Spec PyProof.Rows L2
section
variable {P : Program} {w : World} {K : PySem.W.Frag} {mg : Str → Option Value} {base : Heap}
theorem scRest : FnScope ["lot", "width", "masks", "x"] ["lot"] (defScope sRest) := ⟨rfl, rfl, rfl, by decide +kernel, rfl, by decide +kernel, by decide +kernel⟩
def spRest : Sp := fun vs H Q _ => ∃ (v : V) (n : Nat) (p : Nat → Bool), vs = [v] ∧ LotAt H v n p ∧ n ≤ 6 ∧ ∀ H' r, Same H H' → LotAt H' r n (fun m => !p m) → Q r H'
theorem ok_rest {f : Addr} {fd : FuncData} {k : Nat} (B : Bl mg) (F : Fun K "rest_of" "rest_of" sRest f fd) : FnOk P w K mg base CX0 (k + 1) f fd ["lot"] spRest := by
  refine F.ok scRest (fun vs H Q E h => ?_) (fun cdv A outer s H vs Q E hr h => ?_)
  · obtain ⟨v, n, p, rfl, _⟩ := h
    rfl
  · obtain ⟨v, n, p, rfl, ⟨x, y, rfl, hx, hy⟩, hn, q⟩ := h
    refine ⟨_, pss_cons (ps_asg (pv 0) (pg_tup rfl (pgs_cons (pg_name (i := 1) scRest.nd rfl (.inl rfl)) (pgs_cons (pg_name (i := 2) scRest.nd rfl (.inr rfl)) pgs_nil))))
      (pss_one (ps_ret (pe_tup (pa_cons (pv 1) (pa_cons (pe_callTy call_tuple_of (by rfl) B.tuple bT (pa_cons
        (pe_lc (own := [("x", 3)]) (g := gName 3) (tt := tTest (tOp (rIn K true) (tVar 3) (tVar 2))) rfl scRest.nd (pi_range1 (by rfl) B.range (pa_cons (pe_op op_shl pe_int (pv 1)) pa_nil)) (blkOk_by (own := [("x", 3)]) (N := ["lot", "width", "masks", "x"]) (sc := defScope sRest) (by decide +kernel))
          (fun _ _ _ _ _ => pg_name (i := 3) scRest.nd rfl (Or.inl rfl)) (fun _ _ _ _ _ => pts_one (pt_cmpR op_notIn_seq (pv 3) (pv 2) (by rfl))) (fun _ _ _ _ _ => pv 3)) pa_nil)) pa_nil))))), ?_⟩
    refine ⟨.ref x, rfl, x, _, rfl, SqT.of hx, rfl, _, _, rfl, _, _, rfl, rfl, ?_⟩
    refine ⟨.int n, rfl, .int n, rfl, 1, n, rfl, rfl, cpow hn, ((2 ^ n : Nat) : Int), congrArg (fun z => [V.int z]) (shl1 n), l62, r62 hn, fun D nD => ?_⟩
    have h6 := pow6 hn
    refine lcp_range (n := 2 ^ n) (p := fun m => !p m) (f := fun m => .int (m : Int)) nD (small64 (by omega)) (fun i H3 hi sm => ?_) (fun H3 sm hD => ?_)
    · intro R1 R2 h1 h2
      refine ⟨rfl, _, rfl, .ref y, rfl, y, _, rfl, .inr (SqT.of (sm _ _ hy)), rfl, vm_flat _, _, rfl, ?_⟩
      have e : inV (.int (0 + (i : Int))) (vm (lotOf n p)) = p i := by
        rw [Int.zero_add]; exact in_lot hi
      show if (!inV (.int (0 + (i : Int))) (vm (lotOf n p))) = true then _ else _
      rw [e]
      refine ite2 (fun z => ?_) (fun z => ?_)
      · refine ⟨.int (0 + (i : Int)), rfl, ?_⟩
        rw [Int.zero_add]
        exact h2 z _ (Same.refl _)
      · exact h1 (by simpa using z) _ (Same.refl _)
    · refine ⟨D, _, rfl, .inl ⟨SqL.of hD, fun T nT => ⟨sz (n := 2) (by decide), fun U nU => ?_⟩⟩⟩
      refine q _ _ ((sm.trans (same_new nT)).trans (same_new nU)) ⟨U, T, rfl, upd_same, ?_⟩
      rw [upd_ne (ne_of_none upd_same nU), upd_same]
      rfl
end
end XT
/-! sums of lots as numbers -/
namespace XT
open PySem PySem.Spec PyProof.Rows L2
/-- how many numbers below N the set has -/
def cnt (N : Nat) (S : Int → Bool) : Nat := ((List.range N).filter fun (m : Nat) => S (m : Int)).length
theorem cnt_le (N : Nat) (S : Int → Bool) : cnt N S ≤ N := by
  unfold cnt
  refine Nat.le_trans (List.length_filter_le _ _) ?_
  rw [List.length_range]
  exact Nat.le_refl _
theorem cnt_succ (N : Nat) (S : Int → Bool) : cnt (N + 1) S = cnt N S + if S (N : Int) = true then 1 else 0 := by
  unfold cnt
  rw [List.range_succ, List.filter_append, List.length_append]
  by_cases h : S (N : Int) = true
  · simp [h]
  · simp [h]
theorem cnt_old {N m : Nat} (S : Int → Bool) (h : N ≤ m) : cnt N (fun j => S j || decide (j = (m : Int))) = cnt N S := by
  unfold cnt
  congr 1
  refine List.filter_congr fun x hx => ?_
  have h2 := List.mem_range.mp hx
  show (S (x : Int) || decide ((x : Int) = (m : Int))) = S (x : Int)
  rw [decide_eq_false (by omega), Bool.or_false]
theorem cnt_add {m : Nat} (S : Int → Bool) : ∀ {N : Nat}, m < N → cnt N (fun j => S j || decide (j = (m : Int))) = if S (m : Int) = true then cnt N S else cnt N S + 1
  | 0, h => absurd h (Nat.not_lt_zero _)
  | N + 1, h => by
    rw [cnt_succ, cnt_succ]
    by_cases e : m = N
    · subst e
      rw [cnt_old S (Nat.le_refl _)]
      by_cases hS : S (m : Int) = true
      · simp [hS]
      · simp [hS]
    · rw [cnt_add S (show m < N by omega), decide_eq_false (show ¬((N : Int) = (m : Int)) by omega), Bool.or_false]
      by_cases hS : S (m : Int) = true
      · simp [hS]
      · simp [hS]; omega
/-- the sum of two lots -/
def addB (n : Nat) (p r : Nat → Bool) (m : Nat) : Bool := (List.range (2 ^ n)).any fun x => p x && r (x ^^^ m)
theorem add_iff {n : Nat} {p r : Nat → Bool} {m : Nat} : addB n p r m = true ↔ ∃ x, x < 2 ^ n ∧ p x = true ∧ r (x ^^^ m) = true := by
  unfold addB
  rw [List.any_eq_true]
  constructor
  · rintro ⟨x, h1, h2⟩
    rw [Bool.and_eq_true] at h2
    exact ⟨x, List.mem_range.mp h1, h2.1, h2.2⟩
  · rintro ⟨x, h1, h2, h3⟩
    exact ⟨x, List.mem_range.mpr h1, by rw [h2, h3]; rfl⟩
def zeroB (m : Nat) : Bool := decide (m = 0)
def sumB (n : Nat) (ps : List (Nat → Bool)) : Nat → Bool := ps.foldl (addB n) zeroB
theorem lot_zero (n : Nat) : lotOf n zeroB = [0] := by
  have h : ∀ N, 0 < N → (List.range N).filter zeroB = [0] := by
    intro N hN
    obtain ⟨k, rfl⟩ : ∃ k, N = k + 1 := ⟨N - 1, by omega⟩
    rw [List.range_succ_eq_map, List.filter_cons]
    have e : (List.filter zeroB (List.map Nat.succ (List.range k))) = [] := by
      rw [List.filter_eq_nil_iff]
      intro a ha
      obtain ⟨b, _, rfl⟩ := List.mem_map.mp ha
      simp [zeroB]
    rw [e]
    rfl
  exact h _ (pow0 n)
theorem sum_take {n : Nat} {ps : List (Nat → Bool)} {i : Nat} {p : Nat → Bool} (h : ps[i]? = some p) : sumB n (ps.take (i + 1)) = addB n (sumB n (ps.take i)) p := by
  unfold sumB
  rw [List.take_add_one, h, List.foldl_append]
  rfl
theorem add_congr {n : Nat} {p p' r r' : Nat → Bool} {m : Nat} (hm : m < 2 ^ n) (h1 : ∀ x, x < 2 ^ n → p x = p' x) (h2 : ∀ x, x < 2 ^ n → r x = r' x) : addB n p r m = addB n p' r' m := by
  rw [Bool.eq_iff_iff, add_iff, add_iff]
  constructor
  · rintro ⟨x, a, b, c⟩
    exact ⟨x, a, by rw [← h1 x a]; exact b, by rw [← h2 _ (xor_lt a hm)]; exact c⟩
  · rintro ⟨x, a, b, c⟩
    exact ⟨x, a, by rw [h1 x a]; exact b, by rw [h2 _ (xor_lt a hm)]; exact c⟩
theorem add_zero' {n : Nat} {p : Nat → Bool} {m : Nat} (hm : m < 2 ^ n) : addB n zeroB p m = p m := by
  rw [Bool.eq_iff_iff, add_iff]
  constructor
  · rintro ⟨x, a, b, c⟩
    have : x = 0 := of_decide_eq_true b
    subst this
    rwa [Nat.zero_xor] at c
  · intro h
    exact ⟨0, pow0 n, rfl, by rw [Nat.zero_xor]; exact h⟩
theorem add_comm' {n : Nat} {p r : Nat → Bool} {m : Nat} (hm : m < 2 ^ n) : addB n p r m = addB n r p m := by
  have go : ∀ {p r : Nat → Bool}, addB n p r m = true → addB n r p m = true := fun {p r} h => by
    obtain ⟨x, a, b, c⟩ := add_iff.mp h
    exact add_iff.mpr ⟨x ^^^ m, xor_lt a hm, c, by rw [xor_back]; exact b⟩
  rw [Bool.eq_iff_iff]
  exact ⟨go, go⟩
theorem add_assoc' {n : Nat} {p r o : Nat → Bool} {m : Nat} (hm : m < 2 ^ n) : addB n (addB n p r) o m = addB n p (addB n r o) m := by
  rw [Bool.eq_iff_iff, add_iff, add_iff]
  constructor
  · rintro ⟨x, a, b, c⟩
    obtain ⟨y, a2, b2, c2⟩ := add_iff.mp b
    refine ⟨y, a2, b2, add_iff.mpr ⟨y ^^^ x, xor_lt a2 a, c2, ?_⟩⟩
    have e : y ^^^ x ^^^ (y ^^^ m) = x ^^^ m := by rw [Nat.xor_comm y x, Nat.xor_assoc, ← Nat.xor_assoc y y m, Nat.xor_self, Nat.zero_xor]
    rw [e]
    exact c
  · rintro ⟨y, a2, b2, c⟩
    obtain ⟨z, a, c2, c3⟩ := add_iff.mp c
    refine ⟨y ^^^ z, xor_lt a2 a, add_iff.mpr ⟨y, a2, b2, ?_⟩, ?_⟩
    · have e : y ^^^ (y ^^^ z) = z := by rw [← Nat.xor_assoc, Nat.xor_self, Nat.zero_xor]
      rw [e]
      exact c2
    · have e : y ^^^ z ^^^ m = z ^^^ (y ^^^ m) := by rw [Nat.xor_comm y z, Nat.xor_assoc]
      rw [e]
      exact c3
/-- the greatest addend of p for r -/
def gaB (n : Nat) (p r : Nat → Bool) (m : Nat) : Bool := (lotOf n p).all fun x => r (x ^^^ m)
theorem ga_iff {n : Nat} {p r : Nat → Bool} {m : Nat} : gaB n p r m = true ↔ ∀ x, x < 2 ^ n → p x = true → r (x ^^^ m) = true := by
  unfold gaB
  rw [List.all_eq_true]
  exact ⟨fun h x a b => h x (mem_lot.mpr ⟨a, b⟩), fun h x hx => h x (mem_lot.mp hx).1 (mem_lot.mp hx).2⟩
/-! sums as numbers -/
theorem sum1 {n : Nat} {p : Nat → Bool} {m : Nat} (hm : m < 2 ^ n) : sumB n [p] m = p m := add_zero' hm
theorem sum2 {n : Nat} {p r : Nat → Bool} {m : Nat} (hm : m < 2 ^ n) : sumB n [p, r] m = addB n p r m := add_congr hm (fun _ h => add_zero' h) fun _ _ => rfl
theorem sum3 {n : Nat} {p r o : Nat → Bool} {m : Nat} (hm : m < 2 ^ n) : sumB n [p, r, o] m = addB n (addB n p r) o m := add_congr hm (fun _ h => sum2 h) fun _ _ => rfl
theorem add_or {n : Nat} {p r o : Nat → Bool} {m : Nat} : addB n p (fun x => r x || o x) m = (addB n p r m || addB n p o m) := by
  rw [Bool.eq_iff_iff, Bool.or_eq_true, add_iff, add_iff, add_iff]
  constructor
  · rintro ⟨x, a, b, c⟩
    rcases Bool.or_eq_true_iff.mp c with c | c
    · exact .inl ⟨x, a, b, c⟩
    · exact .inr ⟨x, a, b, c⟩
  · rintro (⟨x, a, b, c⟩ | ⟨x, a, b, c⟩)
    · exact ⟨x, a, b, by rw [c]; rfl⟩
    · exact ⟨x, a, b, by rw [c, Bool.or_true]⟩
def oneB (a m : Nat) : Bool := decide (m = a)
theorem lot_one {n a : Nat} (ha : a < 2 ^ n) : vm (lotOf n (oneB a)) = [.int (a : Int)] := by
  refine (rising_lot (ns := [(a : Int)]) (by simp) fun k => ?_).symm
  constructor
  · intro h
    have : k = (a : Int) := by simpa using h
    exact ⟨a, this, ha, decide_eq_true rfl⟩
  · rintro ⟨m, h1, h2, h3⟩
    have : m = a := of_decide_eq_true h3
    rw [h1, this]
    exact List.mem_singleton.mpr rfl
theorem add_one {n a : Nat} {p : Nat → Bool} {m : Nat} (ha : a < 2 ^ n) (hm : m < 2 ^ n) : addB n (oneB a) p m = p (m ^^^ a) := by
  rw [Bool.eq_iff_iff, add_iff]
  constructor
  · rintro ⟨x, a', b, c⟩
    have : x = a := of_decide_eq_true b
    subst this
    rwa [Nat.xor_comm] at c
  · intro h
    exact ⟨a, ha, decide_eq_true rfl, by rw [Nat.xor_comm]; exact h⟩
theorem lot_mono {n : Nat} {p r : Nat → Bool} (h : ∀ m, m < 2 ^ n → p m = true → r m = true) : (lotOf n p).length ≤ (lotOf n r).length := by
  unfold lotOf
  rw [← List.countP_eq_length_filter, ← List.countP_eq_length_filter]
  exact List.countP_mono_left fun m hm => h m (List.mem_range.mp hm)
theorem nodup_le : ∀ {l m : List Nat}, l.Nodup → l ⊆ m → l.length ≤ m.length
  | [], _, _, _ => Nat.zero_le _
  | x :: l, m, h, s => by
    obtain ⟨h1, h2⟩ := List.nodup_cons.mp h
    have hx : x ∈ m := s List.mem_cons_self
    have h3 := nodup_le (l := l) (m := m.erase x) h2 fun y hy => (List.mem_erase_of_ne (fun e => h1 (by rw [← e]; exact hy))).mpr (s (List.mem_cons_of_mem _ hy))
    rw [List.length_erase_of_mem hx] at h3
    have h4 : 0 < m.length := List.length_pos_of_mem hx
    rw [List.length_cons]
    omega
theorem lot_len_xor {n a : Nat} {p : Nat → Bool} (ha : a < 2 ^ n) : (lotOf n fun m => p (m ^^^ a)).length = (lotOf n p).length := by
  have sub : ∀ {p : Nat → Bool}, (lotOf n p).length ≤ (lotOf n fun m => p (m ^^^ a)).length := fun {p} => by
    have h1 : ((lotOf n p).map fun (m : Nat) => m ^^^ a).Nodup := by
      have h := nodup_lot n p
      unfold List.Nodup at h ⊢
      rw [List.pairwise_map]
      refine h.imp fun {x y} hxy e => hxy ?_
      have e3 := congrArg (· ^^^ a) e
      simpa [Nat.xor_assoc] using e3
    have h2 : ((lotOf n p).map fun (m : Nat) => m ^^^ a) ⊆ (lotOf n fun m => p (m ^^^ a)) := by
      intro z hz
      obtain ⟨m, hm, rfl⟩ := List.mem_map.mp hz
      obtain ⟨h3, h4⟩ := mem_lot.mp hm
      exact mem_lot.mpr ⟨xor_lt h3 ha, by rw [xor_back]; exact h4⟩
    have h3 := nodup_le h1 h2
    rw [List.length_map] at h3
    exact h3
  refine Nat.le_antisymm ?_ sub
  have h := sub (p := fun m => p (m ^^^ a))
  have e : (lotOf n fun m => p (m ^^^ a ^^^ a)) = lotOf n p := lot_congr fun m _ => by rw [xor_back]
  rw [e] at h
  exact h
end XT
/-! sum_of, at lots of one width -/
namespace XT
open PySem PySem.Spec PyProof.Rows L2
section
variable {P : Program} {w : World} {K : PySem.W.Frag} {mg : Str → Option Value} {base : Heap}
abbrev nSu : List Str := ["lots", "width", "reached", "lot", "x", "y"]
theorem scSu : FnScope nSu ["lots"] (defScope sSumOf) := ⟨rfl, rfl, rfl, by decide +kernel, rfl, by decide +kernel, by decide +kernel⟩
def spSum : Sp := fun vs H Q _ => ∃ (ls : Lots) (n : Nat), vs = ls.map (·.1) ∧ LotsAt H ls n ∧ ∀ H' r, Same H H' → LotAt H' r n (sumB n (ls.map (·.2))) → Q r H'
def spSumT (K : PySem.W.Frag) : Sp := fun vs H Q _ => ∃ (t : Addr) (ls : Lots) (n : Nat), vs = [.ref t] ∧ SqT K H t (ls.map (·.1)) ∧ LotsAt H ls n ∧ ∀ H' r, Same H H' → LotAt H' r n (sumB n (ls.map (·.2))) → Q r H'
theorem sum_of' {k : Nat} {f : Addr} (h : FnR P w K mg base CX0 k f (fun vs H Q E => vs.length ≤ 1000 ∧ ∀ p, H p = none → spSumT K [V.ref p] (upd H p (.tup vs)) Q E)) : FnR P w K mg base CX0 k f spSum :=
  h.imp fun vs H Q E ⟨ls, n, ev, hL, q⟩ => by
    subst ev
    refine ⟨by rw [List.length_map]; exact Nat.le_trans hL.2.1 (by decide), fun p np => ⟨p, ls, n, rfl, SqT.of upd_same, hL.same (same_new np), fun H' r sm => q H' r ((same_new np).trans sm)⟩⟩
/-- what the set has behind some x, and some y of the next x -/
def XorM (as bs : List Nat) (i j : Nat) (z : Int) : Prop := (∃ x ∈ as.take i, ∃ y ∈ bs, z = ((x ^^^ y : Nat) : Int)) ∨ ∃ x, as[i]? = some x ∧ ∃ y ∈ bs.take j, z = ((x ^^^ y : Nat) : Int)
theorem ok_sum {f : Addr} {fd : FuncData} {k : Nat} (B : Bl mg) (F : Fun K "sum_of" "sum_of" sSumOf f fd) (dW : DefR P w K mg base 1 "common_width" (spWidth K)) : FnR P w K mg base CX0 (k + 2) f spSum := by
  refine sum_of' (star_ok F scSu (fun _ _ _ _ _ _ rest => by cases rest <;> rfl) fun cdv A outer s H vs Q E hr h => ?_)
  obtain ⟨t, ls, n, rfl, ht, hL, q⟩ := h
  refine ⟨_, pss_cons (ps_set (i := 1) scSu.nd rfl (by first | exact Or.inl rfl | exact Or.inr rfl) (pe_def dW (hr.mono (by omega)) (by rfl) (pa_cons (pv 0) pa_nil)))
      (pss_cons (ps_set (i := 2) scSu.nd rfl (by first | exact Or.inl rfl | exact Or.inr rfl) (pe_lst (pa_cons pe_int pa_nil)))
      (pss_cons (ps_for PassesOwn.never rfl (pi_tup (pv 0)) (pg_name (i := 3) scSu.nd rfl (by first | exact Or.inl rfl | exact Or.inr rfl))
        (pss_one (ps_set (i := 2) scSu.nd rfl (by first | exact Or.inl rfl | exact Or.inr rfl) (pe_callB (cr_sortS rfl) (by rfl) B.sorted bS (pa_cons
          (pe_sc2 (own := [("x", 4), ("y", 5)]) (vb := [5]) (ga := gName 4) (gb := gName 5) (wb := iTup K (tOp (rIxT K) (tVar 3) (tC (.int 1)))) (te := tOp rXor (tVar 4) (tVar 5)) rfl scSu.nd (pi_list (pv 2))
            (blkOk_by (own := [("x", 4), ("y", 5)]) (N := nSu) (sc := defScope sSumOf) (by decide +kernel)) (by decide)
            (fun _ _ _ _ _ => pg_name (i := 4) scSu.nd rfl (Or.inl rfl)) (fun _ _ _ _ _ => pi_tup (pe_ix ix_tup (pv 3) pe_int (fun _ _ => rfl))) (fun _ _ _ _ _ => pg_name (i := 5) scSu.nd rfl (Or.inl rfl)) (fun _ _ _ _ _ => pe_op op_xor (pv 4) (pv 5))) pa_nil)))))
      (pss_one (ps_ret (pe_tup (pa_cons (pv 1) (pa_cons (pe_callTy call_tuple_of (by rfl) B.tuple bT (pa_cons (pv 2) pa_nil)) pa_nil))))))), ?_⟩
  refine ⟨.ref t, rfl, t, ls, n, rfl, ht, hL, fun H1 s1 => ?_⟩
  have ht1 := Same.sqT s1 ht
  have hL1 := hL.same s1
  obtain ⟨hne, hlen, hn, hall⟩ := hL1
  have h6 := pow6 hn
  refine ⟨sz (n := 1) (by decide), fun R0 nR0 => ?_⟩
  have sR := same_new (o := .lst [.int 0]) nR0
  refine ⟨.ref t, rfl, t, rfl, ⟨_, Same.sqT sR ht1⟩, for_tup (K := K) (xs := ls.map (·.1)) (fun i σ H' => Same H1 H' ∧ ∃ (R : Addr) (z3 : Option V), σ = [some (.ref t), some (.int (n : Int)), some (.ref R), z3, none, none] ∧ H' R = some (.lst (vm (lotOf n (sumB n ((ls.map (·.2)).take i)))))) ⟨sR, R0, none, rfl, ?_⟩ (fun i σ H' _ h => Same.sqT h.1 ht1) (fun i v σ H2 hv h => ?_) (fun σ H2 h => ?_)⟩
  · rw [upd_same]
    show some (HO.lst [V.int 0]) = some (.lst (vm (lotOf n zeroB)))
    rw [lot_zero]
    rfl
  · obtain ⟨sm, R, z3, rfl, hR⟩ := h
    rw [List.getElem?_map] at hv
    obtain ⟨l, hl, rfl⟩ := Option.map_eq_some_iff.mp hv
    obtain ⟨x, y, ex, hx, hy⟩ := hall l (List.mem_of_getElem? hl)
    have hx2 := sm _ _ hx
    have hy2 := sm _ _ hy
    have eps : (ls.map (·.2))[i]? = some l.2 := by rw [List.getElem?_map, hl]; rfl
    obtain ⟨as, eas⟩ : ∃ as, as = lotOf n (sumB n ((ls.map (·.2)).take i)) := ⟨_, rfl⟩
    obtain ⟨bs, ebs⟩ : ∃ bs, bs = lotOf n l.2 := ⟨_, rfl⟩
    rw [← eas] at hR
    rw [← ebs] at hy2 hy
    have las : ∀ m ∈ as, m < 2 ^ n := fun m hm => by rw [eas] at hm; exact (mem_lot.mp hm).1
    have lbs : ∀ m ∈ bs, m < 2 ^ n := fun m hm => by rw [ebs] at hm; exact (mem_lot.mp hm).1
    refine ⟨.ref R, rfl, R, rfl, ⟨_, SqL.of hR⟩, fun D nD => ?_⟩
    refine ⟨fun a m H => m = as.length - a ∧ a ≤ as.length ∧ Same H2 H ∧ ∃ S, H D = some (SetO w D S (cnt (2 ^ n) S)) ∧ ∀ z, S z = true ↔ XorM as bs a 0 z, ⟨as.length, by simp, Nat.zero_le _, same_new nD, fun _ => false, ?_, fun z => by simp [XorM]⟩, ?_⟩
    · rw [upd_same]
      congr 2
      unfold cnt
      rw [List.filter_eq_nil_iff.mpr fun _ _ => Bool.false_ne_true]
      rfl
    rintro a m H3 ⟨rfl, ha, s3, S, hD, hS⟩
    have hR3 := s3 _ _ hR
    rcases Nat.lt_or_ge a as.length with lt | ge
    · have ga : (vm as)[a]? = some (.int (as[a] : Int)) := by unfold vm; rw [List.getElem?_map, List.getElem?_eq_getElem lt]; rfl
      have hla : as[a] < 2 ^ n := las _ (List.getElem_mem lt)
      refine .inr ⟨⟨_, _, SqL.of hR3, ga⟩, fun H' => Same H2 H' ∧ ∃ S, H' D = some (SetO w D S (cnt (2 ^ n) S)) ∧ ∀ z, S z = true ↔ XorM as bs (a + 1) 0 z, ?_, ?_⟩
      · rintro H' ⟨e, S', b⟩
        exact ⟨as.length - (a + 1), by omega, rfl, lt, e, S', b⟩
      · rintro v H' ⟨rfl, fv⟩
        have ev : v = .int (as[a] : Int) := Option.some.inj ((fv _ (SqL.of hR3)).symm.trans ga)
        subst ev
        refine ⟨rfl, l.1, rfl, x, _, 1, .ref y, ex, rfl, SqT.of (s3 _ _ hx2), rfl, y, rfl, ⟨_, SqT.of (s3 _ _ hy2)⟩, ?_⟩
        refine ⟨fun j k H => k = bs.length - j ∧ j ≤ bs.length ∧ Same H2 H ∧ ∃ S, H D = some (SetO w D S (cnt (2 ^ n) S)) ∧ ∀ z, S z = true ↔ XorM as bs a j z, ⟨_, rfl, Nat.zero_le _, s3, S, hD, hS⟩, ?_⟩
        rintro j k H4 ⟨rfl, hj, s4, S4, hD4, hS4⟩
        have hy4 := s4 _ _ hy2
        rcases Nat.lt_or_ge j bs.length with lt2 | ge2
        · have gb : (vm bs)[j]? = some (.int (bs[j] : Int)) := by unfold vm; rw [List.getElem?_map, List.getElem?_eq_getElem lt2]; rfl
          have hlb : bs[j] < 2 ^ n := lbs _ (List.getElem_mem lt2)
          refine .inr ⟨⟨_, _, SqT.of hy4, gb⟩, fun H' => Same H2 H' ∧ ∃ S, H' D = some (SetO w D S (cnt (2 ^ n) S)) ∧ ∀ z, S z = true ↔ XorM as bs a (j + 1) z, ?_, ?_⟩
          · rintro H' ⟨e, S', b⟩
            exact ⟨bs.length - (j + 1), by omega, rfl, lt2, e, S', b⟩
          · rintro u H' ⟨rfl, fu⟩
            have eu : u = .int (bs[j] : Int) := Option.some.inj ((fu _ (SqT.of hy4)).symm.trans gb)
            subst eu
            have cl := cnt_le (2 ^ n) S4
            refine ⟨rfl, _, rfl, _, rfl, (as[a] : Int), (bs[j] : Int), rfl, rfl, D, ((as[a] ^^^ bs[j] : Nat) : Int), S4, _, rfl, congrArg (fun z => [V.int z]) (bx _ _), hD4, ?_, fun b o e => ?_, fun z => S4 z || decide (z = ((as[a] ^^^ bs[j] : Nat) : Int)), ?_, fun z => ?_⟩
            · unfold scanBound; omega
            · rw [upd_ne (ne_of_none e nD)]
              exact s4 _ _ e
            · rw [upd_same, cnt_add S4 (xor_lt hla hlb)]
              rfl
            · rw [Bool.or_eq_true, hS4 z, decide_eq_true_iff]
              unfold XorM
              rw [List.take_add_one, List.getElem?_eq_getElem lt2]
              constructor
              · rintro ((h | ⟨x', h1, y', h2, h3⟩) | h)
                · exact .inl h
                · exact .inr ⟨x', h1, y', List.mem_append_left _ h2, h3⟩
                · exact .inr ⟨as[a], List.getElem?_eq_getElem lt, bs[j], List.mem_append_right _ (by simp), h⟩
              · rintro (h | ⟨x', h1, y', h2, h3⟩)
                · exact .inl (.inl h)
                · rcases List.mem_append.mp h2 with h2 | h2
                  · exact .inl (.inr ⟨x', h1, y', h2, h3⟩)
                  · have e : y' = bs[j] := by simpa using h2
                    rw [List.getElem?_eq_getElem lt] at h1
                    rw [h3, e, ← Option.some.inj h1]
                    exact .inr rfl
        · refine .inl ⟨⟨_, SqT.of hy4, by rw [vm_len]; omega⟩, s4, S4, hD4, fun z => ?_⟩
          rw [hS4 z]
          unfold XorM
          rw [List.take_of_length_le ge2, List.take_add_one, List.getElem?_eq_getElem lt]
          constructor
          · rintro (⟨x', h1, y', h2, h3⟩ | ⟨x', h1, y', h2, h3⟩)
            · exact .inl ⟨x', List.mem_append_left _ h1, y', h2, h3⟩
            · exact .inl ⟨x', List.mem_append_right _ (by rw [← Option.some.inj h1]; simp), y', h2, h3⟩
          · rintro (⟨x', h1, y', h2, h3⟩ | ⟨x', h1, y', h2, h3⟩)
            · rcases List.mem_append.mp h1 with h1 | h1
              · exact .inl ⟨x', h1, y', h2, h3⟩
              · have e : x' = as[a] := by simpa using h1
                exact .inr ⟨as[a], rfl, y', h2, by rw [← e]; exact h3⟩
            · simp at h2
    · refine .inl ⟨⟨_, SqL.of hR3, by rw [vm_len]; omega⟩, D, S, _, rfl, hD, fun ns L asc hm nL => ?_⟩
      have s5 := same_new (o := .lst (ns.map V.int)) nL
      refine ⟨(sm.trans s3).trans s5, L, _, rfl, ?_⟩
      rw [upd_same, sum_take eps, rising_lot (w := n) (P := addB n (sumB n ((ls.map (·.2)).take i)) l.2) asc fun z => ?_]
      rw [hm z, hS z]
      unfold XorM
      rw [List.take_of_length_le ge]
      constructor
      · rintro (⟨x', h1, y', h2, h3⟩ | ⟨x', h1, y', h2, h3⟩)
        · rw [eas] at h1
          rw [ebs] at h2
          obtain ⟨h4, h5⟩ := mem_lot.mp h1
          obtain ⟨h6', h7⟩ := mem_lot.mp h2
          exact ⟨x' ^^^ y', h3, xor_lt h4 h6', add_iff.mpr ⟨x', h4, h5, by rw [← Nat.xor_assoc, Nat.xor_self, Nat.zero_xor]; exact h7⟩⟩
        · simp at h2
      · rintro ⟨m, h1, h2, h3⟩
        obtain ⟨x', h4, h5, h6'⟩ := add_iff.mp h3
        refine .inl ⟨x', by rw [eas]; exact mem_lot.mpr ⟨h4, h5⟩, x' ^^^ m, by rw [ebs]; exact mem_lot.mpr ⟨xor_lt h4 h2, h6'⟩, ?_⟩
        rw [← Nat.xor_assoc, Nat.xor_self, Nat.zero_xor]
        exact h1
  · obtain ⟨sm, R, z3, rfl, hR⟩ := h
    rw [List.length_map, List.take_of_length_le (by rw [List.length_map]; exact Nat.le_refl _)] at hR
    refine ⟨.int n, rfl, .ref R, rfl, R, _, rfl, .inl ⟨SqL.of hR, fun T nT => ⟨sz (n := 2) (by decide), fun U nU => ?_⟩⟩⟩
    refine q _ _ (((s1.trans sm).trans (same_new nT)).trans (same_new nU)) ⟨U, T, rfl, upd_same, ?_⟩
    rw [upd_ne (ne_of_none upd_same nU), upd_same]
end
end XT
/-! the methods of MaskSet at valid sets -/
namespace XT
open PySem PySem.Spec PyProof.Rows L2
/-- facts of the class -/
structure MsC (K : PySem.W.Frag) (C : Addr) : Prop where
  cl : Cls K C
  nH : NoAttr K C "held"
  sf : PySem.W.selfFirst K C = true
section
variable {P : Program} {w : World} {K : PySem.W.Frag} {mg : Str → Option Value} {base : Heap} {C : Addr}
theorem scMsI : FnScope ["self", "lot"] ["self", "lot"] (defScope sMsInit) := ⟨rfl, rfl, rfl, by decide +kernel, rfl, by decide +kernel, by decide +kernel⟩
theorem ok_msI {f : Addr} {fd : FuncData} {k : Nat} (T : MsC K C) (F : Fun K "__init__" "MaskSet.__init__" sMsInit f fd) (dC : DefR P w K mg base 5 "check_lot" spCk) : FnOk P w K mg base CX0 (k + 6) f fd ["self", "lot"] (spMi C) := by
  refine F.ok scMsI (fun vs H Q E h => ?_) (fun cdv A outer s H vs Q E hr h => ?_)
  · obtain ⟨a, dx, v, n, p, rfl, _⟩ := h
    rfl
  · obtain ⟨a, dx, v, n, p, rfl, ha, hv, h1, h6, q⟩ := h
    refine ⟨_, pss_cons (ps_expr (pe_def dC (hr.mono (by omega)) (by rfl) (pa_cons (pv 1) pa_nil))) (pss_one (ps_fld (pv 0) (pv 1) rfl)), ?_⟩
    exact ⟨v, rfl, v, n, p, rfl, hv, h1, h6, fun H' s' => ⟨v, rfl, .ref a, rfl, a, C, dx, _, rfl, s' _ _ ha, T.cl, T.nH, (by decide), q _ s'⟩⟩
theorem scMsG {st : Stmt} (h : FnScope ["self"] ["self"] (defScope st)) : FnScope ["self"] ["self"] (defScope st) := h
theorem scMsLot : FnScope ["self"] ["self"] (defScope sMsLot) := ⟨rfl, rfl, rfl, by decide +kernel, rfl, by decide +kernel, by decide +kernel⟩
abbrev spMsLot (C : Addr) : Sp := spM1 C fun _ _ _ v r => r = v
theorem ok_msLot {f : Addr} {fd : FuncData} {k : Nat} (T : MsC K C) (F : Fun K "lot" "MaskSet.lot" sMsLot f fd) : FnOk P w K mg base CX0 (k + 1) f fd ["self"] (spMsLot C) := by
  refine F.ok scMsLot (fun vs H Q E h => ?_) (fun cdv A outer s H vs Q E hr h => ?_)
  · obtain ⟨z, v, n, p, rfl, _⟩ := h
    rfl
  · obtain ⟨z, v, n, p, rfl, ⟨⟨a, dx, rfl, ha⟩, hv⟩, h1, h6, q⟩ := h
    refine ⟨_, pss_one (ps_ret (pe_fld (pv 0) rfl)), ?_⟩
    exact ⟨.ref a, rfl, a, C, dx, _, _, rfl, ha, T.cl, T.nH, rfl, q _ _ (Same.refl _) rfl⟩
theorem scMsXor : FnScope ["self", "other"] ["self", "other"] (defScope sMsXor) := ⟨rfl, rfl, rfl, by decide +kernel, rfl, by decide +kernel, by decide +kernel⟩
abbrev spMsXor (C : Addr) : Sp := spMX C fun n p m H o => IsMs C H o n (fun x => p (x ^^^ m))
theorem ok_msXor {f : Addr} {fd : FuncData} {k : Nat} (F : Fun K "__xor__" "MaskSet.__xor__" sMsXor f fd) (dL : PropR P w K mg base 1 C "lot" (spMsLot C)) (dT : DefR P w K mg base 3 "turned" spTurned) (dM : MakeR P w K mg base 6 C "MaskSet" (spMi C)) : FnOk P w K mg base CX0 (k + 8) f fd ["self", "other"] (spMsXor C) := by
  refine F.ok scMsXor (fun vs H Q E h => ?_) (fun cdv A outer s H vs Q E hr h => ?_)
  · obtain ⟨z, v, n, m, p, rfl, _⟩ := h
    rfl
  · obtain ⟨z, v, n, m, p, rfl, hz, h1, h6, hm, q⟩ := h
    refine ⟨_, pss_one (ps_ret (pe_mkR dM (hr.mono (by omega)) (by rfl) (pa_cons (pe_def dT (hr.mono (by omega)) (by rfl) (pa_cons (pe_propR (pv 0) dL (hr.mono (by omega))) (pa_cons (pv 1) pa_nil))) pa_nil))), ?_⟩
    obtain ⟨a, dx, ez, ha⟩ := hz.1
    refine ⟨z, rfl, a, dx, _, ez, ha, z, v, n, p, by rw [ez], hz, h1, h6, fun H1 r s1 er => ?_⟩
    subst er
    refine ⟨.int m, rfl, r, n, m, p, rfl, hz.2.same s1, h6, hm, fun H2 z2 s2 g2 _ => ms_make g2 h1 h6 fun H3 z3 s3 g3 => q _ _ ((s1.trans s2).trans s3) ⟨_, g3⟩⟩
theorem scMsInvert : FnScope ["self"] ["self"] (defScope sMsInvert) := ⟨rfl, rfl, rfl, by decide +kernel, rfl, by decide +kernel, by decide +kernel⟩
abbrev spMsInv (C : Addr) : Sp := spM1 C fun n p H _ o => IsMs C H o n (fun x => !p x)
theorem ok_msInv {f : Addr} {fd : FuncData} {k : Nat} (F : Fun K "__invert__" "MaskSet.__invert__" sMsInvert f fd) (dL : PropR P w K mg base 1 C "lot" (spMsLot C)) (dR : DefR P w K mg base 1 "rest_of" spRest) (dM : MakeR P w K mg base 6 C "MaskSet" (spMi C)) : FnOk P w K mg base CX0 (k + 8) f fd ["self"] (spMsInv C) := by
  refine F.ok scMsInvert (fun vs H Q E h => ?_) (fun cdv A outer s H vs Q E hr h => ?_)
  · obtain ⟨z, v, n, p, rfl, _⟩ := h
    rfl
  · obtain ⟨z, v, n, p, rfl, hz, h1, h6, q⟩ := h
    refine ⟨_, pss_one (ps_ret (pe_mkR dM (hr.mono (by omega)) (by rfl) (pa_cons (pe_def dR (hr.mono (by omega)) (by rfl) (pa_cons (pe_propR (pv 0) dL (hr.mono (by omega))) pa_nil)) pa_nil))), ?_⟩
    obtain ⟨a, dx, ez, ha⟩ := hz.1
    refine ⟨z, rfl, a, dx, _, ez, ha, z, v, n, p, by rw [ez], hz, h1, h6, fun H1 r s1 er => ?_⟩
    subst er
    exact ⟨r, n, p, rfl, hz.2.same s1, h6, fun H2 z2 s2 g2 => ms_make g2 h1 h6 fun H3 z3 s3 g3 => q _ _ ((s1.trans s2).trans s3) ⟨_, g3⟩⟩
theorem scMsOr : FnScope ["self", "other"] ["self", "other"] (defScope sMsOr) := ⟨rfl, rfl, rfl, by decide +kernel, rfl, by decide +kernel, by decide +kernel⟩
abbrev spMsOr (C : Addr) : Sp := spM2 C fun n p r H o => IsMs C H o n (fun m => p m || r m)
theorem ok_msOr {f : Addr} {fd : FuncData} {k : Nat} (F : Fun K "__or__" "MaskSet.__or__" sMsOr f fd) (dL : PropR P w K mg base 1 C "lot" (spMsLot C)) (dT : DefR P w K mg base 2 "united" (spMany fun bs => bs.any id)) (dM : MakeR P w K mg base 6 C "MaskSet" (spMi C)) : FnOk P w K mg base CX0 (k + 8) f fd ["self", "other"] (spMsOr C) := by
  refine F.ok scMsOr (fun vs H Q E h => ?_) (fun cdv A outer s H vs Q E hr h => ?_)
  · obtain ⟨z, z', v, v', n, p, r, rfl, _⟩ := h
    rfl
  · obtain ⟨z, z', v, v', n, p, r, rfl, hz, hz', h1, h6, q⟩ := h
    refine ⟨_, pss_one (ps_ret (pe_mkR dM (hr.mono (by omega)) (by rfl) (pa_cons (pe_def dT (hr.mono (by omega)) (by rfl) (pa_cons (pe_propR (pv 0) dL (hr.mono (by omega))) (pa_cons (pe_propR (pv 1) dL (hr.mono (by omega))) pa_nil))) pa_nil))), ?_⟩
    obtain ⟨a, dx, ez, ha⟩ := hz.1
    obtain ⟨a', dx', ez', ha'⟩ := hz'.1
    refine ⟨z, rfl, a, dx, _, ez, ha, z, v, n, p, by rw [ez], hz, h1, h6, fun H1 r1 s1 er => ?_⟩
    subst er
    refine ⟨z', rfl, a', dx', _, ez', s1 _ _ ha', z', v', n, r, by rw [ez'], hz'.same s1, h1, h6, fun H2 r2 s2 er => ?_⟩
    subst er
    have s12 := s1.trans s2
    refine ⟨[(r1, p), (r2, r)], n, rfl, lots2 (hz.2.same s12) (hz'.2.same s12) h6, fun H3 z3 s3 g3 => ms_make g3 h1 h6 fun H4 z4 s4 g4 => q _ _ ((s12.trans s3).trans s4) ⟨_, g4.congr (fun m hm => by simp)⟩⟩
theorem scMsAnd : FnScope ["self", "other"] ["self", "other"] (defScope sMsAnd) := ⟨rfl, rfl, rfl, by decide +kernel, rfl, by decide +kernel, by decide +kernel⟩
abbrev spMsAnd (C : Addr) : Sp := spM2 C fun n p r H o => IsMs C H o n (fun m => p m && r m)
theorem ok_msAnd {f : Addr} {fd : FuncData} {k : Nat} (F : Fun K "__and__" "MaskSet.__and__" sMsAnd f fd) (dL : PropR P w K mg base 1 C "lot" (spMsLot C)) (dT : DefR P w K mg base 2 "shared" (spMany fun bs => bs.all id)) (dM : MakeR P w K mg base 6 C "MaskSet" (spMi C)) : FnOk P w K mg base CX0 (k + 8) f fd ["self", "other"] (spMsAnd C) := by
  refine F.ok scMsAnd (fun vs H Q E h => ?_) (fun cdv A outer s H vs Q E hr h => ?_)
  · obtain ⟨z, z', v, v', n, p, r, rfl, _⟩ := h
    rfl
  · obtain ⟨z, z', v, v', n, p, r, rfl, hz, hz', h1, h6, q⟩ := h
    refine ⟨_, pss_one (ps_ret (pe_mkR dM (hr.mono (by omega)) (by rfl) (pa_cons (pe_def dT (hr.mono (by omega)) (by rfl) (pa_cons (pe_propR (pv 0) dL (hr.mono (by omega))) (pa_cons (pe_propR (pv 1) dL (hr.mono (by omega))) pa_nil))) pa_nil))), ?_⟩
    obtain ⟨a, dx, ez, ha⟩ := hz.1
    obtain ⟨a', dx', ez', ha'⟩ := hz'.1
    refine ⟨z, rfl, a, dx, _, ez, ha, z, v, n, p, by rw [ez], hz, h1, h6, fun H1 r1 s1 er => ?_⟩
    subst er
    refine ⟨z', rfl, a', dx', _, ez', s1 _ _ ha', z', v', n, r, by rw [ez'], hz'.same s1, h1, h6, fun H2 r2 s2 er => ?_⟩
    subst er
    have s12 := s1.trans s2
    refine ⟨[(r1, p), (r2, r)], n, rfl, lots2 (hz.2.same s12) (hz'.2.same s12) h6, fun H3 z3 s3 g3 => ms_make g3 h1 h6 fun H4 z4 s4 g4 => q _ _ ((s12.trans s3).trans s4) ⟨_, g4.congr (fun m hm => by simp)⟩⟩
theorem scMsSub : FnScope ["self", "other"] ["self", "other"] (defScope sMsSub) := ⟨rfl, rfl, rfl, by decide +kernel, rfl, by decide +kernel, by decide +kernel⟩
abbrev spMsSub (C : Addr) : Sp := spM2 C fun n p r H o => IsMs C H o n (fun m => p m && !r m)
theorem ok_msSub {f : Addr} {fd : FuncData} {k : Nat} (F : Fun K "__sub__" "MaskSet.__sub__" sMsSub f fd) (dL : PropR P w K mg base 1 C "lot" (spMsLot C)) (dT : DefR P w K mg base 2 "left_over" (spLeft)) (dM : MakeR P w K mg base 6 C "MaskSet" (spMi C)) : FnOk P w K mg base CX0 (k + 8) f fd ["self", "other"] (spMsSub C) := by
  refine F.ok scMsSub (fun vs H Q E h => ?_) (fun cdv A outer s H vs Q E hr h => ?_)
  · obtain ⟨z, z', v, v', n, p, r, rfl, _⟩ := h
    rfl
  · obtain ⟨z, z', v, v', n, p, r, rfl, hz, hz', h1, h6, q⟩ := h
    refine ⟨_, pss_one (ps_ret (pe_mkR dM (hr.mono (by omega)) (by rfl) (pa_cons (pe_def dT (hr.mono (by omega)) (by rfl) (pa_cons (pe_propR (pv 0) dL (hr.mono (by omega))) (pa_cons (pe_propR (pv 1) dL (hr.mono (by omega))) pa_nil))) pa_nil))), ?_⟩
    obtain ⟨a, dx, ez, ha⟩ := hz.1
    obtain ⟨a', dx', ez', ha'⟩ := hz'.1
    refine ⟨z, rfl, a, dx, _, ez, ha, z, v, n, p, by rw [ez], hz, h1, h6, fun H1 r1 s1 er => ?_⟩
    subst er
    refine ⟨z', rfl, a', dx', _, ez', s1 _ _ ha', z', v', n, r, by rw [ez'], hz'.same s1, h1, h6, fun H2 r2 s2 er => ?_⟩
    subst er
    have s12 := s1.trans s2
    exact ⟨r1, r2, n, p, r, rfl, hz.2.same s12, hz'.2.same s12, h6, fun H3 z3 s3 g3 => ms_make g3 h1 h6 fun H4 z4 s4 g4 => q _ _ ((s12.trans s3).trans s4) ⟨_, g4⟩⟩
theorem scMsAdd : FnScope ["self", "other"] ["self", "other"] (defScope sMsAdd) := ⟨rfl, rfl, rfl, by decide +kernel, rfl, by decide +kernel, by decide +kernel⟩
abbrev spMsAdd (C : Addr) : Sp := spM2 C fun n p r H o => IsMs C H o n (fun m => addB n p r m)
theorem ok_msAdd {f : Addr} {fd : FuncData} {k : Nat} (F : Fun K "__add__" "MaskSet.__add__" sMsAdd f fd) (dL : PropR P w K mg base 1 C "lot" (spMsLot C)) (dT : DefR P w K mg base 2 "sum_of" (spSum)) (dM : MakeR P w K mg base 6 C "MaskSet" (spMi C)) : FnOk P w K mg base CX0 (k + 8) f fd ["self", "other"] (spMsAdd C) := by
  refine F.ok scMsAdd (fun vs H Q E h => ?_) (fun cdv A outer s H vs Q E hr h => ?_)
  · obtain ⟨z, z', v, v', n, p, r, rfl, _⟩ := h
    rfl
  · obtain ⟨z, z', v, v', n, p, r, rfl, hz, hz', h1, h6, q⟩ := h
    refine ⟨_, pss_one (ps_ret (pe_mkR dM (hr.mono (by omega)) (by rfl) (pa_cons (pe_def dT (hr.mono (by omega)) (by rfl) (pa_cons (pe_propR (pv 0) dL (hr.mono (by omega))) (pa_cons (pe_propR (pv 1) dL (hr.mono (by omega))) pa_nil))) pa_nil))), ?_⟩
    obtain ⟨a, dx, ez, ha⟩ := hz.1
    obtain ⟨a', dx', ez', ha'⟩ := hz'.1
    refine ⟨z, rfl, a, dx, _, ez, ha, z, v, n, p, by rw [ez], hz, h1, h6, fun H1 r1 s1 er => ?_⟩
    subst er
    refine ⟨z', rfl, a', dx', _, ez', s1 _ _ ha', z', v', n, r, by rw [ez'], hz'.same s1, h1, h6, fun H2 r2 s2 er => ?_⟩
    subst er
    have s12 := s1.trans s2
    refine ⟨[(r1, p), (r2, r)], n, rfl, lots2 (hz.2.same s12) (hz'.2.same s12) h6, fun H3 z3 s3 g3 => ms_make g3 h1 h6 fun H4 z4 s4 g4 => q _ _ ((s12.trans s3).trans s4) ⟨_, g4.congr (fun m hm => sum2 hm)⟩⟩
end
end XT
/-! MaskSet: width, masks, len, bool, == -/
namespace XT
open PySem PySem.Spec PyProof.Rows L2
section
variable {P : Program} {w : World} {K : PySem.W.Frag} {mg : Str → Option Value} {base : Heap} {C : Addr}
theorem scMsWidth : FnScope ["self"] ["self"] (defScope sMsWidth) := ⟨rfl, rfl, rfl, by decide +kernel, rfl, by decide +kernel, by decide +kernel⟩
abbrev spMsWidth (C : Addr) : Sp := spM1 C fun n _ _ _ r => r = .int (n : Int)
theorem ok_msWidth {f : Addr} {fd : FuncData} {k : Nat} (T : MsC K C) (F : Fun K "width" "MaskSet.width" sMsWidth f fd) : FnOk P w K mg base CX0 (k + 1) f fd ["self"] (spMsWidth C) := by
  refine F.ok scMsWidth (fun vs H Q E h => ?_) (fun cdv A outer s H vs Q E hr h => ?_)
  · obtain ⟨z, v, n, p, rfl, _⟩ := h
    rfl
  · obtain ⟨z, v, n, p, rfl, hz, h1, h6, q⟩ := h
    obtain ⟨⟨a, dx, rfl, ha⟩, hv⟩ := id hz
    obtain ⟨x, y, ex, hx, hy⟩ := id hv
    refine ⟨_, pss_one (ps_ret (pe_ix ix_tup (pe_fld (pv 0) rfl) pe_int (fun _ _ => rfl))), ?_⟩
    exact ⟨.ref a, rfl, a, C, dx, _, _, rfl, ha, T.cl, T.nH, rfl, x, _, 0, .int n, ex, rfl, SqT.of hx, rfl, q _ _ (Same.refl _) rfl⟩
theorem scMsMasks : FnScope ["self"] ["self"] (defScope sMsMasks) := ⟨rfl, rfl, rfl, by decide +kernel, rfl, by decide +kernel, by decide +kernel⟩
abbrev spMsMasks (C : Addr) : Sp := spM1 C fun n p H _ r => TupAt H r (lotOf n p)
theorem ok_msMasks {f : Addr} {fd : FuncData} {k : Nat} (T : MsC K C) (F : Fun K "masks" "MaskSet.masks" sMsMasks f fd) : FnOk P w K mg base CX0 (k + 1) f fd ["self"] (spMsMasks C) := by
  refine F.ok scMsMasks (fun vs H Q E h => ?_) (fun cdv A outer s H vs Q E hr h => ?_)
  · obtain ⟨z, v, n, p, rfl, _⟩ := h
    rfl
  · obtain ⟨z, v, n, p, rfl, hz, h1, h6, q⟩ := h
    obtain ⟨⟨a, dx, rfl, ha⟩, hv⟩ := id hz
    obtain ⟨x, y, ex, hx, hy⟩ := id hv
    refine ⟨_, pss_one (ps_ret (pe_ix ix_tup (pe_fld (pv 0) rfl) pe_int (fun _ _ => rfl))), ?_⟩
    exact ⟨.ref a, rfl, a, C, dx, _, _, rfl, ha, T.cl, T.nH, rfl, x, _, 1, .ref y, ex, rfl, SqT.of hx, rfl, q _ _ (Same.refl _) ⟨y, rfl, hy⟩⟩
theorem scMsLen : FnScope ["self"] ["self"] (defScope sMsLen) := ⟨rfl, rfl, rfl, by decide +kernel, rfl, by decide +kernel, by decide +kernel⟩
abbrev spMsLen (C : Addr) : Sp := spM1 C fun n p _ _ r => r = .int ((lotOf n p).length : Int)
theorem ok_msLen {f : Addr} {fd : FuncData} {k : Nat} (B : Bl mg) (T : MsC K C) (F : Fun K "__len__" "MaskSet.__len__" sMsLen f fd) : FnOk P w K mg base CX0 (k + 1) f fd ["self"] (spMsLen C) := by
  refine F.ok scMsLen (fun vs H Q E h => ?_) (fun cdv A outer s H vs Q E hr h => ?_)
  · obtain ⟨z, v, n, p, rfl, _⟩ := h
    rfl
  · obtain ⟨z, v, n, p, rfl, hz, h1, h6, q⟩ := h
    obtain ⟨⟨a, dx, rfl, ha⟩, hv⟩ := id hz
    obtain ⟨x, y, ex, hx, hy⟩ := id hv
    refine ⟨_, pss_one (ps_ret (pe_callB call_len_seq (by rfl) B.len PySem.boot_len (pa_cons (pe_ix ix_tup (pe_fld (pv 0) rfl) pe_int (fun _ _ => rfl)) pa_nil))), ?_⟩
    refine ⟨.ref a, rfl, a, C, dx, _, _, rfl, ha, T.cl, T.nH, rfl, x, _, 1, .ref y, ex, rfl, SqT.of hx, rfl, y, _, rfl, .inr (SqT.of hy), ?_⟩
    rw [vm_len]
    exact q _ _ (Same.refl _) rfl
theorem scMsBool : FnScope ["self"] ["self"] (defScope sMsBool) := ⟨rfl, rfl, rfl, by decide +kernel, rfl, by decide +kernel, by decide +kernel⟩
abbrev spMsBool (C : Addr) : Sp := spM1 C fun n p _ _ r => r = .bl (decide (lotOf n p ≠ []))
theorem ok_msBool {f : Addr} {fd : FuncData} {k : Nat} (B : Bl mg) (T : MsC K C) (F : Fun K "__bool__" "MaskSet.__bool__" sMsBool f fd) : FnOk P w K mg base CX0 (k + 1) f fd ["self"] (spMsBool C) := by
  refine F.ok scMsBool (fun vs H Q E h => ?_) (fun cdv A outer s H vs Q E hr h => ?_)
  · obtain ⟨z, v, n, p, rfl, _⟩ := h
    rfl
  · obtain ⟨z, v, n, p, rfl, hz, h1, h6, q⟩ := h
    obtain ⟨⟨a, dx, rfl, ha⟩, hv⟩ := id hz
    obtain ⟨x, y, ex, hx, hy⟩ := id hv
    refine ⟨_, pss_one (ps_ret (pe_cmpR op_gt (pe_callB call_len_seq (by rfl) B.len PySem.boot_len (pa_cons (pe_ix ix_tup (pe_fld (pv 0) rfl) pe_int (fun _ _ => rfl)) pa_nil)) pe_int (nomark _))), ?_⟩
    refine ⟨.ref a, rfl, a, C, dx, _, _, rfl, ha, T.cl, T.nH, rfl, x, _, 1, .ref y, ex, rfl, SqT.of hx, rfl, y, _, rfl, .inr (SqT.of hy), _, _, rfl, rfl, q _ _ (Same.refl _) (congrArg V.bl ?_)⟩
    rw [vm_len, Bool.eq_iff_iff, decide_eq_true_iff, decide_eq_true_iff, ← List.length_pos_iff]
    omega
theorem scMsEq : FnScope ["self", "other"] ["self", "other"] (defScope sMsEq) := ⟨rfl, rfl, rfl, by decide +kernel, rfl, by decide +kernel, by decide +kernel⟩
abbrev spMsEq (C : Addr) : Sp := spM2 C fun n p r _ o => o = .bl (decide (∀ m, m < 2 ^ n → p m = r m))
theorem ok_msEq {f : Addr} {fd : FuncData} {k : Nat} (B : Bl mg) (hC : mg "MaskSet" = some (.ref C)) (ist : ∀ {H : Hp} {a dx : Addr} {fs : List (Str × V)}, H a = some (.ins C dx fs) → TyX K H (.ref a) (.ref C)) (dL : PropR P w K mg base 1 C "lot" (spMsLot C)) (F : Fun K "__eq__" "MaskSet.__eq__" sMsEq f fd) : FnOk P w K mg base CX0 (k + 3) f fd ["self", "other"] (spMsEq C) := by
  refine F.ok scMsEq (fun vs H Q E h => ?_) (fun cdv A outer s H vs Q E hr h => ?_)
  · obtain ⟨z, z', v, v', n, p, r, rfl, _⟩ := h
    rfl
  · obtain ⟨z, z', v, v', n, p, r, rfl, hz, hz', h1, h6, q⟩ := h
    obtain ⟨a, dx, ez, ha⟩ := id hz.1
    obtain ⟨a', dx', ez', ha'⟩ := id hz'.1
    refine ⟨_, pss_one (ps_ret (pe_and (pe_callB call_isi (by rfl) B.isinstance bI (pa_cons (pv 1) (pa_cons (pe_glob (v := .ref C) (by rfl) hC rfl) pa_nil))) (pe_one (pe_cmpR (op_eqD hr.units) (pe_propR (pv 0) dL (hr.mono (by omega))) (pe_propR (pv 1) dL (hr.mono (by omega))) (nomark _))))), ?_⟩
    refine ⟨z', rfl, z', .ref C, _, _, true, rfl, .own _, by rw [ez']; exact ist ha', kit_me, true, rfl, iteT ?_⟩
    refine ⟨z, rfl, a, dx, _, ez, ha, z, v, n, p, by rw [ez], hz, h1, h6, fun H1 r1 s1 er => ?_⟩
    subst er
    refine ⟨z', rfl, a', dx', _, ez', s1 _ _ ha', z', v', n, r, by rw [ez'], hz'.same s1, h1, h6, fun H2 r2 s2 er => ?_⟩
    subst er
    have s12 := s1.trans s2
    exact eq_lots (hz.2.same s12) (hz'.2.same s12) (q _ _ s12 rfl)
end
end XT
/-! a == b where b's class is a subclass of a's: b's own __eq__ is asked first -/
namespace XT
open PySem PySem.Spec PyProof.Rows L2
section
open PySem.W
variable {prog : Program} {w : World} {A : Around} {E : Value → Shared → Prop} {s : Shared} {K : Frag} {x y C C2 L f : Addr} {h₀ : Heap} {m : Str → Option Value} {ox oy : Obj} {od od2 : Option Obj}
theorem cmp_sub_K {op : CmpOp} {Q : Value → Shared → Prop} (hu : A.units < cLine) (F : Fr h₀ L s.heap m) (X₀ : K.In h₀) (I : InstAt s.heap x ox C od) (J : InstAt s.heap y oy C2 od2) (ne : C2 ≠ C) (hn : subIn K (.ref C2) (.ref C) = some true)
    (hs : findIn K (.ref C2) (cmpInfo op).2.2 = some (some (.ref f))) (hf : isFn K (.ref f) = true)
    (h : wpAny (model prog w) A (call (.ref f) [.ref y, .ref x]) (PySem.W.CmpBack Q) E s) : wpAny (model prog w) A (richCompare op (.ref x) (.ref y)) Q E s := by
  have X := X₀.keeps F.keep
  have one : wpAny (model prog w) A (tryCompare (.ref y) (cmpInfo op).2.2 (.ref x)) (fun r s' => ∃ v, r = some v ∧ Q v s') E s := by
    unfold tryCompare
    refine wpAny_bind (ifBound_K X J hs hf (wpAny_mono h (fun v s' hv => ?_) fun _ _ e => e))
    cases v <;> first | exact (show False from hv).elim | exact wpAny_pure ⟨_, rfl, hv⟩
  unfold richCompare
  simp only [oneThing_ref]
  refine wpAny_holding (wpAny_bind (wpAny_cRoomFor hu ?_))
  refine wpAny_bind (I.type.here (wpAny_bind (J.type.here ?_)))
  rw [if_pos (show ((Value.ref C != Value.ref C2) = true) by simpa using fun e => ne e.symm)]
  refine wpAny_bind ((looks_subIn X hn).here ?_)
  simp only [if_true]
  refine wpAny_bind (wpAny_mono one (fun r s' z => ?_) fun _ _ e => e)
  obtain ⟨v, rfl, hq⟩ := z
  exact wpAny_bind (wpAny_rule (wpAny_pure hq))
end
section
variable {X : Cx} {C C2 : Addr} {j : Nat} {sp : Sp}
/-- a == b, of two classes of which the second is a subclass of the first -/
def rOwnS (C C2 : Addr) (sp : Sp) : R2 := fun x y H Q => (∃ fs, InsAt H C x fs) ∧ (∃ fs, InsAt H C2 y fs) ∧ sp [y, x] H Q E0
theorem op_eqS2 (D : OwnR X.prog X.w X.K X.mg X.base j C2 "__eq__" sp) (hr : Room j X.A) (ne : C2 ≠ C) (hn : PySem.W.subIn X.K (.ref C2) (.ref C) = some true) : OpR X (compareOp .Eq) (rOwnS C C2 sp) := by
  obtain ⟨f, h, F⟩ := D
  intro pins s σ H x y v u Q I rx ry ⟨⟨fs, a, dx, ex, ha⟩, ⟨fs', b, dx', ey, hb⟩, q⟩
  subst ex ey
  cases rx
  cases ry
  obtain ⟨od, J⟩ := inst_at I ha
  obtain ⟨od', J'⟩ := inst_at I hb
  obtain ⟨m, fr⟩ := I.fr
  show wpAny (model X.prog X.w) X.A (richCompare .Eq (.ref a) (.ref b)) (EP X pins σ Q) X.xe s
  exact cmp_sub_K (op := .Eq) (by have := hr.un; omega) fr I.ok.mod.kin J J' ne hn h.at_ h.fn (wpAny_mono (run_met (vs := [.ref b, .ref a]) F hr I (.cons rfl (.cons rfl .nil)) q) (fun _ _ z => back_ok z) fun _ _ z => z)
/-- a == b, of two classes of which the second is not a subclass of the first -/
def rOwn2 (C C2 : Addr) (sp : Sp) : R2 := fun x y H Q => (∃ fs, InsAt H C x fs) ∧ (∃ fs, InsAt H C2 y fs) ∧ sp [x, y] H Q E0
theorem op_eqR2 (D : OwnR X.prog X.w X.K X.mg X.base j C "__eq__" sp) (hr : Room j X.A) (hn : PySem.W.notFirst X.K C (.ref C2) = true) : OpR X (compareOp .Eq) (rOwn2 C C2 sp) := by
  obtain ⟨f, h, F⟩ := D
  intro pins s σ H x y v u Q I rx ry ⟨⟨fs, a, dx, ex, ha⟩, ⟨fs', b, dx', ey, hb⟩, q⟩
  subst ex ey
  cases rx
  cases ry
  obtain ⟨od, J⟩ := inst_at I ha
  obtain ⟨od', J'⟩ := inst_at I hb
  obtain ⟨m, fr⟩ := I.fr
  show wpAny (model X.prog X.w) X.A (richCompare .Eq (.ref a) (.ref b)) (EP X pins σ Q) X.xe s
  exact PySem.W.cmp_K (op := .Eq) (by have := hr.un; omega) fr I.ok.mod.kin J J'.type hn h.at_ h.fn (wpAny_mono (run_met (vs := [.ref a, .ref b]) F hr I (.cons rfl (.cons rfl .nil)) q) (fun _ _ z => back_ok z) fun _ _ z => z)
end
end XT
/-! a != b by the own __eq__ (object.__ne__), of any two classes -/
namespace XT
open PySem PySem.Spec PyProof.Rows L2
section
open PySem.W
variable {prog : Program} {w : World} {A : Around} {E : Value → Shared → Prop} {s : Shared} {K : Frag} {x y C C2 L f : Addr} {h₀ : Heap} {m : Str → Option Value} {ox oy : Obj} {od od2 : Option Obj}
/-- object.__ne__(x, y), x with an __eq__ of its own -/
theorem call_one {yv : Value} {Q : Value → Shared → Prop} (hu : A.in1.units < cLine) (X : K.In s.heap) (I : InstAt s.heap x ox C od) (hm : mroIn K C (.type "object") = some true) (hr : findIn K (.ref C) "__eq__" = some (some (.ref f))) (hf : isFn K (.ref f) = true)
    (h : wpAny (model prog w) A.in1 (call (.ref f) [.ref x, yv]) (fun v s' => ∃ b, v = .bool b ∧ Q (.bool (!b)) s') E s) : wpAny (model prog w) A (call (.builtin "object.__ne__") [.ref x, yv]) Q E s := by
  refine wpAny_call (codeAny_call_builtin F.cmp_object.ne.plain F.cmpEntry_ne (check_slot F.cmpKind_ne F.cmpSplit_ne (I.type.andThen (looks_mroIn X hm)) (F.cmpArgs_ne _ _) ?_))
  unfold Builtin.«object.__ne__»
  repeat (first
    | with_reducible refine wpAny_cRoomFor hu ?_
    | (refine wpAny_bind (m := callSpecialIfBound? (.ref x) (Str.ofString "__eq__") [yv])
        (ifBound_K X I hr hf (wpAny_mono h (fun r s' hr => by
          obtain ⟨b, rfl, hq⟩ := hr
          repeat (first | exact hq | exact wpAny_pure hq | exact wpAny_truthy_bool hq | (refine wpAny_bind (m := truthy (.bool _)) (wpAny_truthy_bool ?_)) | wp_step)) fun _ _ e => e)))
    | wp_step)
theorem ne_one {yv : Value} {Q : Option Value → Shared → Prop} (hu : A.in1.units < cLine) (X : K.In s.heap) (I : InstAt s.heap x ox C od) (hm : mroIn K C (.type "object") = some true) (hn : findIn K (.ref C) "__ne__" = some (some (.builtin "object.__ne__"))) (hr : findIn K (.ref C) "__eq__" = some (some (.ref f))) (hf : isFn K (.ref f) = true)
    (h : wpAny (model prog w) A.in1 (call (.ref f) [.ref x, yv]) (fun v s' => ∃ b, v = .bool b ∧ Q (some (.bool (!b))) s') E s) : wpAny (model prog w) A (tryCompare (.ref x) "__ne__" yv) Q E s := by
  unfold tryCompare
  have fin : wpAny (model prog w) A (call (.builtin "object.__ne__") [.ref x, yv]) (fun v s' => ∃ b, v = .bool b ∧ Q (some (.bool b)) s') E s := call_one hu X I hm hr hf (wpAny_mono h (fun v s' ⟨b, e, q⟩ => ⟨b, e, !b, rfl, q⟩) fun _ _ e => e)
  refine wpAny_bind ?_
  simp only [callSpecialIfBound?, bindSpecialIfBound?]
  refine wpAny_holding (wpAny_bind (wpAny_bind (wpAny_bind (I.type.here ((looks_findIn X hn).here ?_)))))
  refine wpAny_bind (wpAny_askSetting (wpAny_ite ?_))
  have fin2 : wpAny (model prog w) A (call (.builtin "object.__ne__") ([.ref x] ++ [yv]) >>= fun v => pure (some v)) (fun r s' => wpAny (model prog w) A (match r with | some .notImplemented | none => pure none | some v => pure (some v)) Q E s') E s := wpAny_bind (wpAny_mono fin (fun v s' ⟨b, e, q⟩ => by rw [e]; exact wpAny_pure (wpAny_pure q)) fun _ _ e => e)
  split
  · exact wpAny_bind ((Looks.of_pure (F.cmp_object.ne.bind _)).here (wpAny_pure (by exact fin2)))
  · exact wpAny_tryCatch (wpAny_bind ((Looks.of_pure (F.cmp_object.ne.bind _)).here (wpAny_pure (by exact fin2))))
/-- x != y, the left one is asked first -/
theorem ne_left_K {Q : Value → Shared → Prop} (hu : A.in1.units < cLine) (hu0 : A.units < cLine) (F : Fr h₀ L s.heap m) (X₀ : K.In h₀) (I : InstAt s.heap x ox C od) (J : InstAt s.heap y oy C2 od2) (hb : notFirst K C (.ref C2) = true) (hm : mroIn K C (.type "object") = some true) (hn : findIn K (.ref C) "__ne__" = some (some (.builtin "object.__ne__"))) (hr : findIn K (.ref C) "__eq__" = some (some (.ref f))) (hf : isFn K (.ref f) = true)
    (h : wpAny (model prog w) A.in1 (call (.ref f) [.ref x, .ref y]) (fun v s' => ∃ b, v = .bool b ∧ Q (.bool (!b)) s') E s) : wpAny (model prog w) A (richCompare .NotEq (.ref x) (.ref y)) Q E s := by
  have X := X₀.keeps F.keep
  have one : wpAny (model prog w) A (tryCompare (.ref x) "__ne__" (.ref y)) (fun r s' => ∃ v, r = some v ∧ Q v s') E s := ne_one hu X I hm hn hr hf (wpAny_mono h (fun v s' ⟨b, e, q⟩ => ⟨b, e, _, rfl, q⟩) fun _ _ e => e)
  unfold richCompare
  simp only [oneThing_ref]
  refine wpAny_holding (wpAny_bind (wpAny_cRoomFor hu0 ?_))
  refine wpAny_bind (I.type.here (wpAny_bind (J.type.here ?_)))
  split
  · rename_i q
    have e : subIn K (.ref C2) (.ref C) = some false := by
      rcases Bool.or_eq_true_iff.mp hb with e | e
      · rw [beq_iff_eq.mp e] at q; simp at q
      · exact beq_iff_eq.mp e
    refine wpAny_bind ((looks_subIn X e).here ?_)
    simp only [Bool.false_eq_true, if_false]
    refine wpAny_bind (wpAny_mono one (fun r s' z => ?_) fun _ _ e => e)
    obtain ⟨v, rfl, hq⟩ := z
    exact wpAny_pure hq
  · refine wpAny_bind (wpAny_pure ?_)
    simp only [Bool.false_eq_true, if_false]
    refine wpAny_bind (wpAny_mono one (fun r s' z => ?_) fun _ _ e => e)
    obtain ⟨v, rfl, hq⟩ := z
    exact wpAny_pure hq
/-- x != y where y's class is a subclass of x's -/
theorem ne_right_K {Q : Value → Shared → Prop} (hu : A.in1.units < cLine) (hu0 : A.units < cLine) (F : Fr h₀ L s.heap m) (X₀ : K.In h₀) (I : InstAt s.heap x ox C od) (J : InstAt s.heap y oy C2 od2) (ne : C2 ≠ C) (hb : subIn K (.ref C2) (.ref C) = some true) (hm : mroIn K C2 (.type "object") = some true) (hn : findIn K (.ref C2) "__ne__" = some (some (.builtin "object.__ne__"))) (hr : findIn K (.ref C2) "__eq__" = some (some (.ref f))) (hf : isFn K (.ref f) = true)
    (h : wpAny (model prog w) A.in1 (call (.ref f) [.ref y, .ref x]) (fun v s' => ∃ b, v = .bool b ∧ Q (.bool (!b)) s') E s) : wpAny (model prog w) A (richCompare .NotEq (.ref x) (.ref y)) Q E s := by
  have X := X₀.keeps F.keep
  have one : wpAny (model prog w) A (tryCompare (.ref y) "__ne__" (.ref x)) (fun r s' => ∃ v, r = some v ∧ Q v s') E s := ne_one hu X J hm hn hr hf (wpAny_mono h (fun v s' ⟨b, e, q⟩ => ⟨b, e, _, rfl, q⟩) fun _ _ e => e)
  unfold richCompare
  simp only [oneThing_ref]
  refine wpAny_holding (wpAny_bind (wpAny_cRoomFor hu0 ?_))
  refine wpAny_bind (I.type.here (wpAny_bind (J.type.here ?_)))
  rw [if_pos (show ((Value.ref C != Value.ref C2) = true) by simpa using fun e => ne e.symm)]
  refine wpAny_bind ((looks_subIn X hb).here ?_)
  simp only [if_true]
  refine wpAny_bind (wpAny_mono one (fun r s' z => ?_) fun _ _ e => e)
  obtain ⟨v, rfl, hq⟩ := z
  exact wpAny_bind (wpAny_rule (wpAny_pure hq))
end
section
variable {X : Cx} {C C2 : Addr} {j : Nat} {sp : Sp}
/-- what object.__ne__ makes of the answer -/
abbrev noQ (Q : VK) : VK := fun z H => ∃ b, z = .bl b ∧ Q (.bl (!b)) H
/-- a != b, the left one's __eq__ is asked -/
def rNeL (C C2 : Addr) (sp : Sp) : R2 := fun x y H Q => (∃ fs, InsAt H C x fs) ∧ (∃ fs, InsAt H C2 y fs) ∧ sp [x, y] H (noQ Q) E0
/-- a != b, the right one's __eq__ is asked -/
def rNeS (C C2 : Addr) (sp : Sp) : R2 := fun x y H Q => (∃ fs, InsAt H C x fs) ∧ (∃ fs, InsAt H C2 y fs) ∧ sp [y, x] H (noQ Q) E0
theorem op_neL (D : OwnR X.prog X.w X.K X.mg X.base j C "__eq__" sp) (hr : Room (j + 1) X.A) (hn : PySem.W.notFirst X.K C (.ref C2) = true) (hm : PySem.W.mroIn X.K C (.type "object") = some true) (ho : PySem.W.findIn X.K (.ref C) "__ne__" = some (some (.builtin "object.__ne__"))) : OpR X (compareOp .NotEq) (rNeL C C2 sp) := by
  obtain ⟨f, h, F⟩ := D
  intro pins s σ H x y v u Q I rx ry ⟨⟨fs, a, dx, ex, ha⟩, ⟨fs', b, dx', ey, hb⟩, q⟩
  subst ex ey
  cases rx
  cases ry
  obtain ⟨od, J⟩ := inst_at I ha
  obtain ⟨od', J'⟩ := inst_at I hb
  obtain ⟨m, fr⟩ := I.fr
  show wpAny (model X.prog X.w) X.A (richCompare .NotEq (.ref a) (.ref b)) (EP X pins σ Q) X.xe s
  refine ne_left_K (by have := hr.un; show _ + 1 < _; omega) (by have := hr.un; omega) fr I.ok.mod.kin J J' hn hm ho h.at_ h.fn (wpAny_mono (run_met1 (vs := [.ref a, .ref b]) F hr I (.cons rfl (.cons rfl .nil)) q) (fun v s' ⟨z, H', I', rz, b, ez, q⟩ => ?_) fun _ _ z => z)
  subst ez
  obtain rfl : v = .bool b := rz
  exact ⟨b, rfl, .bl (!b), H', I', rfl, q⟩
theorem op_neS (D : OwnR X.prog X.w X.K X.mg X.base j C2 "__eq__" sp) (hr : Room (j + 1) X.A) (ne : C2 ≠ C) (hn : PySem.W.subIn X.K (.ref C2) (.ref C) = some true) (hm : PySem.W.mroIn X.K C2 (.type "object") = some true) (ho : PySem.W.findIn X.K (.ref C2) "__ne__" = some (some (.builtin "object.__ne__"))) : OpR X (compareOp .NotEq) (rNeS C C2 sp) := by
  obtain ⟨f, h, F⟩ := D
  intro pins s σ H x y v u Q I rx ry ⟨⟨fs, a, dx, ex, ha⟩, ⟨fs', b, dx', ey, hb⟩, q⟩
  subst ex ey
  cases rx
  cases ry
  obtain ⟨od, J⟩ := inst_at I ha
  obtain ⟨od', J'⟩ := inst_at I hb
  obtain ⟨m, fr⟩ := I.fr
  show wpAny (model X.prog X.w) X.A (richCompare .NotEq (.ref a) (.ref b)) (EP X pins σ Q) X.xe s
  refine ne_right_K (by have := hr.un; show _ + 1 < _; omega) (by have := hr.un; omega) fr I.ok.mod.kin J J' ne hn hm ho h.at_ h.fn (wpAny_mono (run_met1 (vs := [.ref b, .ref a]) F hr I (.cons rfl (.cons rfl .nil)) q) (fun v s' ⟨z, H', I', rz, b, ez, q⟩ => ?_) fun _ _ z => z)
  subst ez
  obtain rfl : v = .bool b := rz
  exact ⟨b, rfl, .bl (!b), H', I', rfl, q⟩
end
end XT
/-! d == a, where d is a number, a text, None, a truth value, a tuple, a list or a dict, and a is an instance of an own class with an __eq__ of its own -/
namespace XT
open PySem PySem.Spec PyProof.Rows L2
section
open PySem.SeqAt
open AutoSeq1 (wpAny_loadPart')
open MeetsSeq
/-- a's class is not below the builtin class T -/
def NoSub (C : Addr) (T : String) (s : Shared) : Prop := ∀ (M : Model) (A : Around) (E : Value → Shared → Prop) (Q : Bool → Shared → Prop), Q false s → wpAny M A (isSubtype (.ref C) (.type T)) Q E s
theorem list_eq_dec (l b C : Addr) (items : Array Value) (n : Nat) (dd dd2 : Option Addr) (sl sl2 : Array (Option Value)) :
    Meets (Builtin.«list.__eq__» ⟨[.ref l, .ref b], []⟩) (fun _ R s => s.heap.get? l = some { cls := .type "list", dict := dd, data := .seq items n, slots := sl } ∧ s.heap.get? b = some { cls := .ref C, dict := dd2, data := .plain, slots := sl2 } ∧ NoSub C "list" s ∧ R (.ok (.ret .notImplemented)) s) :=
  .of_wp fun prog w A R s h => by obtain ⟨hp, g, d, tk, os⟩ := s; obtain ⟨hl, hb, hs, h⟩ := h; wp_walk using wpAny_loadPart' hl, wpAny_loadPart' hb; refine hs _ _ _ _ ?_; wp_walk; exact ⟨_, rfl, h⟩
theorem tuple_eq_dec (l b C : Addr) (items : Array Value) (n : Nat) (dd dd2 : Option Addr) (sl sl2 : Array (Option Value)) :
    Meets (Builtin.«tuple.__eq__» ⟨[.ref l, .ref b], []⟩) (fun _ R s => s.heap.get? l = some { cls := .type "tuple", dict := dd, data := .seq items n, slots := sl } ∧ s.heap.get? b = some { cls := .ref C, dict := dd2, data := .plain, slots := sl2 } ∧ NoSub C "tuple" s ∧ R (.ok (.ret .notImplemented)) s) :=
  .of_wp fun prog w A R s h => by obtain ⟨hp, g, d, tk, os⟩ := s; obtain ⟨hl, hb, hs, h⟩ := h; wp_walk using wpAny_loadPart' hl, wpAny_loadPart' hb; refine hs _ _ _ _ ?_; wp_walk; exact ⟨_, rfl, h⟩
theorem dict_eq_dec (l b C : Addr) (es : Array DictEntry) (n : Nat) (dd dd2 : Option Addr) (sl sl2 : Array (Option Value)) :
    Meets (Builtin.«dict.__eq__» ⟨[.ref l, .ref b], []⟩) (fun _ R s => s.heap.get? l = some { cls := .type "dict", dict := dd, data := .dict es n, slots := sl } ∧ s.heap.get? b = some { cls := .ref C, dict := dd2, data := .plain, slots := sl2 } ∧ NoSub C "dict" s ∧ R (.ok (.ret .notImplemented)) s) :=
  .of_wp fun prog w A R s h => by obtain ⟨hp, g, d, tk, os⟩ := s; obtain ⟨hl, hb, hs, h⟩ := h; wp_walk using wpAny_loadPart' hl, wpAny_loadPart' hb; refine hs _ _ _ _ ?_; wp_walk; exact ⟨_, rfl, h⟩
theorem int_eq_dec_bool (b : Bool) (l : Addr) (c : Value) (dd : Option Addr) (sl : Array (Option Value)) :
    Meets (Builtin.«int.__eq__» ⟨[.bool b, .ref l], []⟩) (fun _ R s => s.heap.get? l = some { cls := c, dict := dd, data := .plain, slots := sl } ∧ R (.ok (.ret .notImplemented)) s) :=
  .of_wp fun prog w A R s h => by obtain ⟨hp, g, d, tk, os⟩ := s; obtain ⟨hl, h⟩ := h; wp_walk using wpAny_loadPart' hl, wpAny_load hl; exact ⟨_, rfl, h⟩
theorem int_eq_dec_int (b : Int) (u : Tok) (l : Addr) (c : Value) (dd : Option Addr) (sl : Array (Option Value)) :
    Meets (Builtin.«int.__eq__» ⟨[.int b u, .ref l], []⟩) (fun _ R s => s.heap.get? l = some { cls := c, dict := dd, data := .plain, slots := sl } ∧ R (.ok (.ret .notImplemented)) s) :=
  .of_wp fun prog w A R s h => by obtain ⟨hp, g, d, tk, os⟩ := s; obtain ⟨hl, h⟩ := h; wp_walk using wpAny_loadPart' hl, wpAny_load hl; exact ⟨_, rfl, h⟩
theorem str_eq_dec (b : Str) (u : Tok) (l : Addr) (c : Value) (dd : Option Addr) (sl : Array (Option Value)) :
    Meets (Builtin.«str.__eq__» ⟨[.str b u, .ref l], []⟩) (fun _ R s => s.heap.get? l = some { cls := c, dict := dd, data := .plain, slots := sl } ∧ R (.ok (.ret .notImplemented)) s) :=
  .of_wp fun prog w A R s h => by obtain ⟨hp, g, d, tk, os⟩ := s; obtain ⟨hl, h⟩ := h; wp_walk using wpAny_loadPart' hl, wpAny_load hl; exact ⟨_, rfl, h⟩
end

section
variable {K : PySem.W.Frag} {H H' : Hp}
/-- a number, a text, None, a truth value, a list, a tuple or a dict, with the name of its type -/
inductive BuV (K : PySem.W.Frag) (H : Hp) : V → String → Prop
  | non : BuV K H .non "NoneType"
  | bl (b : Bool) : BuV K H (.bl b) "bool"
  | int (i : Int) : BuV K H (.int i) "int"
  | str (x : Str) : BuV K H (.str x) "str"
  | lst {a : Addr} {xs : List V} (h : SqL K H a xs) : BuV K H (.ref a) "list"
  | tup {a : Addr} {xs : List V} (h : SqT K H a xs) : BuV K H (.ref a) "tuple"
  | dct {a : Addr} {kvs : List (Key × V)} (h : H a = some (.dK kvs)) : BuV K H (.ref a) "dict"
theorem Dz.bu {v : V} {d : PyData} (h : Dz K H v d) : BuV K H v (tyD d) := by
  cases h with
  | non => exact .non
  | bl b => exact .bl b
  | int i => exact .int i
  | str x => exact .str x
  | lst h n a => exact .lst h
  | tup h a => exact .tup h
  | dct kvs h => exact .dct h
theorem BuV.ty {v : V} {T : String} (h : BuV K H v T) : TyX K H v (.type T) := by
  cases h with
  | non => exact .base .non
  | bl b => exact .base (.bl b)
  | int i => exact .base (.int i)
  | str x => exact .base (.str x)
  | lst h =>
    rcases h with (h | ⟨o, h⟩) | ⟨o, its, n, h, c, _⟩
    · exact .base (.lst h)
    · exact .base (.frz h)
    · exact .kList h c
  | tup h =>
    rcases h with (h | ⟨o, h⟩) | ⟨o, its, n, h, c, _⟩
    · exact .base (.tup h)
    · exact .fTuple h
    · exact .kTuple h c
  | dct h => exact .base (.dK h)
theorem BuV.same {v : V} {T : String} (e : Same H H') (h : BuV K H v T) : BuV K H' v T := by
  cases h with
  | non => exact .non
  | bl b => exact .bl b
  | int i => exact .int i
  | str x => exact .str x
  | lst h => exact .lst (e.seq h)
  | tup h => exact .tup (Same.sqT e h)
  | dct h => exact .dct (e _ _ h)
def buTs : List String := ["NoneType", "bool", "int", "str", "list", "tuple", "dict"]
theorem BuV.mem {v : V} {T : String} (h : BuV K H v T) : T ∈ buTs := by cases h <;> decide
/-- no builtin class of these is below the own class C -/
theorem sub_bu {C : Addr} : ∀ T ∈ buTs, PySem.W.subIn K (.type T) (.ref C) = some false := by
  have go : ∀ T : String, (PySem.fastBuiltinMro T).map (fun l => l.all fun v => match v with | .type _ => true | _ => false) = some true → PySem.W.subIn K (.type T) (.ref C) = some false := fun T h => by
    show (PySem.fastBuiltinMro T).map (·.contains (.ref C)) = some false
    obtain ⟨l, e, h⟩ := Option.map_eq_some_iff.mp h
    rw [e]
    show some (l.contains (.ref C)) = some false
    congr 1
    rw [List.contains_eq_any_beq, List.any_eq_false]
    intro x hx q
    have := List.all_eq_true.mp h x hx
    rw [← beq_iff_eq.mp q] at this
    cases this
  intro T hT
  simp only [buTs, List.mem_cons, List.not_mem_nil, or_false] at hT
  rcases hT with rfl | rfl | rfl | rfl | rfl | rfl | rfl
  all_goals exact go _ (by decide +kernel)
theorem notFirst_bu {C : Addr} {T : String} (h : T ∈ buTs) : PySem.W.notFirst K C (.type T) = true := by
  unfold PySem.W.notFirst
  rw [sub_bu T h]
  simp
/-- the own class C is below none of them -/
def noSubs (K : PySem.W.Frag) (C : Addr) : Bool := buTs.all fun T => PySem.W.subIn K (.ref C) (.type T) == some false
theorem noSubs_mk {C : Addr} (h1 : PySem.W.subIn K (.ref C) (.type "NoneType") = some false) (h2 : PySem.W.subIn K (.ref C) (.type "bool") = some false) (h3 : PySem.W.subIn K (.ref C) (.type "int") = some false) (h4 : PySem.W.subIn K (.ref C) (.type "str") = some false) (h5 : PySem.W.subIn K (.ref C) (.type "list") = some false) (h6 : PySem.W.subIn K (.ref C) (.type "tuple") = some false) (h7 : PySem.W.subIn K (.ref C) (.type "dict") = some false) : noSubs K C = true := by
  unfold noSubs buTs
  simp only [List.all_cons, List.all_nil, h1, h2, h3, h4, h5, h6, h7]
  rfl
theorem noSubs_at {C : Addr} (h : noSubs K C = true) {T : String} (m : T ∈ buTs) : PySem.W.subIn K (.ref C) (.type T) = some false := beq_iff_eq.mp (List.all_eq_true.mp h T m)
end
section
open PySem.SeqAt
variable {X : Cx} {pins : List (Addr × Obj)} {σ : L2.St} {H : Hp} {s : Shared}
/-- its == declines -/
theorem bu_dec {x : V} {u : Value} {T : String} {y C : Addr} {dx : Addr} {od : Option Obj} {A : Around} {E : Value → Shared → Prop} (I : Inv X pins σ H s) (rx : RelV x u) (b : BuV X.K H x T) (J : PySem.W.InstAt s.heap y (PySem.W.instObj C dx) C od) (hn : noSubs X.K C = true) :
    s.TypeIs u T ∧ ∀ Q, Q none s → wpAny (model X.prog X.w) A (tryCompare u "__eq__" (.ref y)) Q E s := by
  have ns : ∀ T ∈ buTs, NoSub C T s := fun T hT M A E Q q => (PySem.W.looks_subIn I.kIn (noSubs_at hn hT)).here q
  have hy := J.at_
  cases b with
  | non =>
    cases rx
    exact ⟨rfl, fun Q q => wpAny_tryCompare_declines rfl PySem.F.slot_NoneType_eq (call_gives PySem.F.slot_NoneType_eq rfl PySem.F.entry_NoneType_eq (PySem.F.args_NoneType_eq_2 _ _) (NoneType___eq___none_ref_0 y) ⟨rfl, q⟩)⟩
  | bl b =>
    cases rx
    exact ⟨rfl, fun Q q => wpAny_tryCompare_declines rfl PySem.F.slot_bool_eq (call_meets PySem.F.slot_bool_eq rfl PySem.F.entry_int_eq (PySem.F.args_int_eq_2 _ _) (int_eq_dec_bool b y _ _ _) ⟨hy, rfl, q⟩)⟩
  | int i =>
    obtain ⟨t, rfl⟩ := rx
    exact ⟨typeIs_int s i t, fun Q q => wpAny_tryCompare_declines (typeIs_int s i t) PySem.F.slot_int_eq (call_meets PySem.F.slot_int_eq (typeIs_int s i t) PySem.F.entry_int_eq (PySem.F.args_int_eq_2 _ _) (int_eq_dec_int i t y _ _ _) ⟨hy, rfl, q⟩)⟩
  | str x =>
    obtain ⟨t, rfl⟩ := rx
    exact ⟨typeIs_str s x t, fun Q q => wpAny_tryCompare_declines (typeIs_str s x t) PySem.F.slot_str_eq (call_meets PySem.F.slot_str_eq (typeIs_str s x t) PySem.F.entry_str_eq (PySem.F.args_str_eq_2 _ _) (str_eq_dec x t y _ _ _) ⟨hy, rfl, q⟩)⟩
  | lst h =>
    cases rx
    obtain ⟨its, r, ⟨⟨cls, dd, data, sl⟩, n, ho, hc, hdd, hd⟩, _⟩ := I.list h
    simp only at hc hd
    subst hc hd
    have ty : s.TypeIs (.ref _) "list" := ⟨_, ho, rfl⟩
    exact ⟨ty, fun Q q => wpAny_tryCompare_declines ty PySem.F.slot_list_eq (call_meets PySem.F.slot_list_eq ty PySem.F.entry_list_eq (PySem.F.args_list_eq_2 _ _) (list_eq_dec _ y C _ n dd _ sl _) ⟨ho, hy, ns _ (by decide), rfl, q⟩)⟩
  | tup h =>
    cases rx
    obtain ⟨its, r, ⟨⟨cls, dd, data, sl⟩, ho, hc, n, hd⟩, _⟩ := I.tuple h
    simp only at hc hd
    subst hc hd
    have ty : s.TypeIs (.ref _) "tuple" := ⟨_, ho, rfl⟩
    exact ⟨ty, fun Q q => wpAny_tryCompare_declines ty PySem.F.slot_tuple_eq (call_meets PySem.F.slot_tuple_eq ty PySem.F.entry_tuple_eq (PySem.F.args_tuple_eq_2 _ _) (tuple_eq_dec _ y C _ n dd _ sl _) ⟨ho, hy, ns _ (by decide), rfl, q⟩)⟩
  | dct h =>
    cases rx
    obtain ⟨_, _, vs, _, ⟨cls, dd, data, sl⟩, es, ep, ho, hE, hd, _⟩ := dk_of I.hok h
    have hc := hE.1
    simp only at hc hd
    subst hc hd
    have ty : s.TypeIs (.ref _) "dict" := ⟨_, ho, rfl⟩
    exact ⟨ty, fun Q q => wpAny_tryCompare_declines ty PySem.F.slot_dict_eq (call_meets PySem.F.slot_dict_eq ty PySem.F.entry_dict_eq (PySem.F.args_dict_eq_2 _ _) (dict_eq_dec _ y C es ep dd _ sl _) ⟨ho, hy, ns _ (by decide), rfl, q⟩)⟩
end
section
open PySem.W
variable {prog : Program} {w : World} {A : Around} {E : Value → Shared → Prop} {s : Shared} {K : Frag} {x : Value} {T : String} {y C L f : Addr} {h₀ : Heap} {m : Str → Option Value} {oy : Obj} {od : Option Obj}
/-- x == y, x a builtin value whose == declines, y an instance of an own class -/
theorem eq_bu_K {Q : Value → Shared → Prop} (hu : A.units < cLine) (X : K.In s.heap) (ha : s.TypeIs x T) (hd : ∀ Q, Q none s → wpAny (model prog w) A (tryCompare x "__eq__" (.ref y)) Q E s) (J : InstAt s.heap y oy C od) (hn : subIn K (.ref C) (.type T) = some false)
    (hs : findIn K (.ref C) "__eq__" = some (some (.ref f))) (hf : isFn K (.ref f) = true)
    (h : wpAny (model prog w) A (call (.ref f) [.ref y, x]) (PySem.W.CmpBack Q) E s) : wpAny (model prog w) A (richCompare .Eq x (.ref y)) Q E s := by
  have one : wpAny (model prog w) A (tryCompare (.ref y) "__eq__" x) (fun r s' => ∃ v, r = some v ∧ Q v s') E s := by
    unfold tryCompare
    refine wpAny_bind (ifBound_K X J hs hf (wpAny_mono h (fun v s' hv => ?_) fun _ _ e => e))
    cases v <;> first | exact (show False from hv).elim | exact wpAny_pure ⟨_, rfl, hv⟩
  unfold richCompare
  simp only [ha.oneThing_none]
  refine wpAny_holding (wpAny_bind (wpAny_cRoomFor hu ?_))
  refine wpAny_bind (wpAny_typeOf ha (wpAny_bind (J.type.here ?_)))
  rw [if_pos (show ((Value.type T != Value.ref C) = true) by simp)]
  refine wpAny_bind ((looks_subIn X hn).here ?_)
  simp only [Bool.false_eq_true, if_false, Bool.not_false, if_true]
  refine wpAny_bind (hd _ ?_)
  refine wpAny_bind (wpAny_mono one (fun r s' z => ?_) fun _ _ e => e)
  obtain ⟨v, rfl, hq⟩ := z
  exact wpAny_pure hq
/-- y != x -/
theorem ne_bu_K {Q : Value → Shared → Prop} (hu : A.in1.units < cLine) (hu0 : A.units < cLine) (X : K.In s.heap) (I : InstAt s.heap y oy C od) (ha : Looks (model prog w) s.heap (typeOf x) (.type T)) (hb : notFirst K C (.type T) = true) (hm : mroIn K C (.type "object") = some true) (hn : findIn K (.ref C) "__ne__" = some (some (.builtin "object.__ne__"))) (hr : findIn K (.ref C) "__eq__" = some (some (.ref f))) (hf : isFn K (.ref f) = true)
    (h : wpAny (model prog w) A.in1 (call (.ref f) [.ref y, x]) (fun v s' => ∃ b, v = .bool b ∧ Q (.bool (!b)) s') E s) : wpAny (model prog w) A (richCompare .NotEq (.ref y) x) Q E s := by
  have one : wpAny (model prog w) A (tryCompare (.ref y) "__ne__" x) (fun r s' => ∃ v, r = some v ∧ Q v s') E s := ne_one hu X I hm hn hr hf (wpAny_mono h (fun v s' ⟨b, e, q⟩ => ⟨b, e, _, rfl, q⟩) fun _ _ e => e)
  unfold richCompare
  simp only [oneThing_ref]
  refine wpAny_holding (wpAny_bind (wpAny_cRoomFor hu0 ?_))
  refine wpAny_bind (I.type.here (wpAny_bind (ha.here ?_)))
  rw [if_pos (show ((Value.ref C != Value.type T) = true) by simp)]
  have e : subIn K (.type T) (.ref C) = some false := by
    rcases Bool.or_eq_true_iff.mp hb with e | e
    · simp at e
    · exact beq_iff_eq.mp e
  refine wpAny_bind ((looks_subIn X e).here ?_)
  simp only [Bool.false_eq_true, if_false]
  refine wpAny_bind (wpAny_mono one (fun r s' z => ?_) fun _ _ e => e)
  obtain ⟨v, rfl, hq⟩ := z
  exact wpAny_pure hq
end
section
variable {X : Cx} {C : Addr} {j : Nat} {sp : Sp}
theorem looks_bu {pins : List (Addr × Obj)} {σ : L2.St} {H : Hp} {s : Shared} {x : V} {u : Value} {T : String} (I : Inv X pins σ H s) (rx : RelV x u) (b : BuV X.K H x T) : PySem.W.Looks (model X.prog X.w) s.heap (typeOf u) (.type T) := by
  have at_ : ∀ {a : Addr} {o : Obj}, s.heap.get? a = some o → o.cls = .type T → PySem.W.Looks (model X.prog X.w) s.heap (typeOf (.ref a)) (.type T) := fun {a o} h c => c ▸ (PySem.W.Looks.ld h).andThen .now
  cases b with
  | non => cases rx; exact .now
  | bl b => cases rx; exact .now
  | int i => obtain ⟨t, rfl⟩ := rx; exact .now
  | str x => obtain ⟨t, rfl⟩ := rx; exact .now
  | lst h =>
    cases rx
    obtain ⟨its, r, ⟨o, n, ho, hc, _⟩, _⟩ := I.list h
    exact at_ ho hc
  | tup h =>
    cases rx
    obtain ⟨its, r, ⟨o, ho, hc, _⟩, _⟩ := I.tuple h
    exact at_ ho hc
  | dct h =>
    cases rx
    obtain ⟨_, _, vs, _, o, es, ep, ho, hE, _⟩ := dk_of I.hok h
    exact at_ ho hE.1
/-- d == a -/
def rBuEq (K : PySem.W.Frag) (C : Addr) (sp : Sp) : R2 := fun x y H Q => (∃ T, BuV K H x T) ∧ (∃ fs, InsAt H C y fs) ∧ sp [y, x] H Q E0
/-- a == d -/
def rEqBu (K : PySem.W.Frag) (C : Addr) (sp : Sp) : R2 := fun x y H Q => (∃ fs, InsAt H C x fs) ∧ (∃ T, BuV K H y T) ∧ sp [x, y] H Q E0
/-- a != d -/
def rNeBu (K : PySem.W.Frag) (C : Addr) (sp : Sp) : R2 := fun x y H Q => (∃ fs, InsAt H C x fs) ∧ (∃ T, BuV K H y T) ∧ sp [x, y] H (noQ Q) E0
theorem op_buEq (D : OwnR X.prog X.w X.K X.mg X.base j C "__eq__" sp) (hr : Room j X.A) (hn : noSubs X.K C = true) : OpR X (compareOp .Eq) (rBuEq X.K C sp) := by
  obtain ⟨f, h, F⟩ := D
  intro pins s σ H x y v u Q I rx ry ⟨⟨T, b⟩, ⟨fs, a, dx, ey, ha⟩, q⟩
  subst ey
  cases ry
  obtain ⟨od, J⟩ := inst_at I ha
  obtain ⟨ty, dec⟩ := bu_dec (A := X.A) (E := X.xe) I rx b J hn
  show wpAny (model X.prog X.w) X.A (richCompare .Eq v (.ref a)) (EP X pins σ Q) X.xe s
  exact eq_bu_K (by have := hr.un; omega) I.kIn ty dec J (noSubs_at hn b.mem) h.at_ h.fn (wpAny_mono (run_met (vs := [.ref a, x]) F hr I (.cons rfl (.cons rx .nil)) q) (fun _ _ z => back_ok z) fun _ _ z => z)
theorem op_eqBu (D : OwnR X.prog X.w X.K X.mg X.base j C "__eq__" sp) (hr : Room j X.A) : OpR X (compareOp .Eq) (rEqBu X.K C sp) := by
  obtain ⟨f, h, F⟩ := D
  intro pins s σ H x y v u Q I rx ry ⟨⟨fs, a, dx, ex, ha⟩, ⟨T, b⟩, q⟩
  subst ex
  cases rx
  obtain ⟨od, J⟩ := inst_at I ha
  obtain ⟨m, fr⟩ := I.fr
  show wpAny (model X.prog X.w) X.A (richCompare .Eq (.ref a) u) (EP X pins σ Q) X.xe s
  exact PySem.W.cmp_K (op := .Eq) (by have := hr.un; omega) fr I.ok.mod.kin J (looks_bu I ry b) (notFirst_bu b.mem) h.at_ h.fn (wpAny_mono (run_met (vs := [.ref a, y]) F hr I (.cons rfl (.cons ry .nil)) q) (fun _ _ z => back_ok z) fun _ _ z => z)
theorem op_neBu (D : OwnR X.prog X.w X.K X.mg X.base j C "__eq__" sp) (hr : Room (j + 1) X.A) (hm : PySem.W.mroIn X.K C (.type "object") = some true) (ho : PySem.W.findIn X.K (.ref C) "__ne__" = some (some (.builtin "object.__ne__"))) : OpR X (compareOp .NotEq) (rNeBu X.K C sp) := by
  obtain ⟨f, h, F⟩ := D
  intro pins s σ H x y v u Q I rx ry ⟨⟨fs, a, dx, ex, ha⟩, ⟨T, b⟩, q⟩
  subst ex
  cases rx
  obtain ⟨od, J⟩ := inst_at I ha
  show wpAny (model X.prog X.w) X.A (richCompare .NotEq (.ref a) u) (EP X pins σ Q) X.xe s
  refine ne_bu_K (by have := hr.un; show _ + 1 < _; omega) (by have := hr.un; omega) I.kIn J (looks_bu I ry b) (notFirst_bu b.mem) hm ho h.at_ h.fn (wpAny_mono (run_met1 (vs := [.ref a, y]) F hr I (.cons rfl (.cons ry .nil)) q) (fun v s' ⟨z, H', I', rz, b, ez, q⟩ => ?_) fun _ _ z => z)
  subst ez
  obtain rfl : v = .bool b := rz
  exact ⟨b, rfl, .bl (!b), H', I', rfl, q⟩
end
end XT
/-! == and != of sets with sets of any width and with data -/
namespace XT
open PySem PySem.Spec PyProof.Rows L2
section
variable {P : Program} {w : World} {K : PySem.W.Frag} {mg : Str → Option Value} {base : Heap} {C : Addr}
theorem of_eqLL56 {n n2 : Nat} {p p2 : Nat → Bool} : OpF (isLot n p) (isLot n2 p2) (rEqD K) (isB (PyData.eqv (dLot n p) (dLot n2 p2))) := fun H x y gx gy Q q => ⟨_, _, gx.dp, gy.dp, dLot_shaped _ _, dLot_shaped _ _, q _ _ (Same.refl _) rfl⟩
theorem scMsEqA : FnScope ["self", "other"] ["self", "other"] (defScope sMsEq) := ⟨rfl, rfl, rfl, by decide +kernel, rfl, by decide +kernel, by decide +kernel⟩
/-- a set with a set of any width, or with data -/
def spMsEqA (C : Addr) (K : PySem.W.Frag) : Sp := fun vs H Q _ => (∃ (z z2 v v2 : V) (n n2 : Nat) (p p2 : Nat → Bool), vs = [z, z2] ∧ MsAt C H z v n p ∧ 1 ≤ n ∧ n ≤ 6 ∧ MsAt C H z2 v2 n2 p2 ∧ 1 ≤ n2 ∧ n2 ≤ 6 ∧ ∀ H', Same H H' → Q (.bl (PyData.eqv (dLot n p) (dLot n2 p2))) H') ∨ (∃ (z z2 v : V) (n : Nat) (p : Nat → Bool) (T : String), vs = [z, z2] ∧ MsAt C H z v n p ∧ BuV K H z2 T ∧ ∀ H', Same H H' → Q (.bl false) H')
theorem kit_bu {K : PySem.W.Frag} {C : Addr} (hd : PySem.W.hasDictIn K C = true) (ht : PySem.W.typeIn K (.ref C) = some (.type "type")) {T : String} (h : T ∈ buTs) : PySem.W.kitOne K (.type T) (.ref C) = some false := by
  obtain ⟨cd, hc, _⟩ := PySem.W.any_some hd
  have e2 : ((PySem.W.clsIn K C).isSome && PySem.W.typeIn K (.ref C) == some (.type "type")) = true := by rw [hc, ht] <;> rfl
  unfold PySem.W.kitOne PySem.W.kitCls
  rw [if_neg (by simp)]
  show (if ((PySem.W.clsIn K C).isSome && PySem.W.typeIn K (.ref C) == some (.type "type")) = true then PySem.W.subIn K (.type T) (.ref C) else none) = some false
  rw [if_pos e2]
  exact sub_bu T h
theorem ok_msEqA {f : Addr} {fd : FuncData} {k : Nat} (B : Bl mg) (hC : mg "MaskSet" = some (.ref C)) (ist : ∀ {H : Hp} {a dx : Addr} {fs : List (Str × V)}, H a = some (.ins C dx fs) → TyX K H (.ref a) (.ref C)) (hd : PySem.W.hasDictIn K C = true) (ht : PySem.W.typeIn K (.ref C) = some (.type "type")) (dL : PropR P w K mg base 1 C "lot" (spMsLot C)) (F : Fun K "__eq__" "MaskSet.__eq__" sMsEq f fd) : FnOk P w K mg base CX0 (k + 3) f fd ["self", "other"] (spMsEqA C K) := by
  refine F.ok scMsEqA (fun vs H Q E h => ?_) (fun cdv A outer s H vs Q E hr h => ?_)
  · rcases h with ⟨z, z2, v, v2, n, n2, p, p2, rfl, _⟩ | ⟨z, z2, v, n, p, T, rfl, _⟩ <;> rfl
  · refine ⟨_, pss_one (ps_ret (pe_and (pe_callB call_isi (by rfl) B.isinstance bI (pa_cons (pv 1) (pa_cons (pe_glob (v := .ref C) (by rfl) hC rfl) pa_nil))) (pe_one (pe_cmpR (op_eqD hr.units) (pe_propR (pv 0) dL (hr.mono (by omega))) (pe_propR (pv 1) dL (hr.mono (by omega))) (nomark _))))), ?_⟩
    rcases h with ⟨z, z2, v, v2, n, n2, p, p2, rfl, hz, h1, h6, hz2, k1, k6, q⟩ | ⟨z, z2, v, n, p, T, rfl, hz, hb, q⟩
    · obtain ⟨a2, dx2, ez2, ha2⟩ := id hz2.1
      obtain ⟨a, dx, ez, ha⟩ := id hz.1
      refine ⟨z2, rfl, z2, .ref C, _, _, true, rfl, .own _, by rw [ez2]; exact ist ha2, kit_me, true, rfl, iteT ?_⟩
      refine ⟨z, rfl, a, dx, _, ez, ha, z, v, n, p, by rw [ez], hz, h1, h6, fun H1 r s1 er => ?_⟩
      have hz2' := hz2.same s1
      obtain ⟨a2', dx2', ez2', ha2'⟩ := id hz2'.1
      refine ⟨z2, rfl, a2', dx2', _, ez2', ha2', z2, v2, n2, p2, by rw [ez2'], hz2', k1, k6, fun H2 r2 s2 er2 => ?_⟩
      subst er er2
      exact of_eqLL56 H2 _ _ ((hz.2.same s1).same s2) (hz2'.2.same s2) _ fun H3 o s3 eo => by rw [eo]; exact q _ ((s1.trans s2).trans s3)
    · exact ⟨z2, rfl, z2, .ref C, _, _, false, rfl, .own _, hb.ty, kit_bu hd ht hb.mem, false, rfl, iteF (q _ (Same.refl _))⟩
/-- what is compared with a set -/
abbrev isBu (K : PySem.W.Frag) : RV := fun H z => ∃ T, BuV K H z T
theorem sty_bu (K : PySem.W.Frag) : Sty (isBu K) := fun _ _ _ e ⟨T, h⟩ => ⟨T, h.same e⟩
end
section
variable {K : PySem.W.Frag} {C : Addr} {n n2 : Nat} {p p2 : Nat → Bool}
/-- a == b by the left one's, or data == b by the right one's -/
abbrev rEqA (K : PySem.W.Frag) (C : Addr) : R2 := fun x y H Q => rOwn C (spMsEqA C K) x y H Q ∨ rBuEq K C (spMsEqA C K) x y H Q
abbrev rEqZ (K : PySem.W.Frag) (C : Addr) : R2 := fun x y H Q => rOwn C (spMsEqA C K) x y H Q ∨ rEqBu K C (spMsEqA C K) x y H Q
abbrev rNeZ (K : PySem.W.Frag) (C : Addr) : R2 := fun x y H Q => rNeL C C (spMsEqA C K) x y H Q ∨ rNeBu K C (spMsEqA C K) x y H Q
theorem of_eqSS (h1 : 1 ≤ n) (h6 : n ≤ 6) (k1 : 1 ≤ n2) (k6 : n2 ≤ 6) : OpF (isMs C n p) (isMs C n2 p2) (rOwn C (spMsEqA C K)) (isB (PyData.eqv (dLot n p) (dLot n2 p2))) := fun H x y ⟨v, gx⟩ ⟨v', gy⟩ Q q =>
  ⟨gx.ins, gy.ins, .inl ⟨x, y, v, v', n, n2, p, p2, rfl, gx, h1, h6, gy, k1, k6, fun H' s' => q _ _ s' rfl⟩⟩
theorem of_neSS (h1 : 1 ≤ n) (h6 : n ≤ 6) (k1 : 1 ≤ n2) (k6 : n2 ≤ 6) : OpF (isMs C n p) (isMs C n2 p2) (rNeL C C (spMsEqA C K)) (isB (!PyData.eqv (dLot n p) (dLot n2 p2))) := fun H x y ⟨v, gx⟩ ⟨v', gy⟩ Q q =>
  ⟨gx.ins, gy.ins, .inl ⟨x, y, v, v', n, n2, p, p2, rfl, gx, h1, h6, gy, k1, k6, fun H' s' => ⟨_, rfl, q _ _ s' rfl⟩⟩⟩
theorem of_buS : OpF (isBu K) (isMs C n p) (rBuEq K C (spMsEqA C K)) (isB false) := fun H x y ⟨T, b⟩ ⟨v', gy⟩ Q q =>
  ⟨⟨T, b⟩, gy.ins, .inr ⟨y, x, v', n, p, T, rfl, gy, b, fun H' s' => q _ _ s' rfl⟩⟩
theorem of_Sbu : OpF (isMs C n p) (isBu K) (rEqBu K C (spMsEqA C K)) (isB false) := fun H x y ⟨v', gx⟩ ⟨T, b⟩ Q q =>
  ⟨gx.ins, ⟨T, b⟩, .inr ⟨x, y, v', n, p, T, rfl, gx, b, fun H' s' => q _ _ s' rfl⟩⟩
theorem of_neBu : OpF (isMs C n p) (isBu K) (rNeBu K C (spMsEqA C K)) (isB true) := fun H x y ⟨v', gx⟩ ⟨T, b⟩ Q q =>
  ⟨gx.ins, ⟨T, b⟩, .inr ⟨x, y, v', n, p, T, rfl, gx, b, fun H' s' => ⟨false, rfl, q _ _ s' rfl⟩⟩⟩
end
end XT
/-! the lots and the values that the law draws -/
namespace XT
open PySem PySem.Spec PyProof.Rows L2
/-- any lot of a width -/
abbrev isAl (n : Nat) : RV := fun H z => ∃ p, LotAt H z n p
theorem sty_al (n : Nat) : Sty (isAl n) := fun _ _ _ e ⟨p, h⟩ => ⟨p, h.same e⟩
theorem sk_al {S : Sm} {X : Ow} (n : Nat) : StyK S X (isAl n) := fun _ _ _ _ _ w k ⟨p, h⟩ => ⟨p, h.kx w k⟩
section
variable {K : PySem.W.Frag} {S : Sm} {B B0 : Int} {n : Nat} {p : Nat → Bool} {σ : L2.St} {H : Hp} {v : V}
theorem ed_part56 (hn : n ≤ 6) (hB : B < 90000) (h1 : ∀ z : V, ((wipe σ [11]).set 11 (some z))[1]? = some (some (.ref S.s))) (h3 : σ[3]? = some (some v)) (h5 : σ[5]? = some (some (.int (n : Int)))) (hw : ∀ z : V, wipe ((wipe σ [11]).set 11 (some z)) [11] = wipe σ [11]) (he : ∀ z : V, ((wipe σ [11]).set 11 (some z))[11]? = some (some z)) (hv : LotAt H v n p) (w0 : Wld S noX noW B0 H) :
    EvD S noX noW B noW (B + 64) (isAl n) (tTup (tCons (tVar 5) (tCons (tCB (rTupO K) (tCons (tLc (iTup K (tOp (rIxT K) (tVar 3) (tC (.int 1)))) (gName 11) (tTest (tOp rEq (tDf spDrawN (tCons (tVar 1) (tCons (tC (.int 2)) tNil))) (tC (.int 0)))) (tVar 11) [11]) tNil)) tNil))) σ H := fun H1 k1 w1 Q q => by
  have sw : StyW noX noW := sty_no noX
  obtain ⟨x, y, rfl, hx, hy⟩ := hv
  have hx1 := w0.tup k1 hx
  have hy1 := w0.tup k1 hy
  obtain ⟨t, st, ht⟩ := w1.t
  have hl := lot_len hn p
  refine ⟨_, h5, .ref x, h3, x, _, 1, .ref y, rfl, rfl, SqT.of hx1, rfl, y, rfl, ⟨_, SqT.of hy1⟩, fun D nD => lcd_tup (ms := lotOf n p) (d := 1) st nD hy1 (by omega) (fun i m H2 t2 hm s2 R1 R2 r1 r2 => ?_) (fun H2 ks t2 s2 hD hs => ?_)⟩
  · refine ⟨hw _, .ref S.s, h1 _, S, t2, 2, rfl, s2.st, by decide, by decide, by have := s2.hi; have := (List.getElem?_eq_some_iff.mp hm).1; omega, fun H3 r t3 s3 hr => ⟨rfl, _, rfl, ?_⟩⟩
    exact ite2 (fun _ => ⟨_, he _, r2 _ _ s3⟩) fun _ => r1 _ _ s3
  · obtain ⟨w2, k2⟩ := w1.step sw st ht s2
    have w2 := w2.mono (B1 := B + 64) (by omega)
    refine ⟨D, _, rfl, .inl ⟨SqL.of hD, fun T nT => ⟨sz (n := 2) (by decide), fun T2 nT2 => ?_⟩⟩⟩
    have sT := (same_new (o := .tup (vm ks)) nT).trans (same_new (o := .tup [.int (n : Int), .ref T]) nT2)
    refine q _ _ (k2.trans (KeepX.of sT)) (w2.same sw sT) ⟨fun m => decide (m ∈ ks), T2, T, rfl, upd_same, ?_⟩
    rw [← sub_lot hs]
    exact same_new nT2 _ _ upd_same
/-- (n, ()) and (n, tuple(range(2 ** n))) -/
theorem ev_none56 {i : Nat} (h : σ[i]? = some (some (.int (n : Int)))) : Ev (isLot n fun _ => false) (tTup (tCons (tVar i) (tCons (tTup tNil) tNil))) σ H :=
  ev_lot2 (q' := fun _ => false) (ms := []) (by unfold lotOf; exact List.filter_eq_nil_iff.mpr fun _ _ => by simp) (ev_var (sty_v _) h rfl) ev_tup0
theorem ev_all56 {i : Nat} (hn : n ≤ 6) (h : σ[i]? = some (some (.int (n : Int)))) : Ev (isLot n fun _ => true) (tTup (tCons (tVar i) (tCons (tTupRg (tRg1 (tOp (rI CPow fun i j => .int (i * 2 ^ j.toNat)) (tC (.int 1)) (tVar i)))) tNil))) σ H := fun H1 s1 Q q => by
  refine ⟨_, h, _, h, 1, n, rfl, rfl, cpow hn, ((2 ^ n : Nat) : Int), congrArg V.int (shl1 n), ?_, fun T nT => ⟨sz (n := 2) (by decide), fun T2 nT2 => ?_⟩⟩
  · have p6 := pow6 hn
    generalize 2 ^ n = m at p6
    exact RgOk.of_le (by omega) (by omega) (by omega) (by omega)
  · refine q _ _ ((same_new nT).trans (same_new nT2)) ⟨T2, T, rfl, upd_same, same_new nT2 _ _ ?_⟩
    rw [upd_same, range_lot]
end
end XT
/-! set of a long list -/
namespace XT
open PySem PySem.Spec PyProof.Rows L2
section
variable {X : Cx}
def rSetB (K : PySem.W.Frag) (w : World) : List V → Hp → VK → Prop := fun vs H Q => ∃ (a : Addr) (ns : List Int), vs = [V.ref a] ∧ SqL K H a (ns.map V.int) ∧ ns.length ≤ 4000 ∧ ∀ (p : Addr) (c : Nat), H p = none → Q (.ref p) (upd H p (SetO w p (fun j => decide (j ∈ ns)) c))
theorem cr_setB (hc : X.calm = true) : CallR X (.type "set") (rSetB X.K X.w) := by
  intro pins s σ H vs us Q I r h
  obtain ⟨a, ns, rfl, hs, hn, q⟩ := h
  obtain ⟨its, rv, hl, hz⟩ := I.list hs
  rw [Vals.ref1 r]
  refine set_listI ns (I.ok.hd hc) hl.isList (by simpa using rv.ints) (by unfold scanBound; omega) fun hp tk c hS hcn hk => ?_
  exact ⟨.ref _, _, I.laid (t' := tk) hk (Nat.le_refl _) (setO_new hS), rfl, q _ c (I.hok.fresh (Nat.le_refl _))⟩
end
theorem szl5 {n : Nat} (h : n ≤ 100000) : n ≤ sizeLine := by rw [sizeLine_eq]; omega
theorem pow5 {w : Nat} (h : w ≤ 5) : 2 ^ w ≤ 32 := by
  have : w = 0 ∨ w = 1 ∨ w = 2 ∨ w = 3 ∨ w = 4 ∨ w = 5 := by omega
  rcases this with rfl | rfl | rfl | rfl | rfl | rfl <;> decide
theorem lot_len5 {w : Nat} (h : w ≤ 5) (P : Nat → Bool) : (lotOf w P).length ≤ 32 := by
  refine Nat.le_trans (List.length_filter_le _ _) ?_
  rw [List.length_range]
  exact pow5 h
end XT
/-! _law_total, _law_greatest -/
/-! _law_greatest -/
namespace XT
open PySem PySem.Spec PyProof.Rows L2
section
variable {P : Program} {w : World} {K : PySem.W.Frag} {mg : Str → Option Value} {base : Heap}
abbrev nGr : List Str := ["_law_one", "_law_other", "_law_width", "_law_masks", "_law_m", "_law_x"]
theorem scGr : FnScope nGr ["_law_one", "_law_other"] (defScope sLGreatest) := ⟨rfl, rfl, rfl, by decide +kernel, rfl, by decide +kernel, by decide +kernel⟩
def outGr : Scope := match (defBody sLGreatest).getD 1 (.Pass ⟨0, 0, 0, 0⟩) with
  | .Return (some (.Tuple [_, .Call _ [.ListComp _ _ sc _] _ _] _ _)) _ => sc
  | _ => defScope sLGreatest
def spGr : Sp := fun vs H Q _ => ∃ (v u : V) (n : Nat) (p r : Nat → Bool), vs = [v, u] ∧ LotAt H v n p ∧ LotAt H u n r ∧ n ≤ 6 ∧ ∀ H' z, Same H H' → LotAt H' z n (gaB n p r) → Q z H'
abbrev ttGr (K : PySem.W.Frag) : TT := tTest (tOp (rIn K true) (tOp rXor (tVar 5) (tVar 4)) (tOp (rIxT K) (tVar 1) (tC (.int 1))))
theorem ga_out {n m : Nat} {p r : Nat → Bool} : decide ((lotOf n p).filter (fun x => !r (x ^^^ m)) = []) = gaB n p r m := by
  rw [Bool.eq_iff_iff, decide_eq_true_iff, ga_iff, List.filter_eq_nil_iff]
  constructor
  · intro h x hx hp
    have := h x (mem_lot.mpr ⟨hx, hp⟩)
    simpa using this
  · intro h x hx
    rw [h x (mem_lot.mp hx).1 (mem_lot.mp hx).2]
    decide
theorem ok_gr {f : Addr} {fd : FuncData} {k : Nat} (B : Bl mg) (F : Fun K "_law_greatest" "_law_greatest" sLGreatest f fd) : FnOk P w K mg base CX0 (k + 1) f fd ["_law_one", "_law_other"] spGr := by
  refine F.ok scGr (fun vs H Q E h => ?_) (fun cdv A outer s H vs Q E hr h => ?_)
  · obtain ⟨v, u, n, p, r, rfl, _⟩ := h
    rfl
  · obtain ⟨v, u, n, p, r, rfl, ⟨x, y, rfl, hx, hy⟩, ⟨x', y', rfl, hx', hy'⟩, hn, q⟩ := h
    refine ⟨_, pss_cons (ps_asg (pv 0) (pg_tup rfl (pgs_cons (pg_name (i := 2) scGr.nd rfl (by first | exact Or.inl rfl | exact Or.inr rfl)) (pgs_cons (pg_name (i := 3) scGr.nd rfl (by first | exact Or.inl rfl | exact Or.inr rfl)) pgs_nil))))
      (pss_one (ps_ret (pe_tup (pa_cons (pv 2) (pa_cons (pe_callTy call_tuple_of (by rfl) B.tuple bT (pa_cons
        (pe_lc (own := [("_law_m", 4)]) (g := gName 4) (te := tVar 4)
          (tt := tTest (tOp (rEqD K) (tLc (iTup K (tVar 3)) (gName 5) (ttGr K) (tVar 5) [5]) (tLst tNil)))
          rfl scGr.nd (pi_range1 (by rfl) B.range (pa_cons (pe_op op_shl pe_int (pv 2)) pa_nil))
          (blkOk_by (own := [("_law_m", 4)]) (N := nGr) (sc := defScope sLGreatest) (by decide +kernel))
          (fun _ _ _ _ _ => pg_name (i := 4) scGr.nd rfl (Or.inr rfl))
          (fun _ _ _ _ _ => pts_one (pt_cmpR (op_eqD hr.units)
            (pe_lc (own := [("_law_x", 5)]) (g := gName 5) (tt := ttGr K) (te := tVar 5) rfl scGr.nd (pi_tup (pv 3))
              (blkOk_by (own := [("_law_x", 5)]) (N := nGr) (sc := relS outGr (defScope sLGreatest)) (by decide +kernel))
              (fun _ _ _ _ _ => pg_name (i := 5) scGr.nd rfl (Or.inl rfl)) (fun _ _ _ _ _ => pts_one (pt_cmpR op_notIn_seq (pe_op op_xor (pv 5) (pv 4)) (pe_ix ix_tup (pv 1) pe_int (fun _ _ => rfl)) (by rfl))) (fun _ _ _ _ _ => pv 5)) (pe_lst pa_nil) (nomark _)))
          (fun _ _ _ _ _ => pv 4)) pa_nil)) pa_nil))))), ?_⟩
    have h6 := pow6 hn
    have hl := lot_len hn p
    refine ⟨.ref x, rfl, x, _, rfl, SqT.of hx, rfl, _, _, rfl, _, _, rfl, rfl, ?_⟩
    refine ⟨.int n, rfl, .int n, rfl, 1, n, rfl, rfl, cpow hn, ((2 ^ n : Nat) : Int), congrArg (fun z => [V.int z]) (shl1 n), l62, r62 hn, fun D nD => ?_⟩
    refine lcp_range (n := 2 ^ n) (p := gaB n p r) (f := fun m => .int (m : Int)) nD (small64 (by omega)) (fun i H3 hi s3 => ?_) (fun H3 s3 hD => ?_)
    · intro R1 R2 h1 h2
      have hy3 := s3 _ _ hy
      refine ⟨rfl, .ref y, rfl, y, rfl, ⟨_, SqT.of hy3⟩, fun C nC => lcp_tup (p := fun v => match v with | .int k => !r (k.toNat ^^^ i) | _ => false) (f := id) nC (SqT.of hy3) (small64 (by rw [vm_len]; omega)) (fun j z H4 hz s4 => ?_) (fun H4 s4 hC => ?_)⟩
      · intro R3 R4 h3 h4
        obtain ⟨m, hm, rfl⟩ := mem_vm hz
        have hm2 := (mem_lot.mp (List.mem_of_getElem? hm)).1
        refine ⟨rfl, _, rfl, _, rfl, (m : Int), 0 + (i : Int), rfl, rfl, .ref x', rfl, x', _, 1, .ref y', rfl, rfl, SqT.of (s4 _ _ (s3 _ _ hx')), rfl, y', _, rfl, .inr (SqT.of (s4 _ _ (s3 _ _ hy'))), rfl, vm_flat _, _, rfl, ?_⟩
        have e : inV (.int (Builtin.bitXor (m : Int) (0 + (i : Int)))) (vm (lotOf n r)) = r (m ^^^ i) := by rw [Int.zero_add, bx, in_lot (xor_lt hm2 hi)]
        show if (!inV (.int (Builtin.bitXor (m : Int) (0 + (i : Int)))) (vm (lotOf n r))) = true then _ else _
        rw [e]
        refine ite2 (fun z => ?_) (fun z => ?_)
        · exact ⟨_, rfl, h4 z _ (Same.refl _)⟩
        · exact h3 (by simpa using z) _ (Same.refl _)
      · rw [vm_filter (lotOf n p) (fun x => !r (x ^^^ i)) _ fun m hm => rfl] at hC
        refine ⟨sz (n := 0) (by decide), fun C2 nC2 => ?_⟩
        have s5 := same_new (o := .lst []) nC2
        refine eq_lstN (ks := []) ⟨C, rfl, s5 _ _ hC⟩ ⟨C2, rfl, upd_same⟩ ⟨_, rfl, ?_⟩
        rw [ga_out]
        refine ite2 (fun z => ?_) (fun z => ?_)
        · refine ⟨_, rfl, ?_⟩
          rw [Int.zero_add]
          exact h2 z _ (s4.trans s5)
        · exact h1 (by simpa using z) _ (s4.trans s5)
    · refine ⟨D, _, rfl, .inl ⟨SqL.of hD, fun L nL => ⟨sz (n := 2) (by decide), fun U nU => ?_⟩⟩⟩
      refine q _ _ ((s3.trans (same_new nL)).trans (same_new nU)) ⟨U, L, rfl, upd_same, ?_⟩
      rw [upd_ne (ne_of_none upd_same nU), upd_same]
      rfl
end
end XT
/-! what the operators on sets give -/
namespace XT
open PySem PySem.Spec PyProof.Rows L2
section
variable {C : Addr} {n m : Nat} {p r : Nat → Bool} {t ta tb : TE} {σ : L2.St} {H : Hp}
theorem of_or (h1 : 1 ≤ n) (h6 : n ≤ 6) : OpF (isMs C n p) (isMs C n r) (rOwn C (spMsOr C)) (isMs C n fun m => p m || r m) := of_m2 h1 h6
theorem of_and (h1 : 1 ≤ n) (h6 : n ≤ 6) : OpF (isMs C n p) (isMs C n r) (rOwn C (spMsAnd C)) (isMs C n fun m => p m && r m) := of_m2 h1 h6
theorem of_sub (h1 : 1 ≤ n) (h6 : n ≤ 6) : OpF (isMs C n p) (isMs C n r) (rOwn C (spMsSub C)) (isMs C n fun m => p m && !r m) := of_m2 h1 h6
theorem of_add (h1 : 1 ≤ n) (h6 : n ≤ 6) : OpF (isMs C n p) (isMs C n r) (rOwn C (spMsAdd C)) (isMs C n fun m => addB n p r m) := of_m2 h1 h6
theorem of_eqM (h1 : 1 ≤ n) (h6 : n ≤ 6) : OpF (isMs C n p) (isMs C n r) (rOwn C (spMsEq C)) (isB (decide (∀ m, m < 2 ^ n → p m = r m))) := of_m2 h1 h6
theorem of_turn (h1 : 1 ≤ n) (h6 : n ≤ 6) (hm : m < 2 ^ n) : OpF (isMs C n p) (isV (.int (m : Int))) (rOwnI C (spMsXor C)) (isMs C n fun x => p (x ^^^ m)) := of_mx h1 h6 hm
theorem ev_inv (h1 : 1 ≤ n) (h6 : n ≤ 6) (a : Ev (isMs C n p) t σ H) : Ev (isMs C n fun x => !p x) (tUn (rOwn1 C (spMsInv C)) t) σ H := ev_m1 h1 h6 a fun _ _ _ _ g => g
theorem ev_masks (h1 : 1 ≤ n) (h6 : n ≤ 6) (a : Ev (isMs C n p) t σ H) : Ev (isTup (lotOf n p)) (tProp C (spMsMasks C) [] E0 t) σ H := ev_prop h1 h6 a fun _ _ _ _ g => g
theorem ev_lot (h1 : 1 ≤ n) (h6 : n ≤ 6) (a : Ev (isMs C n p) t σ H) : Ev (isLot n p) (tProp C (spMsLot C) [] E0 t) σ H := ev_prop h1 h6 a fun _ _ _ l g => by rw [g]; exact l
theorem ev_width (h1 : 1 ≤ n) (h6 : n ≤ 6) (a : Ev (isMs C n p) t σ H) : Ev (isV (.int (n : Int))) (tProp C (spMsWidth C) [] E0 t) σ H := ev_prop h1 h6 a fun _ _ _ _ g => g
theorem ev_lenM (h1 : 1 ≤ n) (h6 : n ≤ 6) (a : Ev (isMs C n p) t σ H) : Ev (isV (.int ((lotOf n p).length : Int))) (tCB (rOwnLen C (spMsLen C)) (tCons t tNil)) σ H := ev_len h1 h6 a fun _ _ _ g => g
end
end XT
/-! greatest_addend, at lots of one width -/
namespace XT
open PySem PySem.Spec PyProof.Rows L2
section
variable {P : Program} {w : World} {K : PySem.W.Frag} {mg : Str → Option Value} {base : Heap}
abbrev nGa : List Str := ["one", "other", "width", "mask", "x"]
theorem scGa : FnScope nGa ["one", "other"] (defScope sGreatestAddend) := ⟨rfl, rfl, rfl, by decide +kernel, rfl, by decide +kernel, by decide +kernel⟩
def outGa : Scope := match (defBody sGreatestAddend).getD 1 (.Pass ⟨0, 0, 0, 0⟩) with
  | .Return (some (.Tuple [_, .Call _ [.ListComp _ _ sc _] _ _] _ _)) _ => sc
  | _ => defScope sGreatestAddend
def spGa : Sp := fun vs H Q _ => ∃ (v u : V) (n : Nat) (p r : Nat → Bool), vs = [v, u] ∧ LotAt H v n p ∧ LotAt H u n r ∧ n ≤ 6 ∧ ∀ H' z, Same H H' → LotAt H' z n (gaB n p r) → Q z H'
abbrev teGa (K : PySem.W.Frag) : TE := tOp (rIn K false) (tOp rXor (tVar 4) (tVar 3)) (tOp (rIxT K) (tVar 1) (tC (.int 1)))
theorem ok_ga {f : Addr} {fd : FuncData} {k : Nat} (B : Bl mg) (F : Fun K "greatest_addend" "greatest_addend" sGreatestAddend f fd) (dW : DefR P w K mg base 1 "common_width" (spWidth K)) : FnOk P w K mg base CX0 (k + 2) f fd ["one", "other"] spGa := by
  refine F.ok scGa (fun vs H Q E h => ?_) (fun cdv A outer s H vs Q E hr h => ?_)
  · obtain ⟨v, u, n, p, r, rfl, _⟩ := h
    rfl
  · obtain ⟨v, u, n, p, r, rfl, hv, hu, hn, q⟩ := h
    refine ⟨_, pss_cons (ps_set (i := 2) scGa.nd rfl (by first | exact Or.inl rfl | exact Or.inr rfl) (pe_def dW (hr.mono (by omega)) (by rfl) (pa_cons (pe_tup (pa_cons (pv 0) (pa_cons (pv 1) pa_nil))) pa_nil)))
      (pss_one (ps_ret (pe_tup (pa_cons (pv 2) (pa_cons (pe_callTy call_tuple_of (by rfl) B.tuple bT (pa_cons
        (pe_lc (own := [("mask", 3)]) (g := gName 3) (te := tVar 3)
          (tt := tTest (tCB (rAll K) (tCons (tLc (iTup K (tOp (rIxT K) (tVar 0) (tC (.int 1)))) (gName 4) tYes (teGa K) [4]) tNil)))
          rfl scGa.nd (pi_range1 (by rfl) B.range (pa_cons (pe_op op_shl pe_int (pv 2)) pa_nil))
          (blkOk_by (own := [("mask", 3)]) (N := nGa) (sc := defScope sGreatestAddend) (by decide +kernel))
          (fun _ _ _ _ _ => pg_name (i := 3) scGa.nd rfl (Or.inr rfl))
          (fun _ _ _ _ _ => pts_one (pt_val (pe_callB (L2.cr_all rfl) (by rfl) B.all bAll (pa_cons
            (pe_lc (own := [("x", 4)]) (g := gName 4) (tt := tYes) (te := teGa K) rfl scGa.nd (pi_tup (pe_ix ix_tup (pv 0) pe_int (fun _ _ => rfl)))
              (blkOk_by (own := [("x", 4)]) (N := nGa) (sc := relS outGa (defScope sGreatestAddend)) (by decide +kernel))
              (fun _ _ _ _ _ => pg_name (i := 4) scGa.nd rfl (Or.inl rfl)) (fun _ _ _ _ _ => pts_nil) (fun _ _ _ _ _ => pe_cmpR op_in_seq (pe_op op_xor (pv 4) (pv 3)) (pe_ix ix_tup (pv 1) pe_int (fun _ _ => rfl)) (by rfl))) pa_nil))))
          (fun _ _ _ _ _ => pv 3)) pa_nil)) pa_nil))))), ?_⟩
    refine ⟨v, rfl, u, rfl, sz (n := 2) (by decide), fun T nT => ?_⟩
    have sT := same_new (o := .tup [v, u]) nT
    refine ⟨T, [(v, p), (u, r)], n, rfl, SqT.of upd_same, lots2 (hv.same sT) (hu.same sT) hn, fun H2 s2 => ?_⟩
    have hv2 := (hv.same sT).same s2
    have hu2 := (hu.same sT).same s2
    obtain ⟨x, y, rfl, hx, hy⟩ := hv2
    obtain ⟨x', y', rfl, hx', hy'⟩ := hu2
    have h6 := pow6 hn
    have hl := lot_len hn p
    refine ⟨.int n, rfl, .int n, rfl, 1, n, rfl, rfl, cpow hn, ((2 ^ n : Nat) : Int), congrArg (fun z => [V.int z]) (shl1 n), l62, r62 hn, fun D nD => ?_⟩
    refine lcp_range (n := 2 ^ n) (p := gaB n p r) (f := fun m => .int (m : Int)) nD (small64 (by omega)) (fun i H3 hi s3 => ?_) (fun H3 s3 hD => ?_)
    · intro R1 R2 h1 h2
      have hy3 := s3 _ _ hy
      refine ⟨rfl, .ref x, rfl, x, _, 1, .ref y, rfl, rfl, SqT.of (s3 _ _ hx), rfl, y, rfl, ⟨_, SqT.of hy3⟩, fun B2 nB => ?_⟩
      refine lc_tup (K := K) (xs := vm (lotOf n p)) (fun j H => PvP H3 B2 (((lotOf n p).take j).map fun m => V.bl (r (m ^^^ i))) H) ⟨same_new nB, upd_same⟩ (fun j H _ h => Same.sqT h.1 (SqT.of hy3)) (fun j v H4 hv h => ?_) (fun H4 h => ?_)
      · obtain ⟨m, hm, rfl⟩ := mem_vm hv
        have hm2 := (mem_lot.mp (List.mem_of_getElem? hm)).1
        refine pvp_turn (y := .bl (r (m ^^^ i))) (keep := true) nB h ?_ ?_ _ ?_
        · rw [List.length_map, List.length_take]
          exact small64 (Nat.le_trans (Nat.min_le_right _ _) (by omega))
        · intro R3 R4 h3 h4
          refine ⟨rfl, iteT (B := R3 H4) ⟨_, rfl, _, rfl, (m : Int), 0 + (i : Int), rfl, rfl, .ref x', rfl, x', _, 1, .ref y', rfl, rfl, SqT.of (h.1 _ _ (s3 _ _ hx')), rfl, y', _, rfl, .inr (SqT.of (h.1 _ _ (s3 _ _ hy'))), rfl, vm_flat _, ?_⟩⟩
          show R4 (.bl (inV (.int (Builtin.bitXor (m : Int) (0 + (i : Int)))) (vm (lotOf n r)))) H4
          rw [Int.zero_add, bx, in_lot (xor_lt hm2 hi)]
          exact h4 rfl _ (Same.refl _)
        · rw [List.take_add_one, hm, List.map_append]
          rfl
      · have hB := h.2
        rw [vm_len, List.take_length] at hB
        refine ⟨B2, (lotOf n p).map fun m => r (m ^^^ i), rfl, SqL.of ?_, _, rfl, ?_⟩
        · rw [hB, List.map_map]
          rfl
        · have e : ((lotOf n p).map fun m => r (m ^^^ i)).all id = gaB n p r i := by
            unfold gaB
            rw [List.all_map]
            rfl
          show if ((lotOf n p).map fun m => r (m ^^^ i)).all id = true then _ else _
          rw [e]
          refine ite2 (fun z => ?_) (fun z => ?_)
          · refine ⟨_, rfl, ?_⟩
            rw [Int.zero_add]
            exact h2 z _ h.1
          · exact h1 (by simpa using z) _ h.1
    · refine ⟨D, _, rfl, .inl ⟨SqL.of hD, fun L nL => ⟨sz (n := 2) (by decide), fun U nU => ?_⟩⟩⟩
      refine q _ _ ((((sT.trans s2).trans s3).trans (same_new nL)).trans (same_new nU)) ⟨U, L, rfl, upd_same, ?_⟩
      rw [upd_ne (ne_of_none upd_same nU), upd_same]
      rfl
end
end XT
/-! MaskSet: within, addend -/
namespace XT
open PySem PySem.Spec PyProof.Rows L2
section
variable {P : Program} {w : World} {K : PySem.W.Frag} {mg : Str → Option Value} {base : Heap} {C : Addr}
theorem scMsWithin : FnScope ["self", "other"] ["self", "other"] (defScope sMsWithin) := ⟨rfl, rfl, rfl, by decide +kernel, rfl, by decide +kernel, by decide +kernel⟩
abbrev spMsWithin (C : Addr) : Sp := spM2 C fun n p r _ o => o = .bl (decide (lotOf n (fun m => p m && !r m) = []))
theorem ok_msWithin {f : Addr} {fd : FuncData} {k : Nat} (B : Bl mg) (dL : PropR P w K mg base 1 C "lot" (spMsLot C)) (dF : DefR P w K mg base 2 "left_over" spLeft) (F : Fun K "within" "MaskSet.within" sMsWithin f fd) : FnOk P w K mg base CX0 (k + 4) f fd ["self", "other"] (spMsWithin C) := by
  refine F.ok scMsWithin (fun vs H Q E h => ?_) (fun cdv A outer s H vs Q E hr h => ?_)
  · obtain ⟨z, z', v, v', n, p, r, rfl, _⟩ := h
    rfl
  · obtain ⟨z, z', v, v', n, p, r, rfl, hz, hz', h1, h6, q⟩ := h
    obtain ⟨a, dx, ez, ha⟩ := id hz.1
    obtain ⟨a', dx', ez', ha'⟩ := id hz'.1
    refine ⟨_, pss_one (ps_ret (pe_cmpR op_eq (pe_callB call_len_seq (by rfl) B.len PySem.boot_len (pa_cons (pe_ix ix_tup (pe_def dF (hr.mono (by omega)) (by rfl) (pa_cons (pe_propR (pv 0) dL (hr.mono (by omega))) (pa_cons (pe_propR (pv 1) dL (hr.mono (by omega))) pa_nil))) pe_int (fun _ _ => rfl)) pa_nil)) pe_int (nomark _))), ?_⟩
    refine ⟨z, rfl, a, dx, _, ez, ha, z, v, n, p, by rw [ez], hz, h1, h6, fun H1 r1 s1 er => ?_⟩
    subst er
    refine ⟨z', rfl, a', dx', _, ez', s1 _ _ ha', z', v', n, r, by rw [ez'], hz'.same s1, h1, h6, fun H2 r2 s2 er => ?_⟩
    subst er
    have s12 := s1.trans s2
    refine ⟨r1, r2, n, p, r, rfl, hz.2.same s12, hz'.2.same s12, h6, fun H3 z3 s3 g3 => ?_⟩
    obtain ⟨x3, y3, e3, hx3, hy3⟩ := g3
    refine ⟨x3, _, 1, .ref y3, e3, rfl, SqT.of hx3, rfl, y3, _, rfl, .inr (SqT.of hy3), rfl, q _ _ (s12.trans s3) (congrArg V.bl ?_)⟩
    rw [vm_len, Bool.eq_iff_iff, decide_eq_true_iff, decide_eq_true_iff, ← List.length_eq_zero_iff]
    constructor
    · intro e
      have := V.int.inj e
      omega
    · intro e
      rw [e]
      rfl
theorem scMsAddend : FnScope ["self", "other"] ["self", "other"] (defScope sMsAddend) := ⟨rfl, rfl, rfl, by decide +kernel, rfl, by decide +kernel, by decide +kernel⟩
abbrev spMsAddend (C : Addr) : Sp := spM2 C fun n p r H o => IsMs C H o n (gaB n p r)
theorem ok_msAddend {f : Addr} {fd : FuncData} {k : Nat} (dL : PropR P w K mg base 1 C "lot" (spMsLot C)) (dG : DefR P w K mg base 2 "greatest_addend" spGa) (dM : MakeR P w K mg base 6 C "MaskSet" (spMi C)) (F : Fun K "addend" "MaskSet.addend" sMsAddend f fd) : FnOk P w K mg base CX0 (k + 8) f fd ["self", "other"] (spMsAddend C) := by
  refine F.ok scMsAddend (fun vs H Q E h => ?_) (fun cdv A outer s H vs Q E hr h => ?_)
  · obtain ⟨z, z', v, v', n, p, r, rfl, _⟩ := h
    rfl
  · obtain ⟨z, z', v, v', n, p, r, rfl, hz, hz', h1, h6, q⟩ := h
    obtain ⟨a, dx, ez, ha⟩ := id hz.1
    obtain ⟨a', dx', ez', ha'⟩ := id hz'.1
    refine ⟨_, pss_one (ps_ret (pe_mkR dM (hr.mono (by omega)) (by rfl) (pa_cons (pe_def dG (hr.mono (by omega)) (by rfl) (pa_cons (pe_propR (pv 0) dL (hr.mono (by omega))) (pa_cons (pe_propR (pv 1) dL (hr.mono (by omega))) pa_nil))) pa_nil))), ?_⟩
    refine ⟨z, rfl, a, dx, _, ez, ha, z, v, n, p, by rw [ez], hz, h1, h6, fun H1 r1 s1 er => ?_⟩
    subst er
    refine ⟨z', rfl, a', dx', _, ez', s1 _ _ ha', z', v', n, r, by rw [ez'], hz'.same s1, h1, h6, fun H2 r2 s2 er => ?_⟩
    subst er
    have s12 := s1.trans s2
    exact ⟨r1, r2, n, p, r, rfl, hz.2.same s12, hz'.2.same s12, h6, fun H3 z3 s3 g3 => ms_make g3 h1 h6 fun H4 z4 s4 g4 => q _ _ ((s12.trans s3).trans s4) ⟨_, g4⟩⟩
end
end XT
/-! what the operators on sets give -/
namespace XT
open PySem PySem.Spec PyProof.Rows L2
section
variable {C : Addr} {n m : Nat} {p r : Nat → Bool} {t ta tb : TE} {σ : L2.St} {H : Hp}
theorem ev_within (h1 : 1 ≤ n) (h6 : n ≤ 6) (a : Ev (isMs C n p) ta σ H) (b : Ev (isMs C n r) tb σ H) : Ev (isB (decide (lotOf n (fun m => p m && !r m) = []))) (tMeth C "within" (spMsWithin C) [] E0 ta (tCons tb tNil)) σ H := ev_meth (m := "within") (F := fun n p r _ o => o = .bl (decide (lotOf n (fun m => p m && !r m) = []))) h1 h6 (by decide) a b
theorem ev_addend (h1 : 1 ≤ n) (h6 : n ≤ 6) (a : Ev (isMs C n p) ta σ H) (b : Ev (isMs C n r) tb σ H) : Ev (isMs C n (gaB n p r)) (tMeth C "addend" (spMsAddend C) [] E0 ta (tCons tb tNil)) σ H := ev_meth (m := "addend") (F := fun n p r H o => IsMs C H o n (gaB n p r)) h1 h6 (by decide) a b
end
end XT
/-! defs that call repr: the call stands in no other repr -/
namespace XT
open PySem PySem.Spec PyProof.Rows L2
/-- as FnR, where no repr is under way -/
def FnG (P : Program) (w : World) (K : PySem.W.Frag) (mg : Str → Option Value) (base : Heap) (k : Nat) (f : Addr) (sp : Sp) : Prop :=
  ∀ (A : Around) (out : List Env) (s : Shared) (H : Hp) (us : List Value) (vs : List V) (Q : VK) (E : XK), Room k A → A.guards = some [] →
    Env0 P w K mg base A out s H → Vals vs us → sp vs H Q E → codeAny (model P w) A (.call (.ref f) ⟨us, []⟩) (CR CX0 out P w H s Q E) s
def DefG (P : Program) (w : World) (K : PySem.W.Frag) (mg : Str → Option Value) (base : Heap) (k : Nat) (x : Str) (sp : Sp) : Prop :=
  ∃ f, FnG P w K mg base k f sp ∧ mg x = some (.ref f) ∧ PySem.W.keepIn K (.ref f) = true
section
variable {P : Program} {w : World} {K : PySem.W.Frag} {mg : Str → Option Value} {base : Heap}
theorem fun_guard {x qual : Str} {st : Stmt} {f : Addr} {fd : FuncData} {N ps : List Str} {k : Nat} {sp : Sp} (F : Fun K x qual st f fd) (S : FnScope N ps (defScope st)) (b : Binds K fd ps []) (len : ∀ vs H Q E, sp vs H Q E → vs.length = ps.length)
    (body : ∀ (cdv : Value) (A : Around) (out : List Env) (s : Shared) (H : Hp) (vs : List V) (Q : VK) (E : XK), Room k (A.deeper (envOfC qual (defScope st) s.heap.objs.size f cdv)) → A.guards = some [] → sp vs H Q E →
      ∃ t, PSs (cxOf CX0 P w K mg base N qual (defScope st) f cdv A out s H E).nox (defBody st) t ∧ t { nx := fun _ H' => Q .non H', rt := Q } (start N vs) H) : FnG P w K mg base (k + 1) f sp := by
  obtain ⟨oc, od, kV, doc, pm, an, cdv, ct, osl, rfl, lk, hcd⟩ := F.ex
  intro A out s H us vs Q E hr hg env r h
  have lv := len _ _ _ _ h
  have lu : us.length = ps.length := by rw [← r.length]; exact lv
  have keep : ∀ c o, base.get? c = some o → s.heap.get? c = some o := fun c o e => (env.bs c o e).1
  have kin : K.In s.heap := env.mod.kin.keeps keep
  have bt := b s us kin (by rw [List.append_nil]; exact lu)
  rw [List.append_nil] at bt
  refine codeAny_call_function hr.depth (kin _ _ lk) rfl S.co S.gen rfl (PySem.W.codeRec_of kin hcd) (bt _ _ _ _ ?_)
  have kinds : ∀ y ∈ ps.zip us, (defScope st).names.lookup y.1 = some .local ∨ ((defScope st).names.lookup y.1 = some .cell ∧ ((cellsFrom (s.heap.objs.size + 1) (defScope st).names []).lookup y.1).isSome = true) := by
    rintro ⟨n, v⟩ hy
    exact (S.par n (List.of_mem_zip hy).1).imp id fun q => ⟨q, PySem.W.cellsFrom_some _ _ _ (.inl q)⟩
  refine wpAny_newFunctionEnv_cells S.kind kinds fun e he s1 y => ?_
  subst he
  refine ⟨(env.mod.nolimit.keeps keep).keeps y.toInCall.keep, codeAny_func ?_⟩
  obtain ⟨t, ht, hq⟩ := body cdv A out s H vs Q E (hr.deeper _) hg h
  have J := inv_start (CX := CX0) (E := E) S hr.hd env lv r y
  refine wpAny_mono (ht.nox.run [] s1 _ H _ J hq) (fun fl s2 z => ?_) fun e s2 z => z
  match fl, z with
  | .ret _, ⟨v, _, H2, I2, rv, qv⟩ => exact ⟨v, H2, I2.os, I2.bare, I2.base, I2.hok, rv, qv⟩
  | .next, ⟨_, H2, I2, qv⟩ => exact ⟨V.non, H2, I2.os, I2.bare, I2.base, I2.hok, rfl, qv⟩
  | .brk, ⟨_, _, _, z⟩ => exact z.elim
  | .cont, ⟨_, _, _, z⟩ => exact z.elim
theorem DefG.of {k : Nat} {x : Str} {sp : Sp} {f : Addr} (F : FnG P w K mg base k f sp) (hm : mg x = some (.ref f)) (hk : PySem.W.keepIn K (.ref f) = true) : DefG P w K mg base k x sp := ⟨f, F, hm, hk⟩
end
section
variable {X : Cx}
theorem pe_defG {j : Nat} {x : Str} {sp : Sp} {e : Expr} {es : List Expr} {t : TA} {p pos : Pos} (D : DefG X.prog X.w X.K X.mg X.base j x sp) (hr : Room j X.A) (gd : X.A.guards = some []) (hg : Gl X x) (ha : PA X (e :: es) t)
    (hdb : (x == ("__debug__" : Str)) = false := by decide) (he : starEach (e :: es) X.env = (false, eval e X.env) :: starEach es X.env := by rfl) (hpl : (backTo pos (starEach es X.env)).any (·.1) = false := by rfl) :
    PE X (.Call (.Name x p) (e :: es) [] pos) (fun σ H Q => t σ H fun vs H1 => sp vs H1 Q E0) := by
  obtain ⟨f, F, hm, hk⟩ := D
  refine ⟨fun pins s σ H Q I h => wpAny_Call_Name_kw (ld_glob I hg hm ?_ hdb)⟩
  refine PySem.W.callWith_K (h₀ := X.base) I.ok.mod.kin hk (thn (ha.run pos pins s σ H _ I h) fun us s1 ⟨vs, H1, I1, r, q⟩ => ⟨I1.kIn, ?_⟩) he hpl
  refine wpAny_call (codeAny_mono (F X.A X.stack s1 H1 us vs Q E0 hr gd I1.env0 r q) fun r s2 z => ?_)
  match r, z with
  | .ok (.ret v), z => exact I1.after z
  | .ok .next, z => exact z.elim
  | .ok .brk, z => exact z.elim
  | .ok .cont, z => exact z.elim
  | .error e, z => exact pass0 pins σ H1 s1 e s2 I1 z
end
end XT
/-! any data == a text -/
namespace XT
open PySem PySem.Spec PyProof.Rows L2
def isS (s : Str) : PyData → Bool
  | .str x => decide (x = s)
  | _ => false
theorem dict_eq_no_str (l : Addr) (es : Array DictEntry) (ep : Nat) (dd : Option Addr) (sl : Array (Option Value)) (b : Str) (u : Tok) :
    Meets (Builtin.«dict.__eq__» ⟨[.ref l, .str b u], []⟩) (fun _ R s => s.heap.get? l = some { cls := .type "dict", dict := dd, data := .dict es ep, slots := sl } ∧ R (.ok (.ret .notImplemented)) s) :=
  .of_wp fun prog w A R s h => by
    obtain ⟨hp, g, d, tk, os⟩ := s
    obtain ⟨hl, h⟩ := h
    have f1 := F.sub_str_dict
    wp_walk using wpAny_loadPart' hl
    exact ⟨_, rfl, h⟩
theorem str_eq_no_dict (b : Str) (u : Tok) (l : Addr) (es : Array DictEntry) (ep : Nat) (dd : Option Addr) (sl : Array (Option Value)) :
    Meets (Builtin.«str.__eq__» ⟨[.str b u, .ref l], []⟩) (fun _ R s => s.heap.get? l = some { cls := .type "dict", dict := dd, data := .dict es ep, slots := sl } ∧ R (.ok (.ret .notImplemented)) s) :=
  .of_wp fun prog w A R s h => by
    obtain ⟨hp, g, d, tk, os⟩ := s
    obtain ⟨hl, h⟩ := h
    wp_walk using wpAny_loadPart' hl, wpAny_load hl
    exact ⟨_, rfl, h⟩
theorem rc_dict_str {A : Around} {s : Shared} {l : Addr} {o : Obj} {es : Array DictEntry} {ep : Nat} (b : Str) (u : Tok) (ho : s.heap.get? l = some o) (hc : o.cls = .type "dict") (hd : o.data = .dict es ep) (hu : A.units < cLine) : SeqAt.RcAt A s (.ref l) (.str b u) false := fun prog w E Q h => by
  obtain ⟨cls, dd, data, sl⟩ := o
  simp only at hc hd
  subst hc hd
  exact SeqAt.rc_eq_decline_or (k := false) ⟨_, ho, rfl⟩ (typeIs_str s b u) (by decide) F.sub_str_dict F.slot_dict_eq F.slot_str_eq_refl
    (fun _ hq => call_meets F.slot_dict_eq ⟨_, ho, rfl⟩ F.entry_dict_eq (F.args_dict_eq_2 _ _) (dict_eq_no_str l es ep dd sl b u) ⟨ho, hq⟩)
    (fun _ hq => call_meets F.slot_str_eq_refl (typeIs_str s b u) F.entry_str_eq (F.args_str_eq_2 _ _) (str_eq_no_dict b u l es ep dd sl) ⟨ho, hq⟩)
    (fun _ hq => wpAny_of_eq (rfl : isSame (.ref l) (.str b u) = pure false) hq) (.inr hu) h
section
variable {X : Cx}
def rEqS (K : PySem.W.Frag) : R2 := fun x y H Q => ∃ (d : PyData) (b : Str), y = .str b ∧ Dz K H x d ∧ Q (.bl (isS b d)) H
theorem op_eqS (hu : X.A.units < cLine) : OpR X (compareOp .Eq) (rEqS X.K) := by
  intro pins s σ H x y v u Q I rx ry h
  obtain ⟨d, b, rfl, hd, q⟩ := h
  cases hd with
  | non => exact op_eq pins s σ H _ _ v u Q I rx ry ⟨rfl, q⟩
  | bl k => exact op_eq pins s σ H _ _ v u Q I rx ry ⟨rfl, q⟩
  | int i => exact op_eq pins s σ H _ _ v u Q I rx ry ⟨rfl, q⟩
  | str z =>
    refine op_eq pins s σ H _ _ v u Q I rx ry ⟨rfl, ?_⟩
    have e : decide (V.str z = V.str b) = isS b (.str z) := decide_eq_decide.mpr ⟨fun e => by cases e; rfl, fun e => by rw [e]⟩
    rw [e]
    exact q
  | lst hs ne ha =>
    cases rx
    obtain ⟨t, rfl⟩ := ry
    obtain ⟨its, rv, pl, _⟩ := I.list hs
    exact SeqAt.RcAt.list_str b t pl.isList hu X.prog X.w _ _ ⟨.bl false, H, I, rfl, q⟩
  | tup hs ha =>
    cases rx
    obtain ⟨t, rfl⟩ := ry
    obtain ⟨its, rv, pl, _⟩ := I.tuple hs
    exact SeqAt.RcAt.tuple_str b t pl hu X.prog X.w _ _ ⟨.bl false, H, I, rfl, q⟩
  | dct kvs h =>
    cases rx
    obtain ⟨t, rfl⟩ := ry
    have hx : ObjOk X.prog X.w H s.heap _ (.dK (dkV kvs)) := I.hok _ _ h
    obtain ⟨_, hm, vs, rk, o, es, ep, ho, hex, hd, _, hp, _⟩ := hx
    exact rc_dict_str b t ho hex.1 hd hu X.prog X.w _ _ ⟨.bl false, H, I, rfl, q⟩
end
end XT
/-! any data: what kind, how long, which part -/
namespace XT
open PySem PySem.Spec PyProof.Rows L2
abbrev rLenSeq (K : PySem.W.Frag) : List V → Hp → VK → Prop := fun xs H Q => ∃ p ys, xs = [.ref p] ∧ (SqL K H p ys ∨ SqT K H p ys) ∧ Q (.int ys.length) H
section
variable {K : PySem.W.Frag} {R : RV} {t u : TE} {σ : L2.St} {H : Hp} {d e : PyData} {ds : List PyData} {b : Bool} {xs : List V}
theorem ev_isiD {T : String} (hk : PySem.W.kitOne K (.type (tyD d)) (.type T) = some b) (a : Ev (isD K d) t σ H) : Ev (isB b) (tCB (rIsi K) (tCons t (tCons (tC (.ty T)) tNil))) σ H := fun H1 s1 Q q =>
  a H1 s1 _ fun H2 x s2 g => ⟨x, .ty T, _, _, b, rfl, .ty _, g.ty, hk, q _ _ s2 rfl⟩
theorem ev_isTp (a : Ev (isD K d) t σ H) : Ev (isB (isTp d)) (tCB (rIsi K) (tCons t (tCons (tC (.ty "tuple")) tNil))) σ H := ev_isiD (kitT d) a
theorem ev_isSt (a : Ev (isD K d) t σ H) : Ev (isB (isSt d)) (tCB (rIsi K) (tCons t (tCons (tC (.ty "str")) tNil))) σ H := ev_isiD (kitS d) a
theorem ev_lenT (a : Ev (isD K (.tuple ds)) t σ H) : Ev (isV (.int (ds.length : Nat))) (tCB (rLenSeq K) (tCons t tNil)) σ H := fun H1 s1 Q q =>
  a H1 s1 _ fun H2 x s2 g => by
    cases g with
    | tup hx all => exact ⟨_, _, rfl, .inr hx, q _ _ s2 (by rw [all.len])⟩
theorem ev_lenLV (a : Ev (isLV xs) t σ H) : Ev (isV (.int (xs.length : Nat))) (tCB (rLenSeq K) (tCons t tNil)) σ H := fun H1 s1 Q q =>
  a H1 s1 _ fun H2 x s2 ⟨L, ex, hL⟩ => ⟨L, xs, by rw [ex], .inl (SqL.of hL), q _ _ s2 rfl⟩
theorem ev_lenTV (a : Ev (isTV xs) t σ H) : Ev (isV (.int (xs.length : Nat))) (tCB (rLenSeq K) (tCons t tNil)) σ H := fun H1 s1 Q q =>
  a H1 s1 _ fun H2 x s2 ⟨L, ex, hL⟩ => ⟨L, xs, by rw [ex], .inr (SqT.of hL), q _ _ s2 rfl⟩
theorem of_ixD {j : Nat} (h : ds[j]? = some e) : OpF (isD K (.tuple ds)) (isV (.int (j : Int))) (rIxT K) (isD K e) := fun H x y g ey Q q => by
  cases g with
  | @tup a xs _ hx all =>
    have hl := all.len
    have hj : j < xs.length := by have := (List.getElem?_eq_some_iff.mp h).1; omega
    have hv : xs[j]? = some xs[j] := List.getElem?_eq_getElem hj
    obtain ⟨e', he', g⟩ := all.at hv
    rw [h] at he'
    cases he'
    exact ⟨a, xs, (j : Int), xs[j], rfl, ey, hx, atI_nat hv, q _ _ (Same.refl _) g⟩
theorem ev_d_v {v : V} (h : ∀ H, Dz K H v d) (a : Ev (isV v) t σ H) : Ev (isD K d) t σ H := a.mono fun H z e => by rw [e]; exact h H
/-- what an int is worth as a value -/
theorem ev_intV {i : Int} (a : Ev (isD K (.int i)) t σ H) : Ev (isV (.int i)) t σ H := a.mono fun H z g => by cases g; rfl
abbrev isSq (K : PySem.W.Frag) (xs : List V) : RV := fun H z => ∃ T, z = .ref T ∧ SqT K H T xs
theorem sty_sq (xs : List V) : Sty (isSq K xs) := fun _ _ _ e ⟨T, ez, h⟩ => ⟨T, ez, Same.sqT e h⟩
theorem ev_lcSF {i : Nat} {tt : TT} (p : V → Bool) (hN : xs.length ≤ 1000) (a : Ev (isSq K xs) t σ H) (hw : ∀ z : V, wipe ((wipe σ [i]).set i (some z)) [i] = wipe σ [i]) (he : ∀ z : V, ((wipe σ [i]).set i (some z))[i]? = some (some z))
    (b : ∀ z ∈ xs, ∀ H1, Same H H1 → EvT (p z) tt ((wipe σ [i]).set i (some z)) H1) : Ev (isLV (xs.filter p)) (tLc (iTup K t) (gName i) tt (tVar i) [i]) σ H := fun H1 s1 Q q =>
  a H1 s1 _ fun H2 x s2 ⟨T, ex, hT⟩ => by
    subst ex
    refine ⟨T, rfl, ⟨_, hT⟩, fun D nD => lcp_tup (p := p) (f := id) nD hT (small64 hN) (fun j z Hc hz sc => ?_) (fun H3 s3 hD => ?_)⟩
    · intro R1 R2 h1 h2
      refine ⟨hw _, b z (List.mem_of_getElem? hz) Hc ((s1.trans s2).trans sc) Hc (Same.refl _) _ fun H4 s4 => ?_⟩
      cases hq : p z with
      | true => exact iteT ⟨_, he _, h2 hq _ s4⟩
      | false => exact iteF (h1 hq _ s4)
    · exact q _ _ (s2.trans s3) ⟨D, rfl, by rw [hD, List.map_id]⟩
theorem of_ixTV {j : Nat} {v : V} (h : xs[j]? = some v) : OpF (isTV xs) (isV (.int (j : Int))) (rIxT K) (isV v) := fun H x y ⟨T, ex, hT⟩ ey Q q =>
  ⟨T, xs, (j : Int), v, ex, ey, SqT.of hT, atI_nat h, q _ _ (Same.refl _) rfl⟩
end
end XT
/-! _law_pair_right -/
namespace XT
open PySem PySem.Spec PyProof.Rows L2
theorem eqvB_comm {n n2 : Nat} {p p2 : Nat → Bool} : PyData.eqv (dLot n p) (dLot n2 p2) = PyData.eqv (dLot n2 p2) (dLot n p) := PySem.W.eqv_comm _ _
theorem gdb3 (a b c : Bool) : ShD (.list [.bool a, .bool b, .bool c]) := by
  have g : ∀ x : Bool, Gd (10 ^ 39) 62 0 (.bool x) := fun x => (gd_bl x).mono (Nat.le_refl _) (by omega) (by omega)
  exact (GdAll.cons (g a) (GdAll.cons (g b) (GdAll.cons (g c) GdAll.nil))).list.shD (by decide) (by omega) (by decide)
def nrV (r : Nat → Bool) (z : V) : Bool := match z with | .int m => !r m.toNat | _ => false
theorem lot_nil56 {n : Nat} {p : Nat → Bool} : lotOf n p = [] ↔ ∀ m, m < 2 ^ n → p m = false := by
  constructor
  · intro h m hm
    cases hp : p m with
    | false => rfl
    | true =>
      have := mem_lot.mpr ⟨hm, hp⟩
      rw [h] at this
      cases this
  · intro h
    refine List.eq_nil_iff_forall_not_mem.mpr fun m hm => ?_
    have := mem_lot.mp hm
    rw [h m this.1] at this
    cases this.2
section
variable {P : Program} {w : World} {K : PySem.W.Frag} {mg : Str → Option Value} {base : Heap} {C : Addr}
theorem of_neLL56 {n n2 : Nat} {p p2 : Nat → Bool} : OpF (isLot n p) (isLot n2 p2) (rNeD K) (isB (!PyData.eqv (dLot n p) (dLot n2 p2))) := fun H x y gx gy Q q => ⟨_, _, gx.dp, gy.dp, dLot_shaped _ _, dLot_shaped _ _, q _ _ (Same.refl _) rfl⟩
theorem of_nin56 {m : Nat} {ms : List Nat} : OpF (isV (.int (m : Int))) (isTup ms) (rIn K true) (isB (!decide (m ∈ ms))) := fun H x y ex ⟨y', ey, hy⟩ Q q => by
  subst ex ey
  refine ⟨y', _, rfl, .inr (SqT.of hy), rfl, vm_flat _, q _ _ (Same.refl _) ?_⟩
  show V.bl (!inV (.int (m : Int)) (vm ms)) = _
  rw [in_vm]
theorem ev_isMs56 {σ : L2.St} {H : Hp} {t : TE} {n : Nat} {p : Nat → Bool} (ist : ∀ {H : Hp} {a dx : Addr} {fs : List (Str × V)}, H a = some (.ins C dx fs) → TyX K H (.ref a) (.ref C)) (a : Ev (isMs C n p) t σ H) : Ev (isB true) (tCB (rIsi K) (tCons t (tCons (tC (.ref C)) tNil))) σ H := fun H1 s1 Q q =>
  a H1 s1 _ fun H2 x s2 ⟨v, ⟨a, dx, ex, ha⟩, _⟩ => ⟨x, .ref C, _, _, true, rfl, .own _, by rw [ex]; exact ist ha, kit_me, q _ _ s2 rfl⟩
abbrev nPr6 : List Str := ["_law_one", "_law_other", "_law_a", "_law_b", "_law_due", "_law_mask"]
theorem scPr6 : FnScope nPr6 ["_law_one", "_law_other"] (defScope sLPairRight) := ⟨rfl, rfl, rfl, by decide +kernel, rfl, by decide +kernel, by decide +kernel⟩
structure DPr (P : Program) (w : World) (K : PySem.W.Frag) (mg : Str → Option Value) (base : Heap) (C : Addr) : Prop where
  mkS : MakeR P w K mg base 6 C "MaskSet" (spMi C)
  plot : PropR P w K mg base 1 C "lot" (spMsLot C)
  hm : mg "MaskSet" = some (.ref C)
  sf : PySem.W.selfFirst K C = true
  or_ : OwnR P w K mg base 9 C "__or__" (spMsOr C)
  mwithin : MethR P w K mg base 9 C "within" (spMsWithin C)
  maddend : MethR P w K mg base 9 C "addend" (spMsAddend C)
  eqA : OwnR P w K mg base 5 C "__eq__" (spMsEqA C K)
  ist : ∀ {H : Hp} {a dx : Addr} {fs : List (Str × V)}, H a = some (.ins C dx fs) → TyX K H (.ref a) (.ref C)
  mro : PySem.W.mroIn K C (.type "object") = some true
  ne : PySem.W.findIn K (.ref C) "__ne__" = some (some (.builtin "object.__ne__"))
  nf : PySem.W.notFirst K C (.ref C) = true
  gr : DefR P w K mg base 1 "_law_greatest" spGr
def spPr6 : Sp := fun vs H Q _ => ∃ (v u : V) (n : Nat) (p r : Nat → Bool), vs = [v, u] ∧ LotAt H v n p ∧ LotAt H u n r ∧ 1 ≤ n ∧ n ≤ 6 ∧ ∀ H', Same H H' → Q (.bl true) H'
theorem ok_pr6 {f : Addr} {fd : FuncData} {k : Nat} (B : Bl mg) (mR : mg "repr" = none) (F : Fun K "_law_pair_right" "_law_pair_right" sLPairRight f fd) (b : Binds K fd ["_law_one", "_law_other"] []) (d : DPr P w K mg base C) : FnG P w K mg base (k + 11) f spPr6 := by
  refine fun_guard F scPr6 b (fun vs H Q E h => ?_) (fun cdv A outer s H vs Q E hr hg h => ?_)
  · obtain ⟨v, u, n, p, r, rfl, _⟩ := h
    rfl
  · obtain ⟨v, u, n, p, r, rfl, hv, hu, h1, h6, q⟩ := h
    have hr1 : Room 9 (A.deeper (envOfC "_law_pair_right" (defScope sLPairRight) s.heap.objs.size f cdv)) := hr.mono (by omega)
    have hun : (A.deeper (envOfC "_law_pair_right" (defScope sLPairRight) s.heap.objs.size f cdv)).units + 128 < cLine := by have := hr.un; omega
    have hgd : (A.deeper (envOfC "_law_pair_right" (defScope sLPairRight) s.heap.objs.size f cdv)).guards = some [] := hg
    refine ⟨_, pss_cons (ps_par (i := 2) (j := 3) (by rfl) scPr6.nd rfl rfl (by decide) rfl rfl (pa_cons (pe_mkR d.mkS (hr.mono (by omega)) (by rfl) (pa_cons (pv 0) pa_nil)) (pa_cons (pe_mkR d.mkS (hr.mono (by omega)) (by rfl) (pa_cons (pv 1) pa_nil)) pa_nil)) (by rfl))
      (pss_cons (ps_set (i := 4) scPr6.nd rfl (by first | exact Or.inl rfl | exact Or.inr rfl) (pe_cmpR (op_eqEL hr.units0) (pe_lc (own := [("_law_mask", 5)]) (g := (gName 5)) (tt := (tTest (tOp (rIn K true) (tVar 5) (tOp (rIxT K) (tVar 1) (tC (.int 1)))))) (te := (tVar 5)) rfl scPr6.nd (pi_tup (pe_ix ix_tup (pv 0) pe_int (fun _ _ => rfl))) (blkOk_by (own := [("_law_mask", 5)]) (N := nPr6) (sc := defScope sLPairRight) (by decide +kernel))
          (fun _ _ _ _ _ => (pg_name (i := 5) scPr6.nd rfl (Or.inl rfl))) (fun _ _ _ _ _ => pts_one (pt_cmpR op_notIn_seq (pv 5) (pe_ix ix_tup (pv 1) pe_int (fun _ _ => rfl)) (by rfl))) (fun _ _ _ _ _ => pv 5)) (pe_lst pa_nil) (nomark _)))
      (pss_cons (ps_if (pt_cmpR op_ne (pe_callB (cr_reprA hgd hun) (by rfl) mR boot_repr (pa_cons (pe_lstB (pa_cons (pe_methR (pv 2) d.mwithin hr1 (pa_cons (pv 3) pa_nil)) (pa_cons (pe_methR (pv 2) d.mwithin hr1 (pa_cons (pv 2) pa_nil)) (pa_cons (pe_methR (pv 2) d.mwithin hr1 (pa_cons (pe_op (op_ownR (op := .BitOr) d.or_ hr1 d.sf) (pv 2) (pv 3)) pa_nil)) pa_nil)))) pa_nil)) (pe_callB (cr_reprA hgd hun) (by rfl) mR boot_repr (pa_cons (pe_lstB (pa_cons (pv 4) (pa_cons pe_bl (pa_cons pe_bl pa_nil)))) pa_nil)) (nomark _)) pss_never pss_nil)
      (pss_cons (ps_if (PW.pt (pw_or (pt_cmpR op_ne (pe_callB (cr_reprA hgd hun) (by rfl) mR boot_repr (pa_cons (pe_propR (pe_methR (pv 2) d.maddend hr1 (pa_cons (pv 3) pa_nil)) d.plot (hr.mono (by omega))) pa_nil)) (pe_callB (cr_reprA hgd hun) (by rfl) mR boot_repr (pa_cons (pe_def d.gr (hr.mono (by omega)) (by rfl) (pa_cons (pv 0) (pa_cons (pv 1) pa_nil))) pa_nil)) (nomark _)) (pw_or1 (pt_not (pt_val (pe_callB call_isi (by rfl) B.isinstance bI (pa_cons (pe_methR (pv 2) d.maddend hr1 (pa_cons (pv 3) pa_nil)) (pa_cons (pe_glob (v := .ref C) (by rfl) d.hm rfl) pa_nil)))))))) pss_never pss_nil)
      (pss_one (ps_ret (pe_cmpR op_eq (pe_callB (cr_reprA hgd hun) (by rfl) mR boot_repr (pa_cons (pe_lstB (pa_cons (pe_cmpR (op_eqR d.eqA (hr.mono (by omega))) (pv 2) (pv 3) (nomark _)) (pa_cons (pe_cmpR (op_eqR d.eqA (hr.mono (by omega))) (pv 3) (pv 2) (nomark _)) (pa_cons (pe_cmpR (op_neL d.eqA (hr.mono (by omega)) d.nf d.mro d.ne) (pv 2) (pv 3) (nomark _)) pa_nil)))) pa_nil)) (pe_callB (cr_reprA hgd hun) (by rfl) mR boot_repr (pa_cons (pe_lstB (pa_cons (pe_cmpR (op_eqD hr.units) (pv 0) (pv 1) (nomark _)) (pa_cons (pe_cmpR (op_eqD hr.units) (pv 0) (pv 1) (nomark _)) (pa_cons (pe_cmpR (op_neD hr.units) (pv 0) (pv 1) (nomark _)) pa_nil)))) pa_nil)) (nomark _))))))), ?_⟩
    have hl := lot_len h6 p
    refine ⟨v, rfl, fun xa dxa nxa ndxa nea => ms_new hv h1 h6 nxa ndxa nea fun H1 s1 g1 => ⟨u, rfl, fun xb dxb nxb ndxb neb => ms_new (hu.same s1) h1 h6 nxb ndxb neb fun H2 s2 g2 => ⟨_, _, rfl, ?_⟩⟩⟩
    have g4 : IsMs C _ (.ref xa) n p := ⟨_, g1.same s2⟩
    have g5 : IsMs C _ (.ref xb) n r := ⟨_, g2⟩
    have l0 := hv.same (s1.trans s2)
    have l1 := hu.same (s1.trans s2)
    have sZ := s1.trans s2
    clear nxa ndxa nea nxb ndxb neb
    have eA : ∀ {σ : L2.St} {H' : Hp}, σ[2]? = some (some (.ref xa)) → Same H2 H' → Ev (isMs C n p) (tVar 2) σ H' := fun e s => ev_var (sty_ms C n p) e (sty_ms _ _ _ _ _ _ s g4)
    have eB : ∀ {σ : L2.St} {H' : Hp}, σ[3]? = some (some (.ref xb)) → Same H2 H' → Ev (isMs C n r) (tVar 3) σ H' := fun e s => ev_var (sty_ms C n r) e (sty_ms _ _ _ _ _ _ s g5)
    have e0 : ∀ {σ : L2.St} {H' : Hp}, σ[0]? = some (some v) → Same H2 H' → Ev (isLot n p) (tVar 0) σ H' := fun e s => ev_var (sty_lot n p) e (l0.same s)
    have e1 : ∀ {σ : L2.St} {H' : Hp}, σ[1]? = some (some u) → Same H2 H' → Ev (isLot n r) (tVar 1) σ H' := fun e s => ev_var (sty_lot n r) e (l1.same s)
    have tv : ∀ {ms : List Nat} {t : TE} {σ : L2.St} {H' : Hp}, Ev (isTup ms) t σ H' → Ev (isTV (vm ms)) t σ H' := fun h => h.mono fun H z ⟨q, ez, hq⟩ => ⟨q, ez, hq⟩
    have eD : ((vm (lotOf n p)).filter (nrV r)).isEmpty = decide (lotOf n (fun m => p m && !r m) = []) := by
      rw [← List.map_id (List.filter (nrV r) (vm (lotOf n p))), vm_filter _ (fun m => !r m) _ fun m _ => rfl, lot_filter]
      cases lotOf n (fun m => p m && !r m) <;> rfl
    refine asg_ev (R := isB (decide (lotOf n (fun m => p m && !r m) = []))) ((ev_op (sty_lV _) (ev_lcTF (nrV r) (by rw [vm_len]; omega) (tv (ev_op (sty_lot n p) (e0 rfl (Same.refl _)) (ev_c _) of_ix1)) (fun _ => rfl) (fun _ => rfl) fun z hz H4 s4 => ?_) ev_nil of_eqEL).mono fun H z e => by rw [e, eD]) fun H4 z4 s4 e4 => ?_
    · obtain ⟨i, hi⟩ := List.getElem?_of_mem hz
      obtain ⟨m, hm, rfl⟩ := mem_vm hi
      have hm2 := (mem_lot.mp (List.mem_of_getElem? hm)).1
      have e : nrV r (.int (m : Int)) = !decide (m ∈ lotOf n r) := by
        show (!r ((m : Int).toNat)) = _
        rw [Int.toNat_natCast]
        congr 1
        rw [Bool.eq_iff_iff, decide_eq_true_iff]
        exact ⟨fun h => mem_lot.mpr ⟨hm2, h⟩, fun h => (mem_lot.mp h).2⟩
      rw [e]
      exact evt_test (ev_op (sty_v _) (ev_var (sty_v (.int (m : Int))) rfl rfl) (ev_op (sty_lot n r) (e1 rfl s4) (ev_c _) of_ix1) of_nin56)
    subst e4
    have wD : decide (lotOf n (fun m => p m && !p m) = []) = true := decide_eq_true (lot_nil56.mpr fun m hm => by cases p m <;> rfl)
    have wU : decide (lotOf n (fun m => p m && !(p m || r m)) = []) = true := decide_eq_true (lot_nil56.mpr fun m hm => by cases p m <;> cases r m <;> rfl)
    refine if_no (evt_reprs (gdb3 _ _ _) (by rw [wD, wU]) (ev_lstD (ds := [_, _, _]) (Nat.le_of_ble_eq_true rfl) (eva_consD (ev_b (ev_within h1 h6 (eA rfl s4) (eB rfl s4))) (eva_consD (ev_b (ev_within h1 h6 (eA rfl s4) (eA rfl s4))) (eva_consD (ev_b (ev_within h1 h6 (eA rfl s4) (ev_op (sty_ms _ _ _) (eA rfl s4) (eB rfl s4) (of_or h1 h6)))) eva_nil)))) (ev_lstD (ds := [_, _, _]) (Nat.le_of_ble_eq_true rfl) (eva_consD (ev_b (ev_var (sty_v _) rfl rfl)) (eva_consD (ev_b (ev_c _)) (eva_consD (ev_b (ev_c _)) eva_nil))))) rfl fun H5 s5 => ?_
    have s45 := s4.trans s5
    have shG : ShD (dLot n (gaB n p r)) := (gd_lot (M := 10 ^ 39) (by decide) h6 _).shD (by decide) (by omega) (by decide)
    refine if_no (evt_or (evt_reprs shG rfl (ev_lotD (ev_lot h1 h6 (ev_addend h1 h6 (eA rfl s45) (eB rfl s45)))) (ev_lotD (ev_def2 (Rc := isLot n (gaB n p r)) (sty_lot n p) (e0 rfl s45) (e1 rfl s45) fun H x y gx gy Q' q' => ⟨x, y, n, p, r, rfl, gx, gy, h6, fun H2 z s g => q' _ _ s g⟩))) (evt_not (evt_b (ev_isMs56 d.ist (ev_addend h1 h6 (eA rfl s45) (eB rfl s45)))))) rfl fun H6 s6 => ?_
    have s46 := s45.trans s6
    have ec : PyData.eqv (dLot n r) (dLot n p) = PyData.eqv (dLot n p) (dLot n r) := eqvB_comm
    refine ret_ev (R := isB true) ((ev_op (Rc := isB true) (sty_v _) (ev_reprD (gdb3 _ _ _) (ev_lstD (ds := [_, _, _]) (Nat.le_of_ble_eq_true rfl) (eva_consD (ev_b (ev_op (sty_ms _ _ _) (eA rfl s46) (eB rfl s46) (of_eqSS h1 h6 h1 h6))) (eva_consD (ev_b (ev_op (sty_ms _ _ _) (eB rfl s46) (eA rfl s46) (of_eqSS h1 h6 h1 h6))) (eva_consD (ev_b (ev_op (sty_ms _ _ _) (eA rfl s46) (eB rfl s46) (of_neSS h1 h6 h1 h6))) eva_nil))))) (ev_reprD (gdb3 _ _ _) (ev_lstD (ds := [_, _, _]) (Nat.le_of_ble_eq_true rfl) (eva_consD (ev_b (ev_op (sty_lot n p) (e0 rfl s46) (e1 rfl s46) of_eqLL56)) (eva_consD (ev_b (ev_op (sty_lot n p) (e0 rfl s46) (e1 rfl s46) of_eqLL56)) (eva_consD (ev_b (ev_op (sty_lot n p) (e0 rfl s46) (e1 rfl s46) of_neLL56)) eva_nil))))) (fun H x y ex ey Q' q' => of_eqS H x y ex ey Q' fun H2 z s e => q' H2 z s (by rw [e, ec, decide_eq_true rfl])))) fun H7 z7 s7 e7 => ?_
    rw [e7]
    exact q _ ((sZ.trans s46).trans s7)
end
end XT
/-! a caught error with a dict: isinstance; handed to a def -/
namespace XT
open PySem PySem.Spec PyProof.Rows L2
/-- what the class D of an error must say for isinstance -/
structure IsC (K : PySem.W.Frag) (D : Addr) : Prop where
  cl : (PySem.W.clsIn K D).isSome = true
  ga : PySem.W.findIn K (.ref D) "__getattribute__" = some (some (.builtin "BaseException.__getattribute__"))
  gg : PySem.W.findIn K (.ref D) "__getattr__" = some none
  sb : PySem.W.subIn K (.ref D) (.type "BaseException") = some true
  ha : PySem.W.findIn K (.ref D) "__class__" = some (some (.builtin "object.__class__"))
  hn : PySem.W.specialIn K (.builtin "object.__class__") "__get__" = some (some (.builtin "getset_descriptor.__get__"))
  ht : PySem.W.takesIn K (.builtin "object.__class__") = some true
  hm : PySem.W.mroIn K D (.type "object") = some true
section
variable {X : Cx} {a D : Addr} {oe : Obj} {cls : Value} {d : Option Addr} {pn : List (Addr × Obj)}
theorem inst_of {pins : List (Addr × Obj)} {σ : L2.St} {H : Hp} {s : Shared} {dd : Addr} {fs : List (Str × V)} (I : Inv (X.suite a ((a, oe) :: pn)) pins σ H s) (hz : Zc cls d oe) (hf : ∃ vs, oe.data = .fields vs) (ec : cls = .ref D) (ed : d = some dd) (hd : H dd = some (.xd fs)) :
    ∃ od, PySem.W.InstAt s.heap a oe D (some od) := by
  subst ec ed
  obtain ⟨ha, _⟩ := I.pin (a, oe) (List.mem_append_left _ List.mem_cons_self)
  obtain ⟨vs, hv⟩ := hf
  have hx : ObjOk X.prog X.w H s.heap dd (.xd fs) := I.hok dd _ hd
  obtain ⟨mA, hns, _⟩ := hx
  obtain ⟨od, ho, _⟩ := lookIn_ns hns
  exact ⟨od, ha, hz.1, by unfold PySem.W.notCls; rw [hv] <;> rfl, by rw [hz.2]; exact ho⟩
/-- isinstance(e, c) -/
def rIsD (K : PySem.W.Frag) (D a : Addr) (cls : Value) (d : Option Addr) : List V → Hp → VK → Prop := fun xs H Q => ∃ (c : V) (cv : Value) (b : Bool) (dd : Addr) (fs : List (Str × V)), xs = [.ref a, c] ∧ ClsV c cv ∧ cls = .ref D ∧ d = some dd ∧ H dd = some (.xd fs) ∧ PySem.W.kitOne K (.ref D) cv = some b ∧ Q (.bl b) H
theorem call_isD (C : IsC X.K D) (hz : Zc cls d oe) (hf : ∃ vs, oe.data = .fields vs) : CallR (X.suite a ((a, oe) :: pn)) (.builtin "isinstance") (rIsD X.K D a cls d) := by
  intro pins s σ H xs us Q I r h
  obtain ⟨c, cv, b, dd, fs, rfl, kc, ec, ed, hd, e, q⟩ := h
  obtain ⟨u1, u2, rfl, r1, r2⟩ := vals2 r
  cases (show u1 = Value.ref a from r1)
  have e2 := kc.eq r2
  subst e2
  obtain ⟨od, J⟩ := inst_of I hz hf ec ed hd
  exact PySem.W.kia_one (PySem.W.kitx_exc C.cl C.ga C.gg C.sb C.ha C.hn C.ht C.hm) I.kIn J e (fun z => nomatch z) fun tk => ⟨.bl b, H, I.tok tk, rfl, q⟩
/-- isinstance(e, (c1, c2, ..)) -/
def rIsDT (K : PySem.W.Frag) (D a : Addr) (cls : Value) (d : Option Addr) : List V → Hp → VK → Prop := fun xs H Q => ∃ (tp : Addr) (cs : List V) (ws : List Value) (b : Bool) (dd : Addr) (fs : List (Str × V)), xs = [.ref a, .ref tp] ∧ H tp = some (.tup cs) ∧ Paired ClsV cs ws ∧ cls = .ref D ∧ d = some dd ∧ H dd = some (.xd fs) ∧ PySem.W.kitAny K (.ref D) ws = some b ∧ Q (.bl b) H
theorem call_isDT (C : IsC X.K D) (hz : Zc cls d oe) (hf : ∃ vs, oe.data = .fields vs) : CallR (X.suite a ((a, oe) :: pn)) (.builtin "isinstance") (rIsDT X.K D a cls d) := by
  intro pins s σ H xs us Q I r h
  obtain ⟨tp, cs, ws, b, dd, fs, rfl, hT, kc, ec, ed, hd, e, q⟩ := h
  obtain ⟨u1, u2, rfl, r1, r2⟩ := vals2 r
  cases (show u1 = Value.ref a from r1)
  cases (show u2 = Value.ref tp from r2)
  obtain ⟨od, J⟩ := inst_of I hz hf ec ed hd
  have hx : ObjOk X.prog X.w H s.heap tp (.tup cs) := I.hok tp _ hT
  obtain ⟨_, its, rv, o, h1, h2, n, h3⟩ := hx
  have e3 := ClsV.all kc rv
  subst e3
  obtain ⟨oc, od2, dt, sl⟩ := o
  simp only at h2 h3
  subst h2 h3
  exact PySem.W.kia_tup (PySem.W.kitx_exc C.cl C.ga C.gg C.sb C.ha C.hn C.ht C.hm) I.kIn J h1 e (fun z => nomatch z) fun tk => ⟨.bl b, H, I.tok tk, rfl, q⟩
/-- f(e), e the error that is handled, by f's body -/
theorem pe_err {x par : Str} {st : Stmt} {f : Addr} {fd : FuncData} {N : List Str} {sp : Hp → VK → Prop} {e : Expr} {te : TE} {p pos : Pos} (F : Fun X.K x x st f fd) (S : FnScope N [par] (defScope st))
    (hb : ∀ (kV doc pm : Value) (an : Option Addr) (cdv ct u : Value), bindArgs (PySem.W.fnOf x x (defArgs st) (defBody st) (defScope st) .none kV doc pm an cdv ct) ⟨[u], []⟩ = pure [(par, u)])
    (hg : Gl X x) (hm : X.mg x = some (.ref f)) (hr : X.A.depth < recursionLimit)
    (hbody : ∀ (cdv : Value) (outer : List Env) (s : Shared) (H : Hp) (Q : VK), sp H Q → ∃ t, PSs ((cxOf CX0 X.prog X.w X.K X.mg X.base N x (defScope st) f cdv X.A outer s H E0).nox.suite a [(a, oe)]) (defBody st) t ∧ t { nx := fun _ H' => Q .non H', rt := Q } (start N [.ref a]) H)
    (he : PE (X.suite a ((a, oe) :: pn)) e te) (hdb : (x == ("__debug__" : Str)) = false := by decide) (hst : starEach [e] X.env = (false, eval e X.env) :: starEach [] X.env := by rfl) :
    PE (X.suite a ((a, oe) :: pn)) (.Call (.Name x p) [e] [] pos) (fun σ H Q => te σ H fun v H1 => v = .ref a ∧ sp H1 Q) := by
  have kp := F.kp
  obtain ⟨oc, od, kV, doc, pm, an, cdv, ct, osl, rfl, lk, hcd⟩ := F.ex
  refine ⟨fun pins s σ H Q I h => wpAny_Call_Name_kw (ld_glob I hg hm ?_ hdb)⟩
  refine PySem.W.callWith_K (h₀ := X.base) I.ok.mod.kin kp ?_ hst (by rfl)
  rw [hst]
  show wpAny _ _ (spliced ((false, eval e X.env) :: backTo pos (starEach [] X.env))) _ _ s
  refine Calls.spliced_cons (thn (he.run pins s σ H _ I h) fun u s1 ⟨v, H1, I1, r1, ev, hsp⟩ => ?_)
  subst ev
  cases (show u = Value.ref a from r1)
  refine Calls.spliced_nil ⟨I1.kIn, ?_⟩
  show wpAny _ _ (call (.ref f) [.ref a]) _ _ _
  have P1 := I1.pin (a, oe) (List.mem_append_left _ List.mem_cons_self)
  have hpin : L2H.PinOk X.stack H1 s1 (a, oe) := ⟨P1.1, P1.2.1, fun hmm => (List.mem_cons.mp (I1.stkSub a hmm)).elim P1.2.2.1 P1.2.2.2.1, P1.2.2.2.2⟩
  have e0 := I1.env0
  have KX : X.K.In s1.heap := I1.kIn
  have lim : s1.heap.NoLimit := I1.nolimit
  refine wpAny_call (codeAny_mono (R := CR CX0 X.stack X.prog X.w H1 s1 Q E0) ?_ fun r s2 z => ?_)
  · refine codeAny_call_function hr (KX _ _ lk) rfl S.co S.gen rfl (PySem.W.codeRec_of KX hcd) ?_
    rw [hb kV doc pm an cdv ct (.ref a)]
    refine wpAny_pure ?_
    have hkind : ∀ y ∈ [par].zip [Value.ref a], (defScope st).names.lookup y.1 = some .local ∨ ((defScope st).names.lookup y.1 = some .cell ∧ ((cellsFrom (s1.heap.objs.size + 1) (defScope st).names []).lookup y.1).isSome = true) := fun y hy => by
      rcases S.par y.1 (List.of_mem_zip hy).1 with q | q
      · exact .inl q
      · exact .inr ⟨q, PySem.W.cellsFrom_some _ _ _ (.inl q)⟩
    refine wpAny_newFunctionEnv_cells (s := s1) S.kind hkind fun env henv s3 x3 => ?_
    subst henv
    refine ⟨lim.keeps x3.toInCall.keep, codeAny_func ?_⟩
    obtain ⟨t, ht, hq⟩ := hbody cdv X.stack s1 H1 Q hsp
    have J := L2H.inv_startH (CX := CX0) (E := E0) S hpin e0 (vs := [.ref a]) rfl (.cons rfl .nil) x3
    have ht2 : PSs (L2H.cxH CX0 X.prog X.w X.K X.mg X.base N x (defScope st) f cdv (X.A.mark (some (.ref a))) X.stack s1 H1 E0 (a, oe)) (defBody st) t := PSs.nox ht
    refine wpAny_mono (ht2.run [] s3 _ H1 _ J hq) (fun fl s4 hs => ?_) fun e4 s4 hs => hs
    match fl, hs with
    | .ret u, ⟨v, σ4, H4, J4, rv, q⟩ => exact ⟨v, H4, J4.os, J4.bare, J4.base, J4.hok, rv, q⟩
    | .next, ⟨σ4, H4, J4, q⟩ => exact ⟨.non, H4, J4.os, J4.bare, J4.base, J4.hok, rfl, q⟩
    | .brk, ⟨_, _, _, q⟩ => exact q.elim
    | .cont, ⟨_, _, _, q⟩ => exact q.elim
  · match r, z with
    | .error e4, z => exact z.elim
    | .ok .next, z => exact z.elim
    | .ok .brk, z => exact z.elim
    | .ok .cont, z => exact z.elim
    | .ok (.ret u), z => exact I1.after z
end
end XT
/-! own errors: made with one field or with none, and raised by common_width -/
namespace XT
open PySem PySem.Spec PyProof.Rows L2
theorem PMk.imp {X : Cx} {e : Expr} {t t' : L2.St → Hp → XK → Prop} (h : PMk X e t) (i : ∀ σ H Q, t' σ H Q → t σ H Q) : PMk X e t' := fun pins s σ H Q I q => h pins s σ H Q I (i _ _ _ q)
/-- self.f = y in a class's __init__ -/
def spInit (K : PySem.W.Frag) (C : Addr) (f : Str) : Sp := fun vs H Q _ => ∃ (a : Addr) (y : V), vs = [.ref a, y] ∧ H a = some (exo a C none) ∧ ∀ dx, H dx = none → dx ≠ a → Q .non (upd (upd H dx (exd dx [(f, y)])) a (exo a C (some dx)))
/-- an own error class over ValueError with one field -/
structure ErrC (P : Program) (w : World) (K : PySem.W.Frag) (mg : Str → Option Value) (base : Heap) (x f : Str) (C : Addr) : Prop where
  T : OexC K C
  no : PySem.W.findIn K (.ref C) f = some none
  ini : ∃ (fI : Addr) (fd : FuncData) (ps : List Str), PySem.W.findIn K (.ref C) "__init__" = some (some (.ref fI)) ∧ PySem.W.typeIn K (.ref fI) = some (.type "function") ∧ FnOk P w K mg base CX0 1 fI fd ps (spInit K C f) ∧ Binds K fd ps []
  hm : mg x = some (.ref C)
theorem same_xd {H : Hp} {a dx C : Addr} {o o' : HO} {fs : List (Str × V)} (n : H a = none) (m : H dx = none) (ne : dx ≠ a) : Same H (upd (del (upd (upd (upd H a o) dx o') a (exo a C (some dx))) a) dx (.xd fs)) := fun b x e => by
  have h1 : b ≠ dx := ne_of_none e m
  have h2 : b ≠ a := ne_of_none e n
  rw [upd_ne h1, del_ne h2, upd_ne h2, upd_ne h1, upd_ne h2]
  exact e
section
variable {X : Cx} {C : Addr} {x f : Str} {e : Expr} {ta : TA} {p pos : Pos}
/-- C(e) -/
theorem pmk_err (R : ErrC X.prog X.w X.K X.mg X.base x f C) (hr : Room 2 X.A) (hg : Gl X x) (ha : PA X [e] ta)
    (hdb : (x == ("__debug__" : Str)) = false := by decide) (he : starEach [e] X.env = (false, eval e X.env) :: starEach [] X.env := by rfl) (hpl : (backTo pos (starEach [] X.env)).any (·.1) = false := by rfl) :
    PMk X (.Call (.Name x p) [e] [] pos) (tMkO C (spInit X.K C f) [] ta) := by
  obtain ⟨fI, fd, ps, hi, ht, F, hb⟩ := R.ini
  exact pmk_oex (CX := CX0) (k := 1) (dvs := []) (ds := []) R.T hi ht F hr hb .nil pass0 hg R.hm ha hdb he hpl
theorem mko_in {K : PySem.W.Frag} {H1 : Hp} {Q : XK} {y : V} (h : ∀ H' d, Same H1 H' → H' d = some (.xd [(f, y)]) → Q (.ref C) (some d) H') :
    [y].length ≤ 1000 ∧ ∀ a, H1 a = none → spInit K C f (.ref a :: ([y] ++ [])) (upd H1 a (exo a C none))
      (fun v H2 => v = .non ∧ ∃ (d : Addr) (fs : List (Str × V)), H2 a = some (exo a C (some d)) ∧ H2 d = some (exd d fs) ∧ H1 d = none ∧ Q (.ref C) (some d) (upd (del H2 a) d (.xd fs))) (fun _ _ _ => False) := by
  refine ⟨by simp, fun a n => ⟨a, y, rfl, upd_same, fun dx nd ne => ⟨rfl, dx, [(f, y)], upd_same, ?_, ?_, ?_⟩⟩⟩
  · exact (upd_ne ne).trans upd_same
  · rw [upd_ne ne] at nd
    exact nd
  · rw [upd_ne ne] at nd
    exact h _ dx (same_xd n nd ne) upd_same
/-- C(), no own __init__ -/
theorem pmk_none {bmB : List Value} {B newId initId : String} (F : ExcBaseFacts B newId initId bmB) (q : PySem.W.excIn X.K C bmB newId = true) (gC : X.mg x = some (.ref C)) (kC : PySem.W.keepIn X.K (.ref C) = true) (r : Raises X (.ref C)) (hg : Gl X x)
    (hdb : (x == ("__debug__" : Str)) = false := by decide) : PMk X (.Call (.Name x p) [] [] pos) (fun _ H Q => Q (.ref C) none H) := by
  intro pins s σ H Q I h
  refine wpAny_Call_Name_kw (ld_glob I hg gC ?_ hdb)
  refine PySem.W.callWith_K0 I.kIn kC ?_
  obtain ⟨bm, N, nm, qn, bs, hdct, sn, sub, ab, col, dd, k0, k1, k2, k3, k5, mN, hC, hN, hni, T⟩ := exc_obj I.kIn q
  obtain ⟨hp, g, dr, tk, os⟩ := s
  refine wpAny_call_exc_subT F T hC hN hni (fun h' e hm => ?_) (by show 0 ≤ sizeLine; omega)
  exact mk_of I hm r h (I.hok.gone hm.new)
end
end XT
namespace XT
open PySem PySem.Spec PyProof.Rows L2
/-- what the own error without fields needs -/
structure ErrN (K : PySem.W.Frag) (mg : Str → Option Value) (x : Str) (C : Addr) : Prop where
  ex : ∃ (bmB : List Value) (B newId initId : String), ExcBaseFacts B newId initId bmB ∧ PySem.W.excIn K C bmB newId = true
  exC : PySem.W.subIn K (.ref C) (.type "BaseException") = some true
  tyC : PySem.W.typeIn K (.ref C) = some (.type "type")
  kC : PySem.W.keepIn K (.ref C) = true
  hm : mg x = some (.ref C)
end XT
namespace XT
open PySem PySem.Spec PyProof.Rows L2
def DefX (P : Program) (w : World) (K : PySem.W.Frag) (mg : Str → Option Value) (base : Heap) (k : Nat) (x : Str) (sp : Sp) : Prop :=
  ∃ f fd ps, FnOk P w K mg base (L2.CX P w) k f fd ps sp ∧ Binds K fd ps [] ∧ mg x = some (.ref f) ∧ PySem.W.keepIn K (.ref f) = true
theorem DefX.of {P : Program} {w : World} {K : PySem.W.Frag} {mg : Str → Option Value} {base : Heap} {k : Nat} {x : Str} {sp : Sp} {f : Addr} {fd : FuncData} {ps : List Str}
    (F : FnOk P w K mg base (L2.CX P w) k f fd ps sp) (b : Binds K fd ps []) (hm : mg x = some (.ref f)) (hk : PySem.W.keepIn K (.ref f) = true) : DefX P w K mg base k x sp := ⟨f, fd, ps, F, b, hm, hk⟩
section
variable {X : Cx}
/-- f(e, ..), f may raise -/
theorem pe_defX {j : Nat} {x : Str} {sp : Sp} {W : WX} {e : Expr} {es : List Expr} {t : TA} {p pos : Pos} (D : DefX X.prog X.w X.K X.mg X.base j x sp) (hr : Room j X.A) (hg : Gl X x) (tk : Takes X W) (ha : PA X (e :: es) t)
    (hdb : (x == ("__debug__" : Str)) = false := by decide) (he : starEach (e :: es) X.env = (false, eval e X.env) :: starEach es X.env := by rfl) (hpl : (backTo pos (starEach es X.env)).any (·.1) = false := by rfl) :
    PE X (.Call (.Name x p) (e :: es) [] pos) (tCallS sp (WE W) t) := by
  obtain ⟨f, fd, ps, F, b, hm, hk⟩ := D
  exact pe_callS F hr hg hm hk b (fun σ => passAt tk σ) ha hdb he hpl
end
end XT
/-! methods that may raise -/
namespace XT
open PySem PySem.Spec PyProof.Rows L2
def MethX (P : Program) (w : World) (K : PySem.W.Frag) (mg : Str → Option Value) (base : Heap) (k : Nat) (C : Addr) (m : Str) (sp : Sp) : Prop := ∃ (f : Addr) (fd : FuncData) (ps : List Str), Cls K C ∧ Meth K C m f ∧ FnOk P w K mg base (L2.CX P w) k f fd ps sp ∧ Binds K fd ps []
abbrev MetX (P : Program) (w : World) (K : PySem.W.Frag) (mg : Str → Option Value) (base : Heap) (k : Nat) (f : Addr) (sp : Sp) : Prop := FnR P w K mg base (L2.CX P w) k f sp
theorem MetX.of {P : Program} {w : World} {K : PySem.W.Frag} {mg : Str → Option Value} {base : Heap} {k : Nat} {sp : Sp} {f : Addr} {fd : FuncData} {ps : List Str} (F : FnOk P w K mg base (L2.CX P w) k f fd ps sp) (b : Binds K fd ps []) : MetX P w K mg base k f sp :=
  (FnOk.raw F b .nil).imp fun vs H Q E h => by rw [List.append_nil]; exact h
def OwnX (P : Program) (w : World) (K : PySem.W.Frag) (mg : Str → Option Value) (base : Heap) (k : Nat) (C : Addr) (m : Str) (sp : Sp) : Prop := ∃ (f : Addr), Has K C m f ∧ PySem.W.fnIn K f = true ∧ MetX P w K mg base k f sp
def tMethX (C : Addr) (m : Str) (sp : Sp) (W : WX) (ta : TE) (t : TA) : TE := fun σ H Q => ta σ H fun x H1 => ∃ a dx fs, x = .ref a ∧ H1 a = some (.ins C dx fs) ∧ fs.lookup m = none ∧ t σ H1 fun vs H2 => sp (.ref a :: vs) H2 Q (WE W σ)
section
variable {X : Cx} {j k : Nat} {f C : Addr} {m : Str} {sp : Sp} {W : WX} {o e : Expr} {es : List Expr} {ta tb : TE} {t : TA} {apos pos : Pos}
theorem pe_methX {pl : Sem Bool} (he : PE X o ta) (D : MethX X.prog X.w X.K X.mg X.base k C m sp) (hr : Room k X.A) (tk : Takes X W) (ha : PA X (e :: es) t)
    (hst : starEach (e :: es) X.env = (false, eval e X.env) :: starEach es X.env := by rfl) (hpl : (backTo pos (starEach es X.env)).any (·.1) = false := by rfl)
    (ht : eval (.Call (.Attribute o m apos) (e :: es) [] pos) X.env = (do let ov ← eval o X.env; standAt apos.atName; let (f, first) ← holding [ov] (getMethod ov m pl); callWith pos f first (backTo pos (starEach (e :: es) X.env)) (backToKw pos (keywordEach [] X.env))) := by rfl) :
    PE X (.Call (.Attribute o m apos) (e :: es) [] pos) (tMethX C m sp W ta t) := by
  obtain ⟨f, fd, ps, c, hm, F, b⟩ := D
  refine ⟨fun pins s σ H Q I h => ?_⟩
  refine PySem.W.methodCall_KW (pl := pl) (thn (he.run pins s σ H _ I h) fun u s1 ⟨x, H1, I1, rx, a, dx, fs, ex, ea, l, q⟩ => ?_) ht
  subst ex
  obtain rfl : u = Value.ref a := rx
  refine getmeth_ok I1 ea c hm l ?_
  refine PySem.W.callWith_K (first := [.ref a]) (h₀ := X.base) I.ok.mod.kin hm.kp (thn (ha.run pos pins s1 σ H1 _ I1 q) fun us s2 ⟨vs, H2, I2, r, q2⟩ => ⟨I2.kIn, ?_⟩) hst hpl
  exact run_fnSD (E := WE W) (us := .ref a :: us) (vs := .ref a :: vs) (dvs := []) (ds := []) F hr b .nil (passAt tk σ) I2 (.cons rfl r) (by rw [List.append_nil]; exact q2)
theorem pe_methX0 {pl : Sem Bool} (he : PE X o ta) (D : MethX X.prog X.w X.K X.mg X.base k C m sp) (hr : Room k X.A) (tk : Takes X W)
    (ht : eval (.Call (.Attribute o m apos) [] [] pos) X.env = (do let ov ← eval o X.env; standAt apos.atName; let (f, first) ← holding [ov] (getMethod ov m pl); callWith pos f first (backTo pos (starEach [] X.env)) (backToKw pos (keywordEach [] X.env))) := by rfl) :
    PE X (.Call (.Attribute o m apos) [] [] pos) (tMethX C m sp W ta tNil) := by
  obtain ⟨f, fd, ps, c, hm, F, b⟩ := D
  refine ⟨fun pins s σ H Q I h => ?_⟩
  refine PySem.W.methodCall_KW (pl := pl) (thn (he.run pins s σ H _ I h) fun u s1 ⟨x, H1, I1, rx, a, dx, fs, ex, ea, l, q⟩ => ?_) ht
  subst ex
  obtain rfl : u = Value.ref a := rx
  refine getmeth_ok I1 ea c hm l ?_
  exact PySem.W.callWith_K0 (first := [.ref a]) I1.kIn hm.kp (run_fnSD (E := WE W) (us := [.ref a]) (vs := [.ref a]) (dvs := []) (ds := []) F hr b .nil (passAt tk σ) I1 (.cons rfl .nil) q)
theorem run_metX1 {pins : List (Addr × Obj)} {σ : L2.St} {H : Hp} {s : Shared} {us : List Value} {vs : List V} {Q : VK} (F : MetX X.prog X.w X.K X.mg X.base j f sp) (hr : Room (j + 1) X.A) (tk : Takes X W) (I : Inv X pins σ H s) (r : Vals vs us) (q : sp vs H Q (WE W σ)) : wpAny (model X.prog X.w) X.A.in1 (call (.ref f) us) (EP X pins σ Q) X.xe s := by
  refine wpAny_call (codeAny_mono (F X.A.in1 X.stack s H us vs Q (WE W σ) hr.in1 I.env0.in1 r q) fun r s2 hq => ?_)
  match r, hq with
  | .ok (.ret v), hq => exact I.after hq
  | .ok .next, hq => exact False.elim hq
  | .ok .brk, hq => exact False.elim hq
  | .ok .cont, hq => exact False.elim hq
  | .error e, hq => exact passAt tk σ pins H s e s2 I hq
/-- a[i], the class's __getitem__ may raise -/
def tIxX (C : Addr) (sp : Sp) (W : WX) (ta tb : TE) : TE := fun σ H Q => ta σ H fun x H1 => tb σ H1 fun y H2 => (∃ fs, InsAt H2 C x fs) ∧ sp [x, y] H2 Q (WE W σ)
theorem pe_ixX {a b : Expr} (D : OwnX X.prog X.w X.K X.mg X.base j C "__getitem__" sp) (hr : Room (j + 1) X.A) (tk : Takes X W) (ha : PE X a ta) (hb : PE X b tb) (hsl : ∀ v u, subscripted b true v u = runValue (.builtin "lifetime.subscript" ⟨[v, u], []⟩) := by intro _ _; with_unfolding_all rfl) : PE X (.Subscript a b pos) (tIxX C sp W ta tb) := by
  obtain ⟨f, h, hf, F⟩ := D
  refine ⟨fun pins s σ H Q I hq => ?_⟩
  refine Subscript_ (binT (R := fun x y H2 => (∃ fs, InsAt H2 C x fs) ∧ sp [x, y] H2 Q (WE W σ)) ha hb I hq fun v u s2 x y H2 I2 rx ry q => ?_)
  obtain ⟨⟨fs, a', dx, ex, hz⟩, q⟩ := q
  subst ex
  cases rx
  obtain ⟨od, J⟩ := inst_at I2 hz
  obtain ⟨m, fr⟩ := I2.fr
  exact PySem.W.sub_K fr I2.ok.mod.kin J h.at_ hf h.fn (run_metX1 (vs := [.ref a', y]) F hr tk I2 (.cons rfl (.cons ry .nil)) q) (hsl _ _)
end
end XT
/-! o.f as one of several targets; str of an own class -/
namespace XT
open PySem PySem.Spec PyProof.Rows L2
def gAtt (K : PySem.W.Frag) (ta : TE) (f : Str) : TG := fun v σ H Q => ta σ H fun x H1 => ∃ a C dx fs, x = .ref a ∧ H1 a = some (.ins C dx fs) ∧ Cls K C ∧ NoAttr K C f ∧ fs.length < 1000 ∧ Q σ (upd H1 a (.ins C dx (putF f v fs)))
section
variable {X : Cx} {o : Expr} {f : Str} {ta : TE} {pos : Pos}
theorem pg_att (ho : PE X o ta) : PG X (.Attribute o f pos) (gAtt X.K ta f) := by
  refine ⟨fun pins s σ H v u Q I r h => ?_⟩
  show wpAny _ _ (assign (.Attribute o f pos) X.env u) _ _ _
  unfold assign
  refine wpAny_bind (wpAny_holding (thn (ho.run pins s σ H _ I h) fun ov s1 ⟨x, H1, I1, r1, a, C, dx, fs, ex, ea, c, n, l, q⟩ => ?_))
  subst ex
  obtain rfl : ov = Value.ref a := r1
  refine wpAny_bind (wpAny_standAt (wpAny_bind (wpAny_holding (setattr_ok I1 ea c n l r fun s3 I3 => ?_))))
  exact wpAny_release ⟨σ, _, I3, q⟩
end
/-- str(a) -/
def rOwnStr (C : Addr) (sp : Sp) : List V → Hp → VK → Prop := fun xs H Q => ∃ x, xs = [x] ∧ (∃ fs, InsAt H C x fs) ∧ sp [x] H (fun v H' => ∃ y : Str, v = .str y ∧ Q (.str y) H') E0
section
variable {X : Cx} {pins : List (Addr × Obj)} {σ : L2.St} {H : Hp} {s : Shared} {j : Nat} {f C : Addr} {sp : Sp} {us : List Value} {vs : List V} {Q : VK}
theorem run_met2A (F : Met X.prog X.w X.K X.mg X.base j f sp) (hr : Room (j + 2) X.A) (I : Inv X pins σ H s) (r : Vals vs us) (q : sp vs H Q E0) : wpAny (model X.prog X.w) X.A.in1.in1 (call (.ref f) us) (EP X pins σ Q) X.xe s := by
  refine wpAny_call (codeAny_mono (F X.A.in1.in1 X.stack s H us vs Q E0 hr.in1.in1 I.env0.in1.in1 r q) fun r s2 hq => ?_)
  match r, hq with
  | .ok (.ret v), hq => exact I.after hq
  | .ok .next, hq => exact False.elim hq
  | .ok .brk, hq => exact False.elim hq
  | .ok .cont, hq => exact False.elim hq
  | .error e, hq => exact pass0 pins σ H s e s2 I hq
theorem cr_ownStr (F : Met X.prog X.w X.K X.mg X.base j f sp) (hr : Room (j + 2) X.A) (h : Has X.K C "__str__" f) : CallR X (.type "str") (rOwnStr C sp) := by
  intro pins s σ H xs us Q I r ⟨x, exs, ⟨fs, a, dx, ex, ha⟩, q⟩
  subst exs ex
  rw [Vals.ref1 r]
  obtain ⟨od, J⟩ := inst_at I ha
  refine PySem.W.kso_call (by have := hr.un; show X.A.units + 1 + 1 < cLine; omega) I.kIn J h.at_ h.fn (wpAny_mono (run_met2A (vs := [.ref a]) F hr I (.cons rfl .nil) q) (fun u s' z => ?_) fun _ _ z => z)
  obtain ⟨v, H', I', rv, y, ev, q'⟩ := z
  subst ev
  obtain ⟨t, rfl⟩ := rv
  exact ⟨.str y, H', I', ⟨_, rfl⟩, q'⟩
theorem cr_strR (D : OwnR X.prog X.w X.K X.mg X.base j C "__str__" sp) (hr : Room (j + 2) X.A) : CallR X (.type "str") (rOwnStr C sp) := by
  obtain ⟨f, h, F⟩ := D
  exact cr_ownStr F hr h
end
end XT
/-! zip of a list and a tuple -/
namespace XT
open PySem PySem.Spec PyProof.Rows L2
/-- a list and a tuple side by side -/
def ItzLT (K : PySem.W.Frag) (a b : Addr) : It :=
  ⟨fun i H => ∃ (xs ys : List V) (x y : V), SqL K H a xs ∧ SqT K H b ys ∧ xs[i]? = some x ∧ ys[i]? = some y,
    fun i H v H' => ∃ T x y, v = .ref T ∧ H T = none ∧ H' = upd H T (.tup [x, y]) ∧ (∀ xs, SqL K H a xs → xs[i]? = some x) ∧ ∀ ys, SqT K H b ys → ys[i]? = some y,
    fun i H => ∃ xs ys : List V, SqL K H a xs ∧ SqT K H b ys ∧ i ≤ xs.length ∧ i ≤ ys.length ∧ (i = xs.length ∨ i = ys.length)⟩
theorem turn_zipLT {P : Program} {w : World} {K : PySem.W.Frag} {elts : List Expr} {kk : Nat} {tpos : Pos} {a b z TI TO i1 i2 : Addr} (na : a ≠ i1) (nb : b ≠ i2) (S : ZipSep2 z TI TO i1 i2 [i1, a] [i2, b]) :
    Turn P w K (.Tuple elts kk tpos) (ItzLT K a b) [z, TI, TO, i1, i2] z (fun i h => IsZip h z TI TO .none ∧ IsTupOf2 h TI (.ref i1) (.ref i2) ∧ (∃ a1 a2, IsTupOf2 h TO a1 a2) ∧ h.IsListIter i1 a i ∧ h.IsTupleIter i2 b i) where
  mem := by simp
  obj := fun i h st c hc => by
    obtain ⟨hz, hTI, ⟨x, y, hTO⟩, ⟨o1, e1, _, d1⟩, ⟨o2, e2, _, d2⟩⟩ := st
    have e' : c = z ∨ c = TI ∨ c = TO ∨ c = i1 ∨ c = i2 := by simpa using hc
    rcases e' with q | q | q | q | q
    · rw [q]; exact ⟨_, hz, fun v q => nomatch q⟩
    · rw [q]; exact ⟨_, hTI, fun v q => nomatch q⟩
    · rw [q]; exact ⟨_, hTO, fun v q => nomatch q⟩
    · rw [q]; exact ⟨o1, e1, fun v q => by rw [d1] at q; cases q⟩
    · rw [q]; exact ⟨o2, e2, fun v q => by rw [d2] at q; cases q⟩
  keep := fun i h h' st k => by
    obtain ⟨hz, hTI, ⟨x, y, hTO⟩, h1, h2⟩ := st
    exact ⟨k z (by simp) _ hz, k TI (by simp) _ hTI, ⟨x, y, k TO (by simp) _ hTO⟩, h1.at fun o q => k i1 (by simp) o q, h2.at fun o q => k i2 (by simp) o q⟩
  item := by
    intro X hP hw hK hc i pins s σ H E I hf st hg
    subst hP hw hK
    obtain ⟨hz, hTI, ⟨x0, y0, hTO⟩, h1, h2⟩ := st
    obtain ⟨xs, ys, x, y, hqx, hqy, hx, hy⟩ := hg
    obtain ⟨its, rv, p, _⟩ := I.list hqx
    obtain ⟨its2, rv2, p2, _⟩ := I.tuple hqy
    obtain ⟨u, hu, ru⟩ := rv.get hx
    obtain ⟨u2, hu2, ru2⟩ := rv2.get hy
    have hzl : z < s.heap.objs.size := Heap.lt_size hz
    have hA : X.A.in1.handled = none := I.ok.hd hc
    have l1 : i < its.toArray.size := by
      have := (List.getElem?_eq_some_iff.mp hu).1
      simpa using this
    have l2 : i < its2.toArray.size := by
      have := (List.getElem?_eq_some_iff.mp hu2).1
      simpa using this
    refine wpAny_pyNext_zipD2_item S (Draws.list hA i1 a na its.toArray) (Draws.tuple hA i2 b nb its2.toArray) hz hTI hTO ⟨h1, p.isList⟩ ⟨h2, p2⟩ l1 l2 fun v1 v2 h' tk q1 q2 z' TO' h1' h2' hT hsz hk => ?_
    have hT : h'.get? s.heap.objs.size = some { cls := .type "tuple", data := .seq #[u, u2] } := by
      have e1 : v1 = u := by
        have q1 : its.toArray[i]? = some v1 := q1
        simp [hu] at q1
        exact q1.symm
      have e2 : v2 = u2 := by
        have q2 : its2.toArray[i]? = some v2 := q2
        simp [hu2] at q2
        exact q2.symm
      rw [← e1, ← e2]
      exact hT
    refine ⟨_, rfl, wpAny_letOwnedTupleGo_zip (s := { s with heap := h', toks := tk }) z' fun h'' z'' sb => ?_⟩
    have hT2 : h''.get? s.heap.objs.size = some { cls := .type "tuple", data := .seq #[u, u2] } := (sb.2 _ (Nat.ne_of_gt hzl)).trans hT
    have new : ObjOk X.prog X.w (upd H s.heap.objs.size (.tup [x, y])) h'' s.heap.objs.size (.tup [x, y]) :=
      ⟨by show 2 ≤ sizeLine; decide, [u, u2], .cons ru (.cons ru2 .nil), ⟨_, hT2, rfl, _, rfl⟩⟩
    have I1 : Inv X pins σ (upd H s.heap.objs.size (.tup [x, y])) { s with heap := h'', toks := tk } :=
      I.turnedNew (t' := tk) (ch := [z, TI, TO, i1, i2]) (fun c o hb q => (sb.2 c (fun q' => hb (by simp [q']))).trans (hk c o (fun q' => hb (by simp [q'])) (fun q' => hb (by simp [q'])) (fun q' => hb (by simp [q'])) (fun q' => hb (by simp [q'])) q)) hf (Nat.le_refl _) new
    refine ⟨.ref s.heap.objs.size, _, I1, rfl, ⟨_, x, y, rfl, I.hok.fresh (Nat.le_refl _), rfl, fun l hl => by rw [I.list_inj hl hqx]; exact hx, fun l hl => by rw [I.tuple_inj hl hqy]; exact hy⟩, ⟨z'', ?_, ⟨v1, v2, ?_⟩, ?_, ?_⟩, fun c hcm => ?_⟩
    · exact (sb.2 _ S.TIz).trans (hk _ _ S.TIz S.TITO S.TIi1 S.TIi2 hTI)
    · exact (sb.2 _ S.TOz).trans TO'
    · exact h1'.1.at fun o q => (sb.2 _ S.zi1.symm).trans q
    · exact h2'.1.at fun o q => (sb.2 _ S.zi2.symm).trans q
    · have hlt : c < s.heap.objs.size := by
        have e' : c = z ∨ c = TI ∨ c = TO ∨ c = i1 ∨ c = i2 := by simpa using hcm
        rcases e' with q | q | q | q | q
        · rw [q]; exact hzl
        · rw [q]; exact Heap.lt_size hTI
        · rw [q]; exact Heap.lt_size hTO
        · rw [q]; obtain ⟨_, e1, _⟩ := h1; exact Heap.lt_size e1
        · rw [q]; obtain ⟨_, e2, _⟩ := h2; exact Heap.lt_size e2
      rw [upd_ne (Nat.ne_of_lt hlt)]
      exact (hf c hcm).1
  done := by
    intro X hP hw hK hc i pins s σ H E I hf st hg
    subst hP hw hK
    obtain ⟨hz, hTI, ⟨x0, y0, hTO⟩, h1, h2⟩ := st
    obtain ⟨xs, ys, hqx, hqy, le1, le2, hend⟩ := hg
    obtain ⟨its, rv, p, _⟩ := I.list hqx
    obtain ⟨its2, rv2, p2, _⟩ := I.tuple hqy
    have l1 := rv.length
    have l2 := rv2.length
    have hA : X.A.in1.handled = none := I.ok.hd hc
    exact wpAny_pyNext_zipD2_end S (Draws.list hA i1 a na its.toArray) (Draws.tuple hA i2 b nb its2.toArray) hz hTI hTO ⟨h1, p.isList⟩ ⟨h2, p2⟩ (by simp; omega) (by simp; omega) (by simp; omega) fun h' tk hk => ⟨rfl, I.turnedL (t' := tk) (ch := [z, TI, TO, i1, i2]) (fun c o hb q =>
      hk c o (fun q' => hb (by simp [q'])) (fun q' => hb (by simp [q'])) (fun q' => hb (by simp [q'])) (fun q' => hb (by simp [q'])) q) hf⟩
  self := fun A i s Q E st h => wpAny_pyIter_zip st.1 h
def iZipLT (K : PySem.W.Frag) (ta : TA) : TI := fun σ H R => ta σ H fun vs H1 => ∃ a b xs ys, vs = [.ref a, .ref b] ∧ SqL K H1 a xs ∧ SqT K H1 b ys ∧ R (ItzLT K a b) H1
theorem pi_zipLT {X : Cx} {e e2 : Expr} {ta : TA} {p pos tpos : Pos} {elts : List Expr} {kk : Nat} (hg : Gl X "zip") (hm : X.mg "zip" = none) (ha : PA X [e, e2] ta)
    (hs : starEach [e, e2] X.env = (false, eval e X.env) :: starEach [e2] X.env := by rfl) (hpl : (backTo pos (starEach [e2] X.env)).any (·.1) = false := by rfl) :
    PI X (.Tuple elts kk tpos) (.Call (.Name "zip" p) [e, e2] [] pos) (iZipLT X.K ta) := by
  refine ⟨fun pins s σ H R I h => ?_⟩
  refine Call_ (ld_blt I hg hm PyProof.Rows.boot_zip (PyProof.Rows.callWith_type1 (thn (ha.run pos pins s σ H _ I h) fun us s1 ⟨vs, H1, I1, r1, q1⟩ => ?_) hs hpl))
  obtain ⟨a, b, xs, ys, ex, hqx, hqy, q1⟩ := q1
  subst ex
  cases r1 with
  | cons r rr =>
    cases rr with
    | cons r' rr =>
      cases rr
      cases r
      cases r'
      obtain ⟨its, rv, p1, _⟩ := I1.list hqx
      obtain ⟨its2, rv2, p2, _⟩ := I1.tuple hqy
      have la : a < s1.heap.objs.size := p1.lt
      have lb : b < s1.heap.objs.size := by
        obtain ⟨o, e, _⟩ := p2
        exact Heap.lt_size e
      have fresh5 : ∀ c, c ∈ [s1.heap.objs.size + 4, s1.heap.objs.size + 2, s1.heap.objs.size + 3, s1.heap.objs.size, s1.heap.objs.size + 1] → FpOk X pins H1 c := fun c hcm => by
        have e' : c = s1.heap.objs.size + 4 ∨ c = s1.heap.objs.size + 2 ∨ c = s1.heap.objs.size + 3 ∨ c = s1.heap.objs.size ∨ c = s1.heap.objs.size + 1 := by simpa using hcm
        have hle : s1.heap.objs.size ≤ c := by
          rcases e' with z | z | z | z | z
          · rw [z]; exact Nat.le_add_right _ _
          · rw [z]; exact Nat.le_add_right _ _
          · rw [z]; exact Nat.le_add_right _ _
          · rw [z]; exact Nat.le_refl _
          · rw [z]; exact Nat.le_add_right _ _
        exact I1.fpOk hle (I1.hok.fresh hle)
      refine zip_begins2 (begins_list a its.toArray) (begins_tuple b its2.toArray) p1.isList p2 fun h' hz hTI hTO h1 h2 hsz hk => wpAny_pyIter_zip hz ?_
      have I2 : Inv X pins σ H1 { s1 with heap := h' } := I1.kept (t' := s1.toks) hk
      exact ⟨s1.heap.objs.size + 4, [s1.heap.objs.size + 4, s1.heap.objs.size + 2, s1.heap.objs.size + 3, s1.heap.objs.size, s1.heap.objs.size + 1], _, _, H1, rfl, I2, turn_zipLT (Nat.ne_of_lt la) (Nat.ne_of_lt (Nat.lt_succ_of_lt lb)) (zip_sep2 (fp1 := [a]) (fp2 := [b]) (fun c hc => by rw [List.mem_singleton.mp hc]; exact la) (fun c hc => by rw [List.mem_singleton.mp hc]; exact lb)), ⟨hz, hTI, ⟨_, _, hTO⟩, ⟨_, h1, rfl, rfl⟩, ⟨_, h2, rfl, rfl⟩⟩, fresh5, q1⟩
theorem lc_zipLT {K : PySem.W.Frag} {a b : Addr} {xs ys : List V} {g : TG} {tt : TT} {te : TE} {vs : List Nat} {σ : L2.St} {H1 : Hp} {D : Addr} {Qd : Hp → Prop} (hl : xs.length = ys.length) (Pv : Nat → Hp → Prop) (h0 : Pv 0 (upd H1 D (.lst []))) (hq : ∀ i H, Pv i H → SqL K H a xs ∧ SqT K H b ys)
    (hs : ∀ i x y T H, xs[i]? = some x → ys[i]? = some y → Pv i H → H T = none → g (.ref T) (wipe σ vs) (upd H T (.tup [x, y])) fun σ2 H2 => wipe σ2 vs = wipe σ vs ∧ tt σ2 H2 fun c H3 =>
      if c = true then te σ2 H3 fun y H4 => ∃ acc, H4 D = some (.lst acc) ∧ acc.length < sizeLine ∧ Pv (i + 1) (upd H4 D (.lst (acc ++ [y]))) else Pv (i + 1) H3) (hd : ∀ H, Pv xs.length H → Qd H) :
    ∃ W : Nat → Nat → Hp → Prop, (∃ m, W 0 m (upd H1 D (.lst []))) ∧ ∀ i m H, W i m H →
      ((ItzLT K a b).stop i H ∧ Qd H) ∨ ((ItzLT K a b).go i H ∧ ∃ Nx : Hp → Prop, (∀ H', Nx H' → ∃ m', m' < m ∧ W (i + 1) m' H') ∧ ∀ x H', (ItzLT K a b).yld i H x H' → g x (wipe σ vs) H' fun σ2 H2 => wipe σ2 vs = wipe σ vs ∧ tt σ2 H2 fun c H3 =>
        if c = true then te σ2 H3 fun y H4 => ∃ acc, H4 D = some (.lst acc) ∧ acc.length < sizeLine ∧ Nx (upd H4 D (.lst (acc ++ [y]))) else Nx H3) := by
  refine ⟨fun i m H => m = xs.length - i ∧ i ≤ xs.length ∧ Pv i H, ⟨xs.length, rfl, Nat.zero_le _, h0⟩, ?_⟩
  rintro i m H ⟨rfl, hi, p⟩
  obtain ⟨qx, qy⟩ := hq i H p
  rcases Nat.lt_or_ge i xs.length with lt | ge
  · have hx : xs[i]? = some xs[i] := List.getElem?_eq_getElem lt
    have hy : ys[i]? = some (ys[i]'(by omega)) := List.getElem?_eq_getElem (by omega)
    refine .inr ⟨⟨xs, ys, _, _, qx, qy, hx, hy⟩, Pv (i + 1), fun H' p' => ⟨xs.length - (i + 1), by omega, rfl, lt, p'⟩, fun v H' z => ?_⟩
    obtain ⟨T, x', y', rfl, hT, rfl, f1, f2⟩ := z
    exact hs i x' y' T H (f1 xs qx) (f2 ys qy) p hT
  · have e : i = xs.length := by omega
    subst e
    exact .inl ⟨⟨xs, ys, qx, qy, Nat.le_refl _, by omega, Or.inl rfl⟩, hd H p⟩
/-- turns that only lay new things, whose values are given one by one -/
theorem lcn_zipLT {K : PySem.W.Frag} {a b : Addr} {xs ys : List V} {g : TG} {tt : TT} {te : TE} {vs : List Nat} {σ : L2.St} {H1 : Hp} {D : Addr} {Qd : Hp → Prop} (f : Nat → V) (hl : xs.length = ys.length) (nD : H1 D = none) (hx : SqL K H1 a xs) (hy : SqT K H1 b ys) (hz : xs.length < sizeLine)
    (ht : ∀ i x y T H, xs[i]? = some x → ys[i]? = some y → Same H1 H → H T = none → ∀ (R1 : Hp → Prop) (R2 : V → Hp → Prop), (∀ H4, Same H H4 → R2 (f i) H4) → g (.ref T) (wipe σ vs) (upd H T (.tup [x, y])) fun σ2 H2 => wipe σ2 vs = wipe σ vs ∧ tt σ2 H2 fun b H3 => if b = true then te σ2 H3 R2 else R1 H3)
    (hd : ∀ H, Same H1 H → H D = some (.lst ((List.range xs.length).map f)) → Qd H) :
    ∃ W : Nat → Nat → Hp → Prop, (∃ m, W 0 m (upd H1 D (.lst []))) ∧ ∀ i m H, W i m H →
      ((ItzLT K a b).stop i H ∧ Qd H) ∨ ((ItzLT K a b).go i H ∧ ∃ Nx : Hp → Prop, (∀ H', Nx H' → ∃ m', m' < m ∧ W (i + 1) m' H') ∧ ∀ x H', (ItzLT K a b).yld i H x H' → g x (wipe σ vs) H' fun σ2 H2 => wipe σ2 vs = wipe σ vs ∧ tt σ2 H2 fun c H3 =>
        if c = true then te σ2 H3 fun y H4 => ∃ acc, H4 D = some (.lst acc) ∧ acc.length < sizeLine ∧ Nx (upd H4 D (.lst (acc ++ [y]))) else Nx H3) := by
  refine lc_zipLT hl (fun i H => Same H1 H ∧ H D = some (.lst ((List.range i).map f))) ⟨same_new nD, upd_same⟩ (fun i H h => ⟨h.1.seq hx, Same.sqT h.1 hy⟩) (fun i x y T H hxi hyi h nT => ?_) (fun H h => hd H h.1 h.2)
  have hi : i < xs.length := (List.getElem?_eq_some_iff.mp hxi).1
  refine ht i x y T H hxi hyi h.1 nT _ _ fun H4 s4 => ⟨_, s4 _ _ h.2, by rw [List.length_map, List.length_range]; omega, fun c o e => ?_, ?_⟩
  · rw [upd_ne (ne_of_none e nD)]
    exact s4 _ _ (h.1 _ _ e)
  · rw [upd_same, List.range_succ, List.map_append]
    rfl
end XT
/-! boards: states, edits and their outcomes -/
namespace XT
open PySem PySem.Spec PyProof.Rows L2
inductive Ed
  | add (d : PyData) | drop (d : PyData) | turn (d : PyData) | flip
def Ed.nm : Ed → Str
  | .add _ => "add" | .drop _ => "drop" | .turn _ => "turn" | .flip => "flip"
def Ed.args : Ed → List PyData
  | .add d => [d] | .drop d => [d] | .turn d => [d] | .flip => []
def mN (d : PyData) : Nat := (iv d).toNat
def Ed.key : Ed → Str × Option Nat
  | .add d => ("add", some (mN d)) | .drop d => ("drop", some (mN d)) | .turn d => ("turn", some (mN d)) | .flip => ("flip", none)
/-- what comes of it: other masks, or an error by its number among the sixteen and its field -/
inductive Oc
  | ok (p : Nat → Bool) | er (j : Nat) (d : PyData)
def ocE (n : Nat) (p : Nat → Bool) : Ed → Oc
  | .flip => .ok fun m => !p m
  | .turn d => if isM n d = true then .ok fun m => p (m ^^^ mN d) else .er 14 d
  | .add d => if isM n d = true then (if p (mN d) = true then .er 8 d else .ok fun m => p m || decide (m = mN d)) else .er 14 d
  | .drop d => if isM n d = true then (if p (mN d) = true then .ok fun m => p m && !decide (m = mN d) else .er 5 d) else .er 14 d
/-- a tuple of the name and the arguments, laid -/
def EdZ (K : PySem.W.Frag) (H : Hp) (z : V) (e : Ed) : Prop := ∃ q vs, z = .ref q ∧ H q = some (.tup (.str e.nm :: vs)) ∧ DzAll K H vs e.args
theorem EdZ.same {K : PySem.W.Frag} {H H' : Hp} {z : V} {e : Ed} (h : EdZ K H z e) (s : Same H H') : EdZ K H' z e := by
  obtain ⟨q, vs, ez, hq, a⟩ := h
  exact ⟨q, vs, ez, s _ _ hq, DzAll.same s a⟩
/-- an edit that was done -/
def keyT (e : Str × Option Nat) : List V := .str e.1 :: (match e.2 with | some m => [.int (m : Int)] | none => [])
abbrev isEd (e : Str × Option Nat) : RV := fun H z => ∃ q, z = .ref q ∧ H q = some (.tup (keyT e))
theorem isM_mN {n : Nat} {d : PyData} (h : isM n d = true) : d = .int (mN d : Nat) ∧ mN d < 2 ^ n := by
  obtain ⟨a, rfl, ha⟩ := isM_int h
  have : mN (.int (a : Int)) = a := by
    show (a : Int).toNat = a
    exact Int.toNat_natCast a
  rw [this]
  exact ⟨rfl, ha⟩
theorem ocE_no {n : Nat} {p p' : Nat → Bool} {d : PyData} (h : ¬ isM n d = true) {e : Ed} (he : e = .add d ∨ e = .drop d ∨ e = .turn d := by simp) : ocE n p e ≠ .ok p' := by
  rcases he with rfl | rfl | rfl
  · show (if isM n d = true then (if p (mN d) = true then Oc.er 8 d else .ok fun m => p m || decide (m = mN d)) else .er 14 d) ≠ _
    rw [if_neg h]
    exact fun z => by cases z
  · show (if isM n d = true then (if p (mN d) = true then Oc.ok fun m => p m && !decide (m = mN d) else .er 5 d) else .er 14 d) ≠ _
    rw [if_neg h]
    exact fun z => by cases z
  · show (if isM n d = true then Oc.ok fun m => p (m ^^^ mN d) else .er 14 d) ≠ _
    rw [if_neg h]
    exact fun z => by cases z
theorem ocE_key {K : PySem.W.Frag} {H : Hp} {z : V} {n : Nat} {p p' : Nat → Bool} {e : Ed} (h : EdZ K H z e) (o : ocE n p e = .ok p') : isEd e.key H z := by
  obtain ⟨q, vs, ez, hq, a⟩ := h
  have one : ∀ {d : PyData}, isM n d = true → DzAll K H vs [d] → vs = [.int (mN d : Nat)] := fun {d} hm a => by
    have e1 := (isM_mN hm).1
    generalize mN d = m at *
    subst e1
    cases a with
    | cons a b =>
      cases a
      cases b
      rfl
  cases e with
  | flip =>
    cases a
    exact ⟨q, ez, hq⟩
  | turn d =>
    by_cases hm : isM n d = true
    · rw [one hm a] at hq
      exact ⟨q, ez, hq⟩
    · exact absurd o (ocE_no hm)
  | add d =>
    by_cases hm : isM n d = true
    · rw [one hm a] at hq
      exact ⟨q, ez, hq⟩
    · exact absurd o (ocE_no hm)
  | drop d =>
    by_cases hm : isM n d = true
    · rw [one hm a] at hq
      exact ⟨q, ez, hq⟩
    · exact absurd o (ocE_no hm)
/-- a board: width, earlier lots, current one, edits, mark, busy, log -/
structure Bd where
  n : Nat
  qs : List (Nat → Bool)
  p : Nat → Bool
  es : List (Str × Option Nat)
  mr : Option Nat
  bz : Bool
  lg : Option (List (Str × Nat))
def mkV : Option Nat → V
  | none => .non
  | some m => .int (m : Int)
abbrev isRow (r : Str × Nat) : RV := fun H z => ∃ q, z = .ref q ∧ H q = some (.tup [.str r.1, .int (r.2 : Int)])
def bdL (R : Addr) : Option (List (Str × Nat)) → List (Str × V)
  | none => []
  | some _ => [("rows", .ref R)]
abbrev bdF (T D R : Addr) (b : Bd) : List (Str × V) := ("lots", .ref T) :: ("done", .ref D) :: ("marked", mkV b.mr) :: ("busy", .bl b.bz) :: bdL R b.lg
theorem bdL_len (R : Addr) (l : Option (List (Str × Nat))) : (bdL R l).length ≤ 1 := by
  cases l <;> simp [bdL]
/-- what the board's tuples hold -/
structure BdT (H : Hp) (T D R : Addr) (b : Bd) (vs : List V) (v : V) (us ws : List V) : Prop where
  hT : H T = some (.tup (vs ++ [v]))
  hq : AllV (b.qs.map (isLot b.n)) H vs
  hp : LotAt H v b.n b.p
  hD : H D = some (.tup us)
  he : AllV (b.es.map isEd) H us
  hR : ∀ l, b.lg = some l → H R = some (.tup ws) ∧ AllV (l.map isRow) H ws
  len : b.es.length = b.qs.length
  n1 : 1 ≤ b.n
  n6 : b.n ≤ 6
  l60 : b.es.length ≤ 60
def BdAt (C : Addr) (H : Hp) (a : Addr) (b : Bd) : Prop := ∃ (dx T D R : Addr) (vs : List V) (v : V) (us ws : List V), H a = some (.ins C dx (bdF T D R b)) ∧ BdT H T D R b vs v us ws
/-- tuples stay -/
def Tups (H H' : Hp) : Prop := ∀ b xs, H b = some (.tup xs) → H' b = some (.tup xs)
theorem Tups.of {H H' : Hp} (s : Same H H') : Tups H H' := fun b xs e => s _ _ e
theorem Tups.trans {H H1 H2 : Hp} (a : Tups H H1) (b : Tups H1 H2) : Tups H H2 := fun c xs e => b c xs (a c xs e)
theorem Tups.put {H : Hp} {a : Addr} {o o' : HO} (h : H a = some o) (n : ∀ xs, o ≠ .tup xs) : Tups H (upd H a o') := fun b xs e => by
  have : b ≠ a := fun z => by
    subst z
    rw [h] at e
    exact n xs (Option.some.inj e)
  rw [upd_ne this]
  exact e
theorem LotAt.tu {H H' : Hp} {v : V} {n : Nat} {p : Nat → Bool} (h : LotAt H v n p) (t : Tups H H') : LotAt H' v n p := by
  obtain ⟨a, b, e, h1, h2⟩ := h
  exact ⟨a, b, e, t _ _ h1, t _ _ h2⟩
theorem allV_tu {H H' : Hp} (t : Tups H H') : ∀ {Rs : List RV} {vs : List V}, (∀ R ∈ Rs, ∀ z, R H z → R H' z) → AllV Rs H vs → AllV Rs H' vs
  | [], [], _, h => h
  | R :: Rs, v :: vs, hs, h => ⟨hs R List.mem_cons_self _ h.1, allV_tu t (fun R' h' => hs R' (List.mem_cons_of_mem _ h')) h.2⟩
theorem lots_tu {H H' : Hp} (t : Tups H H') {n : Nat} {qs : List (Nat → Bool)} {vs : List V} (h : AllV (qs.map (isLot n)) H vs) : AllV (qs.map (isLot n)) H' vs := allV_tu t (fun R hR z g => by
  obtain ⟨q, _, rfl⟩ := List.mem_map.mp hR
  exact LotAt.tu g t) h
theorem eds_tu {H H' : Hp} (t : Tups H H') {es : List (Str × Option Nat)} {vs : List V} (h : AllV (es.map isEd) H vs) : AllV (es.map isEd) H' vs := allV_tu t (fun R hR z g => by
  obtain ⟨q, _, rfl⟩ := List.mem_map.mp hR
  obtain ⟨a, ez, ha⟩ := g
  exact ⟨a, ez, t _ _ ha⟩) h
theorem rows_tu {H H' : Hp} (t : Tups H H') {es : List (Str × Nat)} {vs : List V} (h : AllV (es.map isRow) H vs) : AllV (es.map isRow) H' vs := allV_tu t (fun R hR z g => by
  obtain ⟨q, _, rfl⟩ := List.mem_map.mp hR
  obtain ⟨a, ez, ha⟩ := g
  exact ⟨a, ez, t _ _ ha⟩) h
theorem BdT.tu {H H' : Hp} {T D R : Addr} {b : Bd} {vs us ws : List V} {v : V} (h : BdT H T D R b vs v us ws) (t : Tups H H') : BdT H' T D R b vs v us ws :=
  ⟨t _ _ h.hT, lots_tu t h.hq, h.hp.tu t, t _ _ h.hD, eds_tu t h.he, fun l e => let ⟨a, c⟩ := h.hR l e; ⟨t _ _ a, rows_tu t c⟩, h.len, h.n1, h.n6, h.l60⟩
theorem BdAt.tu {C : Addr} {H H' : Hp} {a : Addr} {b : Bd} (h : BdAt C H a b) (t : Tups H H') (e : ∀ o, H a = some o → H' a = some o) : BdAt C H' a b := by
  obtain ⟨dx, T, D, R, vs, v, us, ws, ha, ht⟩ := h
  exact ⟨dx, T, D, R, vs, v, us, ws, e _ ha, ht.tu t⟩
theorem BdAt.same {C : Addr} {H H' : Hp} {a : Addr} {b : Bd} (h : BdAt C H a b) (s : Same H H') : BdAt C H' a b := h.tu (Tups.of s) fun o e => s _ _ e
/-- a world that holds a board at a, which is owned -/
theorem sty_bd {X : Ow} {C a : Addr} {b : Bd} (ha : X a) : StyW X (fun H => BdAt C H a b) := fun H H' s h => h.tu (fun c xs e => s c _ e (.inr ⟨xs, rfl⟩)) fun o e => s _ _ e (.inl ha)
/-- the errors -/
def fldN (j : Nat) : Str := if j = 13 ∨ j = 14 ∨ j = 15 then "value" else if j = 5 ∨ j = 8 then "mask" else if j = 0 ∨ j = 3 ∨ j = 7 ∨ j = 9 then "index" else if j = 12 then "limit" else "error"
def hasF (j : Nat) : Bool := decide (j ∈ [0, 2, 3, 5, 7, 8, 9, 12, 13, 14, 15])
def ErOk (K : PySem.W.Frag) (j : Nat) (d : PyData) (H : Hp) (od : Option Addr) : Prop :=
  if hasF j = true then ∃ dd v, od = some dd ∧ H dd = some (.xd [(fldN j, v)]) ∧ Dz K H v d
  else if j = 11 then ∃ dd x y, od = some dd ∧ H dd = some (.xd [("other", .int y), ("one", .int x)]) ∧ d = .tuple [.int x, .int y]
  else od = none ∧ d = .none
def ErP (K : PySem.W.Frag) (ec : Nat → Addr) (E : XK) (j : Nat) (d : PyData) (H : Hp) : Prop := ∀ H' od, Same H H' → ErOk K j d H' od → E (.ref (ec j)) od H'
theorem ErP.same {K : PySem.W.Frag} {ec : Nat → Addr} {E : XK} {j : Nat} {d : PyData} {H H' : Hp} (h : ErP K ec E j d H) (s : Same H H') : ErP K ec E j d H' := fun H2 od s2 g => h H2 od (s.trans s2) g
theorem bd_look {m : Str} {T D R : Addr} {b : Bd} (h : (m == ("lots" : Str) || (m == ("done" : Str) || (m == ("marked" : Str) || (m == ("busy" : Str) || m == ("rows" : Str))))) = false := by decide) : (bdF T D R b).lookup m = none := by
  rw [Bool.or_eq_false_iff, Bool.or_eq_false_iff, Bool.or_eq_false_iff, Bool.or_eq_false_iff] at h
  obtain ⟨h1, h2, h3, h4, h5⟩ := h
  rw [List.lookup_cons, h1, List.lookup_cons, h2, List.lookup_cons, h3, List.lookup_cons, h4]
  cases b.lg with
  | none => rfl
  | some l =>
    show List.lookup m [("rows", _)] = none
    rw [List.lookup_cons, h5]
    rfl
theorem at_last {xs : List V} {v : V} : atI (xs ++ [v]) (-1) = some v := by
  unfold atI ixN
  rw [if_neg (by decide), if_pos (by rw [List.length_append]; show -((xs.length + 1 : Nat) : Int) ≤ -1; omega)]
  have : ((-1 : Int) + ((xs ++ [v]).length : Nat)).toNat = xs.length := by
    rw [List.length_append]
    show ((-1 : Int) + ((xs.length + 1 : Nat) : Int)).toNat = _
    omega
  rw [this]
  show (xs ++ [v])[xs.length]? = some v
  rw [List.getElem?_append_right (Nat.le_refl _), Nat.sub_self]
  rfl
/-- facts of a board's class -/
structure BdC (K : PySem.W.Frag) (C : Addr) : Prop where
  cl : Cls K C
  nl : NoAttr K C "lots"
  nd : NoAttr K C "done"
  nm : NoAttr K C "marked"
  nb : NoAttr K C "busy"
  mo : ∃ u, Con K C "MOST_EDITS" (.int 60) u
abbrev isBd (C : Addr) (b : Bd) : RV := fun H z => ∃ a, z = .ref a ∧ BdAt C H a b
theorem sty_bd0 (C : Addr) (b : Bd) : Sty (isBd C b) := fun _ _ _ s ⟨a, e, h⟩ => ⟨a, e, h.same s⟩
abbrev isLots (b : Bd) : RV := fun H z => ∃ T vs v, z = .ref T ∧ H T = some (.tup (vs ++ [v])) ∧ AllV (b.qs.map (isLot b.n)) H vs ∧ LotAt H v b.n b.p
abbrev isDone (es : List (Str × Option Nat)) : RV := fun H z => ∃ D us, z = .ref D ∧ H D = some (.tup us) ∧ AllV (es.map isEd) H us
theorem sty_lots (b : Bd) : Sty (isLots b) := fun _ _ _ s ⟨T, vs, v, e, h, a, l⟩ => ⟨T, vs, v, e, s _ _ h, lots_tu (Tups.of s) a, l.same s⟩
theorem sty_done (es : List (Str × Option Nat)) : Sty (isDone es) := fun _ _ _ s ⟨D, us, e, h, a⟩ => ⟨D, us, e, s _ _ h, eds_tu (Tups.of s) a⟩
section
variable {K : PySem.W.Frag} {C : Addr} {b : Bd} {t : TE} {σ : L2.St} {H : Hp}
theorem ev_bd {i a : Nat} (h : BdAt C H a b) (e : σ[i]? = some (some (.ref a))) : Ev (isBd C b) (tVar i) σ H := ev_var (sty_bd0 C b) e ⟨a, rfl, h⟩
theorem ev_lots (T : BdC K C) (a : Ev (isBd C b) t σ H) : Ev (isLots b) (tFld K t "lots") σ H := fun H1 s1 Q q =>
  a H1 s1 _ fun H2 x s2 ⟨a, ex, dx, T', D, R, vs, v, us, ws, ha, ht⟩ => ⟨a, C, dx, _, .ref T', ex, ha, T.cl, T.nl, rfl, q _ _ s2 ⟨T', vs, v, rfl, ht.hT, ht.hq, ht.hp⟩⟩
theorem ev_done (T : BdC K C) (a : Ev (isBd C b) t σ H) : Ev (isDone b.es) (tFld K t "done") σ H := fun H1 s1 Q q =>
  a H1 s1 _ fun H2 x s2 ⟨a, ex, dx, T', D, R, vs, v, us, ws, ha, ht⟩ => ⟨a, C, dx, _, .ref D, ex, ha, T.cl, T.nd, rfl, q _ _ s2 ⟨D, us, rfl, ht.hD, ht.he⟩⟩
theorem ev_marked (T : BdC K C) (a : Ev (isBd C b) t σ H) : Ev (isV (mkV b.mr)) (tFld K t "marked") σ H := fun H1 s1 Q q =>
  a H1 s1 _ fun H2 x s2 ⟨a, ex, dx, T', D, R, vs, v, us, ws, ha, ht⟩ => ⟨a, C, dx, _, mkV b.mr, ex, ha, T.cl, T.nm, rfl, q _ _ s2 rfl⟩
theorem ev_busy (T : BdC K C) (a : Ev (isBd C b) t σ H) : Ev (isB b.bz) (tFld K t "busy") σ H := fun H1 s1 Q q =>
  a H1 s1 _ fun H2 x s2 ⟨a, ex, dx, T', D, R, vs, v, us, ws, ha, ht⟩ => ⟨a, C, dx, _, .bl b.bz, ex, ha, T.cl, T.nb, rfl, q _ _ s2 rfl⟩
theorem ev_most (T : BdC K C) (a : Ev (isBd C b) t σ H) : Ev (isV (.int 60)) (tCon K t "MOST_EDITS") σ H := fun H1 s1 Q q =>
  a H1 s1 _ fun H2 x s2 ⟨a, ex, dx, T', D, R, vs, v, us, ws, ha, ht⟩ => by
    obtain ⟨u, c⟩ := T.mo
    exact ⟨a, C, dx, _, .int 60, u, ex, ha, T.cl, c, bd_look, q _ _ s2 rfl⟩
theorem of_ixLast : OpF (isLots b) (isV (.int (-1))) (rIxT K) (isLot b.n b.p) := fun H x y ⟨T, vs, v, ex, hT, _, hv⟩ ey Q q => ⟨T, _, -1, v, ex, ey, SqT.of hT, at_last, q _ _ (Same.refl _) hv⟩
theorem allV_len' {Rs : List RV} {H : Hp} {vs : List V} (h : AllV Rs H vs) : vs.length = Rs.length := allV_len h
theorem ev_lenDone {es : List (Str × Option Nat)} (a : Ev (isDone es) t σ H) : Ev (isV (.int (es.length : Int))) (tCB (fun xs H Q => ∃ p ys, xs = [.ref p] ∧ (SqL K H p ys ∨ SqT K H p ys) ∧ Q (.int ys.length) H) (tCons t tNil)) σ H := fun H1 s1 Q q =>
  a H1 s1 _ fun H2 x s2 ⟨D, us, ex, hD, he⟩ => ⟨D, us, by rw [ex], .inr (SqT.of hD), q _ _ s2 (by rw [allV_len he, List.length_map])⟩
/-- a property, a method without arguments -/
def spB1 (C : Addr) (F : Bd → RV) : Sp := fun vs H Q _ => ∃ a b, vs = [.ref a] ∧ BdAt C H a b ∧ ∀ H' r, Same H H' → F b H' r → Q r H'
theorem ev_bprop {F : Bd → RV} (a : Ev (isBd C b) t σ H) : Ev (F b) (tProp C (spB1 C F) [] E0 t) σ H := fun H1 s1 Q q =>
  a H1 s1 _ fun H2 x s2 ⟨a, ex, h⟩ => by
    obtain ⟨dx, T', D, R, vs, v, us, ws, ha, ht⟩ := id h
    exact ⟨a, dx, _, ex, ha, a, b, rfl, h, fun H3 r s3 g => q _ _ (s2.trans s3) g⟩
end
/-- what an edit makes of the board -/
def stB (b : Bd) (e : Ed) (p' : Nat → Bool) : Bd := { b with qs := b.qs ++ [b.p], p := p', es := b.es ++ [e.key] }
/-- with a log (not endless), or without -/
def LgP (b : Bd) (lgd : Bool) : Prop := b.lg.isSome = lgd ∧ ∀ l, b.lg = some l → l.length < 1000000
theorem LgP.no {b : Bd} (h : b.lg.isSome = false) : LgP b false := ⟨h, fun l e => by rw [e] at h; cases h⟩
def finS (nm : Str) (b : Bd) : Bd := { b with lg := b.lg.map (· ++ [(nm, b.es.length)]) }
theorem finS_no {nm : Str} {b : Bd} (h : b.lg = none) : finS nm b = b := by
  unfold finS
  cases b
  dsimp only at h
  subst h
  rfl
abbrev Oce := Nat → (Nat → Bool) → Ed → Oc
/-- what is promised of an edit: any call of its own -/
def EdP (K : PySem.W.Frag) (C : Addr) (ec : Nat → Addr) (oc : Oce) (Q : VK) (E : XK) (H : Hp) (a : Addr) (b : Bd) (e : Ed) : Prop :=
  (b.bz = true → ErP K ec E 4 .none H) ∧ (b.bz = false → 60 ≤ b.es.length → ErP K ec E 10 .none H) ∧
  (b.bz = false → b.es.length < 60 → (∀ j d, oc b.n b.p e = .er j d → ErP K ec E j d H) ∧ ∀ p', oc b.n b.p e = .ok p' → ∀ H', KeepX (fun c => c = a) H H' → BdAt C H' a (finS e.nm (stB b e p')) → Q (.int ((b.es.length + 1 : Nat) : Int)) H')
end XT
/-! boards: what comes of an edit or of undo -/
namespace XT
open PySem PySem.Spec PyProof.Rows L2
def unB (b : Bd) : Bd := { b with qs := b.qs.dropLast, p := b.qs.getLast?.getD b.p, es := b.es.dropLast }
def UnP (K : PySem.W.Frag) (C : Addr) (ec : Nat → Addr) (Q : VK) (E : XK) (H : Hp) (a : Addr) (b : Bd) : Prop :=
  (b.bz = true → ErP K ec E 4 .none H) ∧ (b.bz = false → b.es = [] → ErP K ec E 6 .none H) ∧ (b.bz = false → b.es ≠ [] → ∀ H', KeepX (fun c => c = a) H H' → BdAt C H' a (finS "undo" (unB b)) → Q (.int ((b.es.length - 1 : Nat) : Int)) H')
inductive Ro
  | ok (b : Bd) (v : Nat) | er (j : Nat) (d : PyData)
def ocR (b : Bd) (e : Ed) : Oc → Ro
  | .ok p' => .ok (finS e.nm (stB b e p')) (b.es.length + 1)
  | .er j d => .er j d
def runE (oc : Oce) (b : Bd) (e : Ed) : Ro := if b.bz = true then .er 4 .none else if 60 ≤ b.es.length then .er 10 .none else ocR b e (oc b.n b.p e)
def runU (b : Bd) : Ro := if b.bz = true then .er 4 .none else if b.es.isEmpty = true then .er 6 .none else .ok (finS "undo" (unB b)) (b.es.length - 1)
def runO (oc : Oce) (b : Bd) : Option Ed → Ro
  | some e => runE oc b e
  | none => runU b
def nmO : Option Ed → Str
  | some e => e.nm
  | none => "undo"
def argsO : Option Ed → List PyData
  | some e => e.args
  | none => []
/-- a law's edit: a tuple of the name and the arguments -/
def EdO (K : PySem.W.Frag) (H : Hp) (z : V) (o : Option Ed) : Prop := ∃ q vs, z = .ref q ∧ H q = some (.tup (.str (nmO o) :: vs)) ∧ DzAll K H vs (argsO o)
theorem EdO.same {K : PySem.W.Frag} {H H' : Hp} {z : V} {o : Option Ed} (h : EdO K H z o) (s : Same H H') : EdO K H' z o := by
  obtain ⟨q, vs, ez, hq, a⟩ := h
  exact ⟨q, vs, ez, s _ _ hq, DzAll.same s a⟩
theorem sty_edO {K : PySem.W.Frag} (o : Option Ed) : Sty (fun H z => EdO K H z o) := fun _ _ _ s h => h.same s
theorem of_ixE0 {K : PySem.W.Frag} {o : Option Ed} : OpF (fun H z => EdO K H z o) (isV (.int 0)) (rIxT K) (isV (.str (nmO o))) := fun H x y ⟨q, vs, ex, hq, _⟩ ey Q q' => ⟨q, _, 0, _, ex, ey, SqT.of hq, atI_nat (j := 0) rfl, q' _ _ (Same.refl _) rfl⟩
theorem of_ixE1 {K : PySem.W.Frag} {o : Option Ed} {d : PyData} (h : argsO o = [d]) : OpF (fun H z => EdO K H z o) (isV (.int 1)) (rIxT K) (isD K d) := fun H x y ⟨q, vs, ex, hq, a⟩ ey Q q' => by
  rw [h] at a
  cases a with
  | cons a1 a2 =>
    cases a2
    exact ⟨q, _, 1, _, ex, ey, SqT.of hq, atI_nat (j := 1) rfl, q' _ _ (Same.refl _) a1⟩
section
variable {K : PySem.W.Frag} {C : Addr} {ec : Nat → Addr} {oc : Oce} {Q : VK} {E : XK} {H : Hp} {a : Addr} {b : Bd}
theorem edP_of {e : Ed} (q : ∀ b' v, runO oc b (some e) = .ok b' v → ∀ H', KeepX (fun c => c = a) H H' → BdAt C H' a b' → Q (.int (v : Int)) H') (qe : ∀ j d, runO oc b (some e) = .er j d → ErP K ec E j d H) : EdP K C ec oc Q E H a b e := by
  refine ⟨fun hb => qe _ _ ?_, fun hb l => qe _ _ ?_, fun hb l => ⟨fun j d o => qe _ _ ?_, fun p' o H' k h => q _ _ ?_ H' k h⟩⟩
  · show runE oc b e = _
    unfold runE
    rw [if_pos hb]
  · show runE oc b e = _
    unfold runE
    rw [if_neg (by rw [hb]; decide), if_pos l]
  · show runE oc b e = _
    unfold runE
    rw [if_neg (by rw [hb]; decide), if_neg (by omega), o]
    rfl
  · show runE oc b e = _
    unfold runE
    rw [if_neg (by rw [hb]; decide), if_neg (by omega), o]
    rfl
theorem unP_of (q : ∀ b' v, runO oc b none = .ok b' v → ∀ H', KeepX (fun c => c = a) H H' → BdAt C H' a b' → Q (.int (v : Int)) H') (qe : ∀ j d, runO oc b none = .er j d → ErP K ec E j d H) : UnP K C ec Q E H a b := by
  refine ⟨fun hb => qe _ _ ?_, fun hb l => qe _ _ ?_, fun hb l H' k h => q _ _ ?_ H' k h⟩
  · show runU b = _
    unfold runU
    rw [if_pos hb]
  · show runU b = _
    unfold runU
    rw [if_neg (by rw [hb]; decide), if_pos (by rw [l]; rfl)]
  · show runU b = _
    unfold runU
    rw [if_neg (by rw [hb]; decide), if_neg (by rw [List.isEmpty_iff]; exact l)]
end
end XT
/-! what a law sees of a board -/
namespace XT
open PySem PySem.Spec PyProof.Rows L2
def bdTxt (m v : Nat) : Str := ((Str.empty ++ Str.ofString (toString (m : Int))) ++ " masks, ") ++ Str.ofString (toString (v : Int)) ++ " edits"
def dEd (e : Str × Option Nat) : PyData := .tuple (.str e.1 :: (match e.2 with | some m => [.int (m : Int)] | none => []))
def EkOk (e : Str × Option Nat) : Prop := (e.1 = "add" ∨ e.1 = "drop" ∨ e.1 = "turn" ∨ e.1 = "flip") ∧ ∀ m, e.2 = some m → m < 64
def BdOk (b : Bd) : Prop := ∀ e ∈ b.es, EkOk e
def dSeen (n : Nat) (p : Nat → Bool) (es : List (Str × Option Nat)) : PyData := .list [dLot n p, .int ((lotOf n p).length : Int), .int (es.length : Int), .tuple (es.map dEd), .int (es.length : Int), .str (bdTxt (lotOf n p).length es.length)]
theorem txt_small {n : Nat} (h : n ≤ 64) : (Str.ofString (toString (n : Int))).length ≤ 20 := by
  have : ∀ k : Fin 65, (Str.ofString (toString ((k.val : Nat) : Int))).length ≤ 20 := by decide +kernel
  exact this ⟨n, by omega⟩
theorem txt_okB {n : Nat} (h : n ≤ 64) : TxOk (Str.ofString (toString (n : Int))) := by
  have : ∀ k : Fin 65, (Str.ofString (toString ((k.val : Nat) : Int))).cps.toList.all (fun c => decide (c < 16 ^ 8)) = true := by decide +kernel
  exact fun c hc => of_decide_eq_true (List.all_eq_true.mp (this ⟨n, by omega⟩) c hc)
theorem log_smallB {n : Nat} (h : n ≤ 64) : (n : Int).natAbs.log2 < 1920 := by
  rw [Int.natAbs_natCast]
  exact Nat.lt_of_le_of_lt (Nat.log2_le_self _) (by omega)
theorem len_masks : (" masks, " : Str).length = 8 := by
  have h : ((" masks, " : Str).length == 8) = true := by decide +kernel
  simpa using h
theorem len_edits : (" edits" : Str).length = 6 := by
  have h : ((" edits" : Str).length == 6) = true := by decide +kernel
  simpa using h
theorem bdTxt_ok {m v : Nat} (hm : m ≤ 64) (hv : v ≤ 64) : TxOk (bdTxt m v) ∧ (bdTxt m v).length ≤ 60 := by
  constructor
  · have e0 : TxOk Str.empty := fun c hc => absurd hc (by simp [Str.empty])
    exact TxOk.app (TxOk.app (TxOk.app (TxOk.app e0 (txt_okB hm)) (TxOk.of _)) (txt_okB hv)) (TxOk.of _)
  · have := txt_small hm
    have := txt_small hv
    unfold bdTxt
    rw [str_app_len, str_app_len, str_app_len, str_app_len, len_masks, len_edits]
    show 0 + _ + _ + _ + _ ≤ _
    omega
theorem gd_ed {e : Str × Option Nat} (h : EkOk e) : Gd (10 ^ 39) 120 1 (dEd e) := by
  have l4 : ∀ x : Str, (x = "add" ∨ x = "drop" ∨ x = "turn" ∨ x = "flip") → x.length ≤ 4 := fun x hx => by
    rcases hx with rfl | rfl | rfl | rfl <;> decide +kernel
  have gs : Gd (10 ^ 39) 42 0 (.str e.1) := gd_str (n := 4) (by rcases h.1 with e1 | e1 | e1 | e1 <;> (rw [e1]; exact TxOk.of _)) (l4 _ h.1)
  unfold dEd
  cases h2 : e.2 with
  | none => exact (GdAll.cons gs GdAll.nil).tuple.mono (Nat.le_refl _) (by omega) (Nat.le_refl _)
  | some m =>
    have := h.2 m h2
    exact (GdAll.cons gs (GdAll.cons (gd_int (i := (m : Int)) (by omega)) GdAll.nil)).tuple.mono (Nat.le_refl _) (by omega) (Nat.le_refl _)
theorem gd_eds : ∀ es : List (Str × Option Nat), (∀ e ∈ es, EkOk e) → GdAll (10 ^ 39) (122 * es.length) 1 (es.map dEd)
  | [], _ => GdAll.nil
  | e :: es, h => (GdAll.cons (gd_ed (h e List.mem_cons_self)) (gd_eds es fun y hy => h y (List.mem_cons_of_mem _ hy))).mono (Nat.le_refl _) (by rw [List.length_cons]; omega) (Nat.le_refl _)
theorem sh_seen {n : Nat} {p : Nat → Bool} {es : List (Str × Option Nat)} (hn : n ≤ 6) (he : ∀ e ∈ es, EkOk e) (l : es.length ≤ 60) : ShD (dSeen n p es) := by
  have hl := lot_len hn p
  have g0 := gd_lot (M := 10 ^ 39) (by decide) hn p
  have g1 : Gd (10 ^ 39) 62 2 (.int ((lotOf n p).length : Int)) := (gd_int (i := ((lotOf n p).length : Int)) (by omega)).mono (Nat.le_refl _) (by omega) (by omega)
  have g2 : Gd (10 ^ 39) 62 2 (.int (es.length : Int)) := (gd_int (i := (es.length : Int)) (by omega)).mono (Nat.le_refl _) (by omega) (by omega)
  have g3 : Gd (10 ^ 39) 7500 2 (.tuple (es.map dEd)) := (gd_eds es he).tuple.mono (Nat.le_refl _) (by omega) (by omega)
  obtain ⟨t1, t2⟩ := bdTxt_ok hl (show es.length ≤ 64 by omega)
  have g4 : Gd (10 ^ 39) 602 2 (.str (bdTxt (lotOf n p).length es.length)) := (gd_str (n := 60) t1 t2).mono (Nat.le_refl _) (by omega) (by omega)
  exact (GdAll.cons g0 (GdAll.cons g1 (GdAll.cons g2 (GdAll.cons g3 (GdAll.cons g2 (GdAll.cons g4 GdAll.nil)))))).list.shD (by decide) (by omega) (by decide)
theorem dzAll_eds {K : PySem.W.Frag} {H : Hp} : ∀ {es : List (Str × Option Nat)} {us : List V}, AllV (es.map isEd) H us → DzAll K H us (es.map dEd)
  | [], [], _ => .nil
  | e :: es, u :: us, h => by
    obtain ⟨⟨q, rfl, hq⟩, h2⟩ := (show isEd e H u ∧ AllV (es.map isEd) H us from h)
    refine .cons (.tup (SqT.of hq) (.cons (.str _) ?_)) (dzAll_eds h2)
    cases e.2 with
    | none => exact .nil
    | some m => exact .cons (.int _) .nil
theorem ev_doneD {K : PySem.W.Frag} {es : List (Str × Option Nat)} {t : TE} {σ : L2.St} {H : Hp} (a : Ev (isDone es) t σ H) : Ev (isD K (.tuple (es.map dEd))) t σ H := a.mono fun H z ⟨D, us, ez, hD, he⟩ => by
  rw [ez]
  exact .tup (SqT.of hD) (dzAll_eds he)
section
variable {X : Cx} {k : Nat} {C : Addr} {m : Str} {sp : Sp} {o : Expr} {ta : TE} {apos pos : Pos}
theorem pe_methR0 {pl : Sem Bool} (he : PE X o ta) (D : MethR X.prog X.w X.K X.mg X.base k C m sp) (hr : Room k X.A)
    (ht : eval (.Call (.Attribute o m apos) [] [] pos) X.env = (do let ov ← eval o X.env; standAt apos.atName; let (f, first) ← holding [ov] (getMethod ov m pl); callWith pos f first (backTo pos (starEach [] X.env)) (backToKw pos (keywordEach [] X.env))) := by rfl) :
    PE X (.Call (.Attribute o m apos) [] [] pos) (tMeth C m sp [] E0 ta tNil) := by
  obtain ⟨f, fd, ps, c, hm, F, b⟩ := D
  exact pe_meth0 (pl := pl) he c hm F hr b .nil pass0 ht
end
section
variable {K : PySem.W.Frag} {C : Addr} {b : Bd} {t : TE} {σ : L2.St} {H : Hp} {m : Str}
theorem ev_bmeth {F : Bd → RV} (hm : (m == ("lots" : Str) || (m == ("done" : Str) || (m == ("marked" : Str) || (m == ("busy" : Str) || m == ("rows" : Str))))) = false) (a : Ev (isBd C b) t σ H) : Ev (F b) (tMeth C m (spB1 C F) [] E0 t tNil) σ H := fun H1 s1 Q q =>
  a H1 s1 _ fun H2 x s2 ⟨a, ex, h⟩ => by
    obtain ⟨dx, T', D, R, vs, v, us, ws, ha, ht⟩ := id h
    exact ⟨a, dx, _, ex, ha, bd_look hm, a, b, by rw [ex]; rfl, h, fun H3 r s3 g => q _ _ (s2.trans s3) g⟩
theorem ev_blen (a : Ev (isBd C b) t σ H) (hl : b.es.length ≤ 60) : Ev (isV (.int (b.es.length : Int))) (tCB (rOwnLen C (spB1 C fun b => isV (.int (b.es.length : Int)))) (tCons t tNil)) σ H := fun H1 s1 Q q =>
  a H1 s1 _ fun H2 x s2 ⟨a, ex, h⟩ => by
    obtain ⟨dx, T', D, R, vs, v, us, ws, ha, ht⟩ := id h
    exact ⟨x, rfl, ⟨_, a, dx, ex, ha⟩, a, b, by rw [ex], h, fun H3 r s3 g => ⟨_, g, by omega, q _ _ (s2.trans s3) rfl⟩⟩
theorem ev_bstr {F : Bd → Str} (a : Ev (isBd C b) t σ H) : Ev (isV (.str (F b))) (tCB (rOwnStr C (spB1 C fun b => isV (.str (F b)))) (tCons t tNil)) σ H := fun H1 s1 Q q =>
  a H1 s1 _ fun H2 x s2 ⟨a, ex, h⟩ => by
    obtain ⟨dx, T', D, R, vs, v, us, ws, ha, ht⟩ := id h
    exact ⟨x, rfl, ⟨_, a, dx, ex, ha⟩, a, b, by rw [ex], h, fun H3 r s3 g => ⟨_, g, q _ _ (s2.trans s3) rfl⟩⟩
end
end XT
/-! digits_of -/
namespace XT
open PySem PySem.Spec PyProof.Rows L2
section
variable {P : Program} {w : World} {K : PySem.W.Frag} {mg : Str → Option Value} {base : Heap}
theorem scDo : FnScope ["mask", "width"] ["mask", "width"] (defScope sDigitsOf) := ⟨rfl, rfl, rfl, by decide +kernel, rfl, by decide +kernel, by decide +kernel⟩
def spDo : Sp := fun vs H Q _ => ∃ (m n : Nat), vs = [.int (m : Int), .int (n : Int)] ∧ m < 2 ^ 900 ∧ n ≤ 1000 ∧ Q (.str (digW m n)) H
theorem ok_do {f : Addr} {fd : FuncData} {k : Nat} (F : Fun K "digits_of" "digits_of" sDigitsOf f fd) : FnOk P w K mg base CX0 (k + 1) f fd ["mask", "width"] spDo := by
  refine F.ok scDo (fun vs H Q E h => ?_) (fun cdv A outer s H vs Q E hr h => ?_)
  · obtain ⟨m, n, rfl, _⟩ := h
    rfl
  · obtain ⟨m, n, rfl, hm, hn, q⟩ := h
    refine ⟨_, pss_one (ps_ret (pe_bm PySem.F.plainAttrs_str PySem.F.slot_str_zfill PySem.F.type_str_zfill mt_zfill (pe_joined1 (pe_fmtB (by decide +kernel) (pv 0))) (pa_cons (pv 1) pa_nil))), ?_⟩
    refine ⟨.int m, rfl, m, rfl, hm, rfl, .int (n : Int), rfl, binS m, (n : Int), rfl, rfl, ?_, q⟩
    exact PyProof.Rows.padOk_of (by omega) (by omega)
end
end XT
/-! patterns_of -/
namespace XT
open PySem PySem.Spec PyProof.Rows L2
section
variable {P : Program} {w : World} {K : PySem.W.Frag} {mg : Str → Option Value} {base : Heap}
abbrev nPo : List Str := ["lot", "width", "masks", "mask"]
theorem scPo : FnScope nPo ["lot"] (defScope sPatternsOf) := ⟨rfl, rfl, rfl, by decide +kernel, rfl, by decide +kernel, by decide +kernel⟩
/-- the digits of all masks of a lot -/
def patsL (n : Nat) (p : Nat → Bool) : List Str := (lotOf n p).map fun m => digW m n
def spPo : Sp := fun vs H Q _ => ∃ (v : V) (n : Nat) (p : Nat → Bool), vs = [v] ∧ LotAt H v n p ∧ n ≤ 6 ∧ ∀ H' T', Same H H' → H' T' = some (.tup ((patsL n p).map V.str)) → Q (.ref T') H'
theorem ok_po {f : Addr} {fd : FuncData} {k : Nat} (B : Bl mg) (F : Fun K "patterns_of" "patterns_of" sPatternsOf f fd) (dD : DefR P w K mg base 1 "digits_of" spDo) : FnOk P w K mg base CX0 (k + 2) f fd ["lot"] spPo := by
  refine F.ok scPo (fun vs H Q E h => ?_) (fun cdv A outer s H vs Q E hr h => ?_)
  · obtain ⟨v, n, p, rfl, _⟩ := h
    rfl
  · obtain ⟨v, n, p, rfl, ⟨x, y, rfl, hx, hy⟩, h6, q⟩ := h
    have hr1 : Room 1 (A.deeper (envOfC "patterns_of" (defScope sPatternsOf) s.heap.objs.size f cdv)) := hr.mono (by omega)
    refine ⟨_, pss_cons (ps_asg (pv 0) (pg_tup rfl (pgs_cons (pg_name (i := 1) scPo.nd rfl (by first | exact Or.inl rfl | exact Or.inr rfl)) (pgs_cons (pg_name (i := 2) scPo.nd rfl (by first | exact Or.inl rfl | exact Or.inr rfl)) pgs_nil))))
      (pss_one (ps_ret (pe_callTy cr_tupO (by rfl) B.tuple bT (pa_cons (pe_lc (own := [("mask", 3)]) (g := (gName 3)) (tt := tYes) (te := (tDf spDo (tCons (tVar 3) (tCons (tVar 1) tNil)))) rfl scPo.nd (pi_tup (pv 2)) (blkOk_by (own := [("mask", 3)]) (N := nPo) (sc := defScope sPatternsOf) (by decide +kernel))
          (fun _ _ _ _ _ => (pg_name (i := 3) scPo.nd rfl (Or.inl rfl))) (fun _ _ _ _ _ => pts_nil) (fun _ _ _ _ _ => pe_def dD hr1 (by rfl) (pa_cons (pv 3) (pa_cons (pv 1) pa_nil)))) pa_nil)))), ?_⟩
    have hl := lot_len h6 p
    refine ⟨.ref x, rfl, x, _, rfl, SqT.of hx, rfl, _, _, rfl, _, _, rfl, rfl, .ref y, rfl, y, rfl, ⟨_, SqT.of hy⟩, fun D nD => ?_⟩
    refine lcp_tup (K := K) (xs := vm (lotOf n p)) (p := fun _ => true) (f := fun v => match v with | .int i => .str (digW i.toNat n) | _ => .non) nD (SqT.of hy) (small64 (by rw [vm_len]; omega)) (fun i z H2 hz s2 R1 R2 r1 r2 => ?_) (fun H2 s2 hD => ?_)
    · obtain ⟨m, hm, rfl⟩ := mem_vm hz
      have hm2 := (mem_lot.mp (List.mem_of_getElem? hm)).1
      have h900 : m < 2 ^ 900 := Nat.lt_of_lt_of_le hm2 (Nat.pow_le_pow_right (by decide) (by omega))
      exact ⟨rfl, iteT (B := R1 H2) ⟨.int (m : Int), rfl, .int (n : Int), rfl, m, n, rfl, h900, by omega, r2 rfl _ (Same.refl _)⟩⟩
    rw [List.filter_eq_self.mpr (fun _ _ => rfl)] at hD
    have hD' : H2 D = some (.lst ((patsL n p).map V.str)) := by
      rw [hD]
      unfold patsL vm
      rw [List.map_map, List.map_map]
      rfl
    exact ⟨D, _, rfl, .inl ⟨SqL.of hD', fun T' nT' => q _ T' (s2.trans (same_new nT')) upd_same⟩⟩
end
end XT
/-! words_or_none, the text of a MaskSet -/
namespace XT
open PySem PySem.Spec PyProof.Rows L2
def wnTx (ws : List Str) : Str := if 0 < ws.length then Txt.join " " ws else "none"
/-- the text of a set -/
def msTxt (n : Nat) (p : Nat → Bool) : Str := ((Str.empty ++ Str.ofString (toString (n : Int))) ++ " bits: ") ++ wnTx (patsL n p)
theorem joinW_len (y : Str) (hy : y.length = 1) : ∀ ws : List Str, (Str.join y ws).length ≤ (ws.map (·.length)).sum + ws.length
  | [] => by show (0 : Nat) ≤ _; exact Nat.zero_le _
  | [x] => by show x.length ≤ _; simp
  | x :: z :: r => by
    have h := joinW_len y hy (z :: r)
    have e : Str.join y (x :: z :: r) = x ++ y ++ Str.join y (z :: r) := rfl
    rw [e, str_app_len, str_app_len, hy, List.map_cons, List.sum_cons, List.length_cons]
    omega
theorem joinW_ok {y : Str} (hy : TxOk y) : ∀ {ws : List Str}, (∀ w ∈ ws, TxOk w) → TxOk (Str.join y ws)
  | [], _ => fun c hc => absurd hc (by simp [Str.join, Str.empty])
  | [x], h => h x List.mem_cons_self
  | x :: z :: r, h => by
    have e : Str.join y (x :: z :: r) = x ++ y ++ Str.join y (z :: r) := rfl
    rw [e]
    exact TxOk.app (TxOk.app (h x List.mem_cons_self) hy) (joinW_ok hy fun w hw => h w (List.mem_cons_of_mem _ hw))
theorem pats_sum {n : Nat} (h6 : n ≤ 6) (h1 : 1 ≤ n) (p : Nat → Bool) : ((patsL n p).map (·.length)).sum + (patsL n p).length ≤ 460 := by
  have hl := lot_len h6 p
  have e : ∀ l : List Nat, (∀ m ∈ l, m < 2 ^ n) → ((l.map fun m => digW m n).map (·.length)).sum + (l.map fun m => digW m n).length ≤ 7 * l.length := fun l => by
    induction l with
    | nil => intro _; exact Nat.le_refl _
    | cons m l ih =>
      intro h
      have h2 := ih fun x hx => h x (List.mem_cons_of_mem _ hx)
      have h3 : (digW m n).length = n := digW_len h1 (h m List.mem_cons_self)
      simp only [List.map_cons, List.sum_cons, List.length_cons]
      rw [h3]
      omega
  have h := e (lotOf n p) fun m hm => (mem_lot.mp hm).1
  have := pow6 h6
  show ((patsL n p).map (·.length)).sum + (patsL n p).length ≤ _
  unfold patsL
  omega
theorem digW_ok {m n : Nat} (h1 : 1 ≤ n) (h : m < 2 ^ n) : TxOk (digW m n) := fun c hc => by
  rw [digW_bits h1 h] at hc
  obtain ⟨i, hi⟩ := List.getElem?_of_mem hc
  have hl : i < n := by
    have := (List.getElem?_eq_some_iff.mp hi).1
    rw [bitsL_len] at this
    exact this
  rw [bitsL_at n m i hl] at hi
  cases hi
  have := Nat.mod_lt (m / 2 ^ (n - 1 - i)) (show 0 < 2 by decide)
  show _ < 16 ^ 8
  omega
theorem msTxt_ok {n : Nat} {p : Nat → Bool} (h1 : 1 ≤ n) (h6 : n ≤ 6) : TxOk (msTxt n p) ∧ (wnTx (patsL n p)).length ≤ 470 ∧ (msTxt n p).length ≤ 600 := by
  have m1 : (" bits: " : Str).length = 7 := by
    have h : ((" bits: " : Str).length == 7) = true := by decide +kernel
    simpa using h
  have n1 := txt_small (n := n) (by omega)
  have n2 := pats_sum h6 h1 p
  have n3 : (wnTx (patsL n p)).length ≤ 470 := by
    unfold wnTx
    by_cases h0 : 0 < (patsL n p).length
    · rw [if_pos h0, TL.join_eq]
      have := joinW_len " " (by decide) (patsL n p)
      omega
    · rw [if_neg h0]
      exact Nat.le_of_ble_eq_true (by decide +kernel)
  refine ⟨?_, n3, ?_⟩
  · have e0 : TxOk Str.empty := fun c hc => absurd hc (by simp [Str.empty])
    refine TxOk.app (TxOk.app (TxOk.app e0 (txt_okB (by omega))) (TxOk.of _)) ?_
    unfold wnTx
    by_cases h0 : 0 < (patsL n p).length
    · rw [if_pos h0, TL.join_eq]
      refine joinW_ok (TxOk.of _) fun w hw => ?_
      obtain ⟨m, hm, rfl⟩ := List.mem_map.mp hw
      exact digW_ok h1 (mem_lot.mp hm).1
    · rw [if_neg h0]
      exact TxOk.of _
  · unfold msTxt
    rw [str_app_len, str_app_len, str_app_len, m1]
    show 0 + _ + _ + _ ≤ _
    omega
section
variable {P : Program} {w : World} {K : PySem.W.Frag} {mg : Str → Option Value} {base : Heap}
theorem scWn : FnScope ["words"] ["words"] (defScope sWordsOrNone) := ⟨rfl, rfl, rfl, by decide +kernel, rfl, by decide +kernel, by decide +kernel⟩
def spWn : Sp := fun vs H Q _ => ∃ (T : Addr) (ws : List Str), vs = [.ref T] ∧ H T = some (.tup (ws.map V.str)) ∧ (ws.map (·.length)).sum + ws.length ≤ 1000 ∧ Q (.str (wnTx ws)) H
theorem ok_wn {f : Addr} {fd : FuncData} {k : Nat} (B : Bl mg) (F : Fun K "words_or_none" "words_or_none" sWordsOrNone f fd) : FnOk P w K mg base CX0 (k + 1) f fd ["words"] spWn := by
  refine F.ok scWn (fun vs H Q E h => ?_) (fun cdv A outer s H vs Q E hr h => ?_)
  · obtain ⟨T, ws, rfl, _⟩ := h
    rfl
  · obtain ⟨T, ws, rfl, hT, hl, q⟩ := h
    refine ⟨_, pss_one (ps_ret (pe_ifExp (pt_cmpR op_gt (pe_callB call_len_seq (by rfl) B.len PySem.boot_len (pa_cons (pv 0) pa_nil)) pe_int (nomark _)) (pe_join pe_str (pv 0)) pe_str)), ?_⟩
    have hz : (ws.map V.str).length = ws.length := List.length_map ..
    refine ⟨.ref T, rfl, T, _, rfl, .inr (SqT.of hT), _, _, rfl, rfl, _, rfl, ?_⟩
    rw [hz]
    unfold wnTx at q
    by_cases h0 : 0 < ws.length
    · rw [if_pos h0] at q
      rw [if_pos (decide_eq_true (by omega))]
      exact ⟨⟨_, rfl⟩, .ref T, rfl, _, T, ws, rfl, rfl, .inr (SqT.of hT), by show _ + _ * 1 ≤ _; omega, q⟩
    · rw [if_neg h0] at q
      rw [if_neg (by simpa using h0)]
      exact q
theorem scMsStr : FnScope ["self"] ["self"] (defScope sMsStr) := ⟨rfl, rfl, rfl, by decide +kernel, rfl, by decide +kernel, by decide +kernel⟩
abbrev spMsStr (C : Addr) : Sp := spM1 C fun n p _ _ r => r = .str (msTxt n p)
theorem ok_msStr {f C : Addr} {fd : FuncData} {k : Nat} (F : Fun K "__str__" "MaskSet.__str__" sMsStr f fd) (dL : PropR P w K mg base 1 C "lot" (spMsLot C)) (dW : PropR P w K mg base 1 C "width" (spMsWidth C)) (dN : DefR P w K mg base 1 "words_or_none" spWn) (dP : DefR P w K mg base 2 "patterns_of" spPo) : FnOk P w K mg base CX0 (k + 5) f fd ["self"] (spMsStr C) := by
  refine F.ok scMsStr (fun vs H Q E h => ?_) (fun cdv A outer s H vs Q E hr h => ?_)
  · obtain ⟨z, v, n, p, rfl, _⟩ := h
    rfl
  · obtain ⟨z, v, n, p, rfl, hz, h1, h6, q⟩ := h
    refine ⟨_, pss_one (ps_ret (pe_joined (.cons (pe_fmt (pe_propR (pv 0) dW (hr.mono (by omega)))) (.cons pe_str (.cons (pe_fmt (pe_def dN (hr.mono (by omega)) (by rfl) (pa_cons (pe_def dP (hr.mono (by omega)) (by rfl) (pa_cons (pe_propR (pv 0) dL (hr.mono (by omega))) pa_nil)) pa_nil))) .nil))))), ?_⟩
    obtain ⟨a, dx, ez, ha⟩ := id hz.1
    have m0 : (Str.empty : Str).length = 0 := rfl
    have m1 : (" bits: " : Str).length = 7 := by
      have h : ((" bits: " : Str).length == 7) = true := by decide +kernel
      simpa using h
    have n1 := txt_small (n := n) (by omega)
    have n2 := pats_sum h6 h1 p
    have n3 := (msTxt_ok (p := p) h1 h6).2.1
    refine ⟨z, rfl, a, dx, _, ez, ha, z, v, n, p, by rw [ez], hz, h1, h6, fun H1 r s1 er => .inr ⟨_, er, log_smallB (by omega), _, rfl, szl (m := 2000) (by rw [str_app_len, m0]; omega) (by decide), _, rfl, szl (m := 2000) (by rw [str_app_len, str_app_len, m0, m1]; omega) (by decide), ?_⟩⟩
    have hz1 := hz.same s1
    obtain ⟨a', dx', ez', ha'⟩ := id hz1.1
    refine ⟨z, rfl, a', dx', _, ez', ha', z, v, n, p, by rw [ez'], hz1, h1, h6, fun H2 r2 s2 er2 => ?_⟩
    subst er2
    refine ⟨r2, n, p, rfl, (hz1.same s2).2, h6, fun H3 T s3 hT => ⟨T, _, rfl, hT, by omega, ?_⟩⟩
    refine .inl ⟨_, rfl, szl (m := 2000) (by omega) (by decide), _, rfl, szl (m := 2000) (by rw [str_app_len, str_app_len, str_app_len, m0, m1]; omega) (by decide), ?_⟩
    exact q _ _ ((s1.trans s2).trans s3) rfl
end
end XT
/-! texts of signs -/
namespace XT
open PySem PySem.Spec PyProof.Rows L2
theorem join_signs : ∀ cs : List Nat, (Str.join Str.empty (cs.map fun c => (⟨#[c]⟩ : Str))).cps.toList = cs
  | [] => rfl
  | [a] => rfl
  | a :: b :: r => by
    have ih := join_signs (b :: r)
    have e : Str.join Str.empty ((a :: b :: r).map fun c => (⟨#[c]⟩ : Str)) = (⟨#[a]⟩ : Str) ++ Str.empty ++ Str.join Str.empty ((b :: r).map fun c => (⟨#[c]⟩ : Str)) := rfl
    have ea : ∀ x y : Str, (x ++ y).cps.toList = x.cps.toList ++ y.cps.toList := fun x y => by
      show (x.cps ++ y.cps).toList = _
      simp
    rw [e, ea, ea, ih]
    rfl
theorem txt01 {k : Nat} (h : k < 2) : Str.ofString (toString ((k : Nat) : Int)) = ⟨#[48 + k]⟩ := by
  match k, h with
  | 0, _ => decide +kernel
  | 1, _ => decide +kernel
theorem ones_sum : ∀ cs : List Nat, ((cs.map fun c => (⟨#[c]⟩ : Str)).map (·.length)).sum = cs.length
  | [] => rfl
  | c :: cs => by
    rw [List.map_cons, List.map_cons, List.sum_cons, ones_sum cs, List.length_cons]
    show 1 + _ = _
    omega
theorem str_of_list {x y : Str} (h : x.cps.toList = y.cps.toList) : x = y := by
  cases x with
  | mk a =>
    cases y with
    | mk b =>
      have h : a.toList = b.toList := h
      rw [Array.toList_inj.mp h]
end XT
/-! text[::-1] -/
namespace XT
open PySem PySem.Spec PyProof.Rows L2
theorem picked_rev (x : Str) : Builtin.Str.strSliceIndices none none (-1) x.length = (List.range x.length).reverse := by
  have e : Builtin.Str.strSliceIndices none none (-1) x.length = sliceRange ((x.length : Int) - 1) (-1) (-1) := by
    unfold Builtin.Str.strSliceIndices
    rfl
  rw [e, ← PySem.W.krv_range]
  unfold sliceRange
  have h1 : ¬ ((-1 : Int) > 0) := by decide
  simp only [if_neg h1]
  have hc : (if (x.length : Int) - 1 > -1 then ((x.length : Int) - 1 - -1 - -1 - 1) / (- -1) else 0).toNat = x.length := by
    by_cases h : (x.length : Int) - 1 > -1
    · rw [if_pos h, show (- -1 : Int) = 1 by decide, Int.ediv_one]
      omega
    · rw [if_neg h]
      omega
  rw [hc]
  refine List.map_congr_left fun k hk => ?_
  have := List.mem_range.mp hk
  omega
section
variable {X : Cx} {e st : Expr} {te ts : TE} {pos p2 : Pos}
def tRevS (te ts : TE) : TE := fun σ H Q => te σ H fun x H1 => ts σ H1 fun y H2 => ∃ z : Str, x = .str z ∧ y = .int (-1) ∧ z.length ≤ sizeLine ∧ Q (.str ⟨z.cps.toList.reverse.toArray⟩) H2
theorem pe_revS (he : PE X e te) (hs : PE X st ts) : PE X (.Subscript e (.Slice none none (some st) p2) pos) (tRevS te ts) := by
  refine ⟨fun pins s σ H Q I h => ?_⟩
  refine Subscript_ (thn (he.run pins s σ H _ I h) fun v s1 ⟨x, H1, I1, r1, q1⟩ => ?_)
  refine wpAny_Slice ?_
  rw [evalPart_none]
  refine wpAny_pure ?_
  refine wpAny_pure ?_
  rw [evalPart_some]
  refine thn (hs.run pins s1 σ H1 _ I1 q1) fun u s3 ⟨y, H3, I3, r3, q3⟩ => ?_
  obtain ⟨z, rfl, rfl, hz, q⟩ := q3
  obtain ⟨tk, rfl⟩ := r3
  obtain ⟨tz, rfl⟩ := r1
  have I4 : Inv X pins σ H3 { s3 with heap := s3.heap.push { cls := .type "slice", data := .fields #[.none, .none, .int (-1) tk] } } := I3.kept (t' := s3.toks) fun b ob q => Heap.get?_push_of_some _ q
  show wpAny (model X.prog X.w) X.A (subscriptTail e (.Slice none none (some st) p2) (.str z tz) (.ref s3.heap.objs.size)) (EP X pins σ Q) X.xe { s3 with heap := s3.heap.push { cls := .type "slice", data := .fields #[.none, .none, .int (-1) tk] } }
  refine tail_any (ops := [.str z tz, .ref s3.heap.objs.size]) (typeIs_str _ _ _) PySem.F.slot_str_getitem.lookup ?_ (by with_unfolding_all rfl)
  refine wpAny_getItem_str_slice (l := none) (u := none) (st := some (-1, tk)) ⟨_, Heap.get?_push_size _ rfl, rfl, rfl⟩ rfl ?_
  have hm : sliceMade z tz none none (some (-1, tk)) = Made.str ⟨z.cps.toList.reverse.toArray⟩ := by
    unfold sliceMade
    rw [if_neg (by
      intro q
      rw [Bool.and_eq_true] at q
      exact absurd q.1 (show ¬ (((-1 : Int) == 1) = true) by decide))]
    congr 2
    show ((Builtin.Str.strSliceIndices none none (-1) z.length).filterMap (z.cps[·]?)).toArray = _
    rw [picked_rev, List.filterMap_reverse]
    show ((List.range z.cps.size).filterMap (z.cps[·]?)).reverse.toArray = _
    rw [PySem.W.krv_all]
  rw [hm]
  refine ⟨?_, .str _, H3, I4.tok _, ⟨_, rfl⟩, q⟩
  show z.cps.toList.reverse.toArray.size ≤ sizeLine
  rw [List.size_toArray, List.length_reverse, Array.length_toList]
  exact hz
end
end XT
/-! ''.join([str(m // (1 << j) % 2) for j in range(n)])[::-1] -/
namespace XT
open PySem PySem.Spec PyProof.Rows L2
abbrev rStrI : List V → Hp → VK → Prop := fun xs H Q => ∃ i : Int, xs = [.int i] ∧ i.natAbs.log2 < 1920 ∧ Q (.str (Str.ofString (toString i))) H
abbrev tBit (tm : TE) (j : Nat) : TE := tCB rStrI (tCons (tOp (rI (fun _ j => 0 < j) fun i j => .int (i % j)) (tOp (rI CDivW fun i j => .int (i / j)) tm (tOp (rI CPow fun i j => .int (i * 2 ^ j.toNat)) (tC (.int 1)) (tVar j))) (tC (.int 2))) tNil)
section
variable {σ : L2.St} {H : Hp} {K : PySem.W.Frag}
/-- [te for i in range(n)], the values given -/
theorem ev_lcRV {i n : Nat} {ta te : TE} (f : Nat → V) (hn : n ≤ 1000) (hw : ∀ z : V, wipe ((wipe σ [i]).set i (some z)) [i] = wipe σ [i]) (a : Ev (isV (.int (n : Int))) ta σ H)
    (b : ∀ (j : Nat) (H1 : Hp), j < n → Same H H1 → Ev (isV (f j)) te ((wipe σ [i]).set i (some (.int (j : Int)))) H1) : Ev (isLV ((List.range n).map f)) (tLc (iRng1 (tCons ta tNil)) (gName i) tYes te [i]) σ H := fun H1 s1 Q q =>
  a H1 s1 _ fun H2 x s2 ex => by
    subst ex
    refine ⟨(n : Int), rfl, by omega, by omega, fun D nD => ?_⟩
    refine lcp_range (n := n) (p := fun _ => true) (f := f) nD (small64 hn) (fun j H3 hj s3 => ?_) (fun H3 s3 hD => q _ _ (s2.trans s3) ⟨D, rfl, by rw [hD, List.filter_eq_self.mpr (fun _ _ => rfl)]⟩)
    intro R1 R2 r1 r2
    rw [Int.zero_add]
    refine ⟨hw _, iteT (B := R1 H3) (b j H3 hj ((s1.trans s2).trans s3) H3 (Same.refl _) _ fun H4 z s4 ez => ?_)⟩
    rw [ez]
    exact r2 rfl _ s4
theorem ev_bit {m k j : Nat} {tm : TE} (hk : k ≤ 60) (a : Ev (isV (.int (m : Int))) tm σ H) (hj : σ[j]? = some (some (.int (k : Int)))) : Ev (isV (.str ⟨#[48 + m / 2 ^ k % 2]⟩)) (tBit tm j) σ H := fun H1 s1 Q q =>
  a H1 s1 _ fun H2 x s2 ex => by
    have p0 : (0 : Int) < ((2 ^ k : Nat) : Int) := by have := pow0 k; omega
    have lt : (2 : Nat) ^ k < 2 ^ 61 := Nat.pow_lt_pow_right (by decide) (by omega)
    have ev : ((m : Int) / ((2 ^ k : Nat) : Int)) % 2 = ((m / 2 ^ k % 2 : Nat) : Int) := by
      rw [← Int.natCast_ediv]
      exact (Int.natCast_emod _ 2).symm
    refine ⟨_, hj, 1, _, rfl, rfl, ⟨by omega, by omega, by decide⟩, ?_⟩
    rw [show (fun (i j : Int) => V.int (i * 2 ^ j.toNat)) 1 ((k : Nat) : Int) = V.int ((2 ^ k : Nat) : Int) from congrArg V.int (shl1 k)]
    refine ⟨(m : Int), ((2 ^ k : Nat) : Int), ex, rfl, ⟨p0, ?_⟩, _, 2, rfl, rfl, (by decide : (0 : Int) < 2), ?_⟩
    · rw [Int.natAbs_natCast, Nat.log2_two_pow]
      omega
    show ∃ i', [V.int ((m : Int) / ((2 ^ k : Nat) : Int) % 2)] = [V.int i'] ∧ _
    rw [ev]
    have h2 := Nat.mod_lt (m / 2 ^ k) (show 0 < 2 by decide)
    refine ⟨_, rfl, ?_, ?_⟩
    · rw [Int.natAbs_natCast]
      exact Nat.lt_of_le_of_lt (Nat.log2_le_self _) (by omega)
    · rw [txt01 h2]
      exact q _ _ s2 rfl
/-- ''.join of given signs -/
theorem ev_joinC {cs : List Nat} {te : TE} {r : V → List V → Hp → VK → Prop} (hl : cs.length ≤ 1000) (a : Ev (isLV ((cs.map fun c => (⟨#[c]⟩ : Str)).map V.str)) te σ H)
    (hr : ∀ (cs : List Nat) p H Q, H p = some (.lst ((cs.map fun c => (⟨#[c]⟩ : Str)).map V.str)) → cs.length ≤ 1000 → Q (.str (Str.join Str.empty (cs.map fun c => (⟨#[c]⟩ : Str)))) H → r (.str "") [.ref p] H Q) : Ev (fun _ z => ∃ x : Str, z = .str x ∧ x.cps.toList = cs) (tM1 r (tC (.str "")) te) σ H := fun H1 s1 Q q =>
  ⟨⟨_, rfl⟩, a H1 s1 _ fun H2 z s2 ⟨D, ez, hD⟩ => by
    subst ez
    exact hr cs D H2 _ hD hl (q _ _ s2 ⟨_, rfl, join_signs _⟩)⟩
theorem ev_revS {cs : List Nat} {te ts : TE} (hl : cs.length ≤ 1000) (a : Ev (fun _ z => ∃ x : Str, z = .str x ∧ x.cps.toList = cs) te σ H) (b : ∀ H', Same H H' → Ev (isV (.int (-1))) ts σ H') : Ev (fun _ z => ∃ x : Str, z = .str x ∧ x.cps.toList = cs.reverse) (tRevS te ts) σ H := fun H1 s1 Q q =>
  a H1 s1 _ fun H2 z s2 ⟨x, ez, hx⟩ => b H2 (s1.trans s2) H2 (Same.refl _) _ fun H3 y s3 ey => ⟨x, ez, ey, szl (m := 1000) (by
    show x.cps.size ≤ 1000
    rw [← Array.length_toList, hx]
    exact hl) (by decide), q _ _ (s2.trans s3) ⟨_, rfl, by rw [← hx]⟩⟩
theorem bits_rev (n m : Nat) : ((List.range n).map fun k => 48 + m / 2 ^ k % 2).reverse = bitsL n m := by
  refine List.ext_getElem? fun i => ?_
  rcases Nat.lt_or_ge i n with h | h
  · rw [List.getElem?_reverse (by rw [List.length_map, List.length_range]; exact h), List.length_map, List.length_range, List.getElem?_map, List.getElem?_range (by omega), bitsL_at n m i h]
    rfl
  · rw [List.getElem?_eq_none (by rw [List.length_reverse, List.length_map, List.length_range]; exact h), List.getElem?_eq_none (by rw [bitsL_len]; exact h)]
/-- the digits of m, the highest first -/
theorem ev_digR {n m j : Nat} {tm tn ts : TE} {r : V → List V → Hp → VK → Prop} (hn : n ≤ 60) (hw : ∀ z : V, wipe ((wipe σ [j]).set j (some z)) [j] = wipe σ [j]) (hj : ∀ z : V, ((wipe σ [j]).set j (some z))[j]? = some (some z)) (a : Ev (isV (.int (n : Int))) tn σ H)
    (b : ∀ (k : Nat) (H1 : Hp), Same H H1 → Ev (isV (.int (m : Int))) tm ((wipe σ [j]).set j (some (.int (k : Int)))) H1)
    (hr : ∀ (cs : List Nat) p H Q, H p = some (.lst ((cs.map fun c => (⟨#[c]⟩ : Str)).map V.str)) → cs.length ≤ 1000 → Q (.str (Str.join Str.empty (cs.map fun c => (⟨#[c]⟩ : Str)))) H → r (.str "") [.ref p] H Q)
    (c : ∀ H', Same H H' → Ev (isV (.int (-1))) ts σ H') : Ev (fun _ z => ∃ x : Str, z = .str x ∧ x.cps.toList = bitsL n m) (tRevS (tM1 r (tC (.str "")) (tLc (iRng1 (tCons tn tNil)) (gName j) tYes (tBit tm j) [j])) ts) σ H := by
  rw [← bits_rev n m]
  refine ev_revS (by rw [List.length_map, List.length_range]; omega) (ev_joinC (by rw [List.length_map, List.length_range]; omega) ?_ hr) c
  have := ev_lcRV (σ := σ) (H := H) (i := j) (n := n) (te := tBit tm j) (fun k => .str ⟨#[48 + m / 2 ^ k % 2]⟩) (by omega) hw a (fun k H1 hk s1 => ev_bit (by omega) (b k H1 s1) (hj _))
  rw [List.map_map, List.map_map]
  exact this
end
end XT
/-! an own exception class over any of the built-in ones that have their facts, its __init__ walked as a def -/
namespace XT
open PySem PySem.Spec PyProof.Rows L2
structure OexG (K : PySem.W.Frag) (C : Addr) : Prop where
  cls : ∃ (B newId initId : String) (bmB : List Value) (nm q : Str) (N : Addr) (bs bm : List Value) (sn : List Str) (sub : List Value) (ab : Bool) (col : Option Bool) (dd : Option Addr) (k0 k1 k2 k3 k5 : Option Value),
    ExcBaseFacts B newId initId bmB ∧ K.lookup C = some (excClassObj nm q C N bs bm true sn sub ab col dd k0 k1 k2 k3 k5 newId) ∧ PySem.W.excTail bmB bm = true ∧ (∀ self, refuseLoop self "__setattr__" bmB = pure ()) ∧ bmB.contains (.type "object") = true
  sa : PySem.W.findIn K (.ref C) "__setattr__" = some (some (.builtin "object.__setattr__"))
  exC : PySem.W.subIn K (.ref C) (.type "BaseException") = some true
  tyC : PySem.W.typeIn K (.ref C) = some (.type "type")
  kC : PySem.W.keepIn K (.ref C) = true
section
open Builtin Builtin.ObjectAttr PySem.HandSPX
variable {prog : Program} {w : World} {A : Around} {E : Value → Shared → Prop} {R : Result → Shared → Prop} {hp : Heap} {g : Array GenState} {d : Drawn} {t : Nat} {os : OsState}
/-- the first field of an exception, whatever built-in class stands under its own -/
theorem osaG {K : W.Frag} {name : Str} {tk : Tok} {v : Value} {x C : Addr} {fv : Array Value} {cd : ClassData}
    (X : K.In hp) (hx : hp.get? x = some { cls := .ref C, data := .fields fv }) (hcd : W.clsIn K C = some cd) (ne : cd.mro.isEmpty = false) (hob : cd.mro.contains (.type "object") = true) (hpass : ∀ self, refuseLoop self "__setattr__" cd.mro = pure ()) (hh : cd.hasDict = true) (ha : W.findIn K (.ref C) name = some none)
    (hq : ∀ h' tk' dx, (∀ b o, b ≠ x → hp.get? b = some o → h'.get? b = some o) → hp.objs.size ≤ dx → dx ≠ x → h'.get? x = some { cls := .ref C, dict := some dx, data := .fields fv } →
      h'.Ns1 dx (fun y => if y = name then some v else none) → R (.ok (.ret .none)) ⟨h', g, d, tk', os⟩) :
    codeAny (model prog w) A (.call (.builtin "object.__setattr__") ⟨[.ref x, .str name tk, v], []⟩) R ⟨hp, g, d, t, os⟩ := by
  have I : W.InstAt hp x { cls := .ref C, data := .fields fv } C none := ⟨hx, rfl, rfl, trivial⟩
  have SF := F.store_object
  have hxs : x ≠ hp.objs.size := Nat.ne_of_lt (Heap.lt_size hx)
  have sub : W.Looks (model prog w) hp (isInstance (.ref x) (.type "object")) true := I.type.andThen (W.looks_mroIn X (by unfold W.mroIn; rw [hcd, Option.bind_some, if_neg (by rw [ne]; decide), hob]))
  refine codeAny_call_builtin SF.slot.plain SF.entry (@W.check_slot (model prog w) _ _ ⟨hp, g, d, t, os⟩ "object.__setattr__" "object" "__setattr__" (.ref x) [.str name tk, v] [] _ SF.kind SF.split sub (SF.args (.ref x) (.str name tk) v) ?_)
  have hmr : W.Looks (model prog w) hp (mroOf (.ref C)) cd.mro := (W.looks_clsIn X hcd).andThen .now
  have L3 : W.Looks (model prog w) hp (storeTaker? none) none := .now
  have hcls : W.Looks (model prog w) hp (classData C) cd := W.looks_clsIn X hcd
  rw [W.osa_eq, refuse_eq]
  refine wpAny_bind (wpAny_bind (I.type.at (wpAny_bind (hmr.at ?_))))
  rw [hpass]
  refine wpAny_pure (wpAny_bind (I.type.at (wpAny_bind ((W.looks_findIn X ha).at (wpAny_bind (L3.at ?_))))))
  show wpAny _ _ (storeInOwnDict (.ref x) (.ref C) (.str name tk) name v false) _ _ _
  obtain ⟨nm, bs, mro, ns, qn, hd, sn, sb, ab, col, del⟩ := cd
  dsimp only at hh
  subst hh
  unfold storeInOwnDict ownDictForStores
  repeat (first | with_reducible refine store_in_new ?_ ?_ | with_reducible refine wpAny_loadPart_at hx ?_ | with_reducible refine hcls.at ?_ | wp_step)
  · exact ⟨_, #[], _, (Heap.get?_update_ne _ _ _ _ hxs.symm).trans (Heap.get?_push_at rfl rfl), rfl, fun e he => absurd he (by simp), fun _ => rfl⟩
  · intro h' tk' hn' hs
    have hx₁ : (hp.push { cls := .type "dict", data := .dict #[] }).get? x = some { cls := .ref C, data := .fields fv } := Heap.get?_push_of_some _ hx
    refine hq h' tk' hp.objs.size (fun b o hb ho => ?_) (Nat.le_refl _) hxs.symm ?_ hn'
    · exact (hs.2 b (Nat.ne_of_lt (Heap.lt_size ho))).trans ((Heap.get?_update_ne _ _ _ _ hb).trans (Heap.get?_push_of_some _ ho))
    · exact (hs.2 x hxs).trans (Heap.get?_update_self _ hx₁ rfl)
end
section
variable {X : Cx} {pins : List (Addr × Obj)} {σ : L2.St} {H : Hp} {s : Shared} {a C dx : Addr} {f : Str} {y : V} {u : Value} {fs : List (Str × V)} {Q : Unit → Shared → Prop} {E : Value → Shared → Prop} {A : Around}
theorem ostG (T : OexG X.K C) (I : Inv X pins σ H s) (e : H a = some (exo a C none)) (hno : PySem.W.findIn X.K (.ref C) f = some none) (ry : RelV y u)
    (h : ∀ dx s', H dx = none → dx ≠ a → Inv X pins σ (upd (upd H dx (exd dx [(f, y)])) a (exo a C (some dx))) s' → Q () s') : wpAny (model X.prog X.w) A (setAttr (.ref a) f u) Q E s := by
  obtain ⟨Bn, newId, initId, bmB, nm, q, N, bs, bm, sn, sub, ab, col, dd, k0, k1, k2, k3, k5, FB, hC, hbm, hpass, hob⟩ := T.cls
  have hcl : PySem.W.clsIn X.K C = some { name := nm, bases := bs, mro := .ref C :: bm, ns := N, qualname := q, hasDict := true, slotNames := sn, subclasses := sub, abstract := ab, collection := col, hasDel := false } := by unfold PySem.W.clsIn; rw [hC] <;> rfl
  obtain ⟨t1, ho⟩ := exo_at I.hok e
  obtain ⟨hp, g, d, t, os⟩ := s
  have hT : PySem.W.excTail bmB (.ref C :: bm) = true := hbm
  refine PySem.W.set_plain I.kIn (ox := { cls := .ref C, dict := none, data := .fields #[.ref t1, .none, .none, .none, .bool false, .none] }) (od := none) ⟨ho, rfl, rfl, trivial⟩ T.sa ?_
  refine osaG I.kIn ho hcl rfl ((PySem.W.excTail_contains "object" _ hT).trans hob) (fun self => PySem.W.excTail_pass self (hpass self) _ hT) rfl hno (fun h' tk' dx k dn dne hx hn => ?_)
  have hnd : H dx = none := I.hok.fresh dn
  have nd : ∀ {b : Addr} {o : Obj}, hp.get? b = some o → b ≠ dx := fun {b o} q => Nat.ne_of_lt (Nat.lt_of_lt_of_le (Heap.lt_size q) dn)
  have na : ∀ {b : Addr}, H b = none → b ≠ a := fun {b} n z => by
    rw [z, e] at n
    cases n
  have Un1 : Un X.fs [] H (upd (upd H dx (exd dx [(f, y)])) a (exo a C (some dx))) hp h' := {
    keep := fun b o q n _ _ => k b o (na n) q
    slot := fun b o q n _ _ => ⟨o.slots, k b o (na n) q⟩
    free := fun b o q n _ => by rw [upd_ne (na n), upd_ne (nd q)]; exact n
    there := fun b o q _ => by
      by_cases hb : b = a
      · exact ⟨_, by rw [hb]; exact hx⟩
      · exact ⟨o, k b o hb q⟩
    tups := fun b xs q => by rw [upd_ne (at_ne e q exo_tup), upd_ne (ne_of_none q hnd)]; exact q
    frzs := fun b o v q => by rw [upd_ne (at_ne e q exo_frz), upd_ne (ne_of_none q hnd)]; exact q
    tbls := fun b ps q => ⟨#[], by rw [upd_ne (at_ne e q exo_tbl), upd_ne (ne_of_none q hnd), q]; simp⟩ }
  refine h dx _ hnd dne (I.un (t' := tk') Un1 fun b o q => ?_)
  by_cases hb : b = a
  · subst hb
    rw [upd_same] at q
    cases q
    exact exo_ok hx
  · rw [upd_ne hb] at q
    by_cases hd : b = dx
    · subst hd
      rw [upd_same] at q
      cases q
      exact exd_ok hn (relO_put (fs := []) ry fun g => True.intro)
    · rw [upd_ne hd] at q
      exact (I.hok b o q).stay (fun c v hc z => k c v (by
          rcases hc with hc | hc
          · rw [hc]
            exact hb
          · exact at_ne e hc exo_own) z)
        (fun c hc => by rw [upd_ne (at_ne e hc exo_own), upd_ne (ne_of_none hc hnd)]; exact hc) (fun c xs hc => by rw [upd_ne (at_ne e hc exo_tup), upd_ne (ne_of_none hc hnd)]; exact hc)
end
/-- self.f = e, the first field -/
def tOsG (K : PySem.W.Frag) (f : Str) (to te : TE) : TS := fun D σ H => te σ H fun y H1 => to σ H1 fun x H2 => ∃ a C : Addr, x = .ref a ∧ OexG K C ∧ PySem.W.findIn K (.ref C) f = some none ∧
  H2 a = some (exo a C none) ∧ ∀ dx, H2 dx = none → dx ≠ a → D.nx σ (upd (upd H2 dx (exd dx [(f, y)])) a (exo a C (some dx)))
section
variable {X : Cx} {o e : Expr} {es : List Expr} {to te : TE} {ta : TA} {f : Str} {p p' p1 p2 pos : Pos}
theorem ps_ostG (ho : PE X o to) (he : PE X e te) (hs : swapsWith e (some (.Attribute o f p')) pos.line X.env = pure false := by rfl) : PS X (.Assign [.Attribute o f p'] e pos) (tOsG X.K f to te) := by
  refine ⟨fun pins s σ H D I h => ?_⟩
  refine plainObj_wpAny_Assign_Attribute (thn (he.run pins s σ H _ I h) fun v s1 ⟨y, H1, I1, r1, q1⟩ => thn (ho.run pins s1 σ H1 _ I1 q1) fun u s2 ⟨x, H2, I2, r2, a, C, ex, T, hno, ea, q⟩ => ?_) hs
  subst ex
  obtain rfl : u = Value.ref a := r2
  exact ostG T I2 ea hno r1 fun dx s' n ne J => ⟨σ, _, J, q dx n ne⟩
theorem pmk_oexG {CX : CXT} {x : Str} {C fI : Addr} {k : Nat} {fd : FuncData} {ps : List Str} {sp : Sp} {ds : List Value} {dvs : List V} (T : OexG X.K C) (iC : PySem.W.findIn X.K (.ref C) "__init__" = some (some (.ref fI))) (tI : PySem.W.typeIn X.K (.ref fI) = some (.type "function"))
    (F1 : FnOk X.prog X.w X.K X.mg X.base CX k fI fd ps sp) (hr : Room (k + 1) X.A) (hb : Binds X.K fd ps ds) (hd : Vals dvs ds) (hx : Passes CX X (fun _ _ _ => False)) (hg : Gl X x) (hm : X.mg x = some (.ref C)) (ha : PA X (e :: es) ta)
    (hdb : (x == ("__debug__" : Str)) = false := by decide) (he : starEach (e :: es) X.env = (false, eval e X.env) :: starEach es X.env := by rfl) (hpl : (backTo pos (starEach es X.env)).any (·.1) = false := by rfl) :
    PMk X (.Call (.Name x p) (e :: es) [] pos) (tMkO C sp dvs ta) := by
  intro pins s σ H Q I h
  obtain ⟨Bn, newId, initId, bmB, nm, q, N, bs, bm, sn, sub, ab, col, dd, k0, k1, k2, k3, k5, FB, hC, hbm, hpass, hob⟩ := T.cls
  refine wpAny_Call_Name_kw (ld_glob I hg hm ?_ hdb)
  refine PySem.W.callWith_K (h₀ := X.base) I.ok.mod.kin T.kC (thn (ha.run pos pins s σ H _ I h) fun us s1 ⟨vs, H1, I1, r1, hz, q1⟩ => ⟨I1.kIn, ?_⟩) he hpl
  show wpAny _ _ (call (.ref C) us) _ _ _
  obtain ⟨hp, g, dr, tk, os⟩ := s1
  have hsz : hp.objs.size ≤ hp.objs.size + 1 := Nat.le_succ _
  have hn : H1 (hp.objs.size + 1) = none := I1.hok.fresh hsz
  have hq := q1 (hp.objs.size + 1) hn
  have kk : ∀ b o, hp.get? b = some o → ((hp.push (PySem.W.kdv_tup us)).push (PySem.HandSPX.excO C hp.objs.size)).get? b = some o := fun b o e => Heap.get?_push_of_some _ (Heap.get?_push_of_some _ e)
  have hget : ((hp.push (PySem.W.kdv_tup us)).push (PySem.HandSPX.excO C hp.objs.size)).get? (hp.objs.size + 1) = some (PySem.HandSPX.excO C hp.objs.size) := by heap_get
  have I2 : Inv X pins σ (upd H1 (hp.objs.size + 1) (exo (hp.objs.size + 1) C none)) ⟨(hp.push (PySem.W.kdv_tup us)).push (PySem.HandSPX.excO C hp.objs.size), g, dr, tk, os⟩ :=
    I1.laid (t' := tk) (a := hp.objs.size + 1) (o := exo (hp.objs.size + 1) C none) (h' := (hp.push (PySem.W.kdv_tup us)).push (PySem.HandSPX.excO C hp.objs.size)) kk hsz (exo_ok hget)
  have r2 : Vals (V.ref (hp.objs.size + 1) :: (vs ++ dvs)) (Value.ref (hp.objs.size + 1) :: (us ++ ds)) := .cons rfl (r1.append hd)
  have hl : (Value.ref (hp.objs.size + 1) :: us ++ ds).length = ps.length := by
    have e := r2.length
    rw [F1.len _ _ _ _ hq] at e
    exact e.symm
  have hus : us.length ≤ sizeLine := by
    rw [← Paired.length r1, sizeLine_eq]
    omega
  refine wpAny_call (PySem.HandSPX.call_own FB (fun Y => PySem.W.excTail_contains Y bm hbm) (I1.kIn _ _ hC) (PySem.W.looks_findIn I1.kIn iC) (fun self => PySem.W.bind_fn I1.kIn self tI) hus
    (codeAny_mono (F1.run _ X.stack _ _ ⟨Value.ref (hp.objs.size + 1) :: us, []⟩ (Value.ref (hp.objs.size + 1) :: (us ++ ds)) _ _ (fun _ _ _ => False) (hr.make C us []) (I2.env0.make C us []) (hb _ (Value.ref (hp.objs.size + 1) :: us) I2.kIn hl) r2 hq) fun r s' hq' => ?_))
  cases r with
  | error er => exact hx pins σ _ _ er s' I2 hq'
  | ok fl =>
    cases fl with
    | ret u =>
      obtain ⟨v, H2, os2, bare2, un2, hok2, rv, ev, d, fs, ea, ed, hd1, q2⟩ := hq'
      subst ev
      obtain ⟨h2, g2, d2, t2, os'⟩ := s'
      exact ⟨rv, mk_end (raises_own T.exC T.tyC) I1 hsz kk un2 hok2 os2 bare2 ea ed hd1 q2⟩
    | next => exact False.elim hq'
    | brk => exact False.elim hq'
    | cont => exact False.elim hq'
end
end XT
/-! own errors with one field, over any built-in class -/
namespace XT
open PySem PySem.Spec PyProof.Rows L2
def spInitG (C : Addr) (f : Str) : Sp := fun vs H Q _ => ∃ (a : Addr) (y : V), vs = [.ref a, y] ∧ H a = some (exo a C none) ∧ ∀ dx, H dx = none → dx ≠ a → Q .non (upd (upd H dx (exd dx [(f, y)])) a (exo a C (some dx)))
structure ErrG (P : Program) (w : World) (K : PySem.W.Frag) (mg : Str → Option Value) (base : Heap) (x f : Str) (C : Addr) : Prop where
  T : OexG K C
  no : PySem.W.findIn K (.ref C) f = some none
  ini : ∃ (fI : Addr) (fd : FuncData) (ps : List Str), PySem.W.findIn K (.ref C) "__init__" = some (some (.ref fI)) ∧ PySem.W.typeIn K (.ref fI) = some (.type "function") ∧ FnOk P w K mg base CX0 1 fI fd ps (spInitG C f) ∧ Binds K fd ps []
  hm : mg x = some (.ref C)
section
variable {X : Cx} {C : Addr} {x f : Str} {e : Expr} {ta : TA} {p pos : Pos}
theorem pmk_errG (R : ErrG X.prog X.w X.K X.mg X.base x f C) (hr : Room 2 X.A) (hg : Gl X x) (ha : PA X [e] ta)
    (hdb : (x == ("__debug__" : Str)) = false := by decide) (he : starEach [e] X.env = (false, eval e X.env) :: starEach [] X.env := by rfl) (hpl : (backTo pos (starEach [] X.env)).any (·.1) = false := by rfl) :
    PMk X (.Call (.Name x p) [e] [] pos) (tMkO C (spInitG C f) [] ta) := by
  obtain ⟨fI, fd, ps, hi, ht, F, hb⟩ := R.ini
  exact pmk_oexG (CX := CX0) (k := 1) (dvs := []) (ds := []) R.T hi ht F hr hb .nil pass0 hg R.hm ha hdb he hpl
theorem mkoG_in {H1 : Hp} {Q : XK} {y : V} (h : ∀ H' d, Same H1 H' → H' d = some (.xd [(f, y)]) → Q (.ref C) (some d) H') :
    [y].length ≤ 1000 ∧ ∀ a, H1 a = none → spInitG C f (.ref a :: ([y] ++ [])) (upd H1 a (exo a C none))
      (fun v H2 => v = .non ∧ ∃ (d : Addr) (fs : List (Str × V)), H2 a = some (exo a C (some d)) ∧ H2 d = some (exd d fs) ∧ H1 d = none ∧ Q (.ref C) (some d) (upd (del H2 a) d (.xd fs))) (fun _ _ _ => False) := by
  refine ⟨by simp, fun a n => ⟨a, y, rfl, upd_same, fun dx nd ne => ⟨rfl, dx, [(f, y)], upd_same, ?_, ?_, ?_⟩⟩⟩
  · exact (upd_ne ne).trans upd_same
  · rw [upd_ne ne] at nd
    exact nd
  · rw [upd_ne ne] at nd
    exact h _ dx (same_xd n nd ne) upd_same
end
/-- a caught error with a field -/
structure CauG (K : PySem.W.Frag) (mg : Str → Option Value) (x f : Str) (C : Addr) : Prop where
  is : IsC K C
  xf : XfC K C
  no : PySem.W.findIn K (.ref C) f = some none
  hm : mg x = some (.ref C)
  exm : PySem.W.exmOne K (.ref C) (.ref C) = some true
theorem bLE : bootBuiltins "LookupError" = some (.type "LookupError") := by decide +kernel
theorem bVE : bootBuiltins "ValueError" = some (.type "ValueError") := by decide +kernel
end XT
/-! list.count at flat values -/
namespace XT
open PySem PySem.Spec PyProof.Rows L2
section
variable {X : Cx}
theorem count_eqU {x : V} : ∀ {xs : List V} {us : List Value}, Vals xs us → xs.all flatV = true → us.countP (eqU x) = xs.countP fun y => eqV y x
  | [], _, h, _ => by
    cases h
    rfl
  | y :: xs, _, h, f => by
    cases h with
    | cons r t =>
      rw [List.all_cons, Bool.and_eq_true] at f
      rw [List.countP_cons, List.countP_cons, count_eqU t f.2, eqU_of r f.1]
def rCntF (K : PySem.W.Frag) : V → List V → Hp → VK → Prop := fun x xs H Q => ∃ (p : Addr) (ys : List V) (y : V), x = .ref p ∧ xs = [y] ∧ SqL K H p ys ∧ flatV y = true ∧ ys.all flatV = true ∧ Q (.int (ys.countP (fun z => eqV z y) : Nat)) H
theorem mt_lcountF : MtR X "list.count" (rCntF X.K) := by
  intro pins s σ H x xs v us Q I rx rxs h
  obtain ⟨p, ys, y, rfl, rfl, hs, fy, fys, q⟩ := h
  cases rx
  obtain ⟨u, rfl, ru⟩ := rxs.one
  obtain ⟨its, rv, ⟨⟨cls, dd, data, sl⟩, n, ho, hc, hdn, hd⟩, hlen⟩ := I.list hs
  simp only at hc hd
  subst hc hd
  refine call_meets PySem.F.slot_list_count ⟨_, ho, rfl⟩ PySem.F.entry_list_count (PySem.F.args_list_count_2 _ _)
    (SeqAt.list_countAt p its.toArray n dd sl u (eqU y)) ⟨ho, fun u' hu' => mem_eqAt ru fy rv fys u' (by simpa using hu'), ?_⟩
  have ec : its.toArray.toList.countP (eqU y) = ys.countP fun z => eqV z y := count_eqU rv fys
  refine ⟨.int (ys.countP (fun z => eqV z y) : Nat), H, I.tok _, ⟨s.toks, ?_⟩, q⟩
  show Value.int ((its.toArray.toList.countP (eqU y) : Nat) : Int) s.toks = Value.int ((ys.countP (fun z => eqV z y) : Nat) : Int) s.toks
  rw [ec]
end
end XT
/-! isinstance of a caught error by Ev; lists of given values -/
namespace XT
open PySem PySem.Spec PyProof.Rows L2
/-- a class that is the j-th of the sixteen, and no other -/
abbrev NmI (K : PySem.W.Frag) (mg : Str → Option Value) (D : Addr) (x : Str) (b : Bool) : Prop := ∃ c : Addr, mg x = some (.ref c) ∧ PySem.W.kitOne K (.ref D) (.ref c) = some b
theorem kit_self {K : PySem.W.Frag} {D : Addr} {b : Bool} (h : b = true := by rfl) : PySem.W.kitOne K (.ref D) (.ref D) = some b := by
  subst h
  unfold PySem.W.kitOne
  rw [if_pos (by simp)]
section
variable {K : PySem.W.Frag} {D a dd : Addr} {cls : Value} {d : Option Addr} {fs : List (Str × V)} {c : Addr} {b : Bool} {σ : L2.St} {H : Hp}
theorem ev_isi (h0 : σ[0]? = some (some (.ref a))) (ec : cls = .ref D) (ed : d = some dd) (hd : H dd = some (.xd fs)) (hk : PySem.W.kitOne K (.ref D) (.ref c) = some b) : Ev (isB b) (tCB (rIsD K D a cls d) (tCons (tVar 0) (tCons (tC (.ref c)) tNil))) σ H := fun H1 s1 Q q =>
  ⟨_, h0, .ref c, .ref c, b, dd, fs, rfl, .own _, ec, ed, s1 _ _ hd, hk, q _ _ (Same.refl _) rfl⟩
theorem ev_isy {T : String} (h0 : σ[0]? = some (some (.ref a))) (ec : cls = .ref D) (ed : d = some dd) (hd : H dd = some (.xd fs)) (hk : PySem.W.kitOne K (.ref D) (.type T) = some b) : Ev (isB b) (tCB (rIsD K D a cls d) (tCons (tVar 0) (tCons (tC (.ty T)) tNil))) σ H := fun H1 s1 Q q =>
  ⟨_, h0, .ty T, .type T, b, dd, fs, rfl, .ty _, ec, ed, s1 _ _ hd, hk, q _ _ (Same.refl _) rfl⟩
end
def tStrs : List Str → TA
  | [] => tNil
  | x :: xs => tCons (tC (.str x)) (tStrs xs)
abbrev isStrs (xs : List Str) : List RV := xs.map fun x => isV (.str x)
theorem styA_v : ∀ vs : List V, StyA (vs.map isV) := fun vs => styA_map (fun v => sty_v v) vs
theorem eva_strs {σ : L2.St} {H : Hp} : ∀ xs : List Str, EvA ((xs.map V.str).map isV) (tStrs xs) σ H
  | [] => eva_nil
  | x :: xs => eva_cons (sty_v _) (ev_c _) (eva_strs xs)
/-- a list of given values -/
abbrev isLv (vs : List V) : RV := fun H z => ∃ L, z = .ref L ∧ H L = some (.lst vs)
theorem allV_v : ∀ {vs us : List V} {H : Hp}, AllV (vs.map isV) H us → us = vs
  | [], [], _, _ => rfl
  | v :: vs, u :: us, _, h => by
    obtain ⟨e, h⟩ := h
    rw [allV_v h]
    exact congrArg (· :: vs) e
theorem ev_lv {vs : List V} {ta : TA} {σ : L2.St} {H : Hp} (hl : vs.length ≤ 1000) (a : EvA (vs.map isV) ta σ H) : Ev (isLv vs) (tLst ta) σ H := (ev_lst (styA_v vs) (by rw [List.length_map]; exact hl) a).mono fun H z ⟨L, us, e, hL, g⟩ => ⟨L, e, by rw [hL, allV_v g]⟩
theorem sty_lv (vs : List V) : Sty (isLv vs) := fun _ _ _ e ⟨L, ez, hL⟩ => ⟨L, ez, e _ _ hL⟩
theorem of_catv {vs us : List V} (hl : vs.length + us.length ≤ 1000) : OpF (isLv vs) (isLv us) rCat (isLv (vs ++ us)) := fun H x y ⟨L, ex, hL⟩ ⟨L', ey, hL'⟩ Q q =>
  ⟨L, L', vs, us, ex, ey, hL, hL', sz hl, fun p np => q _ _ (same_new np) ⟨p, rfl, upd_same⟩⟩
section
variable {K : PySem.W.Frag} {vs : List V} {t : TE} {σ : L2.St} {H : Hp}
theorem ev_cntT (f : vs.all flatV = true) (a : Ev (isLv vs) t σ H) : Ev (isV (.int ((vs.countP fun z => eqV z (.bl true)) : Nat))) (tBM K "list" (rCntF K) t (tCons (tC (.bl true)) tNil)) σ H := fun H1 s1 Q q =>
  a H1 s1 _ fun H2 x s2 ⟨L, ex, hL⟩ => by
    subst ex
    exact ⟨.inl ⟨rfl, _, SqL.of hL⟩, L, vs, .bl true, rfl, rfl, SqL.of hL, rfl, f, q _ _ s2 rfl⟩
theorem ev_idxT {j : Nat} {z : V} (f : vs.all flatV = true) (e : vs[j]? = some z) (ez : eqV z (.bl true) = true) (no : ∀ (m : Nat) (z' : V), m < j → vs[m]? = some z' → eqV z' (.bl true) = false) (a : Ev (isLv vs) t σ H) : Ev (isV (.int (j : Int))) (tBM K "list" (rIndex K) t (tCons (tC (.bl true)) tNil)) σ H := fun H1 s1 Q q =>
  a H1 s1 _ fun H2 x s2 ⟨L, ex, hL⟩ => by
    subst ex
    exact ⟨.inl ⟨rfl, _, SqL.of hL⟩, L, vs, .bl true, j, z, rfl, rfl, SqL.of hL, rfl, f, e, ez, no, q _ _ s2 rfl⟩
theorem of_neB3 {x y z : Bool} : OpF (isLv [.bl x, .bl y, .bl z]) (isLv [.bl x, .bl y, .bl z]) (rNeD K) (isB false) := fun H u v ⟨L, eu, hL⟩ ⟨L', ev, hL'⟩ Q q => by
  subst eu ev
  have all : DpAll K H [.bl x, .bl y, .bl z] [.bool x, .bool y, .bool z] := .cons (.bl x) (.cons (.bl y) (.cons (.bl z) .nil))
  refine ⟨.list [.bool x, .bool y, .bool z], .list [.bool x, .bool y, .bool z], .lst (SqL.of hL) all, .lst (SqL.of hL') all, by cases x <;> cases y <;> cases z <;> decide +kernel, by cases x <;> cases y <;> cases z <;> decide +kernel, q _ _ (Same.refl _) ?_⟩
  cases x <;> cases y <;> cases z <;> rfl
theorem ev_bool3 {x y z : Bool} : Ev (isLv [.bl x, .bl y, .bl z]) (tLst (tCons (tC (.bl x)) (tCons (tC (.bl y)) (tCons (tC (.bl z)) tNil)))) σ H := ev_lv (vs := [_, _, _]) (Nat.le_of_ble_eq_true rfl) (eva_cons (sty_v _) (ev_c _) (eva_cons (sty_v _) (ev_c _) (eva_cons (sty_v _) (ev_c _) eva_nil)))
theorem of_ixLv {vs : List V} {j : Nat} {v : V} (e : vs[j]? = some v) : OpF (isLv vs) (isV (.int (j : Int))) (rIxL K) (isV v) := fun H x y ⟨L, ex, hL⟩ ey Q q =>
  ⟨L, vs, j, v, ex, ey, SqL.of hL, atI_nat e, q _ _ (Same.refl _) rfl⟩
theorem of_ixB {vs us : List V} {c : Bool} : OpF (isLst [isLv vs, isLv us]) (isV (.int (if c = true then 1 else 0))) (rIxL K) (isLv (if c = true then us else vs)) := fun H x y ⟨L, ws, ex, hL, g⟩ ey Q q => by
  match ws, g with
  | [u1, u2], g =>
    cases c with
    | true => exact ⟨L, _, 1, u2, ex, ey, SqL.of hL, rfl, q _ _ (Same.refl _) g.2.1⟩
    | false => exact ⟨L, _, 0, u1, ex, ey, SqL.of hL, rfl, q _ _ (Same.refl _) g.1⟩
theorem ev_intB {c : Bool} (a : Ev (isB c) t σ H) : Ev (isV (.int (if c = true then 1 else 0))) (tCB (fun xs H Q => ∃ b, xs = [.bl b] ∧ Q (.int (if b = true then 1 else 0)) H) (tCons t tNil)) σ H := fun H1 s1 Q q =>
  a H1 s1 _ fun H2 x s2 ex => ⟨c, by rw [ex], q _ _ s2 rfl⟩
end
theorem kit_or {K : PySem.W.Frag} {t c : Value} {cs : List Value} {b b' : Bool} (h : PySem.W.kitOne K t c = some b) (r : PySem.W.kitAny K t cs = some b') : PySem.W.kitAny K t (c :: cs) = some (b || b') := by
  cases b with
  | true => exact L2.kitAny_cons h (fun z => nomatch z) (fun _ => rfl)
  | false => exact L2.kitAny_cons h (fun _ => r) (fun z => nomatch z)
theorem own_all : ∀ cs : List Addr, Paired ClsV (cs.map V.ref) (cs.map Value.ref)
  | [] => .nil
  | c :: cs => .cons (.own _) (own_all cs)
abbrev tRefs : List Addr → TA
  | [] => tNil
  | c :: cs => tCons (tC (.ref c)) (tRefs cs)
theorem eva_refs {σ : L2.St} {H : Hp} : ∀ cs : List Addr, EvA ((cs.map V.ref).map isV) (tRefs cs) σ H
  | [] => eva_nil
  | c :: cs => eva_cons (sty_v _) (ev_c _) (eva_refs cs)
/-- isinstance(e, (c1, c2, ..)) -/
theorem ev_isT {K : PySem.W.Frag} {D a dd : Addr} {cls : Value} {d : Option Addr} {fs : List (Str × V)} {cs : List Addr} {b : Bool} {σ : L2.St} {H : Hp} {ta : TA} (h0 : σ[0]? = some (some (.ref a))) (ec : cls = .ref D) (ed : d = some dd) (hd : H dd = some (.xd fs))
    (hl : cs.length ≤ 1000) (ht : EvA ((cs.map V.ref).map isV) ta σ H) (hk : PySem.W.kitAny K (.ref D) (cs.map Value.ref) = some b) : Ev (isB b) (tCB (rIsDT K D a cls d) (tCons (tVar 0) (tCons (tTup ta) tNil))) σ H := fun H1 s1 Q q =>
  ⟨_, h0, ht H1 s1 _ fun H2 vs s2 g => by
    have e := allV_v g
    subst e
    exact ⟨sz (by rw [List.length_map]; exact hl), fun T nT => ⟨T, cs.map V.ref, cs.map Value.ref, b, dd, fs, rfl, upd_same, own_all cs, ec, ed, ((s1.trans s2).trans (same_new nT)) _ _ hd, hk, q _ _ (s2.trans (same_new nT)) rfl⟩⟩⟩
end XT
/-! masks that differ in one bit -/
namespace XT
open PySem PySem.Spec PyProof.Rows L2
def pw2 : List Nat := [1, 2, 4, 8, 16, 32]
def nearQ (x y : Nat) : Bool := decide (x < y) && decide (x ^^^ y ∈ pw2)
def nearR (ms : List Nat) : List Nat → Option (Nat × Nat)
  | [] => none
  | x :: xs => match ms.find? (nearQ x) with
    | some y => some (x, y)
    | none => nearR ms xs
/-- the first pair of masks of a lot that differ in one bit -/
def nearP (n : Nat) (p : Nat → Bool) : Option (Nat × Nat) := nearR (lotOf n p) (lotOf n p)
def nearD : Option (Nat × Nat) → PyData
  | none => .none
  | some (x, y) => .tuple [.int (x : Int), .int (y : Int)]
theorem nearR_hit {ms xs : List Nat} {x y : Nat} (h : ms.find? (nearQ x) = some y) : nearR ms (x :: xs) = some (x, y) := by
  unfold nearR
  rw [h]
theorem nearR_miss {ms xs : List Nat} {x : Nat} (h : ms.find? (nearQ x) = none) : nearR ms (x :: xs) = nearR ms xs := by
  show (match ms.find? (nearQ x) with
    | some y => some (x, y)
    | none => nearR ms xs) = _
  rw [h]
theorem nearR_mem {ms : List Nat} : ∀ {xs : List Nat} {x y : Nat}, nearR ms xs = some (x, y) → x ∈ xs ∧ y ∈ ms ∧ nearQ x y = true
  | [], _, _, h => by cases h
  | z :: xs, x, y, h => by
    cases hf : ms.find? (nearQ z) with
    | some u =>
      rw [nearR_hit hf] at h
      cases h
      exact ⟨List.mem_cons_self, List.mem_of_find?_eq_some hf, List.find?_some hf⟩
    | none =>
      rw [nearR_miss hf] at h
      obtain ⟨a, b⟩ := nearR_mem h
      exact ⟨List.mem_cons_of_mem _ a, b⟩
theorem if_ev2 {σ : L2.St} {H : Hp} {b : Bool} {t : TT} {u v : TS} {D : Ends} (h : EvT b t σ H) (q1 : b = true → ∀ H2, Same H H2 → u D σ H2) (q2 : b = false → ∀ H2, Same H H2 → v D σ H2) : tIfS t u v D σ H := h H (Same.refl _) _ fun H2 s2 => by
  cases b with
  | true => exact iteT (q1 rfl H2 s2)
  | false => exact iteF (q2 rfl H2 s2)
theorem asg1_ev {R : RV} {t : TE} {g : TG} {D : Ends} {σ : L2.St} {H : Hp} (h : Ev R t σ H) (q : ∀ H2 z, Same H H2 → R H2 z → g z σ H2 D.nx) : tAsg t g D σ H := h H (Same.refl _) _ fun H2 z s2 gz => q H2 z s2 gz
theorem ev_ifE {R : RV} {b : Bool} {c : TT} {ta tb : TE} {σ : L2.St} {H : Hp} (h : EvT b c σ H) (k1 : b = true → Ev R ta σ H) (k2 : b = false → Ev R tb σ H) : Ev R (tIf c ta tb) σ H := fun H1 s1 Q q => h H1 s1 _ fun H2 s2 => by
  cases b with
  | true => exact iteT (k1 rfl H2 (s1.trans s2) _ fun H3 z s3 g => q _ _ (s2.trans s3) g)
  | false => exact iteF (k2 rfl H2 (s1.trans s2) _ fun H3 z s3 g => q _ _ (s2.trans s3) g)
theorem ev_notN {R : RV} {t : TE} {σ : L2.St} {H : Hp} {b : Bool} (a : Ev R t σ H) (f : ∀ H z, R H z → (!decide (z = V.non)) = b) : Ev (isB b) (tOp (fun x y H Q => y = V.non ∧ Q (.bl (!decide (x = .non))) H) t (tC .non)) σ H := fun H1 s1 Q q =>
  a H1 s1 _ fun H2 x s2 gx => ⟨rfl, q _ _ s2 (congrArg V.bl (f _ _ gx))⟩
theorem ev_isN {R : RV} {t : TE} {σ : L2.St} {H : Hp} {b : Bool} (a : Ev R t σ H) (f : ∀ H z, R H z → decide (z = V.non) = b) : Ev (isB b) (tOp (fun x y H Q => y = V.non ∧ Q (.bl (decide (x = .non))) H) t (tC .non)) σ H := fun H1 s1 Q q =>
  a H1 s1 _ fun H2 x s2 gx => ⟨rfl, q _ _ s2 (congrArg V.bl (f _ _ gx))⟩
theorem drop_hd {α : Type} {ms : List α} {i : Nat} {x : α} (h : ms[i]? = some x) : ms.drop i = x :: ms.drop (i + 1) := by
  obtain ⟨hi, e⟩ := List.getElem?_eq_some_iff.mp h
  rw [List.drop_eq_getElem_cons hi, e]
theorem of_inLv {K : PySem.W.Frag} {m : Nat} {ms : List Nat} : OpF (isV (.int (m : Int))) (isLv (vm ms)) (rIn K false) (isB (decide (m ∈ ms))) := fun H x y ex ⟨L, ey, hL⟩ Q q => by
  subst ex ey
  exact ⟨L, _, rfl, .inl (SqL.of hL), rfl, vm_flat _, q _ _ (Same.refl _) (congrArg V.bl (in_vm _ _))⟩
theorem of_ltN {a b : Nat} : OpF (isV (.int (a : Int))) (isV (.int (b : Int))) (rI0 fun i j => .bl (decide (i < j))) (isB (decide (a < b))) := fun H x y ex ey Q q => ⟨a, b, ex, ey, q _ _ (Same.refl _) (congrArg V.bl (decide_eq_decide.mpr ⟨fun h => by omega, fun h => by omega⟩))⟩
theorem ev_pw2 {σ : L2.St} {H : Hp} : Ev (isLv (vm pw2)) (tLst (tCons (tC (.int 1)) (tCons (tC (.int 2)) (tCons (tC (.int 4)) (tCons (tC (.int 8)) (tCons (tC (.int 16)) (tCons (tC (.int 32)) tNil))))))) σ H :=
  ev_lv (vs := vm pw2) (Nat.le_of_ble_eq_true rfl) (eva_cons (sty_v _) (ev_c _) (eva_cons (sty_v _) (ev_c _) (eva_cons (sty_v _) (ev_c _) (eva_cons (sty_v _) (ev_c _) (eva_cons (sty_v _) (ev_c _) (eva_cons (sty_v _) (ev_c _) eva_nil))))))
theorem ev_shl0 {n : Nat} {t : TE} {σ : L2.St} {H : Hp} (hn : n ≤ 60) (a : Ev (isV (.int (n : Int))) t σ H) : Ev (isV (.int ((2 ^ n : Nat) : Int))) (tOp (rI CPow fun i j => .int (i * 2 ^ j.toNat)) (tC (.int 1)) t) σ H :=
  ev_op (sty_v _) (ev_c _) a fun H x y ex ey Q q => ⟨1, (n : Int), ex, ey, ⟨by omega, by omega, by decide⟩, q _ _ (Same.refl _) (congrArg V.int (shl1 n))⟩
theorem of_nin2 {K : PySem.W.Frag} {m : Nat} {ms : List Nat} : OpF (isV (.int (m : Int))) (isTup ms) (rIn K true) (isB (!decide (m ∈ ms))) := fun H x y ex ⟨y', ey, hy⟩ Q q => by
  subst ex
  refine ⟨y', _, ey, .inr (SqT.of hy), rfl, vm_flat _, q _ _ (Same.refl _) ?_⟩
  show V.bl (!inV _ _) = _
  rw [in_vm]
def MrOk (b : Bd) : Prop := ∀ m, b.mr = some m → m < 2 ^ b.n
def kpv (n : Nat) (p : Nat → Bool) : Option Nat → V
  | none => .non
  | some m => .bl (decide (∀ x, x < 2 ^ n → p (x ^^^ m) = p x))
def mkD : Option Nat → PyData
  | none => .none
  | some m => .int (m : Int)
def kpD (n : Nat) (p : Nat → Bool) : Option Nat → PyData
  | none => .none
  | some m => .bool (decide (∀ x, x < 2 ^ n → p (x ^^^ m) = p x))
theorem dz_mk {K : PySem.W.Frag} {H : Hp} : ∀ o, Dz K H (mkV o) (mkD o)
  | none => .non
  | some m => .int (m : Int)
theorem dz_kp {K : PySem.W.Frag} {H : Hp} {n : Nat} {p : Nat → Bool} : ∀ o, Dz K H (kpv n p o) (kpD n p o)
  | none => .non
  | some m => .bl _
def isNn : PyData → Bool
  | .none => true
  | _ => false
theorem Dz.isNn {K : PySem.W.Frag} {H : Hp} {v : V} {d : PyData} (h : Dz K H v d) : decide (v = .non) = XT.isNn d := by
  cases h <;> rfl
/-- all but objects stays -/
def KeepI (H H' : Hp) : Prop := ∀ b o, H b = some o → (∀ C dx fs, o ≠ .ins C dx fs) → H' b = some o
theorem KeepI.of {a : Addr} {H H' : Hp} (k : KeepX (fun c => c = a) H H') {C dx : Addr} {fs : List (Str × V)} (h : H a = some (.ins C dx fs)) : KeepI H H' := fun b o e n => k b o (fun z => by
  subst z
  rw [h] at e
  exact n _ _ _ (Option.some.inj e).symm) e
theorem KeepI.sqL {K : PySem.W.Frag} {H H' : Hp} {a : Addr} {xs : List V} (k : KeepI H H') (h : SqL K H a xs) : SqL K H' a xs := by
  rcases h with (h | ⟨o, h⟩) | h
  · exact .inl (.inl (k _ _ h fun _ _ _ z => by cases z))
  · exact .inl (.inr ⟨o, k _ _ h fun _ _ _ z => by cases z⟩)
  · exact .inr h
theorem KeepI.sqT {K : PySem.W.Frag} {H H' : Hp} {a : Addr} {xs : List V} (k : KeepI H H') (h : SqT K H a xs) : SqT K H' a xs := by
  rcases h with (h | ⟨o, h⟩) | h
  · exact .inl (.inl (k _ _ h fun _ _ _ z => by cases z))
  · exact .inl (.inr ⟨o, k _ _ h fun _ _ _ z => by cases z⟩)
  · exact .inr h
mutual
theorem Dz.ki {K : PySem.W.Frag} {H H' : Hp} (e : KeepI H H') : ∀ {v : V} {d : PyData}, Dz K H v d → Dz K H' v d
  | _, _, .non => .non
  | _, _, .bl b => .bl b
  | _, _, .int i => .int i
  | _, _, .str x => .str x
  | _, _, .lst h n a => .lst (e.sqL h) n (DzAll.ki e a)
  | _, _, .tup h a => .tup (e.sqT h) (DzAll.ki e a)
  | _, _, .dct kvs h => .dct kvs (e _ _ h fun _ _ _ z => by cases z)
theorem DzAll.ki {K : PySem.W.Frag} {H H' : Hp} (e : KeepI H H') : ∀ {vs : List V} {ds : List PyData}, DzAll K H vs ds → DzAll K H' vs ds
  | _, _, .nil => .nil
  | _, _, .cons h a => .cons (Dz.ki e h) (DzAll.ki e a)
end
/-- the outcome of an edit of a board whose masks lie apart -/
def ocA (n : Nat) (p : Nat → Bool) (e : Ed) : Oc :=
  match ocE n p e with
  | .ok p' => if (nearP n p').isSome = true then .er 11 (nearD (nearP n p')) else .ok p'
  | .er j d => .er j d
/-- by whether masks must lie apart -/
def ocB (ap : Bool) : Oce := if ap = true then ocA else ocE
end XT
/-! the law's own board: [lots of all versions, edits, whether masks lie apart] -/
namespace XT
open PySem PySem.Spec PyProof.Rows L2
abbrev isEdL (es : List (Str × Option Nat)) : RV := fun H z => ∃ L us, z = .ref L ∧ H L = some (.lst us) ∧ AllV (es.map isEd) H us
abbrev isLoL (n : Nat) (qs : List (Nat → Bool)) (p : Nat → Bool) : RV := fun H z => ∃ L vs v, z = .ref L ∧ H L = some (.lst (vs ++ [v])) ∧ AllV (qs.map (isLot n)) H vs ∧ LotAt H v n p
theorem sty_edL (es : List (Str × Option Nat)) : Sty (isEdL es) := fun _ _ _ s ⟨L, us, e, h, a⟩ => ⟨L, us, e, s _ _ h, eds_tu (Tups.of s) a⟩
theorem sty_loL (n : Nat) (qs : List (Nat → Bool)) (p : Nat → Bool) : Sty (isLoL n qs p) := fun _ _ _ s ⟨L, vs, v, e, h, a, l⟩ => ⟨L, vs, v, e, s _ _ h, lots_tu (Tups.of s) a, l.same s⟩
structure MdAt (H : Hp) (A M1 M2 : Addr) (ap : Bool) (b : Bd) : Prop where
  hA : H A = some (.lst [.ref M1, .ref M2, .bl ap])
  h1 : isLoL b.n b.qs b.p H (.ref M1)
  h2 : isEdL b.es H (.ref M2)
theorem MdAt.same {H H' : Hp} {A M1 M2 : Addr} {ap : Bool} {b : Bd} (h : MdAt H A M1 M2 ap b) (s : Same H H') : MdAt H' A M1 M2 ap b := ⟨s _ _ h.hA, sty_loL _ _ _ _ _ _ s h.h1, sty_edL _ _ _ _ s h.h2⟩
theorem KeepI.tu {H H' : Hp} (k : KeepI H H') : Tups H H' := fun b xs e => k b _ e fun _ _ _ z => by cases z
theorem MdAt.ki {H H' : Hp} {A M1 M2 : Addr} {ap : Bool} {b : Bd} (h : MdAt H A M1 M2 ap b) (k : KeepI H H') : MdAt H' A M1 M2 ap b := by
  obtain ⟨L, vs, v, e1, hL, hq, hp⟩ := h.h1
  obtain ⟨L', us, e2, hU, ha⟩ := h.h2
  exact ⟨k _ _ h.hA (fun _ _ _ z => by cases z), ⟨L, vs, v, e1, k _ _ hL (fun _ _ _ z => by cases z), lots_tu k.tu hq, hp.tu k.tu⟩, ⟨L', us, e2, k _ _ hU (fun _ _ _ z => by cases z), eds_tu k.tu ha⟩⟩
abbrev isMd (M1 M2 : Addr) (ap : Bool) (b : Bd) : RV := fun H z => ∃ A, z = .ref A ∧ MdAt H A M1 M2 ap b
theorem sty_md (M1 M2 : Addr) (ap : Bool) (b : Bd) : Sty (isMd M1 M2 ap b) := fun _ _ _ s ⟨A, e, h⟩ => ⟨A, e, h.same s⟩
section
variable {K : PySem.W.Frag} {M1 M2 : Addr} {ap : Bool} {b : Bd} {t : TE} {σ : L2.St} {H : Hp} {n : Nat} {qs : List (Nat → Bool)} {p : Nat → Bool} {es : List (Str × Option Nat)}
theorem of_ixM0 : OpF (isMd M1 M2 ap b) (isV (.int 0)) (rIxL K) (isLoL b.n b.qs b.p) := fun H x y ⟨A, ex, h⟩ ey Q q => ⟨A, _, 0, .ref M1, ex, ey, SqL.of h.hA, rfl, q _ _ (Same.refl _) h.h1⟩
theorem of_ixM1 : OpF (isMd M1 M2 ap b) (isV (.int 1)) (rIxL K) (isEdL b.es) := fun H x y ⟨A, ex, h⟩ ey Q q => ⟨A, _, 1, .ref M2, ex, ey, SqL.of h.hA, rfl, q _ _ (Same.refl _) h.h2⟩
theorem of_ixM2 : OpF (isMd M1 M2 ap b) (isV (.int 2)) (rIxL K) (isB ap) := fun H x y ⟨A, ex, h⟩ ey Q q => ⟨A, _, 2, .bl ap, ex, ey, SqL.of h.hA, rfl, q _ _ (Same.refl _) rfl⟩
theorem of_ixLo : OpF (isLoL n qs p) (isV (.int (-1))) (rIxL K) (isLot n p) := fun H x y ⟨L, vs, v, ex, h, _, hv⟩ ey Q q => ⟨L, _, -1, v, ex, ey, SqL.of h, at_last, q _ _ (Same.refl _) hv⟩
theorem ev_lenEdL (a : Ev (isEdL es) t σ H) : Ev (isV (.int (es.length : Int))) (tCB (fun xs H Q => ∃ p ys, xs = [.ref p] ∧ (SqL K H p ys ∨ SqT K H p ys) ∧ Q (.int ys.length) H) (tCons t tNil)) σ H := fun H1 s1 Q q =>
  a H1 s1 _ fun H2 x s2 ⟨D, us, ex, hD, he⟩ => ⟨D, us, by rw [ex], .inl (SqL.of hD), q _ _ s2 (by rw [allV_len he, List.length_map])⟩
theorem ev_tupEdL (a : Ev (isEdL es) t σ H) : Ev (isD K (.tuple (es.map dEd))) (tCB (rTupO K) (tCons t tNil)) σ H := fun H1 s1 Q q =>
  a H1 s1 _ fun H2 x s2 ⟨D, us, ex, hD, he⟩ => ⟨D, us, by rw [ex], .inl ⟨SqL.of hD, fun T nT => q _ _ (s2.trans (same_new nT)) (.tup (SqT.of upd_same) ((dzAll_eds he).same (same_new nT)))⟩⟩
theorem ev_strN {k : Nat} (hk : k ≤ 64) (a : Ev (isV (.int (k : Int))) t σ H) : Ev (isV (.str (Str.ofString (toString (k : Int))))) (tCB (fun xs H Q => ∃ i, xs = [V.int i] ∧ i.natAbs.log2 < 1920 ∧ Q (.str (toString i)) H) (tCons t tNil)) σ H := fun H1 s1 Q q =>
  a H1 s1 _ fun H2 x s2 ex => ⟨(k : Int), by rw [ex], log_smallB hk, q _ _ s2 rfl⟩
end
theorem empty_app (x : Str) : Str.empty ++ x = x := by
  have : (Str.empty ++ x).cps = x.cps := by
    show (#[] : Array Nat) ++ x.cps = _
    simp
  cases x
  exact congrArg Str.mk this
theorem bdTxt_eq (m v : Nat) : bdTxt m v = Str.ofString (toString (m : Int)) ++ " masks, " ++ Str.ofString (toString (v : Int)) ++ " edits" := by
  unfold bdTxt
  rw [empty_app]
end XT
/-! _law_text -/
namespace XT
open PySem PySem.Spec PyProof.Rows L2
theorem emp_app (x : Str) : Str.empty ++ x = x := by
  show (⟨#[] ++ x.cps⟩ : Str) = x
  rw [Array.empty_append]
theorem wnTx_nil : wnTx [] = "none" := rfl
theorem wnTx_cons {ws : List Str} (h : ws ≠ []) : wnTx ws = Txt.join " " ws := by
  unfold wnTx
  rw [if_pos (List.length_pos_iff.mpr h)]
section
variable {P : Program} {w : World} {K : PySem.W.Frag} {mg : Str → Option Value} {base : Heap}
theorem ones_sum56 : ∀ cs : List Nat, ((cs.map fun c => (⟨#[c]⟩ : Str)).map (·.length)).sum = cs.length
  | [] => rfl
  | c :: cs => by
    rw [List.map_cons, List.map_cons, List.sum_cons, ones_sum56 cs, List.length_cons]
    show 1 + cs.length = _
    omega
theorem ev_neg56 {σ : L2.St} {H : Hp} : Ev (isV (.int (-1))) (tUn (fun x H Q => ∃ i : Int, x = .int i ∧ Q (.int (-i)) H) (tC (.int 1))) σ H := fun H1 s1 Q q => ⟨1, rfl, q _ _ (Same.refl _) rfl⟩
theorem ev_joinL56 {σ : L2.St} {H : Hp} {te : TE} {ws : List Str} (hl : (ws.map (·.length)).sum + ws.length ≤ 1000) (a : Ev (fun H z => ∃ D, z = .ref D ∧ H D = some (.lst (ws.map V.str))) te σ H) :
    Ev (isV (.str (Txt.join " " ws))) (tM1 (fun x xs H Q => ∃ a p, ∃ ys : List Str, x = .str a ∧ xs = [.ref p] ∧ (SqL K H p (ys.map V.str) ∨ SqT K H p (ys.map V.str)) ∧ (ys.map (·.length)).sum + ys.length * a.length ≤ 16777216 ∧ Q (.str (Txt.join a ys)) H) (tC (.str " ")) te) σ H := fun H1 s1 Q q =>
  ⟨⟨_, rfl⟩, a H1 s1 _ fun H2 z s2 ⟨D, ez, hD⟩ => ⟨_, D, ws, rfl, by rw [ez], .inl (SqL.of hD), by
    show _ + _ * 1 ≤ _
    omega, q _ _ s2 rfl⟩⟩
abbrev nLtx : List Str := ["_law_some", "_law_words", "_law_mask", "_law_place"]
theorem scLtx : FnScope nLtx ["_law_some"] (defScope sLText) := ⟨rfl, rfl, rfl, by decide +kernel, rfl, by decide +kernel, by decide +kernel⟩
def spLtx : Sp := fun vs H Q _ => ∃ (v : V) (n : Nat) (p : Nat → Bool), vs = [v] ∧ LotAt H v n p ∧ 1 ≤ n ∧ n ≤ 6 ∧ ∀ H', Same H H' → Q (.str (msTxt n p)) H'
theorem ok_ltx {f : Addr} {fd : FuncData} {k : Nat} (B : Bl mg) (mS : mg "str" = none) (F : Fun K "_law_text" "_law_text" sLText f fd) : FnOk P w K mg base CX0 (k + 1) f fd ["_law_some"] spLtx := by
  refine F.ok scLtx (fun vs H Q E h => ?_) (fun cdv A outer s H vs Q E hr h => ?_)
  · obtain ⟨v, n, p, rfl, _⟩ := h
    rfl
  · obtain ⟨v, n, p, rfl, hv, h1, h6, q⟩ := h
    refine ⟨_, pss_cons (ps_set (i := 1) scLtx.nd rfl (by first | exact Or.inl rfl | exact Or.inr rfl) (pe_lst pa_nil))
      (pss_cons (ps_for PassesOwn.never rfl (pi_tup (pe_ix ix_tup (pv 0) pe_int (fun _ _ => rfl))) (pg_name (i := 2) scLtx.nd rfl (by first | exact Or.inl rfl | exact Or.inr rfl))
      (pss_one (ps_expr (pe_bm PySem.F.plainAttrs_list PySem.F.slot_list_append PySem.F.type_list_append mt_append (pv 1) (pa_cons (pe_revS (pe_join pe_str (pe_lc (own := [("_law_place", 3)]) (g := (gName 3)) (tt := tYes) (te := tBit (tVar 2) 3) rfl scLtx.nd (pi_range1 (by rfl) B.range (pa_cons (pe_ix ix_tup (pv 0) pe_int (fun _ _ => rfl)) pa_nil)) (blkOk_by (own := [("_law_place", 3)]) (N := nLtx) (sc := defScope sLText) (by decide +kernel))
          (fun _ _ _ _ _ => (pg_name (i := 3) scLtx.nd rfl (Or.inl rfl))) (fun _ _ _ _ _ => pts_nil) (fun _ _ _ _ _ => pe_callTy call_str_int (by rfl) mS boot_str (pa_cons (pe_op op_mod (pe_op op_fdivW (pv 2) (pe_op op_shl pe_int (pv 3))) pe_int) pa_nil)))) (pe_un un_neg pe_int)) pa_nil)))))
      (pss_one (ps_ret (pe_op op_add_str (pe_op op_add_str (pe_callTy call_str_int (by rfl) mS boot_str (pa_cons (pe_ix ix_tup (pv 0) pe_int (fun _ _ => rfl)) pa_nil)) pe_str) (pe_ifExp (pt_cmpR (op_neEL hr.units0) (pv 1) (pe_lst pa_nil) (nomark _)) (pe_join pe_str (pv 1)) pe_str))))), ?_⟩
    have p6 := pow6 h6
    have hl := lot_len h6 p
    obtain ⟨x, y, rfl, hx, hy⟩ := id hv
    refine ⟨sz (n := 0) (by decide), fun F0 nF => ?_⟩
    have sF := same_new (o := .lst []) nF
    refine ⟨.ref x, rfl, x, _, 1, .ref y, rfl, rfl, SqT.of (sF _ _ hx), rfl, y, rfl, ⟨_, SqT.of (sF _ _ hy)⟩, for_tup (K := K) (xs := vm (lotOf n p)) (fun i σ H' => ∃ (z2 z3 : Option V), σ = [some (.ref x), some (.ref F0), z2, z3] ∧ Same H H' ∧ H' F0 = some (.lst (((lotOf n p).take i).map fun m => V.str (digW m n)))) ⟨_, _, rfl, sF, upd_same⟩ (fun i σ H2 hi h => ?_) (fun i z σ H2 hz h => ?_) (fun σ H2 h => ?_)⟩
    · obtain ⟨_, _, rfl, s2, _⟩ := h
      exact SqT.of (s2 _ _ hy)
    · obtain ⟨z2, z3, rfl, s2, hF⟩ := h
      obtain ⟨m, hm, rfl⟩ := mem_vm hz
      have hm2 := (mem_lot.mp (List.mem_of_getElem? hm)).1
      refine ⟨.ref F0, rfl, .inl ⟨rfl, _, SqL.of hF⟩, ?_⟩
      refine ev_digR (n := n) (m := m) (by omega) (fun _ => rfl) (fun _ => rfl) (ev_op (sty_lot n p) (ev_var (sty_lot n p) rfl (hv.same s2)) (ev_c _) of_ix0) (fun k H1 s1 => ev_var (sty_v _) rfl rfl) (fun cs p H8 Q' hp hl q' => ⟨_, p, _, rfl, rfl, .inl (SqL.of hp), by rw [ones_sum56]; show _ + _ * 0 ≤ _; omega, by rw [TL.join_eq]; exact q'⟩) (fun H1 s1 => ev_neg56) H2 (Same.refl _) _ fun H3 u s3 hu => ?_
      obtain ⟨ds, rfl, hds⟩ := hu
      have e : ds = digW m n := str_of_list (by rw [hds, digW_bits h1 hm2])
      subst e
      have hF3 := s3 _ _ hF
      refine ⟨F0, _, _, rfl, rfl, hF3, ?_, ?_⟩
      · rw [List.length_map, List.length_take]
        exact small64 (by omega)
      · refine ⟨_, _, rfl, same_upd (s2.trans s3) nF, ?_⟩
        rw [upd_same, List.take_succ, List.map_append, hm]
        rfl
    · obtain ⟨z2, z3, rfl, s2, hF⟩ := h
      rw [vm_len, List.take_of_length_le (Nat.le_refl _)] at hF
      have e2 : ((lotOf n p).map fun m => V.str (digW m n)) = (patsL n p).map V.str := by
        unfold patsL
        rw [List.map_map]
        rfl
      rw [e2] at hF
      have hps := pats_sum h6 h1 p
      have n3 := msTxt_ok (p := p) h1 h6
      have m1 : (" bits: " : Str).length = 7 := by
        have h : ((" bits: " : Str).length == 7) = true := by decide +kernel
        simpa using h
      have n1 := txt_small (n := n) (by omega)
      have eI : Ev (isV (.int (n : Int))) (tOp (rIxT K) (tVar 0) (tC (.int 0))) [some (.ref x), some (.ref F0), z2, z3] H2 := ev_op (sty_lot n p) (ev_var (sty_lot n p) rfl (hv.same s2)) (ev_c _) of_ix0
      refine ret_ev (ev_op (Ra := isV (.str (Str.ofString (toString (n : Int)) ++ " bits: "))) (Rb := isV (.str (wnTx (patsL n p)))) (sty_v _) (ev_op (sty_v _) (ev_strN (by omega) eI) (ev_c _) (of_addS (by rw [m1]; omega))) (ev_ifE (b := !((patsL n p).map V.str).isEmpty) (evt_test (ev_op (sty_lV _) (ev_var (sty_lV _) rfl ⟨F0, rfl, hF⟩) ev_nil of_neEL)) (fun hb => ?_) (fun hb => ?_)) (of_addS (by rw [str_app_len, m1]; omega))) fun H3 z s3 e => by
        rw [e]
        have q' := q _ (s2.trans s3)
        unfold msTxt at q'
        rw [emp_app] at q'
        exact q'
      · have ne : patsL n p ≠ [] := fun z => by rw [z] at hb; cases hb
        rw [wnTx_cons ne]
        exact ev_joinL56 (by omega) (ev_var (fun _ _ _ s ⟨D, e, h⟩ => ⟨D, e, s _ _ h⟩) rfl ⟨F0, rfl, hF⟩)
      · have ne : patsL n p = [] := by
          cases hp : patsL n p with
          | nil => rfl
          | cons a b => rw [hp] at hb; cases hb
        rw [ne]
        exact ev_c _
end
end XT
/-! a[i], bool(a) by an own class's methods -/
namespace XT
open PySem PySem.Spec PyProof.Rows L2
theorem meets_boolO {prog : Program} {w : World} (x : Value) : MeetsIn prog w (Builtin.«bool.__new__» ⟨[.type "bool", x], []⟩) (fun A R s => wpAny (model prog w) A.in1 (truthy x) (fun b s' => R (.ok (.ret (.bool b))) s') (fun e s' => R (.error e) s') s) := by
  intro A R s hs
  have f1 := F.conv_sub_bool
  obtain ⟨hp, g, d, tk, os⟩ := s
  repeat (any_goals (first | assumption | (with_reducible refine wpAny_mono hs (fun b s' z => ?_) fun _ _ z => z) | wp_step))
  all_goals first | exact z | skip
section
variable {X : Cx} {j : Nat} {C : Addr} {sp : Sp}
theorem run_met2 {pins : List (Addr × Obj)} {σ : L2.St} {H : Hp} {s : Shared} {f : Addr} {us : List Value} {vs : List V} {Q : VK} (F : Met X.prog X.w X.K X.mg X.base j f sp) (hr : Room (j + 2) X.A) (I : Inv X pins σ H s) (r : Vals vs us) (q : sp vs H Q E0) : wpAny (model X.prog X.w) X.A.in1.in1 (call (.ref f) us) (EP X pins σ Q) X.xe s := by
  refine wpAny_call (codeAny_mono (F X.A.in1.in1 X.stack s H us vs Q E0 hr.in1.in1 I.env0.in1.in1 r q) fun r s2 hq => ?_)
  match r, hq with
  | .ok (.ret v), hq => exact I.after hq
  | .ok .next, hq => exact False.elim hq
  | .ok .brk, hq => exact False.elim hq
  | .ok .cont, hq => exact False.elim hq
  | .error e, hq => exact pass0 pins σ H s e s2 I hq
def rBoolO (C : Addr) (sp : Sp) : List V → Hp → VK → Prop := fun xs H Q => ∃ x, xs = [x] ∧ (∃ fs, InsAt H C x fs) ∧ sp [x] H (fun v H' => ∃ b : Bool, v = .bl b ∧ Q (.bl b) H') E0
theorem cr_boolO (D : OwnR X.prog X.w X.K X.mg X.base j C "__bool__" sp) (hr : Room (j + 2) X.A) : CallR X (.type "bool") (rBoolO C sp) := by
  obtain ⟨f, h, F⟩ := D
  intro pins s σ H xs us Q I r ⟨x, exs, ⟨fs, a, dx, ex, ha⟩, q⟩
  subst exs ex
  rw [Vals.ref1 r]
  obtain ⟨od, J⟩ := inst_at I ha
  obtain ⟨m, fr⟩ := I.fr
  refine callType_newIn PySem.F.called_bool PySem.F.newNe_bool (PySem.F.typeCall_bool_1 _) (PySem.F.newCall_bool_1 _) (fun obj => PySem.F.args_object_init_2 obj _) PySem.F.entry_bool_new (meets_boolO (.ref a)) ?_
  refine PySem.W.truthy_K fr I.ok.mod.kin J h.at_ h.fn (wpAny_mono (run_met2 (vs := [.ref a]) F hr I (.cons rfl .nil) q) (fun w s' z => ?_) fun _ _ z => z)
  obtain ⟨v', H', I', rv, b, ev, q'⟩ := z
  subst ev
  cases rv
  exact ⟨rfl, .bl b, H', I', rfl, q'⟩
/-- a[i] -/
def IxO (P : Program) (w : World) (K : PySem.W.Frag) (mg : Str → Option Value) (base : Heap) (k : Nat) (C : Addr) (sp : Sp) : Prop := ∃ f, Has K C "__getitem__" f ∧ PySem.W.fnIn K f = true ∧ Met P w K mg base k f sp
def rIxO (C : Addr) (sp : Sp) : R2 := fun x y H Q => (∃ fs, InsAt H C x fs) ∧ sp [x, y] H Q E0
theorem pe_ixO {a b : Expr} {ta tb : TE} {pos : Pos} (D : IxO X.prog X.w X.K X.mg X.base j C sp) (hr : Room (j + 1) X.A) (ha : PE X a ta) (hb : PE X b tb) (hsl : ∀ v u, subscripted b true v u = runValue (.builtin "lifetime.subscript" ⟨[v, u], []⟩) := by intro _ _; with_unfolding_all rfl) : PE X (.Subscript a b pos) (tOp (rIxO C sp) ta tb) := by
  obtain ⟨f, h, hf, F⟩ := D
  refine ⟨fun pins s σ H Q I hq => ?_⟩
  refine Subscript_ (binT ha hb I hq fun v u s2 x y H2 I2 rx ry q => ?_)
  obtain ⟨⟨fs, a', dx, ex, hz⟩, q⟩ := q
  subst ex
  cases rx
  obtain ⟨od, J⟩ := inst_at I2 hz
  obtain ⟨m, fr⟩ := I2.fr
  exact PySem.W.sub_K fr I2.ok.mod.kin J h.at_ hf h.fn (run_met1 (vs := [.ref a', y]) F hr I2 (.cons rfl (.cons ry .nil)) q) (hsl _ _)
end
end XT
/-! from what k_is answers to what the classes must say -/
namespace XT
open PySem PySem.Spec PyProof.Rows L2
section
variable {K : PySem.W.Frag} {C D : Addr} {b : Bool}
theorem kit_ref (hd : PySem.W.hasDictIn K C = true) (ht : PySem.W.typeIn K (.ref C) = some (.type "type")) (hs : PySem.W.subIn K (.ref D) (.ref C) = some b) (hne : (Value.ref D == Value.ref C) = false) : PySem.W.kitOne K (.ref D) (.ref C) = some b := by
  obtain ⟨cd, hc, _⟩ := PySem.W.any_some hd
  have e2 : ((PySem.W.clsIn K C).isSome && PySem.W.typeIn K (.ref C) == some (.type "type")) = true := by rw [hc, ht] <;> rfl
  unfold PySem.W.kitOne PySem.W.kitCls
  rw [hne]
  show (if ((PySem.W.clsIn K C).isSome && PySem.W.typeIn K (.ref C) == some (.type "type")) = true then PySem.W.subIn K (.ref D) (.ref C) else none) = some b
  rw [if_pos e2]
  exact hs
theorem kit_bt {T : String} (hs : PySem.W.subIn K (.ref D) (.type T) = some b) (hm : PySem.W.kitMeta T = true) : PySem.W.kitOne K (.ref D) (.type T) = some b := by
  unfold PySem.W.kitOne PySem.W.kitCls
  rw [if_neg (by simp)]
  show (if PySem.W.kitMeta T = true then PySem.W.subIn K (.ref D) (.type T) else none) = some b
  rw [if_pos hm]
  exact hs
theorem kit_none {t c : Value} {cs : List Value} (h : PySem.W.kitOne K t c = some false) (r : PySem.W.kitAny K t cs = some false) : PySem.W.kitAny K t (c :: cs) = some false := L2.kitAny_cons h (fun _ => r) (fun z => nomatch z)
def strKey (e : DictEntry) : Bool := match e.key with | .str _ _ => true | _ => false
theorem nsOk_of {N : Addr} {oc : Value} {od : Option Addr} {es : Array DictEntry} {ep : Nat} {sl : Array (Option Value)} (l : K.lookup N = some ⟨oc, od, .dict es ep, sl⟩) (h : es.toList.all strKey = true) : PySem.W.nsOkIn K N = true := by
  unfold PySem.W.nsOkIn
  rw [l]
  rw [Array.all_toList] at h
  exact h
abbrev veTl : List Value := [.type "ValueError", .type "Exception", .type "BaseException", .type "object"]
theorem excIn_of {cN cT NSn NSt : Addr} {nm qn nt qt : Str} {bs sub bst subt mt : List Value} {hd hdt : Bool} {sn snt : List Str} {ab abt del : Bool} {col colt : Option Bool} {dd od : Option Addr} {q0 q1 q2 q3 q5 : Option Value} {oc : Value} {sl : Array (Option Value)}
    (lN : K.lookup cN = some (excClassObj nm qn cN NSn bs [.ref cT, .type "ValueError", .type "Exception", .type "BaseException", .type "object"] hd sn sub ab col dd q0 q1 q2 q3 q5 "ValueError.__new__")) (oN : PySem.W.nsOkIn K NSn = true) (iN : PySem.W.nsIn K NSn "__init__" = some none)
    (lT : K.lookup cT = some ⟨oc, od, .cls { name := nt, bases := bst, mro := mt, ns := NSt, qualname := qt, hasDict := hdt, slotNames := snt, subclasses := subt, abstract := abt, collection := colt, hasDel := del }, sl⟩) (oT : PySem.W.nsOkIn K NSt = true) (iT : PySem.W.nsIn K NSt "__init__" = some none) :
    PySem.W.excIn K cN [.type "ValueError", .type "Exception", .type "BaseException", .type "object"] "ValueError.__new__" = true := by
  have e1 : PySem.W.tailIn K veTl veTl = true := by
    unfold PySem.W.tailIn
    simp
  have e2 : PySem.W.tailIn K veTl (.ref cT :: veTl) = true := by
    unfold PySem.W.tailIn
    dsimp only
    rw [lT]
    simp [oT, iT, e1]
  unfold PySem.W.excIn
  rw [lN]
  simp [oN, iN, e2]
end
end XT
namespace XT
open PySem PySem.Spec PyProof.Rows L2
section
variable {C : Addr} {n : Nat} {p : Nat → Bool} {S : Sm} {σ : L2.St} {H : Hp}
theorem sk_ms : StyK S noX (isMs C n p) := fun W B H H' z w k ⟨v, ⟨a, dx, ez, ha⟩, hv⟩ => ⟨v, ⟨a, dx, ez, k a _ (fun c => by
  obtain ⟨⟨t, ⟨big, st⟩, _⟩, _, _⟩ := w
  rcases c with rfl | rfl | rfl | c
  · rw [st.hs] at ha; cases ha
  · rw [st.hp] at ha; cases ha
  · rw [st.hq] at ha; cases ha
  · exact c) ha⟩, hv.kx w k⟩
theorem ev_strM {t : TE} (h1 : 1 ≤ n) (h6 : n ≤ 6) (a : Ev (isMs C n p) t σ H) : Ev (isV (.str (msTxt n p))) (tCB (rOwnStr C (spMsStr C)) (tCons t tNil)) σ H := fun H1 s1 Q q =>
  a H1 s1 _ fun H2 x s2 ⟨v, gx⟩ => ⟨x, rfl, gx.ins, x, v, n, p, rfl, gx, h1, h6, fun H' o s' g => ⟨_, g, q _ _ (s2.trans s') rfl⟩⟩
theorem ev_boolM6 {t : TE} (h1 : 1 ≤ n) (h6 : n ≤ 6) (a : Ev (isMs C n p) t σ H) : Ev (isB (decide (lotOf n p ≠ []))) (tCB (rBoolO C (spMsBool C)) (tCons t tNil)) σ H := fun H1 s1 Q q =>
  a H1 s1 _ fun H2 x s2 ⟨v, gx⟩ => ⟨x, rfl, gx.ins, x, v, n, p, rfl, gx, h1, h6, fun H' o s' g => ⟨_, g, q _ _ (s2.trans s') rfl⟩⟩
end
theorem fors_evL6 {K : PySem.W.Frag} {R : RV} {te : TE} {σ : L2.St} {H : Hp} {D : Ends} {g : TG} {tb rest : TS} (a : Ev R te σ H) (q : ∀ H2 z, Same H H2 → R H2 z → tFor (iList K (tC z)) g tb { D with nx := rest D } σ H2) : tSeq (tFor (iList K te) g tb) rest D σ H := a H (Same.refl _) _ fun H2 z s2 g2 => q H2 z s2 g2
theorem ev_tup2c {σ : L2.St} {H : Hp} : Ev (isTup [1, 6]) (tTup (tCons (tC (.int 1)) (tCons (tC (.int 6)) tNil))) σ H := fun H1 s1 Q q => ⟨sz (show 2 ≤ 1000 by decide), fun T nT => q _ _ (same_new nT) ⟨T, rfl, by rw [upd_same]; rfl⟩⟩
theorem OpF.inl {Ra Rb Rc : RV} {r r' : R2} (h : OpF Ra Rb r Rc) : OpF Ra Rb (fun x y H Q => r x y H Q ∨ r' x y H Q) Rc := fun H x y gx gy Q q => .inl (h H x y gx gy Q q)
theorem OpF.inr {Ra Rb Rc : RV} {r r' : R2} (h : OpF Ra Rb r' Rc) : OpF Ra Rb (fun x y H Q => r x y H Q ∨ r' x y H Q) Rc := fun H x y gx gy Q q => .inr (h H x y gx gy Q q)
/-- data, or a set of another width -/
abbrev isVl (K : PySem.W.Frag) (C : Addr) (n : Nat) : RV := fun H z => (∃ T, BuV K H z T) ∨ ∃ n2 p2, IsMs C H z n2 p2 ∧ 1 ≤ n2 ∧ n2 ≤ 6 ∧ n2 ≠ n
theorem sty_vl (K : PySem.W.Frag) (C : Addr) (n : Nat) : Sty (isVl K C n) := fun _ _ _ e h => by
  rcases h with ⟨T, h⟩ | ⟨n2, p2, ⟨v, h⟩, r⟩
  · exact .inl ⟨T, h.same e⟩
  · exact .inr ⟨n2, p2, ⟨v, h.same e⟩, r⟩
/-- a list of its own -/
abbrev isOL (S : Sm) (X : Ow) : RV := fun H z => ∃ L xs, z = .ref L ∧ H L = some (.lst xs) ∧ ¬ XS S X L
theorem sk_ol {S : Sm} {X : Ow} : StyK S X (isOL S X) := fun _ _ _ _ _ w k ⟨L, xs, e, h, n⟩ => ⟨L, xs, e, k L _ n h, n⟩
theorem eqv_width {n n2 : Nat} {p p2 : Nat → Bool} (h : n2 ≠ n) : PyData.eqv (dLot n p) (dLot n2 p2) = false := by
  show (decide ((n : Int) = (n2 : Int)) && _) = false
  rw [decide_eq_false (by omega)]
  rfl
theorem allV_rep {R : RV} {H : Hp} : ∀ {k : Nat} {vs : List V}, AllV (List.replicate k R) H vs → ∀ z ∈ vs, R H z
  | 0, [], _, z, h => by cases h
  | k + 1, v :: vs, g, z, h => by
    rcases List.mem_cons.mp h with rfl | h
    · exact g.1
    · exact allV_rep (k := k) g.2 z h
theorem styA_rep {R : RV} (h : Sty R) (k : Nat) : StyA (List.replicate k R) := fun R' hR => by rw [List.eq_of_mem_replicate hR]; exact h
section
variable {K : PySem.W.Frag} {C : Addr} {n : Nat} {p : Nat → Bool} {S : Sm} {σ : L2.St} {H : Hp} {B B0 : Int} {v x6 : V}
theorem ed_lots5 (n1 : 1 ≤ n) (n6 : n ≤ 6) (hB : B < 90000) (h1 : σ[1]? = some (some (.ref S.s))) (h3 : σ[3]? = some (some v)) (h5 : σ[5]? = some (some (.int (n : Int)))) (h6 : σ[6]? = some (some x6)) (g3 : LotAt H v n p) (g6 : isAl n H x6) (w0 : Wld S noX noW B0 H) :
    EvD S noX noW B noW (B + 100) (isLO S noX (List.replicate 5 (isAl n))) (tLst (tCons (tVar 3) (tCons (tVar 6) (tCons (tDf spLike (tCons (tVar 1) (tCons (tVar 3) tNil))) (tCons (tTup (tCons (tVar 5) (tCons (tTup tNil) tNil))) (tCons (tTup (tCons (tVar 5) (tCons (tTupRg (tRg1 (tOp (rI CPow fun i j => .int (i * 2 ^ j.toNat)) (tC (.int 1)) (tVar 5)))) tNil))) tNil)))))) σ H := by
  have sw : StyW noX noW := sty_no noX
  exact ed_lst sw (styA_rep (sty_al n) 5) (Nat.le_of_ble_eq_true rfl) (eda_cons (W1 := noW) (B1 := B) (sk_al n) (ed_pure sw fun H' k w => (ev_var (sty_lot n p) h3 (g3.kx w0 k)).mono fun _ _ g => ⟨p, g⟩) (eda_cons (W1 := noW) (B1 := B) (sk_al n) (ed_pure sw fun H' k w => ev_var (sty_al n) h6 (sk_al n _ _ _ _ _ w0 k g6))
    (eda_cons (W1 := noW) (B1 := B + 100) (sk_al n) (ed_like (n := n) (p := p) (W1 := noW) (B1 := B) sw n6 (by omega) (ed_varV h1) (ed_pure sw fun H' k w => ev_var (sty_lot n p) h3 (g3.kx w0 k))) (eda_cons (W1 := noW) (B1 := B + 100) (sk_al n) (ed_pure sw fun H' k w => (ev_none56 h5).mono fun _ _ g => ⟨_, g⟩) (eda_cons (W1 := noW) (B1 := B + 100) (sk_al n) (ed_pure sw fun H' k w => (ev_all56 n6 h5).mono fun _ _ g => ⟨_, g⟩) eda_nil)))))
theorem ev_lots3 (h3 : σ[3]? = some (some v)) (h5 : σ[5]? = some (some (.int (n : Int)))) (h6 : σ[6]? = some (some x6)) (g3 : LotAt H v n p) (g6 : isAl n H x6) : Ev (isLst (List.replicate 3 (isAl n))) (tLst (tCons (tVar 3) (tCons (tVar 6) (tCons (tTup (tCons (tVar 5) (tCons (tTup tNil) tNil))) tNil)))) σ H :=
  ev_lst (styA_rep (sty_al n) 3) (Nat.le_of_ble_eq_true rfl) (eva_cons (sty_al n) ((ev_var (sty_lot n p) h3 g3).mono fun _ _ g => ⟨p, g⟩) (eva_cons (sty_al n) (ev_var (sty_al n) h6 g6) (eva_cons (sty_al n) ((ev_none56 h5).mono fun _ _ g => ⟨_, g⟩) eva_nil)))
abbrev rVals8 (K : PySem.W.Frag) (C : Addr) (S : Sm) (n : Nat) (p : Nat → Bool) : List RV := [isLot n p, isTup (lotOf n p), isOL S noX, isV .non, isV (.str (msTxt n p)), isV (.int ((lotOf n p).length : Int)), (fun H z => ∃ d, isDP K S noX d H z ∧ d ∈ oddD), isMs C (7 - n) (fun _ => false)]
theorem styVals8 : StyA (rVals8 K C S n p) :=
  styA_cons (sty_lot n p) (styA_cons (sty_tup _) (styA_cons (fun _ _ _ e ⟨L, xs, ez, h, nX⟩ => ⟨L, xs, ez, e _ _ h, nX⟩) (styA_cons (sty_v _) (styA_cons (sty_v _) (styA_cons (sty_v _) (styA_cons (fun _ _ _ e ⟨d, h, m⟩ => ⟨d, dn_same e h, m⟩) (styA_cons (sty_ms _ _ _) styA_nil)))))))
def tVals8 (K : PySem.W.Frag) (C : Addr) : TA := (tCons (tVar 3) (tCons (tOp (rIxT K) (tVar 3) (tC (.int 1))) (tCons (tCB (fun xs H Q => ∃ p ys, xs = [.ref p] ∧ (SqL K H p ys ∨ SqT K H p ys) ∧ ∀ l, H l = none → Q (.ref l) (upd H l (.lst ys))) (tCons (tVar 3) tNil)) (tCons (tC .non) (tCons (tCB (rOwnStr C (spMsStr C)) (tCons (tVar 4) tNil)) (tCons (tCB (rOwnLen C (spMsLen C)) (tCons (tVar 4) tNil)) (tCons (tDf (spOddS K) (tCons (tVar 1) tNil)) (tCons (tMake C (spMi C) [] E0 (tCons (tTup (tCons (tOp (rI0 fun i j => .int (i - j)) (tC (.int 7)) (tVar 5)) (tCons (tTup tNil) tNil))) tNil)) tNil))))))))
/-- the values of other kinds -/
theorem ed_vals8 (n1 : 1 ≤ n) (n5 : n ≤ 5) (hB : B < 90000) (h1 : σ[1]? = some (some (.ref S.s))) (h3 : σ[3]? = some (some v)) (h4 : σ[4]? = some (some x6)) (h5 : σ[5]? = some (some (.int (n : Int)))) (g3 : LotAt H v n p) (g4 : IsMs C H x6 n p) (w0 : Wld S noX noW B0 H) :
    EvD S noX noW B noW (B + 1) (fun H z => ∃ L vs, z = .ref L ∧ H L = some (.lst vs) ∧ vs.length = 8 ∧ (∀ z ∈ vs, isVl K C n H z)) (tLst (tVals8 K C)) σ H := by
  have sw : StyW noX noW := sty_no noX
  have n6 : n ≤ 6 := by omega
  have e7 : (7 : Int) - (n : Int) = ((7 - n : Nat) : Int) := by omega
  have a : EvDA S noX noW B noW (B + 1) (rVals8 K C S n p) (tVals8 K C) σ H := by
    unfold tVals8
    exact eda_cons (W1 := noW) (B1 := B) (sk_lot n p) (ed_pure sw fun H' k w => ev_var (sty_lot n p) h3 (g3.kx w0 k))
      (eda_cons (W1 := noW) (B1 := B) (sk_tup _) (ed_pure sw fun H' k w => ev_op (sty_lot n p) (ev_var (sty_lot n p) h3 (g3.kx w0 k)) (ev_c _) of_ix1)
      (eda_cons (W1 := noW) (B1 := B) sk_ol (fun H' k w Q q => by
        obtain ⟨x, y, ex, hx, hy⟩ := g3.kx w0 k
        exact ⟨_, h3, x, _, by rw [ex], .inr (SqT.of hx), fun l nl => q _ _ (KeepX.of (same_new nl)) (w.same sw (same_new nl)) ⟨l, _, rfl, upd_same, w.new nl⟩⟩)
      (eda_cons (W1 := noW) (B1 := B) (sk_v _) (ed_c _)
      (eda_cons (W1 := noW) (B1 := B) (sk_v _) (ed_pure sw fun H' k w => ev_strM n1 n6 (ev_var (sty_ms C n p) h4 (sk_ms _ _ _ _ _ w0 k g4)))
      (eda_cons (W1 := noW) (B1 := B) (sk_v _) (ed_pure sw fun H' k w => ev_lenM n1 n6 (ev_var (sty_ms C n p) h4 (sk_ms _ _ _ _ _ w0 k g4)))
      (eda_cons (W1 := noW) (B1 := B + 1) (fun W B H H' z w k ⟨d, h, m⟩ => ⟨d, sk_dn d W B H H' z w k h, m⟩) (ed_odd (W1 := noW) (B1 := B) sw (by omega) (ed_varV h1))
      (eda_cons (W1 := noW) (B1 := B + 1) sk_ms (ed_pure sw fun H' k w => ev_mk (by omega) (by omega) (ev_lot2 (q' := fun _ => false) (ms := []) (by unfold lotOf; exact List.filter_eq_nil_iff.mpr fun _ _ => by simp) (ev_op (Rc := isV (.int ((7 - n : Nat) : Int))) (sty_v _) (ev_c _) (ev_var (sty_v _) h5 rfl) (fun H x y ex ey Q q => ⟨7, n, ex, ey, q _ _ (Same.refl _) (congrArg V.int e7)⟩)) ev_tup0)) eda_nil)))))))
  refine (ed_lst sw styVals8 (Nat.le_of_ble_eq_true rfl) a).mono fun H z ⟨L, vs, ez, hL, gv, _⟩ => ⟨L, vs, ez, hL, allV_len gv, fun z hz => ?_⟩
  obtain ⟨j, hj⟩ := List.getElem?_of_mem hz
  have hj8 : j < 8 := by
    have := (List.getElem?_eq_some_iff.mp hj).1
    have h8 := allV_len gv
    exact Nat.lt_of_lt_of_le this (Nat.le_of_eq h8)
  match j, hj8, hj with
  | 0, _, hj =>
    obtain ⟨z', e', xa, ya, ea, ha, _⟩ := allV_at (j := 0) gv rfl
    cases hj.symm.trans e'
    exact .inl ⟨_, by rw [ea]; exact .tup (SqT.of ha)⟩
  | 1, _, hj =>
    obtain ⟨z', e', xb, eb, hb⟩ := allV_at (j := 1) gv rfl
    cases hj.symm.trans e'
    exact .inl ⟨_, by rw [eb]; exact .tup (SqT.of hb)⟩
  | 2, _, hj =>
    obtain ⟨z', e', Lc, xc, ec, hc, _⟩ := allV_at (j := 2) gv rfl
    cases hj.symm.trans e'
    exact .inl ⟨_, by rw [ec]; exact .lst (SqL.of hc)⟩
  | 3, _, hj =>
    obtain ⟨z', e', ed⟩ := allV_at (j := 3) gv rfl
    cases hj.symm.trans e'
    exact .inl ⟨_, by rw [ed]; exact .non⟩
  | 4, _, hj =>
    obtain ⟨z', e', ee⟩ := allV_at (j := 4) gv rfl
    cases hj.symm.trans e'
    exact .inl ⟨_, by rw [ee]; exact .str _⟩
  | 5, _, hj =>
    obtain ⟨z', e', ef⟩ := allV_at (j := 5) gv rfl
    cases hj.symm.trans e'
    exact .inl ⟨_, by rw [ef]; exact .int _⟩
  | 6, _, hj =>
    obtain ⟨z', e', dg, hg, _⟩ := allV_at (j := 6) gv rfl
    cases hj.symm.trans e'
    exact .inl ⟨_, (Dv.dz hg).bu⟩
  | 7, _, hj =>
    obtain ⟨z', e', hh⟩ := allV_at (j := 7) gv rfl
    cases hj.symm.trans e'
    exact .inr ⟨7 - n, _, hh, by omega, by omega, by omega⟩
end
section
variable {P : Program} {w : World} {K : PySem.W.Frag} {mg : Str → Option Value} {base : Heap} {C : Addr}
abbrev nLw6 : List Str := ["_law_script", "_law_stream_here", "_law_turn", "_law_one", "_law_a", "_law_width", "_law_part", "_law_other", "_law_value", "_law_some", "_law_b", "_law_mask"]
theorem scLw6 : FnScope nLw6 ["_law_script"] (defScope sLaw) := ⟨rfl, rfl, rfl, by decide +kernel, rfl, by decide +kernel, by decide +kernel⟩
structure Defs (P : Program) (w : World) (K : PySem.W.Frag) (mg : Str → Option Value) (base : Heap) (C : Addr) : Prop where
  lstream : DefR P w K mg base 13 "_law_stream" (spStream K)
  ldraw : DefR P w K mg base 13 "_law_draw" spDrawN
  lodd : DefR P w K mg base 13 "_law_odd" (spOddS K)
  ldrawn : DefR P w K mg base 13 "_law_drawn" spDrawn
  llike : DefR P w K mg base 13 "_law_like" spLike
  ltext : DefR P w K mg base 13 "_law_text" spLtx
  lpr : DefG P w K mg base 13 "_law_pair_right" spPr6
  mkS : MakeR P w K mg base 6 C "MaskSet" (spMi C)
  plot : PropR P w K mg base 1 C "lot" (spMsLot C)
  eqA : OwnR P w K mg base 5 C "__eq__" (spMsEqA C K)
  mlen : OwnR P w K mg base 9 C "__len__" (spMsLen C)
  bool : OwnR P w K mg base 9 C "__bool__" (spMsBool C)
  str : OwnR P w K mg base 9 C "__str__" (spMsStr C)
  ns : noSubs K C = true
  mro : PySem.W.mroIn K C (.type "object") = some true
  ne : PySem.W.findIn K (.ref C) "__ne__" = some (some (.builtin "object.__ne__"))
  nf : PySem.W.notFirst K C (.ref C) = true
def spLaw (K : PySem.W.Frag) : Sp := fun vs H Q _ => ∃ (a : Addr) (ns : List Int), vs = [.ref a] ∧ SqL K H a (ns.map V.int) ∧ ns.length ≤ 63 ∧ ∀ H', Q (.bl true) H'
theorem ev_ltx {n : Nat} {p : Nat → Bool} {t : TE} {σ : L2.St} {H : Hp} (h1 : 1 ≤ n) (h6 : n ≤ 6) (a : Ev (isLot n p) t σ H) : Ev (isV (.str (msTxt n p))) (tDf spLtx (tCons t tNil)) σ H :=
  ev_def1 a fun H x gx Q q => ⟨x, n, p, rfl, gx, h1, h6, fun H2 s2 => q _ _ s2 rfl⟩
theorem sh_msT {n : Nat} {p : Nat → Bool} (h1 : 1 ≤ n) (h6 : n ≤ 6) : ShD (.list [.int ((lotOf n p).length : Int), .bool (decide (lotOf n p ≠ [])), .str (msTxt n p)]) := by
  have hl := lot_len h6 p
  obtain ⟨t1, _, t2⟩ := msTxt_ok (p := p) h1 h6
  have g0 : Gd (10 ^ 39) 62 0 (.int ((lotOf n p).length : Int)) := (gd_int (i := ((lotOf n p).length : Int)) (by omega)).mono (Nat.le_refl _) (by omega) (by omega)
  have g1 : Gd (10 ^ 39) 62 0 (.bool (decide (lotOf n p ≠ []))) := (gd_bl _).mono (Nat.le_refl _) (by omega) (by omega)
  have g2 : Gd (10 ^ 39) 6002 0 (.str (msTxt n p)) := gd_str (n := 600) t1 t2
  exact (GdAll.cons g0 (GdAll.cons g1 (GdAll.cons g2 GdAll.nil))).list.shD (by decide) (by omega) (by decide)
theorem ev_neT0 {ms : List Nat} {t : TE} {σ : L2.St} {H : Hp} (a : Ev (isTup ms) t σ H) : Ev (isB (decide (ms ≠ []))) (tOp (rNeD K) t (tTup tNil)) σ H := by
  have e : decide (ms ≠ []) = !decide (ms = []) := by by_cases h : ms = [] <;> simp [h]
  rw [e]
  exact ev_op (sty_tup _) a ev_tup0 of_neT
theorem ev_pr6 {n : Nat} {ta tb : TE} {σ : L2.St} {H : Hp} (h1 : 1 ≤ n) (h6 : n ≤ 6) (a : Ev (isAl n) ta σ H) (b : Ev (isAl n) tb σ H) : Ev (isB true) (tDf spPr6 (tCons ta (tCons tb tNil))) σ H :=
  ev_def2 (sty_al _) a b fun H x y ⟨p, gx⟩ ⟨r, gy⟩ Q q => ⟨x, y, n, p, r, rfl, gx, gy, h1, h6, fun H2 s2 => q _ _ s2 rfl⟩
theorem run_it {f : Addr} {fd : FuncData} (B : Bl mg) (mR : mg "repr" = none) (mS : mg "str" = none) (mL : mg "list" = none) (F : Fun K "law" "law" sLaw f fd) (T : MsC K C) (d : Defs P w K mg base C) : RunC P w K mg base 14 f (spLaw K) := by
  refine run_law (k := 13) F scLw6 (fun _ _ _ _ _ _ _ => rfl) (fun cdv s H v Q hr h => ?_)
  obtain ⟨a0, ns, ev, hA, hlen, q⟩ := h
  cases ev
  have hun : (callerA.deeper (envOfC "law" (defScope sLaw) s.heap.objs.size f cdv)).units + 128 < cLine := by have := hr.un; omega
  have hgd : (callerA.deeper (envOfC "law" (defScope sLaw) s.heap.objs.size f cdv)).guards = some [] := rfl
  have hr5 : Room 5 (callerA.deeper (envOfC "law" (defScope sLaw) s.heap.objs.size f cdv)) := hr.mono (by omega)
  have hr6 : Room 6 (callerA.deeper (envOfC "law" (defScope sLaw) s.heap.objs.size f cdv)) := hr.mono (by omega)
  refine ⟨_, pss_cons (ps_set (i := 1) scLw6.nd rfl (by first | exact Or.inl rfl | exact Or.inr rfl) (pe_def d.lstream hr (by rfl) (pa_cons (pv 0) pa_nil)))
      (pss_cons (ps_for PassesOwn.never rfl (pi_range1 (by rfl) B.range (pa_cons pe_int pa_nil)) (pg_name (i := 2) scLw6.nd rfl (by first | exact Or.inl rfl | exact Or.inr rfl))
      (pss_cons (ps_set (i := 3) scLw6.nd rfl (by first | exact Or.inl rfl | exact Or.inr rfl) (pe_def d.ldrawn hr (by rfl) (pa_cons (pv 1) (pa_cons (pe_ix ix_list (pe_lst (pa_cons pe_int (pa_cons pe_int (pa_cons pe_int pa_nil)))) (pe_op op_mod (pv 2) pe_int) (fun _ _ => rfl)) pa_nil))))
      (pss_cons (ps_par (i := 4) (j := 5) (by rfl) scLw6.nd rfl rfl (by decide) rfl rfl (pa_cons (pe_mkR d.mkS (hr.mono (by omega)) (by rfl) (pa_cons (pv 3) pa_nil)) (pa_cons (pe_ix ix_tup (pv 3) pe_int (fun _ _ => rfl)) pa_nil)) (by rfl))
      (pss_cons (ps_set (i := 6) scLw6.nd rfl (by first | exact Or.inl rfl | exact Or.inr rfl) (pe_tup (pa_cons (pv 5) (pa_cons (pe_callTy cr_tupO (by rfl) B.tuple bT (pa_cons (pe_lc (own := [("_law_mask", 11)]) (g := (gName 11)) (tt := (tTest (tOp rEq (tDf spDrawN (tCons (tVar 1) (tCons (tC (.int 2)) tNil))) (tC (.int 0))))) (te := (tVar 11)) rfl scLw6.nd (pi_tup (pe_ix ix_tup (pv 3) pe_int (fun _ _ => rfl))) (blkOk_by (own := [("_law_mask", 11)]) (N := nLw6) (sc := defScope sLaw) (by decide +kernel))
          (fun _ _ _ _ _ => (pg_name (i := 11) scLw6.nd rfl (Or.inl rfl))) (fun _ _ _ _ _ => pts_one (pt_cmpR op_eq (pe_def d.ldraw hr (by rfl) (pa_cons (pv 1) (pa_cons pe_int pa_nil))) pe_int (nomark _))) (fun _ _ _ _ _ => pv 11)) pa_nil)) pa_nil))))
      (pss_cons (ps_for PassesOwn.never rfl (pi_list (pe_lst (pa_cons (pv 3) (pa_cons (pv 6) (pa_cons (pe_def d.llike hr (by rfl) (pa_cons (pv 1) (pa_cons (pv 3) pa_nil))) (pa_cons (pe_tup (pa_cons (pv 5) (pa_cons (pe_tup pa_nil) pa_nil))) (pa_cons (pe_tup (pa_cons (pv 5) (pa_cons (pe_tupRg rfl (by rfl) B.tuple (prg_1 (by rfl) B.range (pe_op op_shl pe_int (pv 5)))) pa_nil))) pa_nil))))))) (pg_name (i := 7) scLw6.nd rfl (by first | exact Or.inl rfl | exact Or.inr rfl))
      (pss_one (ps_if (PW.pt (pw_or (pt_not (pt_val (pe_defG d.lpr hr hgd (by rfl) (pa_cons (pv 3) (pa_cons (pv 7) pa_nil))))) (pw_or1 (pt_not (pt_val (pe_defG d.lpr hr hgd (by rfl) (pa_cons (pv 7) (pa_cons (pv 3) pa_nil)))))))) pss_never pss_nil)))
      (pss_cons (ps_for PassesOwn.never rfl (pi_list (pe_lst (pa_cons (pv 3) (pa_cons (pe_ix ix_tup (pv 3) pe_int (fun _ _ => rfl)) (pa_cons (pe_callTy call_list_of (by rfl) mL bList (pa_cons (pv 3) pa_nil)) (pa_cons pe_non (pa_cons (pe_callTy (cr_strR d.str (hr.mono (by omega))) (by rfl) mS boot_str (pa_cons (pv 4) pa_nil)) (pa_cons (pe_callB (cr_lenR d.mlen (hr.mono (by omega))) (by rfl) B.len PySem.boot_len (pa_cons (pv 4) pa_nil)) (pa_cons (pe_def d.lodd hr (by rfl) (pa_cons (pv 1) pa_nil)) (pa_cons (pe_mkR d.mkS (hr.mono (by omega)) (by rfl) (pa_cons (pe_tup (pa_cons (pe_op op_sub pe_int (pv 5)) (pa_cons (pe_tup pa_nil) pa_nil))) pa_nil)) pa_nil)))))))))) (pg_name (i := 8) scLw6.nd rfl (by first | exact Or.inl rfl | exact Or.inr rfl))
      (pss_one (ps_if (PW.pt (pw_or (pt_cmpR ((op_eqR d.eqA hr5).or (op_eqBu d.eqA hr5)) (pv 4) (pv 8) (nomark _)) (pw_or (pt_cmpR ((op_eqR d.eqA hr5).or (op_buEq d.eqA hr5 d.ns)) (pv 8) (pv 4) (nomark _)) (pw_or1 (pt_not (pt_cmpR ((op_neL d.eqA hr6 d.nf d.mro d.ne).or (op_neBu d.eqA hr6 d.mro d.ne)) (pv 4) (pv 8) (nomark _))))))) pss_never pss_nil)))
      (pss_cons (ps_for PassesOwn.never rfl (pi_list (pe_lst (pa_cons (pv 3) (pa_cons (pv 6) (pa_cons (pe_tup (pa_cons (pv 5) (pa_cons (pe_tup pa_nil) pa_nil))) pa_nil))))) (pg_name (i := 9) scLw6.nd rfl (by first | exact Or.inl rfl | exact Or.inr rfl))
      (pss_cons (ps_set (i := 10) scLw6.nd rfl (by first | exact Or.inl rfl | exact Or.inr rfl) (pe_mkR d.mkS (hr.mono (by omega)) (by rfl) (pa_cons (pv 9) pa_nil)))
      (pss_one (ps_if (pt_cmpR op_ne (pe_callB (cr_reprA hgd hun) (by rfl) mR boot_repr (pa_cons (pe_lstB (pa_cons (pe_callB (cr_lenR d.mlen (hr.mono (by omega))) (by rfl) B.len PySem.boot_len (pa_cons (pv 10) pa_nil)) (pa_cons (pe_callTy (cr_boolO d.bool (hr.mono (by omega))) (by rfl) B.bool bBool (pa_cons (pv 10) pa_nil)) (pa_cons (pe_callTy (cr_strR d.str (hr.mono (by omega))) (by rfl) mS boot_str (pa_cons (pv 10) pa_nil)) pa_nil)))) pa_nil)) (pe_callB (cr_reprA hgd hun) (by rfl) mR boot_repr (pa_cons (pe_lstB (pa_cons (pe_callB call_len_seq (by rfl) B.len PySem.boot_len (pa_cons (pe_ix ix_tup (pv 9) pe_int (fun _ _ => rfl)) pa_nil)) (pa_cons (pe_cmpR (op_neD hr.units) (pe_ix ix_tup (pv 9) pe_int (fun _ _ => rfl)) (pe_tup pa_nil) (nomark _)) (pa_cons (pe_def d.ltext hr (by rfl) (pa_cons (pv 9) pa_nil)) pa_nil)))) pa_nil)) (nomark _)) pss_never pss_nil))))
      (pss_one (ps_if (pt_cmpR op_ne (pe_callB (cr_reprA hgd hun) (by rfl) mR boot_repr (pa_cons (pe_propR (pv 4) d.plot (hr.mono (by omega))) pa_nil)) (pe_callB (cr_reprA hgd hun) (by rfl) mR boot_repr (pa_cons (pv 3) pa_nil)) (nomark _)) pss_never pss_nil)))))))))
      (pss_one (ps_ret (pe_and (pe_cmpR op_eq (pe_callTy (cr_strR d.str (hr.mono (by omega))) (by rfl) mS boot_str (pa_cons (pe_mkR d.mkS (hr.mono (by omega)) (by rfl) (pa_cons (pe_tup (pa_cons pe_int (pa_cons (pe_tup (pa_cons pe_int (pa_cons pe_int pa_nil))) pa_nil))) pa_nil)) pa_nil)) pe_str (nomark _)) (pe_one (pe_not (pe_cmpR (op_eqR d.eqA hr5) (pe_mkR d.mkS (hr.mono (by omega)) (by rfl) (pa_cons (pe_tup (pa_cons pe_int (pa_cons (pe_tup (pa_cons pe_int pa_nil)) pa_nil))) pa_nil)) (pe_mkR d.mkS (hr.mono (by omega)) (by rfl) (pa_cons (pe_tup (pa_cons pe_int (pa_cons (pe_tup (pa_cons pe_int pa_nil)) pa_nil))) pa_nil)) (nomark _)))))))), ?_⟩
  refine ⟨.ref a0, rfl, a0, ns, rfl, hA, hlen, fun H1 S s1 st1 => ?_⟩
  have sw : StyW noX noW := sty_no noX
  have w1 : Wld S noX noW 0 H1 := ⟨⟨0, st1, Int.le_refl _⟩, trivial, fun _ h => h.elim⟩
  refine ⟨6, rfl, by decide, by decide, for_range (lo := 0) (n := 6) (fun i σ H' => ∃ (z2 z3 z4 z5 z6 z7 z8 z9 z10 : Option V), σ = [some (.ref a0), some (.ref S.s), z2, z3, z4, z5, z6, z7, z8, z9, z10, none] ∧ Wld S noX noW (600 * i) H') ⟨none, none, none, none, none, none, none, none, none, rfl, w1.mono (by omega)⟩ (fun i σ H2 hi h => ?_) (fun σ H2 h => ?_)⟩
  · obtain ⟨z2, z3, z4, z5, z6, z7, z8, z9, z10, rfl, wd⟩ := h
    obtain ⟨c, hc, hc1, hc6⟩ : ∃ c : Nat, ([V.int 5, .int 4, .int 3] : List V)[i % 3]? = some (.int (c : Int)) ∧ 1 ≤ c ∧ c ≤ 5 := by
      match i, hi with
      | 0, _ => exact ⟨5, rfl, by decide, by decide⟩
      | 1, _ => exact ⟨4, rfl, by decide, by decide⟩
      | 2, _ => exact ⟨3, rfl, by decide, by decide⟩
      | 3, _ => exact ⟨5, rfl, by decide, by decide⟩
      | 4, _ => exact ⟨4, rfl, by decide, by decide⟩
      | 5, _ => exact ⟨3, rfl, by decide, by decide⟩
    refine asg_ed (W1 := noW) (B1 := 600 * i + 300) (ed_drawn (m := c) (W1 := noW) (B1 := 600 * i) sw hc1 (by omega) (by omega) (ed_varV rfl) (ed_pure sw fun H3 k3 w3 => ev_op (sty_lv _) (ev_lv (vs := [.int 5, .int 4, .int 3]) (Nat.le_of_ble_eq_true rfl) (eva_cons (sty_v _) (ev_c _) (eva_cons (sty_v _) (ev_c _) (eva_cons (sty_v _) (ev_c _) eva_nil)))) (ev_op (Rc := isV (.int ((i % 3 : Nat) : Int))) (sty_v _) (ev_var (sty_v _) rfl rfl) (ev_c _) (fun H x y ex ey Q' q' => ⟨0 + (i : Int), 3, ex, ey, (by decide : (0 : Int) < 3), q' _ _ (Same.refl _) (by show V.int ((0 + (i : Int)) % 3) = _; rw [Int.zero_add]; rfl)⟩)) (of_ixLv hc))) wd fun H3 v3 k3 wd3 g3 => ?_
    obtain ⟨n, p, g3, n1, nc⟩ := g3
    have n5 : n ≤ 5 := by omega
    have n6 : n ≤ 6 := by omega
    refine par_ev (R := isMs C n p) (R' := isV (.int (n : Int))) (sty_ms _ _ _) (ev_mk n1 n6 (ev_var (sty_lot n p) rfl g3)) (ev_op (sty_lot _ _) (ev_var (sty_lot n p) rfl g3) (ev_c _) of_ix0) fun H4 x4 x5 s4 g4 e5 => ?_
    subst e5
    have g3 := g3.same s4
    have wd4 := wd3.same sw s4
    clear wd3 k3 s4
    refine asg_ed (W1 := noW) (B1 := 600 * i + 300 + 64) (ed_part56 (n := n) n6 (by omega) (fun _ => rfl) rfl rfl (fun _ => rfl) (fun _ => rfl) g3 wd4) wd4 fun H5 x6 k5 wd5 g6 => ?_
    have g3 := g3.kx wd4 k5
    have g4 := sk_ms _ _ _ _ _ wd4 k5 g4
    clear wd4 k5
    refine fors_edL (W1 := noW) (B1 := 600 * i + 300 + 64 + 100) (ed_lots5 (v := v3) (x6 := x6) (B := 600 * i + 300 + 64) n1 n6 (by omega) rfl rfl rfl rfl g3 g6 wd5) wd5 fun H6 z k6 wd6 ⟨L, vs, ez, hL, gv, nL⟩ => ?_
    subst ez
    have g3 := g3.kx wd5 k6
    have g4 := sk_ms _ _ _ _ _ wd5 k6 g4
    have g6 := sk_al n _ _ _ _ _ wd5 k6 g6
    clear wd5 k6
    refine ⟨L, rfl, ⟨_, SqL.of hL⟩, for_list (xs := vs) (fun j σ H' => ∃ z7, σ = [some (.ref a0), some (.ref S.s), some (.int (0 + (i : Int))), some v3, some x4, some (.int (n : Int)), some x6, z7, z8, z9, z10, none] ∧ Same H6 H') ⟨_, rfl, Same.refl _⟩ (fun j σ H' hj h => ?_) (fun j y σ H' hy h => ?_) (fun σ H' h => ?_)⟩
    · obtain ⟨_, rfl, s⟩ := h
      exact SqL.of (s _ _ hL)
    · obtain ⟨z7, rfl, s⟩ := h
      have gy := sty_al n _ _ _ s (allV_rep (k := 5) gv y (List.mem_of_getElem? hy))
      have e3 : ∀ {σ : L2.St}, σ[3]? = some (some v3) → Ev (isAl n) (tVar 3) σ H' := fun e => (ev_var (sty_lot n p) e (g3.same s)).mono fun _ _ g => ⟨p, g⟩
      exact if_no (evt_or (evt_not (evt_b (ev_pr6 n1 n6 (e3 rfl) (ev_var (sty_al n) rfl gy)))) (evt_not (evt_b (ev_pr6 n1 n6 (ev_var (sty_al n) rfl gy) (e3 rfl))))) rfl fun H7 s7 => ⟨_, rfl, s.trans s7⟩
    obtain ⟨z7, rfl, s7⟩ := h
    have g3 := g3.same s7
    have g4 := sty_ms _ _ _ _ _ _ s7 g4
    have g6 := sty_al n _ _ _ s7 g6
    have wd7 := wd6.same sw s7
    clear wd6 s7 hL gv nL
    refine fors_edL (W1 := noW) (B1 := 600 * i + 300 + 64 + 100 + 1) (ed_vals8 (v := v3) (x6 := x4) (B := 600 * i + 300 + 64 + 100) n1 n5 (by omega) rfl rfl rfl rfl g3 g4 wd7) wd7 fun H8 z k8 wd8 ⟨LB, us, ez, hL2, l8, gu⟩ => ?_
    subst ez
    have g3 := g3.kx wd7 k8
    have g4 := sk_ms _ _ _ _ _ wd7 k8 g4
    have g6 := sk_al n _ _ _ _ _ wd7 k8 g6
    clear wd7 k8
    refine ⟨LB, rfl, ⟨_, SqL.of hL2⟩, for_list (xs := us) (fun j σ H' => ∃ z8, σ = [some (.ref a0), some (.ref S.s), some (.int (0 + (i : Int))), some v3, some x4, some (.int (n : Int)), some x6, z7, z8, z9, z10, none] ∧ Same H8 H') ⟨_, rfl, Same.refl _⟩ (fun j σ H' hj h => ?_) (fun j y σ H' hy h => ?_) (fun σ H' h => ?_)⟩
    · obtain ⟨_, rfl, s⟩ := h
      exact SqL.of (s _ _ hL2)
    · obtain ⟨z8, rfl, s⟩ := h
      have gy := sty_vl K C n _ _ _ s (gu y (List.mem_of_getElem? hy))
      have e4 : ∀ {σ : L2.St} {H1 : Hp}, σ[4]? = some (some x4) → Same H' H1 → Ev (isMs C n p) (tVar 4) σ H1 := fun e s1 => ev_var (sty_ms C n p) e (sty_ms _ _ _ _ _ _ (s.trans s1) g4)
      rcases gy with ⟨T, gb⟩ | ⟨n2, p2, gm, k1, k6, kn⟩
      · have e8 : ∀ {σ : L2.St}, σ[8]? = some (some y) → Ev (isBu K) (tVar 8) σ H' := fun e => ev_var (sty_bu K) e ⟨T, gb⟩
        exact if_no (evt_or (evt_test (ev_op (sty_ms _ _ _) (e4 rfl (Same.refl _)) (e8 rfl) (OpF.inr of_Sbu))) (evt_or (evt_test (ev_op (sty_bu K) (e8 rfl) (e4 rfl (Same.refl _)) (OpF.inr of_buS))) (evt_not (evt_test (ev_op (sty_ms _ _ _) (e4 rfl (Same.refl _)) (e8 rfl) (OpF.inr of_neBu)))))) rfl fun H9 s9 => ⟨_, rfl, s.trans s9⟩
      · have e8 : ∀ {σ : L2.St}, σ[8]? = some (some y) → Ev (isMs C n2 p2) (tVar 8) σ H' := fun e => ev_var (sty_ms C n2 p2) e gm
        refine if_no (evt_or (evt_test (ev_op (sty_ms _ _ _) (e4 rfl (Same.refl _)) (e8 rfl) (OpF.inl (of_eqSS n1 n6 k1 k6)))) (evt_or (evt_test (ev_op (sty_ms _ _ _) (e8 rfl) (e4 rfl (Same.refl _)) (OpF.inl (of_eqSS k1 k6 n1 n6)))) (evt_not (evt_test (ev_op (sty_ms _ _ _) (e4 rfl (Same.refl _)) (e8 rfl) (OpF.inl (of_neSS n1 n6 k1 k6))))))) ?_ fun H9 s9 => ⟨_, rfl, s.trans s9⟩
        rw [eqv_width kn, eqv_width (fun z => kn z.symm)]
        rfl
    obtain ⟨z8', rfl, s8⟩ := h
    have g3 := g3.same s8
    have g4 := sty_ms _ _ _ _ _ _ s8 g4
    have g6 := sty_al n _ _ _ s8 g6
    have wd9 := wd8.same sw s8
    clear wd8 s8 hL2 gu l8
    refine fors_evL6 (ev_lots3 (v := v3) (x6 := x6) rfl rfl rfl g3 g6) fun H10 z s10 ⟨L3, ws, ez, hL3, gw⟩ => ?_
    subst ez
    have g3 := g3.same s10
    have g4 := sty_ms _ _ _ _ _ _ s10 g4
    have wd10 := wd9.same sw s10
    clear wd9 s10 g6
    refine ⟨L3, rfl, ⟨_, SqL.of hL3⟩, for_list (xs := ws) (fun j σ H' => ∃ z9 z10, σ = [some (.ref a0), some (.ref S.s), some (.int (0 + (i : Int))), some v3, some x4, some (.int (n : Int)), some x6, z7, z8', z9, z10, none] ∧ Same H10 H') ⟨_, _, rfl, Same.refl _⟩ (fun j σ H' hj h => ?_) (fun j y σ H' hy h => ?_) (fun σ H' h => ?_)⟩
    · obtain ⟨_, _, rfl, s⟩ := h
      exact SqL.of (s _ _ hL3)
    · obtain ⟨z9, z10, rfl, s⟩ := h
      obtain ⟨r, gy⟩ := sty_al n _ _ _ s (allV_rep (k := 3) gw y (List.mem_of_getElem? hy))
      refine asg_ev (R := isMs C n r) (ev_mk n1 n6 (ev_var (sty_lot n r) rfl gy)) fun H11 b s11 gb => ?_
      have gy := gy.same s11
      have e9 : ∀ {σ : L2.St}, σ[9]? = some (some y) → Ev (isLot n r) (tVar 9) σ H11 := fun e => ev_var (sty_lot n r) e gy
      have e10 : ∀ {σ : L2.St}, σ[10]? = some (some b) → Ev (isMs C n r) (tVar 10) σ H11 := fun e => ev_var (sty_ms C n r) e gb
      exact if_no (evt_reprs (sh_msT n1 n6) rfl (ev_lstD (ds := [_, _, _]) (Nat.le_of_ble_eq_true rfl) (eva_consD (ev_i (ev_lenM n1 n6 (e10 rfl))) (eva_consD (ev_b (ev_boolM6 n1 n6 (e10 rfl))) (eva_consD (ev_s (ev_strM n1 n6 (e10 rfl))) eva_nil)))) (ev_lstD (ds := [_, _, _]) (Nat.le_of_ble_eq_true rfl) (eva_consD (ev_i (ev_len_tup (ev_op (sty_lot _ _) (e9 rfl) (ev_c _) of_ix1))) (eva_consD (ev_b (ev_neT0 (ev_op (sty_lot _ _) (e9 rfl) (ev_c _) of_ix1))) (eva_consD (ev_s (ev_ltx n1 n6 (e9 rfl))) eva_nil))))) rfl fun H12 s12 => ⟨_, _, rfl, (s.trans s11).trans s12⟩
    obtain ⟨z9', z10', rfl, s11⟩ := h
    have g3 := g3.same s11
    have g4 := sty_ms _ _ _ _ _ _ s11 g4
    have wd11 := wd10.same sw s11
    have shL : ShD (dLot n p) := (gd_lot (M := 10 ^ 39) (by decide) n6 _).shD (by decide) (by omega) (by decide)
    exact if_no (evt_reprs shL rfl (ev_lotD (ev_lot n1 n6 (ev_var (sty_ms C n p) rfl g4))) (ev_lotD (ev_var (sty_lot n p) rfl g3))) rfl fun H12 s12 => ⟨_, _, _, _, _, _, _, _, _, rfl, (wd11.same sw s12).mono (by rw [Int.natCast_add]; omega)⟩
  · obtain ⟨z2, z3, z4, z5, z6, z7, z8, z9, z10, rfl, wd⟩ := h
    have l16 : lotOf 3 (fun m => m == 1 || m == 6) = [1, 6] := by decide +kernel
    have l1 : ∀ k, k = 2 ∨ k = 3 → lotOf k (fun m => m == 1) = [1] := fun k hk => by
      rcases hk with rfl | rfl <;> decide +kernel
    have et : msTxt 3 (fun m => m == 1 || m == 6) = "3 bits: 001 110" := by
      have h : (msTxt 3 (fun m => m == 1 || m == 6) == ("3 bits: 001 110" : Str)) = true := by decide +kernel
      exact beq_iff_eq.mp h
    refine ret_ev (R := isB true) ((ev_andV (b := decide (msTxt 3 (fun m => m == 1 || m == 6) = "3 bits: 001 110")) (c := !PyData.eqv (dLot 2 (fun m => m == 1)) (dLot 3 (fun m => m == 1))) (ev_op (sty_v _) (ev_strM (by omega) (by omega) (ev_mk (by omega) (by omega) (ev_lot2 l16 (ev_c _) ev_tup2c))) (ev_c _) of_eqS) (ev_notV (ev_op (sty_ms _ _ _) (ev_mk (by omega) (by omega) (ev_lot2 (l1 2 (.inl rfl)) (ev_c _) (ev_tup1 (m := 1) (ev_c _)))) (ev_mk (by omega) (by omega) (ev_lot2 (l1 3 (.inr rfl)) (ev_c _) (ev_tup1 (m := 1) (ev_c _)))) (of_eqSS (by omega) (by omega) (by omega) (by omega))))).mono fun H z e => by rw [e, decide_eq_true et, eqv_width (by omega)]; rfl) fun H7 z7 s7 e7 => ?_
    rw [e7]
    exact q _
end
end XT
namespace XT
open PySem PySem.Spec PyProof.Rows L2
/-! what the top has written -/
theorem all_mk {l : PySem.W.OpenLaw} {w : World} {K : PySem.W.Frag} {h : Heap} {mg : Str → Option Value} {fa : Addr} (X : K.In h) (G : h.Ns mainGlobals mg) (hfa : mg "law" = some (.ref fa))
    {f1 : Addr} {od1 an1 : Option Addr} {sl1 : Array (Option Value)} {oc1 kV1 dc1 pm1 cd1 ct1 : Value}
    (a1 : PySem.W.nsIn K mainGlobals "_wall" = some (some (.ref f1))) (l1 : K.lookup f1 = some ⟨oc1, od1, .func (PySem.W.fnOf "_wall" "_wall" (defArgs sWall) (defBody sWall) (defScope sWall) .none kV1 dc1 pm1 an1 cd1 ct1), sl1⟩) (c1 : PySem.W.codeIn K cd1 "_wall" = true) (k1 : PySem.W.keepIn K (.ref f1) = true)
    {f2 : Addr} {od2 an2 : Option Addr} {sl2 : Array (Option Value)} {oc2 kV2 dc2 pm2 cd2 ct2 : Value}
    (a2 : PySem.W.nsIn K mainGlobals "is_number" = some (some (.ref f2))) (l2 : K.lookup f2 = some ⟨oc2, od2, .func (PySem.W.fnOf "is_number" "is_number" (defArgs sNum) (defBody sNum) (defScope sNum) .none kV2 dc2 pm2 an2 cd2 ct2), sl2⟩) (c2 : PySem.W.codeIn K cd2 "is_number" = true) (k2 : PySem.W.keepIn K (.ref f2) = true)
    {f3 : Addr} {od3 an3 : Option Addr} {sl3 : Array (Option Value)} {oc3 kV3 dc3 pm3 cd3 ct3 : Value}
    (a3 : PySem.W.nsIn K mainGlobals "is_width" = some (some (.ref f3))) (l3 : K.lookup f3 = some ⟨oc3, od3, .func (PySem.W.fnOf "is_width" "is_width" (defArgs sIsW) (defBody sIsW) (defScope sIsW) .none kV3 dc3 pm3 an3 cd3 ct3), sl3⟩) (c3 : PySem.W.codeIn K cd3 "is_width" = true) (k3 : PySem.W.keepIn K (.ref f3) = true)
    {f4 : Addr} {od4 an4 : Option Addr} {sl4 : Array (Option Value)} {oc4 kV4 dc4 pm4 cd4 ct4 : Value}
    (a4 : PySem.W.nsIn K mainGlobals "is_mask" = some (some (.ref f4))) (l4 : K.lookup f4 = some ⟨oc4, od4, .func (PySem.W.fnOf "is_mask" "is_mask" (defArgs sMask) (defBody sMask) (defScope sMask) .none kV4 dc4 pm4 an4 cd4 ct4), sl4⟩) (c4 : PySem.W.codeIn K cd4 "is_mask" = true) (k4 : PySem.W.keepIn K (.ref f4) = true)
    {f5 : Addr} {od5 an5 : Option Addr} {sl5 : Array (Option Value)} {oc5 kV5 dc5 pm5 cd5 ct5 : Value}
    (a5 : PySem.W.nsIn K mainGlobals "lot_error" = some (some (.ref f5))) (l5 : K.lookup f5 = some ⟨oc5, od5, .func (PySem.W.fnOf "lot_error" "lot_error" (defArgs sLotE) (defBody sLotE) (defScope sLotE) .none kV5 dc5 pm5 an5 cd5 ct5), sl5⟩) (c5 : PySem.W.codeIn K cd5 "lot_error" = true) (k5 : PySem.W.keepIn K (.ref f5) = true)
    {f6 : Addr} {od6 an6 : Option Addr} {sl6 : Array (Option Value)} {oc6 kV6 dc6 pm6 cd6 ct6 : Value}
    (a6 : PySem.W.nsIn K mainGlobals "check_lot" = some (some (.ref f6))) (l6 : K.lookup f6 = some ⟨oc6, od6, .func (PySem.W.fnOf "check_lot" "check_lot" (defArgs sCheckLot) (defBody sCheckLot) (defScope sCheckLot) .none kV6 dc6 pm6 an6 cd6 ct6), sl6⟩) (c6 : PySem.W.codeIn K cd6 "check_lot" = true) (k6 : PySem.W.keepIn K (.ref f6) = true)
    {f7 : Addr} {od7 an7 : Option Addr} {sl7 : Array (Option Value)} {oc7 kV7 dc7 pm7 cd7 ct7 : Value}
    (a7 : PySem.W.nsIn K mainGlobals "mask_error" = some (some (.ref f7))) (l7 : K.lookup f7 = some ⟨oc7, od7, .func (PySem.W.fnOf "mask_error" "mask_error" (defArgs sMaskE) (defBody sMaskE) (defScope sMaskE) .none kV7 dc7 pm7 an7 cd7 ct7), sl7⟩) (c7 : PySem.W.codeIn K cd7 "mask_error" = true) (k7 : PySem.W.keepIn K (.ref f7) = true)
    {f8 : Addr} {od8 an8 : Option Addr} {sl8 : Array (Option Value)} {oc8 kV8 dc8 pm8 cd8 ct8 : Value}
    (a8 : PySem.W.nsIn K mainGlobals "turned" = some (some (.ref f8))) (l8 : K.lookup f8 = some ⟨oc8, od8, .func (PySem.W.fnOf "turned" "turned" (defArgs sTurned) (defBody sTurned) (defScope sTurned) .none kV8 dc8 pm8 an8 cd8 ct8), sl8⟩) (c8 : PySem.W.codeIn K cd8 "turned" = true) (k8 : PySem.W.keepIn K (.ref f8) = true)
    {f9 : Addr} {od9 an9 : Option Addr} {sl9 : Array (Option Value)} {oc9 kV9 dc9 pm9 cd9 ct9 : Value}
    (a9 : PySem.W.nsIn K mainGlobals "rest_of" = some (some (.ref f9))) (l9 : K.lookup f9 = some ⟨oc9, od9, .func (PySem.W.fnOf "rest_of" "rest_of" (defArgs sRest) (defBody sRest) (defScope sRest) .none kV9 dc9 pm9 an9 cd9 ct9), sl9⟩) (c9 : PySem.W.codeIn K cd9 "rest_of" = true) (k9 : PySem.W.keepIn K (.ref f9) = true)
    {f10 : Addr} {od10 an10 : Option Addr} {sl10 : Array (Option Value)} {oc10 kV10 dc10 pm10 cd10 ct10 : Value}
    (a10 : PySem.W.nsIn K mainGlobals "left_over" = some (some (.ref f10))) (l10 : K.lookup f10 = some ⟨oc10, od10, .func (PySem.W.fnOf "left_over" "left_over" (defArgs sLeft) (defBody sLeft) (defScope sLeft) .none kV10 dc10 pm10 an10 cd10 ct10), sl10⟩) (c10 : PySem.W.codeIn K cd10 "left_over" = true) (k10 : PySem.W.keepIn K (.ref f10) = true)
    {f11 : Addr} {od11 an11 : Option Addr} {sl11 : Array (Option Value)} {oc11 kV11 dc11 pm11 cd11 ct11 : Value}
    (a11 : PySem.W.nsIn K mainGlobals "united" = some (some (.ref f11))) (l11 : K.lookup f11 = some ⟨oc11, od11, .func (PySem.W.fnOf "united" "united" (defArgs sUnited) (defBody sUnited) (defScope sUnited) .none kV11 dc11 pm11 an11 cd11 ct11), sl11⟩) (c11 : PySem.W.codeIn K cd11 "united" = true) (k11 : PySem.W.keepIn K (.ref f11) = true)
    {f12 : Addr} {od12 an12 : Option Addr} {sl12 : Array (Option Value)} {oc12 kV12 dc12 pm12 cd12 ct12 : Value}
    (a12 : PySem.W.nsIn K mainGlobals "shared" = some (some (.ref f12))) (l12 : K.lookup f12 = some ⟨oc12, od12, .func (PySem.W.fnOf "shared" "shared" (defArgs sShared) (defBody sShared) (defScope sShared) .none kV12 dc12 pm12 an12 cd12 ct12), sl12⟩) (c12 : PySem.W.codeIn K cd12 "shared" = true) (k12 : PySem.W.keepIn K (.ref f12) = true)
    {f13 : Addr} {od13 an13 : Option Addr} {sl13 : Array (Option Value)} {oc13 kV13 dc13 pm13 cd13 ct13 : Value}
    (a13 : PySem.W.nsIn K mainGlobals "common_width" = some (some (.ref f13))) (l13 : K.lookup f13 = some ⟨oc13, od13, .func (PySem.W.fnOf "common_width" "common_width" (defArgs sWidth) (defBody sWidth) (defScope sWidth) .none kV13 dc13 pm13 an13 cd13 ct13), sl13⟩) (c13 : PySem.W.codeIn K cd13 "common_width" = true) (k13 : PySem.W.keepIn K (.ref f13) = true)
    {f14 : Addr} {od14 an14 : Option Addr} {sl14 : Array (Option Value)} {oc14 kV14 dc14 pm14 cd14 ct14 : Value}
    (a14 : PySem.W.nsIn K mainGlobals "pair_counts" = some (some (.ref f14))) (l14 : K.lookup f14 = some ⟨oc14, od14, .func (PySem.W.fnOf "pair_counts" "pair_counts" (defArgs sPairCounts) (defBody sPairCounts) (defScope sPairCounts) .none kV14 dc14 pm14 an14 cd14 ct14), sl14⟩) (c14 : PySem.W.codeIn K cd14 "pair_counts" = true) (k14 : PySem.W.keepIn K (.ref f14) = true)
    {f15 : Addr} {od15 an15 : Option Addr} {sl15 : Array (Option Value)} {oc15 kV15 dc15 pm15 cd15 ct15 : Value}
    (a15 : PySem.W.nsIn K mainGlobals "sum_of" = some (some (.ref f15))) (l15 : K.lookup f15 = some ⟨oc15, od15, .func (PySem.W.fnOf "sum_of" "sum_of" (defArgs sSumOf) (defBody sSumOf) (defScope sSumOf) .none kV15 dc15 pm15 an15 cd15 ct15), sl15⟩) (c15 : PySem.W.codeIn K cd15 "sum_of" = true) (k15 : PySem.W.keepIn K (.ref f15) = true)
    {f16 : Addr} {od16 an16 : Option Addr} {sl16 : Array (Option Value)} {oc16 kV16 dc16 pm16 cd16 ct16 : Value}
    (a16 : PySem.W.nsIn K mainGlobals "greatest_addend" = some (some (.ref f16))) (l16 : K.lookup f16 = some ⟨oc16, od16, .func (PySem.W.fnOf "greatest_addend" "greatest_addend" (defArgs sGreatestAddend) (defBody sGreatestAddend) (defScope sGreatestAddend) .none kV16 dc16 pm16 an16 cd16 ct16), sl16⟩) (c16 : PySem.W.codeIn K cd16 "greatest_addend" = true) (k16 : PySem.W.keepIn K (.ref f16) = true)
    {f17 : Addr} {od17 an17 : Option Addr} {sl17 : Array (Option Value)} {oc17 kV17 dc17 pm17 cd17 ct17 : Value}
    (a17 : PySem.W.nsIn K mainGlobals "digits_of" = some (some (.ref f17))) (l17 : K.lookup f17 = some ⟨oc17, od17, .func (PySem.W.fnOf "digits_of" "digits_of" (defArgs sDigitsOf) (defBody sDigitsOf) (defScope sDigitsOf) .none kV17 dc17 pm17 an17 cd17 ct17), sl17⟩) (c17 : PySem.W.codeIn K cd17 "digits_of" = true) (k17 : PySem.W.keepIn K (.ref f17) = true)
    {f18 : Addr} {od18 an18 : Option Addr} {sl18 : Array (Option Value)} {oc18 kV18 dc18 pm18 cd18 ct18 : Value}
    (a18 : PySem.W.nsIn K mainGlobals "patterns_of" = some (some (.ref f18))) (l18 : K.lookup f18 = some ⟨oc18, od18, .func (PySem.W.fnOf "patterns_of" "patterns_of" (defArgs sPatternsOf) (defBody sPatternsOf) (defScope sPatternsOf) .none kV18 dc18 pm18 an18 cd18 ct18), sl18⟩) (c18 : PySem.W.codeIn K cd18 "patterns_of" = true) (k18 : PySem.W.keepIn K (.ref f18) = true)
    {f19 : Addr} {od19 an19 : Option Addr} {sl19 : Array (Option Value)} {oc19 kV19 dc19 pm19 cd19 ct19 : Value}
    (a19 : PySem.W.nsIn K mainGlobals "words_or_none" = some (some (.ref f19))) (l19 : K.lookup f19 = some ⟨oc19, od19, .func (PySem.W.fnOf "words_or_none" "words_or_none" (defArgs sWordsOrNone) (defBody sWordsOrNone) (defScope sWordsOrNone) .none kV19 dc19 pm19 an19 cd19 ct19), sl19⟩) (c19 : PySem.W.codeIn K cd19 "words_or_none" = true) (k19 : PySem.W.keepIn K (.ref f19) = true)
    {f20 : Addr} {od20 an20 : Option Addr} {sl20 : Array (Option Value)} {oc20 kV20 dc20 pm20 cd20 ct20 : Value}
    (a20 : PySem.W.nsIn K mainGlobals "_law_stream" = some (some (.ref f20))) (l20 : K.lookup f20 = some ⟨oc20, od20, .func (PySem.W.fnOf "_law_stream" "_law_stream" (defArgs sStream) (defBody sStream) (defScope sStream) .none kV20 dc20 pm20 an20 cd20 ct20), sl20⟩) (c20 : PySem.W.codeIn K cd20 "_law_stream" = true) (k20 : PySem.W.keepIn K (.ref f20) = true)
    {f21 : Addr} {od21 an21 : Option Addr} {sl21 : Array (Option Value)} {oc21 kV21 dc21 pm21 cd21 ct21 : Value}
    (a21 : PySem.W.nsIn K mainGlobals "_law_draw" = some (some (.ref f21))) (l21 : K.lookup f21 = some ⟨oc21, od21, .func (PySem.W.fnOf "_law_draw" "_law_draw" (defArgs sDraw) (defBody sDraw) (defScope sDraw) .none kV21 dc21 pm21 an21 cd21 ct21), sl21⟩) (c21 : PySem.W.codeIn K cd21 "_law_draw" = true) (k21 : PySem.W.keepIn K (.ref f21) = true)
    {f22 : Addr} {od22 an22 : Option Addr} {sl22 : Array (Option Value)} {oc22 kV22 dc22 pm22 cd22 ct22 : Value}
    (a22 : PySem.W.nsIn K mainGlobals "_law_odd" = some (some (.ref f22))) (l22 : K.lookup f22 = some ⟨oc22, od22, .func (PySem.W.fnOf "_law_odd" "_law_odd" (defArgs sLOdd) (defBody sLOdd) (defScope sLOdd) .none kV22 dc22 pm22 an22 cd22 ct22), sl22⟩) (c22 : PySem.W.codeIn K cd22 "_law_odd" = true) (k22 : PySem.W.keepIn K (.ref f22) = true)
    {f23 : Addr} {od23 an23 : Option Addr} {sl23 : Array (Option Value)} {oc23 kV23 dc23 pm23 cd23 ct23 : Value}
    (a23 : PySem.W.nsIn K mainGlobals "_law_drawn" = some (some (.ref f23))) (l23 : K.lookup f23 = some ⟨oc23, od23, .func (PySem.W.fnOf "_law_drawn" "_law_drawn" (defArgs sDrawn) (defBody sDrawn) (defScope sDrawn) .none kV23 dc23 pm23 an23 cd23 ct23), sl23⟩) (c23 : PySem.W.codeIn K cd23 "_law_drawn" = true) (k23 : PySem.W.keepIn K (.ref f23) = true)
    {f24 : Addr} {od24 an24 : Option Addr} {sl24 : Array (Option Value)} {oc24 kV24 dc24 pm24 cd24 ct24 : Value}
    (a24 : PySem.W.nsIn K mainGlobals "_law_like" = some (some (.ref f24))) (l24 : K.lookup f24 = some ⟨oc24, od24, .func (PySem.W.fnOf "_law_like" "_law_like" (defArgs sLike) (defBody sLike) (defScope sLike) .none kV24 dc24 pm24 an24 cd24 ct24), sl24⟩) (c24 : PySem.W.codeIn K cd24 "_law_like" = true) (k24 : PySem.W.keepIn K (.ref f24) = true)
    {f25 : Addr} {od25 an25 : Option Addr} {sl25 : Array (Option Value)} {oc25 kV25 dc25 pm25 cd25 ct25 : Value}
    (a25 : PySem.W.nsIn K mainGlobals "_law_greatest" = some (some (.ref f25))) (l25 : K.lookup f25 = some ⟨oc25, od25, .func (PySem.W.fnOf "_law_greatest" "_law_greatest" (defArgs sLGreatest) (defBody sLGreatest) (defScope sLGreatest) .none kV25 dc25 pm25 an25 cd25 ct25), sl25⟩) (c25 : PySem.W.codeIn K cd25 "_law_greatest" = true) (k25 : PySem.W.keepIn K (.ref f25) = true)
    {f26 : Addr} {od26 an26 : Option Addr} {sl26 : Array (Option Value)} {oc26 kV26 dc26 pm26 cd26 ct26 : Value}
    (a26 : PySem.W.nsIn K mainGlobals "_law_text" = some (some (.ref f26))) (l26 : K.lookup f26 = some ⟨oc26, od26, .func (PySem.W.fnOf "_law_text" "_law_text" (defArgs sLText) (defBody sLText) (defScope sLText) .none kV26 dc26 pm26 an26 cd26 ct26), sl26⟩) (c26 : PySem.W.codeIn K cd26 "_law_text" = true) (k26 : PySem.W.keepIn K (.ref f26) = true)
    {f27 : Addr} {od27 an27 : Option Addr} {sl27 : Array (Option Value)} {oc27 kV27 dc27 pm27 cd27 ct27 : Value}
    (a27 : PySem.W.nsIn K mainGlobals "_law_pair_right" = some (some (.ref f27))) (l27 : K.lookup f27 = some ⟨oc27, od27, .func (PySem.W.fnOf "_law_pair_right" "_law_pair_right" (defArgs sLPairRight) (defBody sLPairRight) (defScope sLPairRight) .none kV27 dc27 pm27 an27 cd27 ct27), sl27⟩) (c27 : PySem.W.codeIn K cd27 "_law_pair_right" = true) (k27 : PySem.W.keepIn K (.ref f27) = true)
    {f28 : Addr} {od28 an28 : Option Addr} {sl28 : Array (Option Value)} {oc28 kV28 dc28 pm28 cd28 ct28 : Value}
    (a28 : PySem.W.nsIn K mainGlobals "law" = some (some (.ref f28))) (l28 : K.lookup f28 = some ⟨oc28, od28, .func (PySem.W.fnOf "law" "law" (defArgs sLaw) (defBody sLaw) (defScope sLaw) .none kV28 dc28 pm28 an28 cd28 ct28), sl28⟩) (c28 : PySem.W.codeIn K cd28 "law" = true) (k28 : PySem.W.keepIn K (.ref f28) = true)
    {tk1 : Tok} (w1 : PySem.W.nsIn K mainGlobals "MAX_WIDTH" = some (some (.int 6 tk1)))
    {cMaskSet : Addr} {minitcMaskSet : Addr} {ocminitcMaskSet kVminitcMaskSet dcminitcMaskSet pmminitcMaskSet cdminitcMaskSet ctminitcMaskSet : Value} {odminitcMaskSet anminitcMaskSet : Option Addr} {slminitcMaskSet : Array (Option Value)} {glotcMaskSet plotcMaskSet : Addr} {rglotcMaskSet : List Value} {ocglotcMaskSet kVglotcMaskSet dcglotcMaskSet pmglotcMaskSet cdglotcMaskSet ctglotcMaskSet : Value} {odglotcMaskSet anglotcMaskSet : Option Addr} {slglotcMaskSet : Array (Option Value)} {morcMaskSet : Addr} {ocmorcMaskSet kVmorcMaskSet dcmorcMaskSet pmmorcMaskSet cdmorcMaskSet ctmorcMaskSet : Value} {odmorcMaskSet anmorcMaskSet : Option Addr} {slmorcMaskSet : Array (Option Value)} {mwithincMaskSet : Addr} {ocmwithincMaskSet kVmwithincMaskSet dcmwithincMaskSet pmmwithincMaskSet cdmwithincMaskSet ctmwithincMaskSet : Value} {odmwithincMaskSet anmwithincMaskSet : Option Addr} {slmwithincMaskSet : Array (Option Value)} {maddendcMaskSet : Addr} {ocmaddendcMaskSet kVmaddendcMaskSet dcmaddendcMaskSet pmmaddendcMaskSet cdmaddendcMaskSet ctmaddendcMaskSet : Value} {odmaddendcMaskSet anmaddendcMaskSet : Option Addr} {slmaddendcMaskSet : Array (Option Value)} {mlencMaskSet : Addr} {ocmlencMaskSet kVmlencMaskSet dcmlencMaskSet pmmlencMaskSet cdmlencMaskSet ctmlencMaskSet : Value} {odmlencMaskSet anmlencMaskSet : Option Addr} {slmlencMaskSet : Array (Option Value)} {mboolcMaskSet : Addr} {ocmboolcMaskSet kVmboolcMaskSet dcmboolcMaskSet pmmboolcMaskSet cdmboolcMaskSet ctmboolcMaskSet : Value} {odmboolcMaskSet anmboolcMaskSet : Option Addr} {slmboolcMaskSet : Array (Option Value)} {gwidthcMaskSet pwidthcMaskSet : Addr} {rgwidthcMaskSet : List Value} {ocgwidthcMaskSet kVgwidthcMaskSet dcgwidthcMaskSet pmgwidthcMaskSet cdgwidthcMaskSet ctgwidthcMaskSet : Value} {odgwidthcMaskSet angwidthcMaskSet : Option Addr} {slgwidthcMaskSet : Array (Option Value)} {meqcMaskSet : Addr} {ocmeqcMaskSet kVmeqcMaskSet dcmeqcMaskSet pmmeqcMaskSet cdmeqcMaskSet ctmeqcMaskSet : Value} {odmeqcMaskSet anmeqcMaskSet : Option Addr} {slmeqcMaskSet : Array (Option Value)} {mstrcMaskSet : Addr} {ocmstrcMaskSet kVmstrcMaskSet dcmstrcMaskSet pmmstrcMaskSet cdmstrcMaskSet ctmstrcMaskSet : Value} {odmstrcMaskSet anmstrcMaskSet : Option Addr} {slmstrcMaskSet : Array (Option Value)}
    (x1 : PySem.W.nsIn K mainGlobals "MaskSet" = some (some (.ref cMaskSet)))
    (x2 : PySem.W.plainGet K cMaskSet Str.empty = true)
    (x3 : PySem.W.hasDictIn K cMaskSet = true)
    (x4 : PySem.W.plainOver K cMaskSet = true)
    (x5 : PySem.W.findIn K (.ref cMaskSet) "__setattr__" = some (some (.builtin "object.__setattr__")))
    (x6 : PySem.W.findIn K (.ref cMaskSet) "held" = some none)
    (x7 : PySem.W.selfFirst K cMaskSet = true)
    (x8 : PySem.W.findIn K (.ref cMaskSet) "__init__" = some (some (.ref minitcMaskSet)))
    (x9 : PySem.W.isFn K (.ref minitcMaskSet) = true)
    (x10 : K.lookup minitcMaskSet = some ⟨ocminitcMaskSet, odminitcMaskSet, .func (PySem.W.fnOf "__init__" "MaskSet.__init__" (defArgs sMsInit) (defBody sMsInit) (defScope sMsInit) .none kVminitcMaskSet dcminitcMaskSet pmminitcMaskSet anminitcMaskSet cdminitcMaskSet ctminitcMaskSet), slminitcMaskSet⟩)
    (x11 : PySem.W.codeIn K cdminitcMaskSet "MaskSet.__init__" = true)
    (x12 : PySem.W.keepIn K (.ref minitcMaskSet) = true)
    (x13 : PySem.W.makesIn K cMaskSet = true)
    (x14 : PySem.W.keepIn K (.ref cMaskSet) = true)
    (x15 : PySem.W.findIn K (.ref cMaskSet) "lot" = some (some (.ref plotcMaskSet)))
    (x16 : PySem.W.specialIn K (.ref plotcMaskSet) "__get__" = some (some (.builtin "property.__get__")))
    (x17 : PySem.W.takesIn K (.ref plotcMaskSet) = some true)
    (x18 : PySem.W.recIn K plotcMaskSet "property" = some (.ref glotcMaskSet :: rglotcMaskSet))
    (x19 : K.lookup glotcMaskSet = some ⟨ocglotcMaskSet, odglotcMaskSet, .func (PySem.W.fnOf "lot" "MaskSet.lot" (defArgs sMsLot) (defBody sMsLot) (defScope sMsLot) .none kVglotcMaskSet dcglotcMaskSet pmglotcMaskSet anglotcMaskSet cdglotcMaskSet ctglotcMaskSet), slglotcMaskSet⟩)
    (x20 : PySem.W.codeIn K cdglotcMaskSet "MaskSet.lot" = true)
    (x21 : PySem.W.keepIn K (.ref glotcMaskSet) = true)
    (x22 : PySem.W.findIn K (.ref cMaskSet) "__or__" = some (some (.ref morcMaskSet)))
    (x23 : PySem.W.isFn K (.ref morcMaskSet) = true)
    (x24 : K.lookup morcMaskSet = some ⟨ocmorcMaskSet, odmorcMaskSet, .func (PySem.W.fnOf "__or__" "MaskSet.__or__" (defArgs sMsOr) (defBody sMsOr) (defScope sMsOr) .none kVmorcMaskSet dcmorcMaskSet pmmorcMaskSet anmorcMaskSet cdmorcMaskSet ctmorcMaskSet), slmorcMaskSet⟩)
    (x25 : PySem.W.codeIn K cdmorcMaskSet "MaskSet.__or__" = true)
    (x26 : PySem.W.keepIn K (.ref morcMaskSet) = true)
    (x27 : PySem.W.findIn K (.ref cMaskSet) "within" = some (some (.ref mwithincMaskSet)))
    (x28 : PySem.W.isFn K (.ref mwithincMaskSet) = true)
    (x29 : K.lookup mwithincMaskSet = some ⟨ocmwithincMaskSet, odmwithincMaskSet, .func (PySem.W.fnOf "within" "MaskSet.within" (defArgs sMsWithin) (defBody sMsWithin) (defScope sMsWithin) .none kVmwithincMaskSet dcmwithincMaskSet pmmwithincMaskSet anmwithincMaskSet cdmwithincMaskSet ctmwithincMaskSet), slmwithincMaskSet⟩)
    (x30 : PySem.W.codeIn K cdmwithincMaskSet "MaskSet.within" = true)
    (x31 : PySem.W.keepIn K (.ref mwithincMaskSet) = true)
    (x32 : PySem.W.findIn K (.ref cMaskSet) "addend" = some (some (.ref maddendcMaskSet)))
    (x33 : PySem.W.isFn K (.ref maddendcMaskSet) = true)
    (x34 : K.lookup maddendcMaskSet = some ⟨ocmaddendcMaskSet, odmaddendcMaskSet, .func (PySem.W.fnOf "addend" "MaskSet.addend" (defArgs sMsAddend) (defBody sMsAddend) (defScope sMsAddend) .none kVmaddendcMaskSet dcmaddendcMaskSet pmmaddendcMaskSet anmaddendcMaskSet cdmaddendcMaskSet ctmaddendcMaskSet), slmaddendcMaskSet⟩)
    (x35 : PySem.W.codeIn K cdmaddendcMaskSet "MaskSet.addend" = true)
    (x36 : PySem.W.keepIn K (.ref maddendcMaskSet) = true)
    (x37 : PySem.W.findIn K (.ref cMaskSet) "__len__" = some (some (.ref mlencMaskSet)))
    (x38 : PySem.W.isFn K (.ref mlencMaskSet) = true)
    (x39 : K.lookup mlencMaskSet = some ⟨ocmlencMaskSet, odmlencMaskSet, .func (PySem.W.fnOf "__len__" "MaskSet.__len__" (defArgs sMsLen) (defBody sMsLen) (defScope sMsLen) .none kVmlencMaskSet dcmlencMaskSet pmmlencMaskSet anmlencMaskSet cdmlencMaskSet ctmlencMaskSet), slmlencMaskSet⟩)
    (x40 : PySem.W.codeIn K cdmlencMaskSet "MaskSet.__len__" = true)
    (x41 : PySem.W.keepIn K (.ref mlencMaskSet) = true)
    (x42 : PySem.W.findIn K (.ref cMaskSet) "__bool__" = some (some (.ref mboolcMaskSet)))
    (x43 : PySem.W.isFn K (.ref mboolcMaskSet) = true)
    (x44 : K.lookup mboolcMaskSet = some ⟨ocmboolcMaskSet, odmboolcMaskSet, .func (PySem.W.fnOf "__bool__" "MaskSet.__bool__" (defArgs sMsBool) (defBody sMsBool) (defScope sMsBool) .none kVmboolcMaskSet dcmboolcMaskSet pmmboolcMaskSet anmboolcMaskSet cdmboolcMaskSet ctmboolcMaskSet), slmboolcMaskSet⟩)
    (x45 : PySem.W.codeIn K cdmboolcMaskSet "MaskSet.__bool__" = true)
    (x46 : PySem.W.keepIn K (.ref mboolcMaskSet) = true)
    (x47 : PySem.W.findIn K (.ref cMaskSet) "width" = some (some (.ref pwidthcMaskSet)))
    (x48 : PySem.W.specialIn K (.ref pwidthcMaskSet) "__get__" = some (some (.builtin "property.__get__")))
    (x49 : PySem.W.takesIn K (.ref pwidthcMaskSet) = some true)
    (x50 : PySem.W.recIn K pwidthcMaskSet "property" = some (.ref gwidthcMaskSet :: rgwidthcMaskSet))
    (x51 : K.lookup gwidthcMaskSet = some ⟨ocgwidthcMaskSet, odgwidthcMaskSet, .func (PySem.W.fnOf "width" "MaskSet.width" (defArgs sMsWidth) (defBody sMsWidth) (defScope sMsWidth) .none kVgwidthcMaskSet dcgwidthcMaskSet pmgwidthcMaskSet angwidthcMaskSet cdgwidthcMaskSet ctgwidthcMaskSet), slgwidthcMaskSet⟩)
    (x52 : PySem.W.codeIn K cdgwidthcMaskSet "MaskSet.width" = true)
    (x53 : PySem.W.keepIn K (.ref gwidthcMaskSet) = true)
    (x54 : PySem.W.findIn K (.ref cMaskSet) "__class__" = some (some (.builtin "object.__class__")))
    (x55 : PySem.W.specialIn K (.builtin "object.__class__") "__get__" = some (some (.builtin "getset_descriptor.__get__")))
    (x56 : PySem.W.takesIn K (.builtin "object.__class__") = some true)
    (x57 : PySem.W.mroIn K cMaskSet (.type "object") = some true)
    (x58 : PySem.W.findIn K (.ref cMaskSet) "__eq__" = some (some (.ref meqcMaskSet)))
    (x59 : PySem.W.isFn K (.ref meqcMaskSet) = true)
    (x60 : K.lookup meqcMaskSet = some ⟨ocmeqcMaskSet, odmeqcMaskSet, .func (PySem.W.fnOf "__eq__" "MaskSet.__eq__" (defArgs sMsEq) (defBody sMsEq) (defScope sMsEq) .none kVmeqcMaskSet dcmeqcMaskSet pmmeqcMaskSet anmeqcMaskSet cdmeqcMaskSet ctmeqcMaskSet), slmeqcMaskSet⟩)
    (x61 : PySem.W.codeIn K cdmeqcMaskSet "MaskSet.__eq__" = true)
    (x62 : PySem.W.keepIn K (.ref meqcMaskSet) = true)
    (x63 : PySem.W.findIn K (.ref cMaskSet) "__str__" = some (some (.ref mstrcMaskSet)))
    (x64 : PySem.W.isFn K (.ref mstrcMaskSet) = true)
    (x65 : K.lookup mstrcMaskSet = some ⟨ocmstrcMaskSet, odmstrcMaskSet, .func (PySem.W.fnOf "__str__" "MaskSet.__str__" (defArgs sMsStr) (defBody sMsStr) (defScope sMsStr) .none kVmstrcMaskSet dcmstrcMaskSet pmmstrcMaskSet anmstrcMaskSet cdmstrcMaskSet ctmstrcMaskSet), slmstrcMaskSet⟩)
    (x66 : PySem.W.codeIn K cdmstrcMaskSet "MaskSet.__str__" = true)
    (x67 : PySem.W.keepIn K (.ref mstrcMaskSet) = true)
    (x68 : PySem.W.findIn K (.ref cMaskSet) "__ne__" = some (some (.builtin "object.__ne__")))
    (x69 : PySem.W.subIn K (.ref cMaskSet) (.type "NoneType") = some false)
    (x70 : PySem.W.subIn K (.ref cMaskSet) (.type "bool") = some false)
    (x71 : PySem.W.subIn K (.ref cMaskSet) (.type "int") = some false)
    (x72 : PySem.W.subIn K (.ref cMaskSet) (.type "str") = some false)
    (x73 : PySem.W.subIn K (.ref cMaskSet) (.type "list") = some false)
    (x74 : PySem.W.subIn K (.ref cMaskSet) (.type "tuple") = some false)
    (x75 : PySem.W.subIn K (.ref cMaskSet) (.type "dict") = some false)
    (x76 : PySem.W.typeIn K (.ref cMaskSet) = some (.type "type"))
    (y1 : PySem.W.nsIn K mainGlobals "repr" = some none)
    (y2 : PySem.W.nsIn K mainGlobals "str" = some none)
    (y3 : PySem.W.nsIn K mainGlobals "list" = some none)
    (z1 : PySem.W.nsIn K mainGlobals "len" = some none) (z2 : PySem.W.nsIn K mainGlobals "abs" = some none) (z3 : PySem.W.nsIn K mainGlobals "tuple" = some none) (z4 : PySem.W.nsIn K mainGlobals "sorted" = some none) (z5 : PySem.W.nsIn K mainGlobals "isinstance" = some none) (z6 : PySem.W.nsIn K mainGlobals "int" = some none) (z7 : PySem.W.nsIn K mainGlobals "bool" = some none) (z8 : PySem.W.nsIn K mainGlobals "set" = some none) (z9 : PySem.W.nsIn K mainGlobals "all" = some none) (z10 : PySem.W.nsIn K mainGlobals "range" = some none) (z11 : PySem.W.nsIn K mainGlobals "enumerate" = some none) :
    ∀ base : Heap, K.In base → base.Ns mainGlobals mg → RunC l.prog w K mg base 14 fa (spLaw K) := by
  cases hfa.symm.trans (PySem.W.mg_of X G a28)
  have F1 := fun_mk (st := sWall) l1 c1 k1
  have F2 := fun_mk (st := sNum) l2 c2 k2
  have F3 := fun_mk (st := sIsW) l3 c3 k3
  have F4 := fun_mk (st := sMask) l4 c4 k4
  have F5 := fun_mk (st := sLotE) l5 c5 k5
  have F6 := fun_mk (st := sCheckLot) l6 c6 k6
  have F7 := fun_mk (st := sMaskE) l7 c7 k7
  have F8 := fun_mk (st := sTurned) l8 c8 k8
  have F9 := fun_mk (st := sRest) l9 c9 k9
  have F10 := fun_mk (st := sLeft) l10 c10 k10
  have F11 := fun_mk (st := sUnited) l11 c11 k11
  have F12 := fun_mk (st := sShared) l12 c12 k12
  have F13 := fun_mk (st := sWidth) l13 c13 k13
  have F14 := fun_mk (st := sPairCounts) l14 c14 k14
  have F15 := fun_mk (st := sSumOf) l15 c15 k15
  have F16 := fun_mk (st := sGreatestAddend) l16 c16 k16
  have F17 := fun_mk (st := sDigitsOf) l17 c17 k17
  have F18 := fun_mk (st := sPatternsOf) l18 c18 k18
  have F19 := fun_mk (st := sWordsOrNone) l19 c19 k19
  have F20 := fun_mk (st := sStream) l20 c20 k20
  have F21 := fun_mk (st := sDraw) l21 c21 k21
  have F22 := fun_mk (st := sLOdd) l22 c22 k22
  have F23 := fun_mk (st := sDrawn) l23 c23 k23
  have F24 := fun_mk (st := sLike) l24 c24 k24
  have F25 := fun_mk (st := sLGreatest) l25 c25 k25
  have F26 := fun_mk (st := sLText) l26 c26 k26
  have F27 := fun_mk (st := sLPairRight) l27 c27 k27
  have F28 := fun_mk (st := sLaw) l28 c28 k28
  have b1 := F1.binds (ps := ["k"]) fun _ _ _ _ _ _ us hl => match us, hl with | [_], _ => rfl
  have b2 := F2.binds (ps := ["value"]) fun _ _ _ _ _ _ us hl => match us, hl with | [_], _ => rfl
  have b3 := F3.binds (ps := ["value"]) fun _ _ _ _ _ _ us hl => match us, hl with | [_], _ => rfl
  have b4 := F4.binds (ps := ["value", "width"]) fun _ _ _ _ _ _ us hl => match us, hl with | [_, _], _ => rfl
  have b5 := F5.binds (ps := ["value"]) fun _ _ _ _ _ _ us hl => match us, hl with | [_], _ => rfl
  have b6 := F6.binds (ps := ["value"]) fun _ _ _ _ _ _ us hl => match us, hl with | [_], _ => rfl
  have b7 := F7.binds (ps := ["width", "masks"]) fun _ _ _ _ _ _ us hl => match us, hl with | [_, _], _ => rfl
  have b8 := F8.binds (ps := ["lot", "mask"]) fun _ _ _ _ _ _ us hl => match us, hl with | [_, _], _ => rfl
  have b9 := F9.binds (ps := ["lot"]) fun _ _ _ _ _ _ us hl => match us, hl with | [_], _ => rfl
  have b10 := F10.binds (ps := ["one", "other"]) fun _ _ _ _ _ _ us hl => match us, hl with | [_, _], _ => rfl
  have b13 := F13.binds (ps := ["lots"]) fun _ _ _ _ _ _ us hl => match us, hl with | [_], _ => rfl
  have b14 := F14.binds (ps := ["lot"]) fun _ _ _ _ _ _ us hl => match us, hl with | [_], _ => rfl
  have b16 := F16.binds (ps := ["one", "other"]) fun _ _ _ _ _ _ us hl => match us, hl with | [_, _], _ => rfl
  have b17 := F17.binds (ps := ["mask", "width"]) fun _ _ _ _ _ _ us hl => match us, hl with | [_, _], _ => rfl
  have b18 := F18.binds (ps := ["lot"]) fun _ _ _ _ _ _ us hl => match us, hl with | [_], _ => rfl
  have b19 := F19.binds (ps := ["words"]) fun _ _ _ _ _ _ us hl => match us, hl with | [_], _ => rfl
  have b20 := F20.binds (ps := ["_law_script"]) fun _ _ _ _ _ _ us hl => match us, hl with | [_], _ => rfl
  have b21 := F21.binds (ps := ["_law_stream_here", "_law_many"]) fun _ _ _ _ _ _ us hl => match us, hl with | [_, _], _ => rfl
  have b22 := F22.binds (ps := ["_law_stream_here"]) fun _ _ _ _ _ _ us hl => match us, hl with | [_], _ => rfl
  have b23 := F23.binds (ps := ["_law_stream_here", "_law_most"]) fun _ _ _ _ _ _ us hl => match us, hl with | [_, _], _ => rfl
  have b24 := F24.binds (ps := ["_law_stream_here", "_law_lot"]) fun _ _ _ _ _ _ us hl => match us, hl with | [_, _], _ => rfl
  have b25 := F25.binds (ps := ["_law_one", "_law_other"]) fun _ _ _ _ _ _ us hl => match us, hl with | [_, _], _ => rfl
  have b26 := F26.binds (ps := ["_law_some"]) fun _ _ _ _ _ _ us hl => match us, hl with | [_], _ => rfl
  have b27 := F27.binds (ps := ["_law_one", "_law_other"]) fun _ _ _ _ _ _ us hl => match us, hl with | [_, _], _ => rfl
  have B : Bl mg := ⟨PySem.W.mg_none_of X G z1, PySem.W.mg_none_of X G z2, PySem.W.mg_none_of X G z3, PySem.W.mg_none_of X G z4, PySem.W.mg_none_of X G z5, PySem.W.mg_none_of X G z6, PySem.W.mg_none_of X G z7, PySem.W.mg_none_of X G z8, PySem.W.mg_none_of X G z9, PySem.W.mg_none_of X G z10, PySem.W.mg_none_of X G z11⟩
  intro base _ _
  have d_is_number : DefR l.prog w K mg base 1 "is_number" spNum := .of (ok_num B F2) b2 (PySem.W.mg_of X G a2) k2
  have d_is_mask : DefR l.prog w K mg base 2 "is_mask" spMask := .of (ok_mask F4 d_is_number) b4 (PySem.W.mg_of X G a4) k4
  have d_is_width : DefR l.prog w K mg base 2 "is_width" spIw := .of (ok_iw F3 (PySem.W.mg_of X G w1) d_is_number) b3 (PySem.W.mg_of X G a3) k3
  have d_mask_error : DefR l.prog w K mg base 3 "mask_error" spMe := .of (ok_me B F7 d_is_mask) b7 (PySem.W.mg_of X G a7) k7
  have d_lot_error : DefR l.prog w K mg base 4 "lot_error" spLe := .of (ok_le B F5 d_is_width d_mask_error) b5 (PySem.W.mg_of X G a5) k5
  have d_check_lot : DefR l.prog w K mg base 5 "check_lot" spCk := .of (ok_ck F6 d_lot_error) b6 (PySem.W.mg_of X G a6) k6
  have d_common_width : DefR l.prog w K mg base 1 "common_width" (spWidth K) := .of (ok_width B F13) b13 (PySem.W.mg_of X G a13) k13
  have d_united : DefR l.prog w K mg base 2 "united" (spMany fun bs => bs.any id) := ⟨_, ok_united B F11 d_common_width, PySem.W.mg_of X G a11, k11⟩
  have d_left_over : DefR l.prog w K mg base 2 "left_over" spLeft := .of (ok_left B F10 d_common_width) b10 (PySem.W.mg_of X G a10) k10
  have d_greatest_addend : DefR l.prog w K mg base 2 "greatest_addend" spGa := .of (ok_ga B F16 d_common_width) b16 (PySem.W.mg_of X G a16) k16
  have d_law_draw : DefR l.prog w K mg base 1 "_law_draw" spDrawN := drawN (.of (ok_draw F21 B.len) b21 (PySem.W.mg_of X G a21) k21)
  have T : MsC K cMaskSet := ⟨⟨x2, x3, x4, x5⟩, x6, x7⟩
  have FminitcMaskSet := fun_mk (st := sMsInit) x10 x11 x12
  have bminitcMaskSet := FminitcMaskSet.binds (ps := ["self", "lot"]) fun _ _ _ _ _ _ us hl => match us, hl with | [_, _], _ => rfl
  have mkS : MakeR l.prog w K mg base 6 cMaskSet "MaskSet" (spMi cMaskSet) := ⟨_, _, _, ⟨x13, x8, x9, x14⟩, ok_msI T FminitcMaskSet d_check_lot, bminitcMaskSet, (PySem.W.mg_of X G x1)⟩
  have FglotcMaskSet := fun_mk (st := sMsLot) x19 x20 x21
  have bglotcMaskSet := FglotcMaskSet.binds (ps := ["self"]) fun _ _ _ _ _ _ us hl => match us, hl with | [_], _ => rfl
  have plot : PropR l.prog w K mg base 1 cMaskSet "lot" (spMsLot cMaskSet) := ⟨_, _, _, _, T.cl, ⟨x15, x16, x17, ⟨_, x18⟩⟩, ok_msLot T FglotcMaskSet, bglotcMaskSet⟩
  have FmorcMaskSet := fun_mk (st := sMsOr) x24 x25 x26
  have bmorcMaskSet := FmorcMaskSet.binds (ps := ["self", "other"]) fun _ _ _ _ _ _ us hl => match us, hl with | [_, _], _ => rfl
  have FmwithincMaskSet := fun_mk (st := sMsWithin) x29 x30 x31
  have bmwithincMaskSet := FmwithincMaskSet.binds (ps := ["self", "other"]) fun _ _ _ _ _ _ us hl => match us, hl with | [_, _], _ => rfl
  have FmaddendcMaskSet := fun_mk (st := sMsAddend) x34 x35 x36
  have bmaddendcMaskSet := FmaddendcMaskSet.binds (ps := ["self", "other"]) fun _ _ _ _ _ _ us hl => match us, hl with | [_, _], _ => rfl
  have FmlencMaskSet := fun_mk (st := sMsLen) x39 x40 x41
  have bmlencMaskSet := FmlencMaskSet.binds (ps := ["self"]) fun _ _ _ _ _ _ us hl => match us, hl with | [_], _ => rfl
  have FmboolcMaskSet := fun_mk (st := sMsBool) x44 x45 x46
  have bmboolcMaskSet := FmboolcMaskSet.binds (ps := ["self"]) fun _ _ _ _ _ _ us hl => match us, hl with | [_], _ => rfl
  have FgwidthcMaskSet := fun_mk (st := sMsWidth) x51 x52 x53
  have bgwidthcMaskSet := FgwidthcMaskSet.binds (ps := ["self"]) fun _ _ _ _ _ _ us hl => match us, hl with | [_], _ => rfl
  have pwidth : PropR l.prog w K mg base 1 cMaskSet "width" (spMsWidth cMaskSet) := ⟨_, _, _, _, T.cl, ⟨x47, x48, x49, ⟨_, x50⟩⟩, ok_msWidth T FgwidthcMaskSet, bgwidthcMaskSet⟩
  have FmeqcMaskSet := fun_mk (st := sMsEq) x60 x61 x62
  have bmeqcMaskSet := FmeqcMaskSet.binds (ps := ["self", "other"]) fun _ _ _ _ _ _ us hl => match us, hl with | [_, _], _ => rfl
  have FmstrcMaskSet := fun_mk (st := sMsStr) x65 x66 x67
  have bmstrcMaskSet := FmstrcMaskSet.binds (ps := ["self"]) fun _ _ _ _ _ _ us hl => match us, hl with | [_], _ => rfl
  have dDo : DefR l.prog w K mg base 1 "digits_of" spDo := .of (ok_do F17) b17 (PySem.W.mg_of X G a17) k17
  have dPo : DefR l.prog w K mg base 2 "patterns_of" spPo := .of (ok_po B F18 dDo) b18 (PySem.W.mg_of X G a18) k18
  have dWn : DefR l.prog w K mg base 1 "words_or_none" spWn := .of (ok_wn B F19) b19 (PySem.W.mg_of X G a19) k19
  have nS : noSubs K cMaskSet = true := noSubs_mk x69 x70 x71 x72 x73 x74 x75
  have nF : PySem.W.notFirst K cMaskSet (.ref cMaskSet) = true := by unfold PySem.W.notFirst; simp
  have ist : ∀ {H : Hp} {a dx : Addr} {fs : List (Str × V)}, H a = some (.ins cMaskSet dx fs) → TyX K H (.ref a) (.ref cMaskSet) := fun e => .base (.ins e T.cl x54 x55 x56 x57)
  have eqA : OwnR l.prog w K mg base 5 cMaskSet "__eq__" (spMsEqA cMaskSet K) := ⟨_, ⟨x58, x59⟩, .of (ok_msEqA (k := 2) B (PySem.W.mg_of X G x1) ist x3 x76 plot FmeqcMaskSet) bmeqcMaskSet⟩
  have dPr : DPr l.prog w K mg base cMaskSet := ⟨mkS, plot, (PySem.W.mg_of X G x1), T.sf, ⟨_, ⟨x22, x23⟩, .of (ok_msOr FmorcMaskSet plot d_united mkS) bmorcMaskSet⟩, ⟨_, _, _, T.cl, ⟨x27, x28, x31⟩, ok_msWithin B plot d_left_over FmwithincMaskSet, bmwithincMaskSet⟩, ⟨_, _, _, T.cl, ⟨x32, x33, x36⟩, ok_msAddend plot d_greatest_addend mkS FmaddendcMaskSet, bmaddendcMaskSet⟩, eqA, ist, x57, x68, nF, .of (ok_gr B F25) b25 (PySem.W.mg_of X G a25) k25⟩
  exact run_it B (PySem.W.mg_none_of X G y1) (PySem.W.mg_none_of X G y2) (PySem.W.mg_none_of X G y3) F28 T ⟨.of (ok_stream F20 B.len B.abs) b20 (PySem.W.mg_of X G a20) k20, drawN (.of (ok_draw F21 B.len) b21 (PySem.W.mg_of X G a21) k21), .of (ok_oddS F22 d_law_draw) b22 (PySem.W.mg_of X G a22) k22, .of (ok_drawn B F23 d_law_draw) b23 (PySem.W.mg_of X G a23) k23, .of (ok_like B F24 d_law_draw) b24 (PySem.W.mg_of X G a24) k24, .of (ok_ltx B (PySem.W.mg_none_of X G y2) F26) b26 (PySem.W.mg_of X G a26) k26, DefG.of (ok_pr6 (k := 2) B (PySem.W.mg_none_of X G y1) F27 b27 dPr) (PySem.W.mg_of X G a27) k27, mkS, plot, eqA, ⟨_, ⟨x37, x38⟩, .of (ok_msLen B T FmlencMaskSet) bmlencMaskSet⟩, ⟨_, ⟨x42, x43⟩, .of (ok_msBool B T FmboolcMaskSet) bmboolcMaskSet⟩, ⟨_, ⟨x63, x64⟩, .of (ok_msStr FmstrcMaskSet plot pwidth dWn dPo) bmstrcMaskSet⟩, nS, x57, x68, nF⟩
end XT
open PySem PySem.W PyProof.Rows
set_option maxHeartbeats 0 in
theorem PySem.Challenge.cw_xorturns_k56_equality_and_texts_of_sets_holds : PySem.Challenge.rw_xorturns_k56_equality_and_texts_of_sets.Holds := by
  w_on; o_law; k_head; (case hw => w_witness2)
  k_fill
  refine XT.walk_ofC (l := PySem.Challenge.rw_xorturns_k56_equality_and_texts_of_sets) (n := 63) (k := 14) (sp := fun w => XT.spLaw _) rfl (by decide) rfl ⟨rfl, by decide, by decide⟩ (fun w h Y => PySem.W.kIn_of Y) ?F (fun _ _ a ns hl hS => ⟨a, ns, rfl, hS, hl, fun _ => rfl⟩)
  case F =>
    intro w mg fa h KX G hmg
    refine' XT.all_mk KX G hmg ?a1 ?l1 ?c1 ?k1 ?a2 ?l2 ?c2 ?k2 ?a3 ?l3 ?c3 ?k3 ?a4 ?l4 ?c4 ?k4 ?a5 ?l5 ?c5 ?k5 ?a6 ?l6 ?c6 ?k6 ?a7 ?l7 ?c7 ?k7 ?a8 ?l8 ?c8 ?k8 ?a9 ?l9 ?c9 ?k9 ?a10 ?l10 ?c10 ?k10 ?a11 ?l11 ?c11 ?k11 ?a12 ?l12 ?c12 ?k12 ?a13 ?l13 ?c13 ?k13 ?a14 ?l14 ?c14 ?k14 ?a15 ?l15 ?c15 ?k15 ?a16 ?l16 ?c16 ?k16 ?a17 ?l17 ?c17 ?k17 ?a18 ?l18 ?c18 ?k18 ?a19 ?l19 ?c19 ?k19 ?a20 ?l20 ?c20 ?k20 ?a21 ?l21 ?c21 ?k21 ?a22 ?l22 ?c22 ?k22 ?a23 ?l23 ?c23 ?k23 ?a24 ?l24 ?c24 ?k24 ?a25 ?l25 ?c25 ?k25 ?a26 ?l26 ?c26 ?k26 ?a27 ?l27 ?c27 ?k27 ?a28 ?l28 ?c28 ?k28 ?w1 ?x1 ?x2 ?x3 ?x4 ?x5 ?x6 ?x7 ?x8 ?x9 ?x10 ?x11 ?x12 ?x13 ?x14 ?x15 ?x16 ?x17 ?x18 ?x19 ?x20 ?x21 ?x22 ?x23 ?x24 ?x25 ?x26 ?x27 ?x28 ?x29 ?x30 ?x31 ?x32 ?x33 ?x34 ?x35 ?x36 ?x37 ?x38 ?x39 ?x40 ?x41 ?x42 ?x43 ?x44 ?x45 ?x46 ?x47 ?x48 ?x49 ?x50 ?x51 ?x52 ?x53 ?x54 ?x55 ?x56 ?x57 ?x58 ?x59 ?x60 ?x61 ?x62 ?x63 ?x64 ?x65 ?x66 ?x67 ?x68 ?x69 ?x70 ?x71 ?x72 ?x73 ?x74 ?x75 ?x76 ?y1 ?y2 ?y3 ?z1 ?z2 ?z3 ?z4 ?z5 ?z6 ?z7 ?z8 ?z9 ?z10 ?z11
    (case a1 => k_is); (case l1 => k_is); (case c1 => k_is); (case k1 => k_is); (case a2 => k_is); (case l2 => k_is); (case c2 => k_is); (case k2 => k_is); (case a3 => k_is); (case l3 => k_is); (case c3 => k_is); (case k3 => k_is); (case a4 => k_is); (case l4 => k_is); (case c4 => k_is); (case k4 => k_is); (case a5 => k_is); (case l5 => k_is); (case c5 => k_is); (case k5 => k_is); (case a6 => k_is); (case l6 => k_is); (case c6 => k_is); (case k6 => k_is); (case a7 => k_is); (case l7 => k_is); (case c7 => k_is); (case k7 => k_is); (case a8 => k_is); (case l8 => k_is); (case c8 => k_is); (case k8 => k_is); (case a9 => k_is); (case l9 => k_is); (case c9 => k_is); (case k9 => k_is); (case a10 => k_is); (case l10 => k_is); (case c10 => k_is); (case k10 => k_is); (case a11 => k_is); (case l11 => k_is); (case c11 => k_is); (case k11 => k_is); (case a12 => k_is); (case l12 => k_is); (case c12 => k_is); (case k12 => k_is); (case a13 => k_is); (case l13 => k_is); (case c13 => k_is); (case k13 => k_is); (case a14 => k_is); (case l14 => k_is); (case c14 => k_is); (case k14 => k_is); (case a15 => k_is); (case l15 => k_is); (case c15 => k_is); (case k15 => k_is); (case a16 => k_is); (case l16 => k_is); (case c16 => k_is); (case k16 => k_is); (case a17 => k_is); (case l17 => k_is); (case c17 => k_is); (case k17 => k_is); (case a18 => k_is); (case l18 => k_is); (case c18 => k_is); (case k18 => k_is); (case a19 => k_is); (case l19 => k_is); (case c19 => k_is); (case k19 => k_is); (case a20 => k_is); (case l20 => k_is); (case c20 => k_is); (case k20 => k_is); (case a21 => k_is); (case l21 => k_is); (case c21 => k_is); (case k21 => k_is); (case a22 => k_is); (case l22 => k_is); (case c22 => k_is); (case k22 => k_is); (case a23 => k_is); (case l23 => k_is); (case c23 => k_is); (case k23 => k_is); (case a24 => k_is); (case l24 => k_is); (case c24 => k_is); (case k24 => k_is); (case a25 => k_is); (case l25 => k_is); (case c25 => k_is); (case k25 => k_is); (case a26 => k_is); (case l26 => k_is); (case c26 => k_is); (case k26 => k_is); (case a27 => k_is); (case l27 => k_is); (case c27 => k_is); (case k27 => k_is); (case a28 => k_is); (case l28 => k_is); (case c28 => k_is); (case k28 => k_is); (case w1 => k_is); (case x1 => k_is); (case x2 => k_is); (case x3 => k_is); (case x4 => k_is); (case x5 => k_is); (case x6 => k_is); (case x7 => k_is); (case x8 => k_is); (case x9 => k_is); (case x10 => k_is); (case x11 => k_is); (case x12 => k_is); (case x13 => k_is); (case x14 => k_is); (case x15 => k_is); (case x16 => k_is); (case x17 => k_is); (case x18 => k_is); (case x19 => k_is); (case x20 => k_is); (case x21 => k_is); (case x22 => k_is); (case x23 => k_is); (case x24 => k_is); (case x25 => k_is); (case x26 => k_is); (case x27 => k_is); (case x28 => k_is); (case x29 => k_is); (case x30 => k_is); (case x31 => k_is); (case x32 => k_is); (case x33 => k_is); (case x34 => k_is); (case x35 => k_is); (case x36 => k_is); (case x37 => k_is); (case x38 => k_is); (case x39 => k_is); (case x40 => k_is); (case x41 => k_is); (case x42 => k_is); (case x43 => k_is); (case x44 => k_is); (case x45 => k_is); (case x46 => k_is); (case x47 => k_is); (case x48 => k_is); (case x49 => k_is); (case x50 => k_is); (case x51 => k_is); (case x52 => k_is); (case x53 => k_is); (case x54 => k_is); (case x55 => k_is); (case x56 => k_is); (case x57 => k_is); (case x58 => k_is); (case x59 => k_is); (case x60 => k_is); (case x61 => k_is); (case x62 => k_is); (case x63 => k_is); (case x64 => k_is); (case x65 => k_is); (case x66 => k_is); (case x67 => k_is); (case x68 => k_is); (case x69 => k_is); (case x70 => k_is); (case x71 => k_is); (case x72 => k_is); (case x73 => k_is); (case x74 => k_is); (case x75 => k_is); (case x76 => k_is); (case y1 => k_is); (case y2 => k_is); (case y3 => k_is); (case z1 => k_is); (case z2 => k_is); (case z3 => k_is); (case z4 => k_is); (case z5 => k_is); (case z6 => k_is); (case z7 => k_is); (case z8 => k_is); (case z9 => k_is); (case z10 => k_is); (case z11 => k_is)
