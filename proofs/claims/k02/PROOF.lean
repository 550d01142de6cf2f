import PyProof.Rows.All
import Wide.All
import OpenK.AllK
import Wide.FinOn
import PyProof.EqAt
import PyProof.EqKinds
import PyProof.TupleCall
import HandS.ForMost
import HandS.Strs
import HandS.SetFor
import HandS.SortInts
import HandS.Star
import HandS.IsInst
import KE.GoesMore
import PyProof.ReprRoads
import PyProof.StrLawsRepr
import PyProof.ReprLen
import HandS.Dict
import HandS.Codes
import PyProof.StrCaseBound
import PyProof.FitsInt
import HandS.TupAny
import KE.KRevSl
import PyProof.Rows.IntBool
import PyProof.Rows.EqBoolInt
import HandS.Conv
import PySem.Challenge.RW_xorturns_k02_lots_judged
set_option Elab.async false
set_option linter.all false
set_option maxRecDepth 100000
set_option maxHeartbeats 4000000
namespace XT
open PySem PySem.Spec PyProof.Rows L2

def topS (i : Nat) : Stmt := PySem.Challenge.pw_xorturns_k02_lots_judged.main.body.getD i (.Pass ⟨0, 0, 0, 0⟩)
abbrev sNum : Stmt := topS 2
abbrev sWid : Stmt := topS 3
abbrev sMask : Stmt := topS 4
abbrev sIsLot : Stmt := topS 5
abbrev sLotE : Stmt := topS 6
abbrev sMaskE : Stmt := topS 7
abbrev sStream : Stmt := topS 9
abbrev sDraw : Stmt := topS 10
abbrev sPick : Stmt := topS 11
abbrev sOdd : Stmt := topS 12
abbrev sIsInt : Stmt := topS 13
abbrev sDrawn : Stmt := topS 14
abbrev sBent : Stmt := topS 15
abbrev sLLE : Stmt := topS 16
abbrev sLaw : Stmt := topS 17

/-! heaps -/
theorem same_new {H : Hp} {p : Addr} {o : HO} (h : H p = none) : Same H (upd H p o) := fun b x e => by
  rw [upd_ne (ne_of_none e h)]; exact e

/-- a stream: its own list, the list of its great cells, the list of its cells -/
structure Sm where
  s : Addr
  p : Addr
  q : Addr
  cs : List Int
structure StrmB (S : Sm) (H : Hp) (t : Int) (big : List Int) : Prop where
  hs : H S.s = some (.lst [.ref S.p, .ref S.q, .int t])
  hp : H S.p = some (.lst (big.map V.int))
  hq : H S.q = some (.lst (S.cs.map V.int))
  sp : S.s ≠ S.p
  sq : S.s ≠ S.q
  pq : S.p ≠ S.q
  ne : 0 < S.cs.length
  t0 : 0 ≤ t
def Strm (S : Sm) (H : Hp) (t : Int) : Prop := ∃ big, StrmB S H t big
def Keep (S : Sm) (H H' : Hp) : Prop := ∀ b o, b ≠ S.s → b ≠ S.p → H b = some o → H' b = some o
theorem Keep.refl (S : Sm) (H : Hp) : Keep S H H := fun _ _ _ _ h => h
theorem Keep.trans {S : Sm} {H H1 H2 : Hp} (a : Keep S H H1) (b : Keep S H1 H2) : Keep S H H2 := fun c o n1 n2 h => b c o n1 n2 (a c o n1 n2 h)
theorem Keep.of {S : Sm} {H H' : Hp} (a : Same H H') : Keep S H H' := fun c o _ _ h => a c o h
theorem StrmB.same {S : Sm} {H H' : Hp} {t : Int} {big : List Int} (h : StrmB S H t big) (e : Same H H') : StrmB S H' t big :=
  ⟨e _ _ h.hs, e _ _ h.hp, e _ _ h.hq, h.sp, h.sq, h.pq, h.ne, h.t0⟩
theorem Strm.same {S : Sm} {H H' : Hp} {t : Int} (h : Strm S H t) (e : Same H H') : Strm S H' t := let ⟨b, h⟩ := h; ⟨b, h.same e⟩
theorem Strm.ns {S : Sm} {H : Hp} {t : Int} {b : Addr} {xs : List V} (h : Strm S H t) (e : H b = some (.tup xs)) : b ≠ S.s := by
  obtain ⟨_, h⟩ := h
  exact ne_of e h.hs (by intro z; cases z)
theorem Strm.np {S : Sm} {H : Hp} {t : Int} {b : Addr} {xs : List V} (h : Strm S H t) (e : H b = some (.tup xs)) : b ≠ S.p := by
  obtain ⟨_, h⟩ := h
  exact ne_of e h.hp (by intro z; cases z)
theorem Keep.tup {S : Sm} {H H' : Hp} {t : Int} {b : Addr} {xs : List V} (k : Keep S H H') (h : Strm S H t) (e : H b = some (.tup xs)) : H' b = some (.tup xs) :=
  k b _ (h.ns e) (h.np e) e
theorem Keep.free {S : Sm} {H H' : Hp} {t : Int} {x : Addr} (k : Keep S H H') (h : Strm S H' t) (e : H' x = none) : H x = none := by
  obtain ⟨_, h⟩ := h
  cases q : H x with
  | none => rfl
  | some o =>
    by_cases h1 : x = S.s
    · rw [h1, h.hs] at e; cases e
    · by_cases h2 : x = S.p
      · rw [h2, h.hp] at e; cases e
      · rw [k x o h1 h2 q] at e; cases e
/-- a list of one's own, new behind H, is neither of the stream's -/
theorem Keep.mine {S : Sm} {H H' H2 : Hp} {t : Int} {x : Addr} {o : HO} (k : Keep S H' H2) (h : Strm S H t) (n : H x = none) (e : H' x = some o) : H2 x = some o := by
  obtain ⟨_, h⟩ := h
  refine k x o (fun z => ?_) (fun z => ?_) e
  · rw [z, h.hs] at n; cases n
  · rw [z, h.hp] at n; cases n

theorem dpInts {K : PySem.W.Frag} {H : Hp} : ∀ ns : List Int, DpAll K H (ns.map V.int) (ns.map PyData.int)
  | [] => .nil
  | n :: ns => .cons (.int n) (dpInts ns)
theorem ke_shaped (ns : List Int) : SeqAt.shaped (.list (ns.map PyData.int)) = true := by
  have h1 : ∀ ns : List Int, PyData.canLay0 (.list (ns.map PyData.int)) = true := by
    intro ns
    induction ns with
    | nil => rfl
    | cons n ns ih => simpa [PyData.canLay0, PyData.canLayAll0] using ih
  have h2 : ∀ ns : List Int, PyData.depth (.list (ns.map PyData.int)) ≤ 2 := by
    intro ns
    induction ns with
    | nil => decide
    | cons n ns ih => simp only [PyData.depth, PyData.depthAll, List.map] at ih ⊢; omega
  unfold SeqAt.shaped
  rw [h1 ns, decide_eq_true (Nat.le_trans (h2 ns) (by decide))]
  rfl
theorem ix0 {n : Nat} (h : 0 < n) : ixN n 0 = some 0 := by
  have h2 : (0 : Int) < n := by omega
  simp [ixN]; omega
theorem sq0 {n : Nat} (h : 0 < n) : seqIndex? 0 n = some 0 := (ixN_seq (ix0 h)).1
theorem scD : FnScope ["_law_stream_here", "_law_many", "_law_rest", "_law_turn", "_law_cell", "_law_mixed"] ["_law_stream_here", "_law_many"] (defScope sDraw) := ⟨rfl, rfl, rfl, by decide +kernel, rfl, by decide +kernel, by decide +kernel⟩
theorem pm31 {x : Int} : x % 2147483647 < 2147483647 ∧ 0 ≤ x % 2147483647 := ⟨Int.emod_lt_of_pos _ (by decide), Int.emod_nonneg _ (by decide)⟩
theorem pm87 {x : Int} : x % 2147483587 < 2147483587 ∧ 0 ≤ x % 2147483587 := ⟨Int.emod_lt_of_pos _ (by decide), Int.emod_nonneg _ (by decide)⟩

section
variable {P : Program} {w : World} {K : PySem.W.Frag} {mg : Str → Option Value} {base : Heap}
def spDraw : Sp := fun vs H Q _ => ∃ (S : Sm) (t m : Int), vs = [.ref S.s, .int m] ∧ Strm S H t ∧ 0 < m ∧ m < 1073741824 ∧ t < 1000000000000 ∧
  ∀ (H' : Hp) (r t' : Int), Keep S H H' → Strm S H' t' → t ≤ t' → t' ≤ t + 1 → 0 ≤ r → r < m → Q (.int r) H'
theorem ok_draw {f : Addr} {fd : FuncData} {k : Nat} (F : Fun K "_law_draw" "_law_draw" sDraw f fd) (ml : mg "len" = none) : FnOk P w K mg base CX0 (k + 1) f fd ["_law_stream_here", "_law_many"] spDraw := by
  refine F.ok scD (fun vs H Q E h => ?_) (fun cdv A outer s H vs Q E hr h => ?_)
  · obtain ⟨S, t, m, rfl, _⟩ := h
    rfl
  · obtain ⟨S, t, m, rfl, ⟨big0, hS0⟩, m0, m1, t1, q⟩ := h
    refine ⟨_, pss_cons (ps_while PassesOwn.never
        (pt_cmpR (op_neD hr.units) (pe_ix ix_list (pv 0) pe_int (fun _ _ => rfl)) (pe_lst pa_nil) (nomark _))
        (pss_cons (ps_set (i := 2) scD.nd rfl (.inl rfl) (pe_ix ix_list (pe_ix ix_list (pv 0) pe_int (fun _ _ => rfl)) pe_int (fun _ _ => rfl)))
        (pss_cons (ps_if (pt_cmpR op_gt (pv 2) pe_int (nomark _))
          (pss_cons (ps_asg (pe_op op_fdiv (pv 2) (pv 1)) (pg_sub (pe_ix ix_list (pv 0) pe_int (fun _ _ => rfl)) pe_int set_list))
          (pss_one (ps_ret (pe_op op_mod (pv 2) (pv 1))))) pss_nil)
        (pss_one (ps_expr (pe_bm PySem.F.plainAttrs_list PySem.F.slot_list_pop PySem.F.type_list_pop mt_popAt (pe_ix ix_list (pv 0) pe_int (fun _ _ => rfl)) (pa_cons pe_int pa_nil)))))))
      (pss_cons (ps_set (i := 3) scD.nd rfl (.inl rfl) (pe_op op_add (pe_ix ix_list (pv 0) pe_int (fun _ _ => rfl)) pe_int))
      (pss_cons (ps_asg (pv 3) (pg_sub (pv 0) pe_int set_list))
      (pss_cons (ps_set (i := 4) scD.nd rfl (.inl rfl) (pe_op op_mod (pe_ix ix_list (pe_ix ix_list (pv 0) pe_int (fun _ _ => rfl)) (pe_op op_mod (pv 3) (pe_callB call_len_seq (by rfl) ml PySem.boot_len (pa_cons (pe_ix ix_list (pv 0) pe_int (fun _ _ => rfl)) pa_nil))) (fun _ _ => rfl)) pe_int))
      (pss_cons (ps_set (i := 5) scD.nd rfl (.inl rfl) (pe_op op_mod (pe_op op_add (pe_op op_add (pe_op op_mul (pv 4) (pe_op op_add pe_int (pe_op op_mul pe_int (pv 3)))) (pe_op op_mul (pe_op op_mul pe_int (pv 3)) (pv 3))) pe_int) pe_int))
      (pss_one (ps_ret (pe_op op_mod (pe_op op_fdiv (pe_op op_mod (pe_op op_mul (pv 5) (pv 5)) pe_int) pe_int) (pv 1)))))))), ?_⟩
    refine ⟨fun n σ H1 => ∃ big y2, σ = [some (.ref S.s), some (.int m), y2, none, none, none] ∧ n = big.length ∧ StrmB S H1 t big ∧ Keep S H H1,
      ⟨big0.length, big0, none, rfl, rfl, hS0, Keep.refl S H⟩, ?_⟩
    rintro n σ H1 ⟨big, y2, rfl, rfl, hS, hk⟩
    -- while stream[0] != []
    refine ⟨.ref S.s, rfl, S.s, _, 0, .ref S.p, rfl, rfl, SqL.of hS.hs, rfl, Nat.zero_le _, fun z nz => ?_⟩
    have sm : Same H1 (upd H1 z (.lst [])) := same_new nz
    have hz : (upd H1 z (.lst [])) z = some (.lst []) := upd_same
    have hS' := hS.same sm
    have hk' : Keep S H (upd H1 z (.lst [])) := hk.trans (Keep.of sm)
    generalize upd H1 z (.lst []) = H2 at *
    clear hS hk sm nz
    refine ⟨_, _, .lst (SqL.of hS'.hp) (dpInts big), .lst (SqL.of hz) .nil, ke_shaped big, rfl, _, rfl, ?_⟩
    cases big with
    | cons x rest =>
      have e : (!PyData.eqv (.list ((x :: rest).map PyData.int)) (.list [])) = true := rfl
      rw [e]
      refine iteT ?_
      refine ⟨fun σ' H' => ∃ y2, σ' = [some (.ref S.s), some (.int m), y2, none, none, none] ∧ StrmB S H' t rest ∧ Keep S H H', ?_, ?_⟩
      · rintro σ' H' ⟨y, rfl, h1, h2⟩
        exact ⟨rest.length, Nat.lt_succ_self _, rest, y, rfl, rfl, h1, h2⟩
      · refine ⟨.ref S.s, rfl, S.s, _, 0, .ref S.p, rfl, rfl, SqL.of hS'.hs, rfl, S.p, _, 0, .int x, rfl, rfl, SqL.of hS'.hp, atI_nat (j := 0) rfl, ?_⟩
        refine ⟨.int x, rfl, x, 0, rfl, rfl, _, rfl, ite2 (fun hx => ?_) (fun hx => ?_)⟩
        · refine ⟨.int x, rfl, .int m, rfl, x, m, rfl, rfl, ⟨m0, m1⟩, ?_⟩
          refine ⟨.ref S.s, rfl, S.s, _, 0, .ref S.p, rfl, rfl, SqL.of hS'.hs, rfl, S.p, _, 0, 0, rfl, rfl, hS'.hp, ix0 (Nat.succ_pos _), ?_⟩
          refine ⟨.int x, rfl, .int m, rfl, x, m, rfl, rfl, m0, ?_⟩
          refine q _ _ t (fun b o n1 n2 eb => ?_) ⟨(x / m) :: rest, ?_⟩ (Int.le_refl _) (by omega) (Int.emod_nonneg _ (by omega)) (Int.emod_lt_of_pos _ m0)
          · rw [upd_ne n2]; exact hk' b o n1 n2 eb
          · refine ⟨?_, upd_same, ?_, hS'.sp, hS'.sq, hS'.pq, hS'.ne, hS'.t0⟩
            · rw [upd_ne hS'.sp]; exact hS'.hs
            · rw [upd_ne hS'.pq.symm]; exact hS'.hq
        · refine ⟨.ref S.s, rfl, S.s, _, 0, .ref S.p, rfl, rfl, SqL.of hS'.hs, rfl, .inl ⟨rfl, _, SqL.of hS'.hp⟩, S.p, _, 0, 0, .int x, rfl, rfl, hS'.hp, by decide, by decide, sq0 (Nat.succ_pos _), rfl, ?_⟩
          refine ⟨_, rfl, ⟨?_, upd_same, ?_, hS'.sp, hS'.sq, hS'.pq, hS'.ne, hS'.t0⟩, fun b o n1 n2 eb => ?_⟩
          · rw [upd_ne hS'.sp]; exact hS'.hs
          · rw [upd_ne hS'.pq.symm]; exact hS'.hq
          · rw [upd_ne n2]; exact hk' b o n1 n2 eb
    | nil =>
      have e : (!PyData.eqv (.list (([] : List Int).map PyData.int)) (.list [])) = false := rfl
      rw [e]
      refine iteF ?_
      have t0 := hS'.t0
      -- turn = stream[2] + 1; stream[2] = turn
      refine ⟨.ref S.s, rfl, S.s, _, 2, .int t, rfl, rfl, SqL.of hS'.hs, rfl, t, 1, rfl, rfl, ?_⟩
      refine ⟨.int (t + 1), rfl, .ref S.s, rfl, S.s, _, 2, 2, rfl, rfl, hS'.hs, rfl, ?_⟩
      generalize hH3 : upd H2 S.s (.lst ([V.ref S.p, .ref S.q, .int t].set 2 (.int (t + 1)))) = H3
      have hS3 : StrmB S H3 (t + 1) [] := by
        subst hH3
        refine ⟨upd_same, ?_, ?_, hS'.sp, hS'.sq, hS'.pq, hS'.ne, by omega⟩
        · rw [upd_ne hS'.sp.symm]; exact hS'.hp
        · rw [upd_ne hS'.sq.symm]; exact hS'.hq
      have hk3 : Keep S H H3 := fun b o n1 n2 eb => by
        subst hH3
        rw [upd_ne n1]; exact hk' b o n1 n2 eb
      clear hH3
      -- cell
      have hl : (0 : Int) < ((S.cs.map V.int).length : Nat) := by rw [List.length_map]; have := hS'.ne; omega
      have hm1 : (t + 1) % ((S.cs.map V.int).length : Nat) < ((S.cs.map V.int).length : Nat) := Int.emod_lt_of_pos _ hl
      have hm0 : 0 ≤ (t + 1) % ((S.cs.map V.int).length : Nat) := Int.emod_nonneg _ (by omega)
      obtain ⟨j, hj⟩ : ∃ j : Nat, (t + 1) % ((S.cs.map V.int).length : Nat) = j := ⟨_, (Int.toNat_of_nonneg hm0).symm⟩
      have hjl : j < S.cs.length := by rw [List.length_map] at hm1 hj; omega
      have hat : atI (S.cs.map V.int) ((t + 1) % ((S.cs.map V.int).length : Nat)) = some (.int S.cs[j]) := by
        rw [hj]
        refine atI_nat ?_
        rw [List.getElem?_map, List.getElem?_eq_getElem hjl]
        rfl
      refine ⟨.ref S.s, rfl, S.s, _, 1, .ref S.q, rfl, rfl, SqL.of hS3.hs, rfl, .int (t + 1), rfl, .ref S.s, rfl, S.s, _, 1, .ref S.q, rfl, rfl, SqL.of hS3.hs, rfl, S.q, _, rfl, .inl (SqL.of hS3.hq), _, _, rfl, rfl, hl, ?_⟩
      have k87 : (0 : Int) < 2147483587 := by decide
      have k47 : (0 : Int) < 2147483647 := by decide
      have k29 : (0 : Int) < 2147483629 := by decide
      refine ⟨S.q, _, _, .int S.cs[j], rfl, rfl, SqL.of hS3.hq, hat, S.cs[j], _, rfl, rfl, k87, ?_⟩
      obtain ⟨c1, c0⟩ := pm87 (x := S.cs[j])
      obtain ⟨c, hc⟩ : ∃ c, S.cs[j] % 2147483587 = c := ⟨_, rfl⟩
      rw [hc] at c1 c0
      -- mixed
      refine ⟨.int c, congrArg (fun x => some (some (V.int x))) hc, .int (t + 1), rfl, 40692, t + 1, rfl, rfl, .inl ⟨by decide, by decide⟩, 69621, 40692 * (t + 1), rfl, rfl, c, 69621 + 40692 * (t + 1), rfl, rfl, .inl ⟨by omega, by omega⟩, ?_⟩
      refine ⟨.int (t + 1), rfl, 48271, t + 1, rfl, rfl, .inl ⟨by decide, by decide⟩, .int (t + 1), rfl, 48271 * (t + 1), t + 1, rfl, rfl, .inr ⟨by omega, by omega⟩, c * (69621 + 40692 * (t + 1)), 48271 * (t + 1) * (t + 1), rfl, rfl, _, 47, rfl, rfl, c * (69621 + 40692 * (t + 1)) + 48271 * (t + 1) * (t + 1) + 47, 2147483647, rfl, rfl, k47, ?_⟩
      obtain ⟨d1, d0⟩ := pm31 (x := c * (69621 + 40692 * (t + 1)) + 48271 * (t + 1) * (t + 1) + 47)
      obtain ⟨d, hd⟩ : ∃ d, (c * (69621 + 40692 * (t + 1)) + 48271 * (t + 1) * (t + 1) + 47) % 2147483647 = d := ⟨_, rfl⟩
      rw [hd] at d1 d0
      have ed : some (some (V.int ((c * (69621 + 40692 * (t + 1)) + 48271 * (t + 1) * (t + 1) + 47) % 2147483647))) = some (some (V.int d)) := congrArg (fun x => some (some (V.int x))) hd
      refine ⟨.int d, ed, .int d, ed, d, d, rfl, rfl, .inl ⟨by omega, by omega⟩, d * d, 2147483629, rfl, rfl, k29, d * d % 2147483629, 16, rfl, rfl, ⟨by decide, by decide⟩, .int m, rfl, _, m, rfl, rfl, m0, ?_⟩
      exact q _ _ (t + 1) hk3 ⟨_, hS3⟩ (by omega) (Int.le_refl _) (Int.emod_nonneg _ (by omega)) (Int.emod_lt_of_pos _ m0)
end
end XT
namespace XT
open PySem PySem.Spec PyProof.Rows L2

/-! comprehensions whose turns only lay new things -/
theorem take_one {α β : Type} (f : α → β) (p : α → Bool) {xs : List α} {i : Nat} {x : α} (h : xs[i]? = some x) :
    ((xs.take (i + 1)).filter p).map f = ((xs.take i).filter p).map f ++ (if p x = true then [f x] else []) := by
  rw [List.take_add_one, h, List.filter_append, List.map_append]
  by_cases hp : p x = true
  · simp [hp]
  · simp [hp]
theorem flt_len {α β : Type} (f : α → β) (p : α → Bool) (xs : List α) (i : Nat) : (((xs.take i).filter p).map f).length ≤ i := by
  rw [List.length_map]
  exact Nat.le_trans (List.length_filter_le _ _) (by rw [List.length_take]; exact Nat.min_le_left _ _)

section
variable {K : PySem.W.Frag} {a : Addr} {g : TG} {tt : TT} {te : TE} {vs : List Nat} {σ : L2.St} {H1 : Hp} {D : Addr} {Qd : Hp → Prop}
/-- what one turn must do -/
def TurnP (g : TG) (tt : TT) (te : TE) (vs : List Nat) (σ : L2.St) (x y : V) (keep : Bool) (H : Hp) : Prop :=
  ∀ (R1 : Hp → Prop) (R2 : V → Hp → Prop), (keep = false → ∀ H3, Same H H3 → R1 H3) → (keep = true → ∀ H4, Same H H4 → R2 y H4) →
    g x (wipe σ vs) H fun σ2 H2 => wipe σ2 vs = wipe σ vs ∧ tt σ2 H2 fun b H3 => if b = true then te σ2 H3 R2 else R1 H3
/-- the invariant -/
def PvP (H1 : Hp) (D : Addr) (ys : List V) (H : Hp) : Prop := Same H1 H ∧ H D = some (.lst ys)
theorem pvp_turn {x y : V} {keep : Bool} {H : Hp} {ys : List V} (nD : H1 D = none) (h : PvP H1 D ys H) (hl : ys.length < sizeLine) (ht : TurnP g tt te vs σ x y keep H) (zs : List V) (ez : zs = ys ++ (if keep = true then [y] else [])) :
    g x (wipe σ vs) H fun σ2 H2 => wipe σ2 vs = wipe σ vs ∧ tt σ2 H2 fun b H3 =>
      if b = true then te σ2 H3 fun y H4 => ∃ acc, H4 D = some (.lst acc) ∧ acc.length < sizeLine ∧ PvP H1 D zs (upd H4 D (.lst (acc ++ [y]))) else PvP H1 D zs H3 := by
  obtain ⟨sm, hD⟩ := h
  refine ht _ _ (fun hk H3 s3 => ?_) (fun hk H4 s4 => ?_)
  · subst hk
    refine ⟨sm.trans s3, ?_⟩
    rw [ez, s3 _ _ hD]
    simp
  · subst hk
    refine ⟨ys, s4 _ _ hD, hl, fun b o e => ?_, ?_⟩
    · rw [upd_ne (ne_of_none e nD)]
      exact s4 _ _ (sm _ _ e)
    · rw [upd_same, ez]
      rfl
theorem lcp_list {xs : List V} (p : V → Bool) (f : V → V) (nD : H1 D = none) (hA : SqL K H1 a xs) (hz : xs.length < sizeLine) (ht : ∀ (i : Nat) x H, xs[i]? = some x → Same H1 H → TurnP g tt te vs σ x (f x) (p x) H)
    (hd : ∀ H, Same H1 H → H D = some (.lst ((xs.filter p).map f)) → Qd H) :
    ∃ W : Nat → Nat → Hp → Prop, (∃ m, W 0 m (upd H1 D (.lst []))) ∧ ∀ i m H, W i m H →
      ((Itl K a).stop i H ∧ Qd H) ∨ ((Itl K a).go i H ∧ ∃ Nx : Hp → Prop, (∀ H', Nx H' → ∃ m', m' < m ∧ W (i + 1) m' H') ∧ ∀ x H', (Itl K a).yld i H x H' → g x (wipe σ vs) H' fun σ2 H2 => wipe σ2 vs = wipe σ vs ∧ tt σ2 H2 fun b H3 =>
        if b = true then te σ2 H3 fun y H4 => ∃ acc, H4 D = some (.lst acc) ∧ acc.length < sizeLine ∧ Nx (upd H4 D (.lst (acc ++ [y]))) else Nx H3) := by
  refine lc_list (xs := xs) (fun i H => PvP H1 D (((xs.take i).filter p).map f) H) ⟨same_new nD, upd_same⟩ (fun i H _ h => h.1.seq hA) (fun i x H hx h => ?_) (fun H h => ?_)
  · have hi : i < xs.length := (List.getElem?_eq_some_iff.mp hx).1
    exact pvp_turn nD h (Nat.lt_of_le_of_lt (flt_len f p xs i) (Nat.lt_trans hi hz)) (ht i x H hx h.1) _ (take_one f p hx)
  · have h2 := h.2
    rw [List.take_length] at h2
    exact hd H h.1 h2
theorem Same.sqT {H H' : Hp} {a : Addr} {xs : List V} (e : Same H H') (h : SqT K H a xs) : SqT K H' a xs := by
  rcases h with (h | ⟨o, h⟩) | h
  · exact .inl (.inl (e _ _ h))
  · exact .inl (.inr ⟨o, e _ _ h⟩)
  · exact .inr h
theorem lcp_tup {xs : List V} (p : V → Bool) (f : V → V) (nD : H1 D = none) (hA : SqT K H1 a xs) (hz : xs.length < sizeLine) (ht : ∀ (i : Nat) x H, xs[i]? = some x → Same H1 H → TurnP g tt te vs σ x (f x) (p x) H)
    (hd : ∀ H, Same H1 H → H D = some (.lst ((xs.filter p).map f)) → Qd H) :
    ∃ W : Nat → Nat → Hp → Prop, (∃ m, W 0 m (upd H1 D (.lst []))) ∧ ∀ i m H, W i m H →
      ((Itt K a).stop i H ∧ Qd H) ∨ ((Itt K a).go i H ∧ ∃ Nx : Hp → Prop, (∀ H', Nx H' → ∃ m', m' < m ∧ W (i + 1) m' H') ∧ ∀ x H', (Itt K a).yld i H x H' → g x (wipe σ vs) H' fun σ2 H2 => wipe σ2 vs = wipe σ vs ∧ tt σ2 H2 fun b H3 =>
        if b = true then te σ2 H3 fun y H4 => ∃ acc, H4 D = some (.lst acc) ∧ acc.length < sizeLine ∧ Nx (upd H4 D (.lst (acc ++ [y]))) else Nx H3) := by
  refine lc_tup (xs := xs) (fun i H => PvP H1 D (((xs.take i).filter p).map f) H) ⟨same_new nD, upd_same⟩ (fun i H _ h => Same.sqT h.1 hA) (fun i x H hx h => ?_) (fun H h => ?_)
  · have hi : i < xs.length := (List.getElem?_eq_some_iff.mp hx).1
    exact pvp_turn nD h (Nat.lt_of_le_of_lt (flt_len f p xs i) (Nat.lt_trans hi hz)) (ht i x H hx h.1) _ (take_one f p hx)
  · have h2 := h.2
    rw [List.take_length] at h2
    exact hd H h.1 h2
theorem lcp_range {n : Nat} (p : Nat → Bool) (f : Nat → V) (nD : H1 D = none) (hz : n < sizeLine) (ht : ∀ (i : Nat) H, i < n → Same H1 H → TurnP g tt te vs σ (.int (0 + (i : Int))) (f i) (p i) H)
    (hd : ∀ H, Same H1 H → H D = some (.lst (((List.range n).filter p).map f)) → Qd H) :
    ∃ W : Nat → Nat → Hp → Prop, (∃ m, W 0 m (upd H1 D (.lst []))) ∧ ∀ i m H, W i m H →
      ((Itr 0 n).stop i H ∧ Qd H) ∨ ((Itr 0 n).go i H ∧ ∃ Nx : Hp → Prop, (∀ H', Nx H' → ∃ m', m' < m ∧ W (i + 1) m' H') ∧ ∀ x H', (Itr 0 n).yld i H x H' → g x (wipe σ vs) H' fun σ2 H2 => wipe σ2 vs = wipe σ vs ∧ tt σ2 H2 fun b H3 =>
        if b = true then te σ2 H3 fun y H4 => ∃ acc, H4 D = some (.lst acc) ∧ acc.length < sizeLine ∧ Nx (upd H4 D (.lst (acc ++ [y]))) else Nx H3) := by
  refine lc_range (lo := 0) (n := n) (fun i H => PvP H1 D ((((List.range n).take i).filter p).map f) H) ⟨same_new nD, upd_same⟩ (fun i H hi h => ?_) (fun H h => ?_)
  · have hx : (List.range n)[i]? = some i := List.getElem?_range hi
    exact pvp_turn nD h (Nat.lt_of_le_of_lt (flt_len f p _ i) (Nat.lt_trans hi hz)) (ht i H hi h.1) _ (take_one f p hx)
  · have h2 := h.2
    rw [List.take_of_length_le (by rw [List.length_range]; exact Nat.le_refl _)] at h2
    exact hd H h.1 h2
end
end XT
namespace XT
open PySem PySem.Spec PyProof.Rows L2

theorem scSt : FnScope ["_law_script", "_law_cells", "_law_cell"] ["_law_script"] (defScope sStream) := ⟨rfl, rfl, rfl, by decide +kernel, rfl, by decide +kernel, by decide +kernel⟩
theorem sz {n : Nat} (h : n ≤ 1000) : n ≤ sizeLine := Nat.le_trans h (by decide)
theorem small64 {n : Nat} (h : n ≤ 1000) : n < sizeLine := Nat.lt_of_le_of_lt h (by decide)
def ab (i : Int) : Int := if i < 0 then -i else i
section
variable {P : Program} {w : World} {K : PySem.W.Frag} {mg : Str → Option Value} {base : Heap}
def spStream (K : PySem.W.Frag) : Sp := fun vs H Q _ => ∃ (a : Addr) (ns : List Int), vs = [.ref a] ∧ SqL K H a (ns.map V.int) ∧ ns.length ≤ 63 ∧
  ∀ (H' : Hp) (S : Sm), Same H H' → Strm S H' 0 → Q (.ref S.s) H'
theorem ok_stream {f : Addr} {fd : FuncData} {k : Nat} (F : Fun K "_law_stream" "_law_stream" sStream f fd) (ml : mg "len" = none) (ma : mg "abs" = none) : FnOk P w K mg base CX0 (k + 1) f fd ["_law_script"] (spStream K) := by
  refine F.ok scSt (fun vs H Q E h => ?_) (fun cdv A outer s H vs Q E hr h => ?_)
  · obtain ⟨a, ns, rfl, _⟩ := h
    rfl
  · obtain ⟨a, ns, rfl, hA, hlen, q⟩ := h
    refine ⟨_, pss_cons (ps_setLc (i := 1) (own := [("_law_cell", 2)]) (g := gName 2) (tt := tYes) rfl scSt.nd rfl rfl (sw_true rfl rfl rfl (by decide +kernel)) (pi_list (pv 0)) (blkOk_by (own := [("_law_cell", 2)]) (N := ["_law_script", "_law_cells", "_law_cell"]) (sc := defScope sStream) (by decide +kernel))
          (fun _ _ _ _ _ => pg_name (i := 2) scSt.nd rfl (Or.inl rfl)) (fun _ _ _ _ _ => pts_nil) (fun _ _ _ _ _ => pe_callB call_abs (by rfl) ma (by decide +kernel) (pa_cons (pv 2) pa_nil)))
        (pss_one (ps_ret (pe_lst (pa_cons
          (pe_lc (own := [("_law_cell", 2)]) (g := gName 2) rfl scSt.nd (pi_list (pv 1)) (blkOk_by (own := [("_law_cell", 2)]) (N := ["_law_script", "_law_cells", "_law_cell"]) (sc := defScope sStream) (by decide +kernel))
            (fun _ _ _ _ _ => pg_name (i := 2) scSt.nd rfl (Or.inl rfl)) (fun _ _ _ _ _ => pts_one (pt_cmpR op_ge (pv 2) (pe_op op_pow pe_int pe_int) (nomark _))) (fun _ _ _ _ _ => pv 2))
          (pa_cons (pe_op op_cat (pv 1) (pe_lst (pa_cons (pe_op op_add (pe_callB call_len_seq (by rfl) ml PySem.boot_len (pa_cons (pv 1) pa_nil)) pe_int) pa_nil)))
          (pa_cons pe_int pa_nil)))))), ?_⟩
    have hml : (ns.map V.int).length ≤ 63 := by rw [List.length_map]; exact hlen
    refine ⟨.ref a, rfl, a, rfl, ⟨_, hA⟩, fun D nD => lcp_list (p := fun _ => true) (f := fun v => match v with | .int i => .int (ab i) | v => v) nD hA (small64 (by omega)) (fun i x H3 hx sm => ?_) (fun H3 sm hD => ?_)⟩
    · intro R1 R2 h1 h2
      rw [List.getElem?_map] at hx
      obtain ⟨n, -, rfl⟩ := Option.map_eq_some_iff.mp hx
      exact ⟨rfl, iteT (B := R1 H3) ⟨_, rfl, n, rfl, h2 rfl _ (Same.refl _)⟩⟩
    · -- cells
      obtain ⟨cs, hcs, hcl⟩ : ∃ cs : List Int, (((ns.map V.int).filter fun _ => true).map fun v => match v with | .int i => V.int (ab i) | v => v) = cs.map V.int ∧ cs.length = ns.length := by
        refine ⟨ns.map ab, ?_, List.length_map _⟩
        rw [List.filter_eq_self.mpr (fun _ _ => rfl), List.map_map, List.map_map]
        rfl
      rw [hcs] at hD
      have hDl : (cs.map V.int).length ≤ 63 := by rw [List.length_map]; omega
      refine ⟨.ref D, rfl, D, rfl, ⟨_, SqL.of hD⟩, fun B nB => lcp_list (p := fun v => match v with | .int i => decide (10 ^ 18 ≤ i) | _ => false) (f := id) nB (SqL.of hD) (small64 (by omega)) (fun i x H4 hx sm4 => ?_) (fun H4 sm4 hB => ?_)⟩
      · intro R1 R2 h1 h2
        rw [List.getElem?_map] at hx
        obtain ⟨n, -, rfl⟩ := Option.map_eq_some_iff.mp hx
        refine ⟨rfl, _, rfl, 10, 18, rfl, rfl, ⟨by decide, by decide, by decide⟩, n, _, rfl, rfl, _, rfl, ite2 (fun e => ?_) (fun e => ?_)⟩
        · exact ⟨_, rfl, h2 e _ (Same.refl _)⟩
        · exact h1 (by simpa using e) _ (Same.refl _)
      · have hD4 := sm4 _ _ hD
        obtain ⟨big, hbig⟩ : ∃ big : List Int, (((cs.map V.int).filter fun v => match v with | .int i => decide (10 ^ 18 ≤ i) | _ => false).map id) = big.map V.int := by
          refine ⟨cs.filter fun i => decide (10 ^ 18 ≤ i), ?_⟩
          rw [List.map_id, List.filter_map]
          rfl
        rw [hbig] at hB
        refine ⟨.ref D, rfl, .ref D, rfl, D, _, rfl, .inl (SqL.of hD4), _, _, rfl, rfl, sz (n := 1) (by decide), fun L nL => ?_⟩
        have s5 : Same H4 (upd H4 L (.lst [.int (((cs.map V.int).length : Nat) + 37)])) := same_new nL
        refine ⟨D, L, _, _, rfl, rfl, s5 _ _ hD4, upd_same, ?_, fun C nC => ?_⟩
        · rw [sizeLine_eq]; simp only [List.length_map, List.length_cons, List.length_nil]; omega
        · have s6 := same_new (o := .lst (cs.map V.int ++ [.int (((cs.map V.int).length : Nat) + 37)])) nC
          refine ⟨sz (n := 3) (by decide), fun G nG => ?_⟩
          have s7 := same_new (o := .lst [V.ref B, .ref C, .int 0]) nG
          have hBC : B ≠ C := ne_of_none (s5 _ _ hB) nC
          refine q _ ⟨G, B, C, cs ++ [(((cs.map V.int).length : Nat) : Int) + 37]⟩ (((sm.trans sm4).trans (s5.trans s6)).trans s7) ⟨big, upd_same, s7 _ _ (s6 _ _ (s5 _ _ hB)), s7 _ _ ?_, ?_, ?_, hBC, ?_, Int.le_refl _⟩
          · rw [upd_same, List.map_append]; rfl
          · exact (ne_of_none (s6 _ _ (s5 _ _ hB)) nG).symm
          · exact (ne_of_none (show (upd _ C _) C = some _ from upd_same) nG).symm
          · show 0 < (cs ++ _).length
            rw [List.length_append]; exact Nat.succ_pos _
end
end XT
/-! set(list of ints); sorted(set of ints) of any number -/
namespace XT
open PySem PySem.Spec PyProof.Rows L2
abbrev newS (w : World) : Obj := { cls := .type "set", dict := none, data := .set #[] 0 (.fresh 0 0 (!w.params.followText "set-order")) }
section
variable {P : Program} {w : World} {A : Around} {E : Value → Shared → Prop} {s : Shared}
abbrev afterS (w : World) (s : Shared) (ns : List Int) (r : Value) (s2 : Shared) : Prop :=
  r = .none ∧ ∃ (hp : Heap) (tk c : Nat), s2 = { s with heap := hp, toks := tk } ∧ SetR w hp s.heap.objs.size (fun j => decide (j ∈ ns)) c ∧ c ≤ ns.length ∧ (∀ b o, s.heap.get? b = some o → hp.get? b = some o)
abbrev withS (w : World) (s : Shared) : Shared := { s with heap := s.heap.push (newS w) }
theorem items_at {items : Array Value} {ns : List Int} (hit : IntsAre items.toList ns) (hz : items.size = ns.length) (i : Nat) (v : Value) (hv : items[i]? = some v) : ∃ k t, ns[i]? = some k ∧ v = .int k t := by
  have hi : i < ns.length := by rw [← hz]; exact (Array.getElem?_eq_some_iff.mp hv).1
  obtain ⟨t, e⟩ := IntsAre.int_at hit i v (by rw [Array.getElem?_toList]; exact hv)
  exact ⟨ns[i], t, List.getElem?_eq_getElem hi, by rw [e, List.getD_eq_getElem?_getD, List.getElem?_eq_getElem hi] <;> rfl⟩
theorem set_listI {l : Addr} {items : Array Value} (ns : List Int) {Q : Value → Shared → Prop} (hh : A.handled = none) (hl : s.heap.IsList l items) (hit : IntsAre items.toList ns) (hb : ns.length + 1 < scanBound)
    (h : ∀ (hp : Heap) (tk c : Nat), SetR w hp s.heap.objs.size (fun j => decide (j ∈ ns)) c → c ≤ ns.length → (∀ b o, s.heap.get? b = some o → hp.get? b = some o) → Q (.ref s.heap.objs.size) { s with heap := hp, toks := tk }) :
    wpAny (model P w) A (call (.type "set") [.ref l]) Q E s := by
  have hz : items.size = ns.length := by
    have e := IntsAre.length hit
    rwa [Array.length_toList] at e
  obtain ⟨mc, mt, m0⟩ := F.called_set.mro
  have m1 := F.called_set.made
  have m2 := F.called_set.sub
  have m3 := F.called_set.notType
  have m4 := F.called_set.canCreate
  have m5 := F.typeCall_set_1 (.ref l)
  refine wpAny_call (codeAny_of_tree ?_)
  show wpAny _ _ (callAny (.type "set") _) _ _ _
  refine wpAny_pure ⟨Code.quiet_builtin _ (by decide +kernel), codeAny_builtin F.entry_type_call ?_⟩
  rw [Around.under_plain (weight_type_call_type "set" [.ref l] []) rfl]
  repeat (any_goals (first | assumption | wp_step))
  refine codeAny_mono (code_set_led1 (.ref l) (E := E) (Q₁ := fun v s1 => v = .ref s.heap.objs.size ∧ s1 = withS w s) ⟨rfl, rfl⟩) fun r s1 hr => ?_
  match r, hr with
  | .error e, hr => exact hr
  | .ok .next, hr => exact hr.elim
  | .ok .brk, hr => exact hr.elim
  | .ok .cont, hr => exact hr.elim
  | .ok (.ret v), hr =>
    obtain ⟨rfl, rfl⟩ := hr
    have g0 : (s.heap.push (newS w)).get? s.heap.objs.size = some (newS w) := Heap.get?_push_size _ rfl
    have g1 : Shared.TypeIs (withS w s) (.ref s.heap.objs.size) "set" := ⟨_, g0, rfl⟩
    have g2 := F.called_set.init.lookup
    have g3 := F.called_set.init.bind (.ref s.heap.objs.size)
    repeat (any_goals (first | assumption | wp_step))
    refine codeAny_mono (codeAny_call_builtin (R := wants (afterS w s ns) E) F.called_set.init.plain F.entry_set_init (check_set_init_1 g1 ?_)) fun r2 s2 hr2 => ?_
    · obtain ⟨ol, hol, hcl, nl, hdl⟩ := hl
      obtain ⟨oc, od, odt, osl⟩ := ol
      simp only at hcl hdl
      subst hcl hdl
      have hol1 : (s.heap.push (newS w)).get? l = some { cls := .type "list", dict := od, data := .seq items nl, slots := osl } := Heap.get?_push_of_some _ hol
      have n1 := F.sub_list_set
      have n2 := F.sub_list_frozenset
      have n3 : (Value.type "list" == Value.type "dict") = false := by decide
      have hl1 : (s.heap.push (newS w)).IsList l items := ⟨_, hol1, rfl, nl, rfl⟩
      have lS : l < s.heap.objs.size := Heap.lt_size hol
      have z1 : (s.heap.push (newS w)).objs.size = s.heap.objs.size + 1 := Heap.size_push ..
      unfold Builtin.«set.__init__» noKeywords Builtin.Frozenset.updateFrom
      generalize hPI : pyIter = PI
      wp_walk
      subst hPI
      refine wpAny_pyIter_list hl1 (wpAny_bind (wpAny_runValue ?_))
      refine set_update_ints ((Walks.list (by simp [hh]) _ l (by rw [z1]; exact Nat.ne_of_lt (Nat.lt_succ_of_lt lS)) items).toS) s.heap.objs.size (by rw [z1]; simp only [List.mem_cons, List.not_mem_nil, or_false, not_or]; exact ⟨Nat.ne_of_lt (Nat.lt_succ_self _), Nat.ne_of_gt lS⟩) ns hz hb (items_at hit hz) (items.size - 0) 0 _ (by omega) (Nat.zero_le _)
        ⟨⟨_, Heap.get?_push_size _ rfl, rfl, rfl⟩, hl1.push _⟩ ⟨0, Nat.le_refl 0, setR_new_at (Heap.get?_push_of_some _ g0)⟩ ?_
      intro s3 c hm hc hS
      obtain ⟨h3, ge, dr, tk, os⟩ := s3
      obtain rfl : ge = s.gens := hm.gens
      obtain rfl : dr = s.drawn := hm.drawn
      obtain rfl : os = s.os := hm.os
      show wpAny _ _ _ _ _ _
      refine wpAny_pure ?_
      show wpAny _ _ (ret Value.none) _ _ _
      rw [hz] at hc
      refine wpAny_pure ⟨rfl, h3, tk, c, rfl, hS, hc, fun b o e => ?_⟩
      have b0 : b < s.heap.objs.size := Heap.lt_size e
      exact hm.heap b o (by rw [z1]; simp only [List.mem_cons, List.not_mem_nil, or_false, not_or]; exact ⟨Nat.ne_of_lt b0, Nat.ne_of_lt (Nat.lt_succ_of_lt b0)⟩) (Heap.get?_push_of_some _ (Heap.get?_push_of_some _ e))
    · match r2, hr2 with
      | .error e, hr2 => exact hr2
      | .ok .next, hr2 => exact hr2.elim
      | .ok .brk, hr2 => exact hr2.elim
      | .ok .cont, hr2 => exact hr2.elim
      | .ok (.ret v), hr2 =>
        obtain ⟨rfl, hp, tk, c, rfl, hS, hc, hk⟩ := hr2
        repeat (any_goals (first | assumption | wp_step))
        exact h _ _ _ hS hc hk
end
end XT
namespace XT
open PySem PySem.Spec PyProof.Rows L2
section
variable {P : Program} {w : World} {A : Around} {E : Value → Shared → Prop} {s : Shared} {a : Addr}
theorem iv_raw (v : Value) (h : ∃ k t, v = Value.int k t) : SrtO.iv v = Builtin.Re.reRawOf v := by
  obtain ⟨k, t, rfl⟩ := h
  rfl
/-- sorted(set of ints), however many -/
theorem sorted_setN {S : Int → Bool} {n : Nat} {Q : Value → Shared → Prop} (R : SetR w s.heap a S n) (hh : A.handled = none)
    (hQ : ∀ s2 p (out : List Value) (c : Nat) (ns : List Int), (∀ b o, s.heap.get? b = some o → s2.heap.get? b = some o) → s2.gens = s.gens → s2.os = s.os → s.heap.objs.size ≤ p →
      s2.heap.get? p = some (seqObj "list" out.toArray c) → IntsAre out ns → ns.Pairwise (· < ·) → (∀ k, k ∈ ns ↔ S k = true) → ns.length = n → Q (.ref p) s2) :
    wpAny (model P w) A (call (.builtin "sorted") [.ref a]) Q E s := by
  obtain ⟨o, es, ep, t, ho, hex, hd, g, nd, hm, hb, hf, hn, hr, hl⟩ := R
  refine Calls.call_function_entry kind_sorted plain_sorted entry_sorted (args_sorted1 _) ?_
  unfold Builtin.«sorted»
  refine wpAny_bind (m := checkCount "sorted" 1 1 _) (wpAny_pure (wpAny_bind (collect_set (A := A.in1) hh ⟨o, ho, hex.1, hd⟩ hf hb hr hl fun s1 vs k1 hz g1 o1 pm => ?_)))
  have vl : vs.length = n := by rw [pm.length_eq, List.length_map, Array.length_toList]; exact hn
  have n0 : n ≤ sizeLine := by rw [sizeLine_eq]; unfold scanBound at hb; omega
  have allI : ∀ v ∈ vs, ∃ k t, v = Value.int k t := fun v hv => by
    obtain ⟨e, he, q⟩ := List.mem_map.mp (pm.mem_iff.mp hv)
    obtain ⟨k, tk, h1, _⟩ := g e he
    exact ⟨k, tk, by rw [← q]; exact h1⟩
  have hI : IntsAre vs (vs.map SrtO.iv) := SrtO.ints_iv allI
  have pk : (vs.map SrtO.iv).Perm (es.toList.map keyOf) := by
    have e1 : vs.map SrtO.iv = vs.map Builtin.Re.reRawOf := List.map_congr_left fun v hv => iv_raw v (allI v hv)
    have q := pm.map Builtin.Re.reRawOf
    rw [List.map_map] at q
    rw [e1]
    exact q
  refine wpAny_bind (wpAny_newList ?_ (by rw [vl]; exact n0))
  have hoL : (s1.heap.push (seqObj "list" vs.toArray 0)).get? s1.heap.objs.size = some (seqObj "list" vs.toArray 0) := Heap.get?_push_size _ rfl
  refine wpAny_bind (wpAny_holding (wpAny_call_entry slot_list_sort ⟨_, hoL, rfl⟩ entry_list_sort (SrtO.list_sort_ord SrtO.swo_int hoL (by rw [vl]; exact n0) (fun h2 => SrtO.ints_sortable hI h2) fun out a1 a2 => ⟨_, rfl, ?_⟩) (args_list_sort _)))
  obtain ⟨j1, j2, j3⟩ := SrtO.ints_out hI a1 a2
  obtain ⟨c, hc⟩ := sortedHeap_at (vs := vs) (out := out.toArray) hoL
  have pn := j2.trans pk
  refine wpAny_pure ⟨_, rfl, hQ _ s1.heap.objs.size out c _ (fun b u e => ?_) g1 o1 hz hc j1 (lt_of_le_nodup _ j3 (pn.nodup_iff.mpr nd)) (fun k => by rw [pn.mem_iff, ← hm k]) ?_⟩
  · have q := k1 b u e
    have lt := Heap.lt_size q
    show (sortedHeap (s1.heap.push (seqObj "list" vs.toArray 0)) s1.heap.objs.size vs out.toArray).get? b = some u
    rw [sortedHeap_old (Nat.ne_of_lt lt) (by rw [size_push']; exact Nat.lt_succ_of_lt lt)]
    exact Heap.get?_push_of_some _ q
  · rw [pn.length_eq, List.length_map, Array.length_toList]; exact hn
end
section
variable {X : Cx}
/-- set(xs), a list of ints -/
def rSetL (K : PySem.W.Frag) (w : World) : List V → Hp → VK → Prop := fun vs H Q => ∃ (a : Addr) (ns : List Int), vs = [V.ref a] ∧ SqL K H a (ns.map V.int) ∧ ns.length ≤ 1000 ∧
  ∀ (p : Addr) (c : Nat), H p = none → Q (.ref p) (upd H p (SetO w p (fun j => decide (j ∈ ns)) c))
theorem cr_setL (hc : X.calm = true) : CallR X (.type "set") (XT.rSetL X.K X.w) := by
  intro pins s σ H vs us Q I r h
  obtain ⟨a, ns, rfl, hs, hn, q⟩ := h
  obtain ⟨its, rv, hl, hz⟩ := I.list hs
  rw [Vals.ref1 r]
  refine set_listI ns (I.ok.hd hc) hl.isList (by simpa using rv.ints) (by unfold scanBound; omega) fun hp tk c hS hcn hk => ?_
  exact ⟨.ref _, _, I.laid (t' := tk) hk (Nat.le_refl _) (setO_new hS), rfl, q _ c (I.hok.fresh (Nat.le_refl _))⟩
/-- sorted(found) -/
def rSortS (w : World) : List V → Hp → VK → Prop := fun vs H Q => ∃ (a : Addr) (S : Int → Bool) (n : Nat), vs = [V.ref a] ∧ H a = some (SetO w a S n) ∧
  ∀ (ns : List Int) (p : Addr), ns.Pairwise (· < ·) → (∀ k : Int, k ∈ ns ↔ S k = true) → H p = none → Q (.ref p) (upd H p (.lst (ns.map V.int)))
theorem cr_sortS (hc : X.calm = true) : CallR X (.builtin "sorted") (rSortS X.w) := by
  intro pins s σ H vs us Q I r h
  obtain ⟨a, S, n, rfl, ha, q⟩ := h
  have R := setO_get I ha
  have n0 : n ≤ sizeLine := by
    obtain ⟨_, _, _, _, _, _, _, _, _, _, hb, _, hn, _⟩ := R
    rw [sizeLine_eq]; unfold scanBound at hb; omega
  rw [Vals.ref1 r]
  refine sorted_setN R (I.ok.hd hc) fun s2 p out c ns k g o hp hg hi hs hm hl => ?_
  have hn : H p = none := I.hok.fresh hp
  have J : Inv X pins σ (upd H p (.lst (ns.map V.int))) { s with heap := s2.heap, gens := s2.gens, drawn := s2.drawn, toks := s2.toks } :=
    I.call (ch := []) (Un.laid k hp hn) (I.hok.laid k hp ⟨by rw [List.length_map, hl]; exact n0, out, c, vals_of_ints hi, hg⟩) (by rw [g]; exact I.bare) (fun _ z => nomatch z)
  have e : s2 = { s with heap := s2.heap, gens := s2.gens, drawn := s2.drawn, toks := s2.toks } := by
    cases s2; cases s; cases o; rfl
  rw [e]
  exact ⟨.ref p, _, J, rfl, q ns p hs hm hn⟩
end
end XT
/-! for i, x in enumerate(t), t a tuple -/
namespace XT
open PySem PySem.Spec PyProof.Rows L2
abbrev enO (it : Addr) : Obj := { cls := .type "enumerate", data := .fields #[.none, .bool false, .ref it, rawInt 0, .none, .none] }
abbrev tiO (t : Addr) : Obj := { cls := .type "tuple_iterator", data := .fields #[.ref t, .int 0 0] }
theorem newEnumT (t : Addr) (items : Array Value) : Meets (Builtin.«enumerate.__new__» ⟨[.type "enumerate", .ref t], []⟩)
    (fun _ R s => s.heap.IsTuple t items ∧ R (.ok (.ret (.ref (s.heap.push (tiO t)).objs.size))) { s with heap := (s.heap.push (tiO t)).push (enO s.heap.objs.size) }) :=
  .of_wp fun prog w A R s h => by
    obtain ⟨hp, ge, dr, tk, os⟩ := s
    obtain ⟨h1, h2⟩ := h
    have sb := sub_enumerate
    have q : ∀ {A2 : Around} {E : Value → Shared → Prop} {Q : Value → Shared → Prop}, Q (.ref hp.objs.size) ⟨hp.push (tiO t), ge, dr, tk, os⟩ → wpAny (model prog w) A2 (pyIter (.ref t)) Q E ⟨hp, ge, dr, tk, os⟩ :=
      fun z => wpAny_pyIter_tuple (s := ⟨hp, ge, dr, tk, os⟩) h1 z
    wp_walk using q
    refine wpAny_stack_any fun st => wpAny_pure ?_
    split
    · rename_i c _ _ _ _ _
      cases (c == Value.type "enumerate") <;> (wp_walk using q; exact ⟨_, rfl, h2⟩)
    · wp_walk using q
      exact ⟨_, rfl, h2⟩
section
variable {prog : Program} {w : World} {A : Around} {E : Value → Shared → Prop} {s : Shared}
theorem call_enumT {t : Addr} {items : Array Value} {Q : Value → Shared → Prop} (hT : s.heap.IsTuple t items)
    (h : ∀ hp, IsEnum hp (s.heap.objs.size + 1) s.heap.objs.size 0 .none → hp.IsTupleIter s.heap.objs.size t 0 → (∀ b o, s.heap.get? b = some o → hp.get? b = some o) → Q (.ref (s.heap.objs.size + 1)) { s with heap := hp }) :
    wpAny (model prog w) A (call (.type "enumerate") [.ref t]) Q E s := by
  refine callType_new F.called_enumerate (by decide) (F.typeCall_enumerate_1 _) (F.newCall_enumerate_1 _) (fun obj => F.args_object_init_2 obj _) F.entry_enumerate_new (newEnumT t items) ⟨hT, ?_⟩
  have z : (s.heap.push (tiO t)).objs.size = s.heap.objs.size + 1 := Heap.size_push ..
  have e0 := Heap.get?_push_size (s.heap.push (tiO t)) (o := enO s.heap.objs.size) rfl
  rw [z] at e0
  show _ ∧ _
  rw [z]
  exact ⟨⟨_, e0, rfl⟩, h _ e0 ⟨_, Heap.get?_push_of_some _ (Heap.get?_push_size _ rfl), rfl, rfl⟩ fun b o x => Heap.get?_push_of_some _ (Heap.get?_push_of_some _ x)⟩
end
/-- the tuple at a, its items in new pairs with their places -/
def ItT (K : PySem.W.Frag) (a : Addr) : It :=
  ⟨fun i H => ∃ (xs : List V) (x : V), SqT K H a xs ∧ xs[i]? = some x,
   fun i H v H2 => ∃ T x, v = .ref T ∧ H T = none ∧ H2 = upd H T (.tup [.int (i : Nat), x]) ∧ ∀ xs, SqT K H a xs → xs[i]? = some x,
   fun i H => ∃ xs : List V, SqT K H a xs ∧ xs.length = i⟩
theorem turn_enumT {P : Program} {w : World} {K : PySem.W.Frag} {elts : List Expr} {kk : Nat} {tpos : Pos} (a e it : Addr) (hne : e ≠ it) (hai : a ≠ it) (hae : e ≠ a) :
    Turn P w K (.Tuple elts kk tpos) (ItT K a) [e, it] e (fun i h => (∃ old, IsEnum h e it ((i : Nat) : Int) old) ∧ h.IsTupleIter it a i) where
  mem := List.mem_cons_self
  obj := fun i h st b hb => by
    obtain ⟨⟨old, he⟩, ⟨o, ho, hc, hd⟩⟩ := st
    rcases List.mem_cons.mp hb with z | z
    · rw [z]; exact ⟨_, he, fun v q => nomatch q⟩
    · rw [List.mem_singleton.mp z]; exact ⟨o, ho, fun v q => by rw [hd] at q; cases q⟩
  keep := fun i h h2 st k => ⟨let ⟨old, he⟩ := st.1; ⟨old, k e (by simp) _ he⟩, st.2.at fun o q => k it (by simp) o q⟩
  item := by
    intro X hP hw hK hc i pins s σ H E I hf st hg
    subst hP hw hK
    obtain ⟨⟨old, he⟩, hit⟩ := st
    obtain ⟨xs, x, hq, hx⟩ := hg
    obtain ⟨its, rv, p, hz⟩ := I.tuple hq
    obtain ⟨u, hu, ru⟩ := rv.get hx
    have p' : s.heap.IsTuple a its.toArray := p
    have el : e < s.heap.objs.size := Heap.lt_size he
    have il : it < s.heap.objs.size := by obtain ⟨_, q, _⟩ := hit; exact Heap.lt_size q
    have hi : i < its.toArray.size := by
      rw [List.size_toArray]; exact (List.getElem?_eq_some_iff.mp hu).1
    refine wpAny_pyNext_enum_itemD (Draws.tuple (A := X.A.in1) (I.ok.hd hc) it a hai its.toArray) he ⟨hit, p'⟩ hi hne (by simp [hne, hae]) fun y h1 tk hy ho hit1 hT hsz hk => ?_
    have ey : y = u := by
      have q : its.toArray[i]? = some u := by simpa using hu
      exact Option.some.inj (hy.symm.trans q)
    subst ey
    refine ⟨_, rfl, wpAny_letOwnedTupleGo_enum (s := { s with heap := h1, toks := tk + 1 }) ho fun h2 he2 sb => ?_⟩
    have gT : h2.get? s.heap.objs.size = some { cls := .type "tuple", data := .seq #[.int i tk, y] } := (sb.2 _ (Nat.ne_of_gt el)).trans hT
    have new : ObjOk X.prog X.w (upd H s.heap.objs.size (.tup [.int (i : Nat), x])) h2 s.heap.objs.size (.tup [.int (i : Nat), x]) :=
      ⟨sz (n := 2) (by decide), [.int i tk, y], .cons ⟨_, rfl⟩ (.cons ru .nil), ⟨_, gT, rfl, _, rfl⟩⟩
    have J := I.turnedNew (t' := tk + 1) (ch := [e, it]) (fun b ob hb q => (sb.2 b (fun z => hb (by simp [z]))).trans (hk b ob (fun z => hb (by simp [z])) (fun z => hb (by simp [z])) q)) hf (Nat.le_refl _) new
    refine ⟨.ref s.heap.objs.size, _, J, rfl, ⟨_, x, rfl, I.hok.fresh (Nat.le_refl _), rfl, fun ys hy => by rw [I.tuple_inj hy hq]; exact hx⟩, ⟨⟨y, ?_⟩, hit1.1.at fun o q => (sb.2 it (Ne.symm hne)).trans q⟩, fun b hb => ?_⟩
    · rw [show ((i + 1 : Nat) : Int) = (i : Int) + 1 by omega]; exact he2
    · have hb2 : b < s.heap.objs.size := by
        rcases List.mem_cons.mp hb with z | z
        · rw [z]; exact el
        · rw [List.mem_singleton.mp z]; exact il
      rw [upd_ne (Nat.ne_of_lt hb2)]
      exact (hf b hb).1
  done := by
    intro X hP hw hK hc i pins s σ H E I hf st hg
    subst hP hw hK
    obtain ⟨⟨old, he⟩, hit⟩ := st
    obtain ⟨xs, hq, hx⟩ := hg
    obtain ⟨its, rv, p, hz⟩ := I.tuple hq
    obtain ⟨f0, f1, f2, f3, f4, f5⟩ := hf it (by simp)
    have hl : its.toArray.size = i := by rw [List.size_toArray, ← rv.length]; exact hx
    have D := Draws.tuple (prog := X.prog) (w := X.w) (A := X.A.in1) (I.ok.hd hc) it a hai its.toArray
    rw [hl] at D
    exact wpAny_pyNext_enum_endD D he ⟨hit, p⟩ fun h2 eb => ⟨rfl, I.turned (t' := s.toks) (fun b o hb q => eb b o hb q) f0 f1 f3 f4 f5⟩
  self := fun A i s Q E st h => let ⟨⟨_, he⟩, _⟩ := st; wpAny_pyIter_enum he h
def iEnT (K : PySem.W.Frag) (ta : TA) : TI := fun σ H R => ta σ H fun vs H1 => ∃ a xs, vs = [.ref a] ∧ SqT K H1 a xs ∧ R (ItT K a) H1
theorem pi_enumT {X : Cx} {e : Expr} {ta : TA} {p pos tpos : Pos} {elts : List Expr} {kk : Nat} (hg : Gl X "enumerate") (hm : X.mg "enumerate" = none) (ha : PA X [e] ta) (hs : starEach [e] X.env = [(false, eval e X.env)] := by rfl) :
    PI X (.Tuple elts kk tpos) (.Call (.Name "enumerate" p) [e] [] pos) (iEnT X.K ta) := by
  refine ⟨fun pins s σ H R I h => Call_ (ld_blt I hg hm boot_enumerate (callWith_type1 (thn (ha.run pos pins s σ H _ I h) fun us s1 ⟨vs, H1, I1, r1, q1⟩ => ?_) hs rfl))⟩
  obtain ⟨a, xs, ex, hq, q⟩ := q1
  subst ex
  obtain ⟨u, rfl, ru⟩ := vals1 r1
  cases (show u = Value.ref a from ru)
  obtain ⟨its, rv, p2, hz⟩ := I1.tuple hq
  have al : a < s1.heap.objs.size := by obtain ⟨o, ho, _⟩ := p2; exact Heap.lt_size ho
  refine call_enumT (items := its.toArray) p2 fun hp he hit hk => wpAny_pyIter_enum he ?_
  have I2 : Inv X pins σ H1 { s1 with heap := hp } := I1.kept (t' := s1.toks) hk
  refine ⟨s1.heap.objs.size + 1, [s1.heap.objs.size + 1, s1.heap.objs.size], _, _, H1, rfl, I2, turn_enumT a (s1.heap.objs.size + 1) s1.heap.objs.size (Nat.succ_ne_self _) (Nat.ne_of_lt al) (Nat.ne_of_gt (Nat.lt_succ_of_lt al)), ⟨⟨.none, he⟩, hit⟩, fun b hb => ?_, q⟩
  have hle : s1.heap.objs.size ≤ b := by
    rcases List.mem_cons.mp hb with z | z
    · rw [z]; exact Nat.le_succ _
    · rw [List.mem_singleton.mp z]; exact Nat.le_refl _
  exact I1.fpOk hle (I1.hok.fresh hle)
end XT
/-! lots as lists of numbers -/
namespace XT
open PySem PySem.Spec PyProof.Rows L2
def lotOf (w : Nat) (P : Nat → Bool) : List Nat := (List.range (2 ^ w)).filter P
def vm (ms : List Nat) : List V := ms.map fun (m : Nat) => V.int (m : Int)
theorem mem_lot {w : Nat} {P : Nat → Bool} {m : Nat} : m ∈ lotOf w P ↔ m < 2 ^ w ∧ P m = true := by
  unfold lotOf
  rw [List.mem_filter, List.mem_range]
theorem lot_congr {w : Nat} {P P' : Nat → Bool} (h : ∀ m, m < 2 ^ w → P m = P' m) : lotOf w P = lotOf w P' := by
  unfold lotOf
  exact List.filter_congr fun m hm => h m (List.mem_range.mp hm)
theorem pow6 {w : Nat} (h : w ≤ 6) : 2 ^ w ≤ 64 := by
  have : w = 0 ∨ w = 1 ∨ w = 2 ∨ w = 3 ∨ w = 4 ∨ w = 5 ∨ w = 6 := by omega
  rcases this with rfl | rfl | rfl | rfl | rfl | rfl | rfl <;> decide
theorem pow0 (w : Nat) : 0 < 2 ^ w := Nat.pow_pos (by decide)
theorem lot_len {w : Nat} (h : w ≤ 6) (P : Nat → Bool) : (lotOf w P).length ≤ 64 := by
  refine Nat.le_trans (List.length_filter_le _ _) ?_
  rw [List.length_range]
  exact pow6 h
theorem vm_len (ms : List Nat) : (vm ms).length = ms.length := List.length_map _
/-- two rising lists with the same members are one -/
theorem rising_eq : ∀ {l m : List Int}, l.Pairwise (· < ·) → m.Pairwise (· < ·) → (∀ k, k ∈ l ↔ k ∈ m) → l = m
  | [], [], _, _, _ => rfl
  | [], b :: m, _, _, h => absurd ((h b).mpr List.mem_cons_self) (by simp)
  | a :: l, [], _, _, h => absurd ((h a).mp List.mem_cons_self) (by simp)
  | a :: l, b :: m, hl, hm, h => by
    obtain ⟨l1, l2⟩ := List.pairwise_cons.mp hl
    obtain ⟨m1, m2⟩ := List.pairwise_cons.mp hm
    have e : a = b := by
      rcases List.mem_cons.mp ((h a).mp List.mem_cons_self) with e | e
      · exact e
      · rcases List.mem_cons.mp ((h b).mpr List.mem_cons_self) with e' | e'
        · exact e'.symm
        · have := m1 a e
          have := l1 b e'
          omega
    subst e
    congr 1
    refine rising_eq l2 m2 fun k => ⟨fun hk => ?_, fun hk => ?_⟩
    · rcases List.mem_cons.mp ((h k).mp (List.mem_cons_of_mem _ hk)) with e | e
      · have := l1 k hk
        omega
      · exact e
    · rcases List.mem_cons.mp ((h k).mpr (List.mem_cons_of_mem _ hk)) with e | e
      · have := m1 k hk
        omega
      · exact e
theorem range_rising (n : Nat) : ((List.range n).map fun (m : Nat) => (m : Int)).Pairwise (· < ·) := by
  rw [List.pairwise_map]
  exact List.pairwise_lt_range.imp fun h => by omega
theorem lot_rising (w : Nat) (P : Nat → Bool) : ((lotOf w P).map fun (m : Nat) => (m : Int)).Pairwise (· < ·) := by
  unfold lotOf
  have h := List.pairwise_map.mp (range_rising (2 ^ w))
  rw [List.pairwise_map]
  exact h.filter _
theorem rising_lot {w : Nat} {P : Nat → Bool} {ns : List Int} (h : ns.Pairwise (· < ·)) (hm : ∀ k, k ∈ ns ↔ ∃ m : Nat, k = m ∧ m < 2 ^ w ∧ P m = true) : ns.map V.int = vm (lotOf w P) := by
  have e : ns = (lotOf w P).map fun (m : Nat) => (m : Int) := rising_eq h (lot_rising w P) fun k => by
    rw [hm k, List.mem_map]
    constructor
    · rintro ⟨m, rfl, h1, h2⟩
      exact ⟨m, mem_lot.mpr ⟨h1, h2⟩, rfl⟩
    · rintro ⟨m, h1, rfl⟩
      exact ⟨m, rfl, mem_lot.mp h1⟩
  rw [e, List.map_map]
  rfl
theorem vm_ints (ms : List Nat) : vm ms = (ms.map fun (m : Nat) => (m : Int)).map V.int := by
  unfold vm
  rw [List.map_map]
  rfl
theorem vm_flat (ms : List Nat) : (vm ms).all flatV = true := by
  rw [List.all_eq_true]
  intro v hv
  obtain ⟨m, _, rfl⟩ := List.mem_map.mp hv
  rfl
theorem in_vm (k : Nat) (ms : List Nat) : inV (.int (k : Int)) (vm ms) = decide (k ∈ ms) := by
  rw [Bool.eq_iff_iff, decide_eq_true_iff]
  unfold inV
  rw [List.any_eq_true]
  constructor
  · rintro ⟨v, hv, e⟩
    obtain ⟨m, hm, rfl⟩ := List.mem_map.mp hv
    have e' : ((m : Int) == (k : Int)) = true := e
    have : (m : Int) = k := by simpa using e'
    have : m = k := by omega
    rw [← this]
    exact hm
  · intro h
    exact ⟨_, List.mem_map.mpr ⟨k, h, rfl⟩, by show ((k : Int) == (k : Int)) = true; simp⟩
theorem in_lot {w : Nat} {P : Nat → Bool} {k : Nat} (hk : k < 2 ^ w) : inV (.int (k : Int)) (vm (lotOf w P)) = P k := by
  rw [in_vm, Bool.eq_iff_iff, decide_eq_true_iff, mem_lot]
  exact ⟨fun h => h.2, fun h => ⟨hk, h⟩⟩
/-- a lot -/
def LotAt (H : Hp) (v : V) (w : Nat) (P : Nat → Bool) : Prop := ∃ p q, v = .ref p ∧ H p = some (.tup [.int (w : Int), .ref q]) ∧ H q = some (.tup (vm (lotOf w P)))
theorem LotAt.same {H H' : Hp} {v : V} {w : Nat} {P : Nat → Bool} (h : LotAt H v w P) (e : Same H H') : LotAt H' v w P := by
  obtain ⟨p, q, rfl, h1, h2⟩ := h
  exact ⟨p, q, rfl, e _ _ h1, e _ _ h2⟩
theorem LotAt.keep {S : Sm} {H H' : Hp} {t : Int} {v : V} {w : Nat} {P : Nat → Bool} (h : LotAt H v w P) (k : Keep S H H') (st : Strm S H t) : LotAt H' v w P := by
  obtain ⟨p, q, rfl, h1, h2⟩ := h
  exact ⟨p, q, rfl, k.tup st h1, k.tup st h2⟩
theorem LotAt.congr {H : Hp} {v : V} {w : Nat} {P P' : Nat → Bool} (h : LotAt H v w P) (e : ∀ m, m < 2 ^ w → P m = P' m) : LotAt H v w P' := by
  obtain ⟨p, q, rfl, h1, h2⟩ := h
  exact ⟨p, q, rfl, h1, by rw [← lot_congr e]; exact h2⟩
def dLot (w : Nat) (P : Nat → Bool) : PyData := .tuple [.int (w : Int), .tuple ((lotOf w P).map fun (m : Nat) => .int (m : Int))]
theorem dpVm {K : PySem.W.Frag} {H : Hp} : ∀ ms : List Nat, DpAll K H (vm ms) (ms.map fun (m : Nat) => .int (m : Int))
  | [] => .nil
  | m :: ms => .cons (.int m) (dpVm ms)
theorem LotAt.dp {K : PySem.W.Frag} {H : Hp} {v : V} {w : Nat} {P : Nat → Bool} (h : LotAt H v w P) : Dp K H v (dLot w P) := by
  obtain ⟨p, q, rfl, h1, h2⟩ := h
  exact .tup (SqT.of h1) (.cons (.int _) (.cons (.tup (SqT.of h2) (dpVm _)) .nil))
theorem ints_lay : ∀ ms : List Nat, PyData.canLayAll0 (ms.map fun (m : Nat) => PyData.int (m : Int)) = true
  | [] => rfl
  | m :: ms => by
    have h := ints_lay ms
    simpa [PyData.canLayAll0, PyData.canLay0] using h
theorem ints_depth : ∀ ms : List Nat, PyData.depthAll (ms.map fun (m : Nat) => PyData.int (m : Int)) ≤ 1
  | [] => by decide
  | m :: ms => by
    have h := ints_depth ms
    simp only [PyData.depthAll, PyData.depth, List.map] at h ⊢
    omega
theorem dLot_shaped (w : Nat) (P : Nat → Bool) : SeqAt.shaped (dLot w P) = true := by
  have h1 : PyData.canLay0 (dLot w P) = true := by
    have h := ints_lay (lotOf w P)
    simp [dLot, PyData.canLay0, PyData.canLayAll0, h]
  have h2 : PyData.depth (dLot w P) ≤ 64 := by
    have h := ints_depth (lotOf w P)
    simp only [dLot, PyData.depth, PyData.depthAll]
    omega
  unfold SeqAt.shaped
  rw [h1, decide_eq_true h2]
  rfl
theorem eqv_ints : ∀ ms : List Nat, PyData.eqvAll (ms.map fun (m : Nat) => PyData.int (m : Int)) (ms.map fun (m : Nat) => PyData.int (m : Int)) = true
  | [] => rfl
  | m :: ms => by
    have h := eqv_ints ms
    simp [PyData.eqvAll, PyData.eqv, h]
theorem eqv_lot {w : Nat} {P P' : Nat → Bool} (h : ∀ m, m < 2 ^ w → P m = P' m) : PyData.eqv (dLot w P) (dLot w P') = true := by
  unfold dLot
  rw [lot_congr h]
  simp [PyData.eqv, PyData.eqvAll, eqv_ints]
/-- a != b, two lots that are one -/
theorem ne_lot {K : PySem.W.Frag} {H : Hp} {x y : V} {w : Nat} {P P' : Nat → Bool} {Q : VK} (hx : LotAt H x w P) (hy : LotAt H y w P') (h : ∀ m, m < 2 ^ w → P m = P' m) (q : Q (.bl false) H) : rNeD K x y H Q := by
  refine ⟨_, _, hx.dp, hy.dp, dLot_shaped _ _, dLot_shaped _ _, ?_⟩
  rw [eqv_lot h]
  exact q
end XT
/-! the program's own defs -/
namespace XT
open PySem PySem.Spec PyProof.Rows L2
def DefR (P : Program) (w : World) (K : PySem.W.Frag) (mg : Str → Option Value) (base : Heap) (k : Nat) (x : Str) (sp : Sp) : Prop :=
  ∃ f, FnR P w K mg base CX0 k f sp ∧ mg x = some (.ref f) ∧ PySem.W.keepIn K (.ref f) = true
theorem DefR.of {P : Program} {w : World} {K : PySem.W.Frag} {mg : Str → Option Value} {base : Heap} {k : Nat} {x : Str} {sp : Sp} {f : Addr} {fd : FuncData} {ps : List Str}
    (F : FnOk P w K mg base CX0 k f fd ps sp) (b : Binds K fd ps []) (hm : mg x = some (.ref f)) (hk : PySem.W.keepIn K (.ref f) = true) : DefR P w K mg base k x sp :=
  ⟨f, (FnOk.raw F b .nil).imp fun vs H Q E h => by rw [List.append_nil]; exact h, hm, hk⟩
section
variable {X : Cx}
/-- f(e, ..) -/
theorem pe_def {j : Nat} {x : Str} {sp : Sp} {e : Expr} {es : List Expr} {t : TA} {p pos : Pos} (D : DefR X.prog X.w X.K X.mg X.base j x sp) (hr : Room j X.A) (hg : Gl X x) (ha : PA X (e :: es) t)
    (hdb : (x == ("__debug__" : Str)) = false := by decide) (he : starEach (e :: es) X.env = (false, eval e X.env) :: starEach es X.env := by rfl) (hpl : (backTo pos (starEach es X.env)).any (·.1) = false := by rfl) :
    PE X (.Call (.Name x p) (e :: es) [] pos) (fun σ H Q => t σ H fun vs H1 => sp vs H1 Q E0) := by
  obtain ⟨f, F, hm, hk⟩ := D
  refine ⟨fun pins s σ H Q I h => wpAny_Call_Name_kw (ld_glob I hg hm ?_ hdb)⟩
  refine PySem.W.callWith_K (h₀ := X.base) I.ok.mod.kin hk (thn (ha.run pos pins s σ H _ I h) fun us s1 ⟨vs, H1, I1, r, q⟩ => ⟨I1.kIn, ?_⟩) he hpl
  refine wpAny_call (codeAny_mono (run_fnR F hr pass0 I1 r q) fun r s2 z => ?_)
  match r, z with
  | .ok (.ret v), z => exact z
  | .ok .next, z => exact z.elim
  | .ok .brk, z => exact z.elim
  | .ok .cont, z => exact z.elim
  | .error e, z => exact z
end
theorem bT : bootBuiltins "tuple" = some (.type "tuple") := by decide +kernel
theorem bS : bootBuiltins "sorted" = some (.builtin "sorted") := by decide +kernel
theorem bI : bootBuiltins "isinstance" = some (.builtin "isinstance") := by decide +kernel
theorem bInt : bootBuiltins "int" = some (.type "int") := by decide +kernel
theorem bBool : bootBuiltins "bool" = some (.type "bool") := by decide +kernel
theorem bSet : bootBuiltins "set" = some (.type "set") := by decide +kernel
theorem bAll : bootBuiltins "all" = some (.builtin "all") := by decide +kernel

section
variable {P : Program} {w : World} {K : PySem.W.Frag} {mg : Str → Option Value} {base : Heap}
/-- the module's names that are still the built-in ones -/
structure Bl (mg : Str → Option Value) : Prop where
  len : mg "len" = none
  abs : mg "abs" = none
  tuple : mg "tuple" = none
  sorted : mg "sorted" = none
  isinstance : mg "isinstance" = none
  int : mg "int" = none
  bool : mg "bool" = none
  set : mg "set" = none
  all : mg "all" = none
  range : mg "range" = none
  enumerate : mg "enumerate" = none

theorem shl1 (n : Nat) : (1 : Int) * 2 ^ ((n : Int).toNat) = ((2 ^ n : Nat) : Int) := by
  rw [Int.toNat_natCast, Int.one_mul]
  norm_cast
theorem cpow {n : Nat} (h : n ≤ 6) : CPow 1 (n : Int) := ⟨by omega, by omega, by decide⟩
theorem xor_lt {a b n : Nat} (ha : a < 2 ^ n) (hb : b < 2 ^ n) : a ^^^ b < 2 ^ n := Nat.xor_lt_two_pow ha hb
theorem bx (a b : Nat) : Builtin.bitXor (a : Int) (b : Int) = ((a ^^^ b : Nat) : Int) := by
  rw [Bits.bitXor_pp (by omega) (by omega)]
  rfl
end
end XT
/-! the law's own call, where no repr is under way; repr of data -/
namespace XT
open PySem PySem.Spec PyProof.Rows L2
def RunC (P : Program) (w : World) (K : PySem.W.Frag) (mg : Str → Option Value) (base : Heap) (k : Nat) (f : Addr) (sp : Sp) : Prop :=
  ∀ (s : Shared) (H : Hp) (u : Value) (v : V) (Q : VK), Room k callerA → Env0 P w K mg base callerA [] s H → RelV v u → sp [v] H Q E0 → codeAny (model P w) callerA (.call (.ref f) ⟨[u], []⟩) (CR CX0 [] P w H s Q E0) s
section
variable {P : Program} {w : World} {K : PySem.W.Frag} {mg : Str → Option Value} {base : Heap}
theorem run_law {x par : Str} {st : Stmt} {f : Addr} {fd : FuncData} {N : List Str} {k : Nat} {sp : Sp} (F : Fun K x x st f fd) (S : FnScope N [par] (defScope st))
    (hb : ∀ (kV doc pm : Value) (an : Option Addr) (cdv ct u : Value), bindArgs (PySem.W.fnOf x x (defArgs st) (defBody st) (defScope st) .none kV doc pm an cdv ct) ⟨[u], []⟩ = pure [(par, u)])
    (hbody : ∀ (cdv : Value) (s : Shared) (H : Hp) (v : V) (Q : VK), Room k (callerA.deeper (envOfC x (defScope st) s.heap.objs.size f cdv)) → sp [v] H Q E0 →
      ∃ t, PSs (cxOf CX0 P w K mg base N x (defScope st) f cdv callerA [] s H E0).nox (defBody st) t ∧ t { nx := fun _ H' => Q .non H', rt := Q } (start N [v]) H) : RunC P w K mg base (k + 1) f sp := by
  obtain ⟨oc, od, kV, doc, pm, an, cdv, ct, osl, rfl, lk, hcd⟩ := F.ex
  intro s H u v Q hr e0 rv hsp
  refine StX.run_bnd lk hcd S hr e0 (G := fun vs H2 => vs = [v] ∧ H2 = H) (fun A2 Ex Q2 h => ?_) fun s2 H2 vs ⟨ev, eH⟩ hr2 => ?_
  · rw [hb kV doc pm an cdv ct u]
    exact wpAny_pure (h s H [v] [u] e0 Un.refl rfl (fun _ _ z => z) (.cons rv .nil) rfl ⟨rfl, rfl⟩)
  · subst ev eH
    obtain ⟨t, h1, h2⟩ := hbody cdv s2 H2 v Q hr2 hsp
    exact ⟨t, h1.nox, h2⟩
/-- from the law's promise to what the row asks of its call -/
theorem law_end {mb : Str → Option Value} {k : Nat} {fa a : Addr} {sp : Sp} {s1 : Shared} {vs : List Value} {ns : List Int} (KX : K.In s1.heap) (hns : s1.heap.Ns mainGlobals mg) (hb : s1.heap.Ns builtinsNs mb)
    (hbb : ∀ x : Str, x ≠ "__name__" → mb x = bootBuiltins x) (hlim : s1.heap.NoLimit) (hg : s1.gens = #[]) (ha : s1.heap.get? a = some { cls := .type "list", data := .seq vs.toArray }) (hi : IntsAre vs ns) (hl : ns.length ≤ sizeLine)
    (hr : Room k callerA) (F : ∀ base : Heap, K.In base → base.Ns mainGlobals mg → RunC P w K mg base k fa sp) (hsp : ∀ H : Hp, SqL K H a (ns.map V.int) → sp [.ref a] H (fun v _ => v = .bl true) E0) :
    codeAny (model P w) callerA (.call (.ref fa) ⟨[.ref a], []⟩) (fun r s2 => r = .ok (.ret (.bool true)) ∧ OldK s1.heap s2.heap ∧ s2.os = s1.os ∧ AllBare s2.gens) s1 := by
  have rv : Vals (ns.map V.int) vs := vals_of_ints hi
  have nl := hi.length
  have go : ∀ H : Hp, SqL K H a (ns.map V.int) → HOk P w H s1.heap → (∀ b, H b = none ∨ (b = a ∧ K.lookup a = none ∧ ∃ o xs, H b = some (.frz o (.lst xs)))) →
      codeAny (model P w) callerA (.call (.ref fa) ⟨[.ref a], []⟩) (fun r s2 => r = .ok (.ret (.bool true)) ∧ OldK s1.heap s2.heap ∧ s2.os = s1.os ∧ AllBare s2.gens) s1 := by
    intro H hS hok hO
    have nsK : ∀ {b : Addr} {m : Str → Option Value}, s1.heap.Ns b m → (hidT s1.heap H).Ns b m := fun {b m} ⟨o, es, ep, e, d, r⟩ => by
      refine ⟨o, es, ep, hidT_get e ?_, d, r⟩
      rcases hO b with z | ⟨z, _, _⟩
      · exact z
      · rw [z, ha] at e
        cases e
        have d2 : Data.seq vs.toArray _ = Data.dict es ep := d
        cases d2
    have kb : K.In (hidT s1.heap H) := fun b o e => by
      refine hidT_get (KX b o e) ?_
      rcases hO b with z | ⟨z, y, _⟩
      · exact z
      · rw [z, y] at e; cases e
    have M : Mod K mg (hidT s1.heap H) := ⟨kb, nsK hns, ⟨mb, nsK hb, hbb⟩, let ⟨mc, h1, h2⟩ := hlim; ⟨mc, nsK h1, h2⟩⟩
    have e0 : Env0 P w K mg (hidT s1.heap H) callerA [] s1 H := ⟨rfl, M, fun b o e => of_hidT e, Nat.le_of_eq (hidT_size _ _), trivial, fun b z => absurd (show b ∈ ([] : List Addr) from z) (by simp), hok, .of_eq hg⟩
    refine codeAny_mono (F _ kb (nsK hns) s1 H (.ref a) (.ref a) _ hr e0 rfl (hsp H hS)) fun r s2 z => ?_
    match r, z with
    | .error e, z => exact z.elim
    | .ok .next, z => exact z.elim
    | .ok .brk, z => exact z.elim
    | .ok .cont, z => exact z.elim
    | .ok (.ret u), z =>
      obtain ⟨v, H2, os, bare, un, hok2, rr, q⟩ := z
      have q : v = .bl true := q
      subst q
      obtain rfl : u = Value.bool true := rr
      refine ⟨rfl, OldK.of_keep fun b o e => ?_, os, bare⟩
      rcases hO b with y | ⟨_, _, ob, xs, y⟩
      · exact un.keep b o e y (fun z => absurd (show b ∈ ([] : List Addr) from z) (by simp)) (by simp)
      · obtain ⟨g1, _⟩ := hok b _ y
        obtain ⟨g2, _⟩ := hok2 b _ (un.frzs b ob _ y)
        rw [e] at g1
        cases g1
        exact g2
  cases hk : K.lookup a with
  | some o =>
    have e := KX a o hk
    rw [ha] at e
    cases e
    exact go (fun _ => none) (.inr ⟨_, vs.toArray, _, hk, rfl, rfl, rfl, by rw [List.size_toArray, nl]; exact hl, by simpa using rv⟩) (fun b u z => nomatch z) fun _ => .inl rfl
  | none =>
    refine go (upd (fun _ => none) a (.frz { cls := .type "list", data := .seq vs.toArray } (.lst (ns.map V.int)))) (.inl (.inr ⟨_, upd_same⟩)) (fun b u z => ?_) fun b => ?_
    · by_cases e : b = a
      · subst e
        rw [upd_same] at z
        cases z
        exact ⟨ha, by rw [List.length_map]; exact hl, vs, _, rv, ha⟩
      · rw [upd_ne e] at z
        cases z
    · by_cases e : b = a
      · exact .inr ⟨e, hk, _, _, by rw [e]; exact upd_same⟩
      · exact .inl (upd_ne e)
end
theorem walk_ofC {l : PySem.W.OpenLaw} {n k : Nat} {q : Program} {loose : List Str} {XP : (Str → Option Value) → Heap → Prop} {YP : World → Heap → Prop} {d : DefRec} {K : Params → PySem.W.Frag} {sp : World → Sp}
    (hn : l.most = some n) (hn2 : n ≤ sizeLine) (hdf : d.params.defaults = []) (hr : Room k callerA) (hY : ∀ (w : World) (h : Heap), YP w h → (K w.params).In h)
    (F : ∀ (w : World) (mg : Str → Option Value) (fa : Addr) (h : Heap), (K w.params).In h → h.Ns mainGlobals mg → mg d.name = some (.ref fa) → ∀ base : Heap, (K w.params).In base → base.Ns mainGlobals mg → RunC l.prog w (K w.params) mg base k fa (sp w))
    (hsp : ∀ (w : World) (H : Hp) (a : Addr) (ns : List Int), ns.length ≤ n → SqL (K w.params) H a (ns.map V.int) → sp w [.ref a] H (fun v _ => v = .bl true) E0) :
    PySem.W.WalkO q loose XP YP l.row.toRowW d [] (fun f vs => PySem.call f vs) :=
  Att.attach_call hn hdf fun w s0 s1 mg mb fa o pm cd doc a vs ns G Y ho hd hcd hmg hobj hints hlen hg =>
    law_end (hY w _ Y) G.T.g G.T.b G.T.builtins G.T.nolimit hg hobj hints (Nat.le_trans hlen hn2) hr (F w mg fa _ (hY w _ Y) G.T.g hmg) fun H hS => hsp w H a ns hlen hS
/-! repr -/
section
variable {X : Cx}
def rRepr (K : PySem.W.Frag) : List V → Hp → VK → Prop := fun xs H Q => ∃ (a : Addr) (d : PyData), xs = [.ref a] ∧ Dp K H (.ref a) d ∧ SeqAt.shaped d = true ∧ d.showable = true ∧ d.shown.length ≤ sizeLine ∧ Q (.str d.shown) H
theorem cr_repr (hg : X.A.guards = some []) (hu : X.A.units + 128 < cLine) : CallR X (.builtin "repr") (rRepr X.K) := by
  intro pins s σ H xs us Q I r h
  obtain ⟨a, d, rfl, hd, hs, hw, hz, q⟩ := h
  rw [Vals.ref1 r]
  obtain ⟨as, rd⟩ := Dp.reads I d (.ref a) (.ref a) hd rfl
  have nd : d.hasDict = false := PyData.hasDict_of_canLay d (SeqAt.canLay_of_shaped hs)
  have dp := SeqAt.depth_of_shaped hs
  refine repr_of_reads' rd hw (PyData.noDict_hsm nd) hg (by omega) (fun _ _ e => e) (fun h2 u tk k => ?_) hz
  exact ⟨.str d.shown, H, I.kept (t' := tk) k, ⟨u, rfl⟩, q⟩
end
end XT
namespace XT
open PySem PySem.Spec PyProof.Rows L2
theorem lot_filter (n : Nat) (p q : Nat → Bool) : (lotOf n p).filter q = lotOf n (fun m => p m && q m) := by
  unfold lotOf
  rw [List.filter_filter]
  refine List.filter_congr fun m _ => ?_
  rw [Bool.and_comm]
theorem vm_filter (ms : List Nat) (q : Nat → Bool) (r : V → Bool) (h : ∀ m ∈ ms, r (.int (m : Int)) = q m) : ((vm ms).filter r).map id = vm (ms.filter q) := by
  unfold vm
  rw [List.map_id, List.filter_map]
  congr 1
  exact List.filter_congr fun m hm => h m hm
theorem mem_vm {ms : List Nat} {i : Nat} {v : V} (h : (vm ms)[i]? = some v) : ∃ m, ms[i]? = some m ∧ v = .int (m : Int) := by
  unfold vm at h
  rw [List.getElem?_map] at h
  obtain ⟨m, h1, h2⟩ := Option.map_eq_some_iff.mp h
  exact ⟨m, h1, h2.symm⟩
/-- for i, x in enumerate(t) -/
theorem for_enumT {K : PySem.W.Frag} {a : Addr} {xs : List V} {g : TG} {tb : TS} {D : Ends} {σ : L2.St} {H : Hp} (Pv : Nat → L2.St → Hp → Prop) (h0 : Pv 0 σ H) (hl : ∀ i σ H, i ≤ xs.length → Pv i σ H → SqT K H a xs)
    (hs : ∀ i x σ H T, xs[i]? = some x → Pv i σ H → H T = none → g (.ref T) σ (upd H T (.tup [.int (i : Nat), x])) fun σ2 H2 => tb { D with nx := Pv (i + 1), ct := Pv (i + 1), bk := D.nx } σ2 H2) (hd : ∀ σ H, Pv xs.length σ H → D.nx σ H) :
    ∃ W : Nat → Nat → L2.St → Hp → Prop, (∃ m, W 0 m σ H) ∧ ∀ i m σ H, W i m σ H →
      ((ItT K a).stop i H ∧ D.nx σ H) ∨ ((ItT K a).go i H ∧ ∃ N : L2.St → Hp → Prop, (∀ σ' H', N σ' H' → ∃ m', m' < m ∧ W (i + 1) m' σ' H') ∧ ∀ x H', (ItT K a).yld i H x H' → g x σ H' fun σ2 H2 => tb { D with nx := N, ct := N, bk := D.nx } σ2 H2) := by
  refine ⟨fun i m σ H => m = xs.length - i ∧ i ≤ xs.length ∧ Pv i σ H, ⟨xs.length, by simp, Nat.zero_le _, h0⟩, ?_⟩
  rintro i m σ H ⟨rfl, hi, p⟩
  have q := hl i σ H hi p
  rcases Nat.lt_or_ge i xs.length with lt | ge
  · refine .inr ⟨⟨xs, xs[i], q, List.getElem?_eq_getElem lt⟩, Pv (i + 1), fun σ' H' p' => ⟨xs.length - (i + 1), by omega, rfl, lt, p'⟩, fun v H' y => ?_⟩
    obtain ⟨T, x, rfl, nT, rfl, fx⟩ := y
    exact hs i x σ H T (fx xs q) p nT
  · have e : i = xs.length := by omega
    subst e
    exact .inl ⟨⟨xs, q, rfl⟩, hd σ H p⟩
theorem r62 {n : Nat} (h : n ≤ 6) : ((2 ^ n : Nat) : Int) < 2 ^ 62 := by
  have := pow6 h
  omega
theorem l62 {n : Nat} : -(2 ^ 62) ≤ ((2 ^ n : Nat) : Int) := Int.le_trans (by decide : -(2 ^ 62) ≤ (0 : Int)) (Int.natCast_nonneg _)
end XT
/-! data with dicts, and repr of them -/
namespace XT
open PySem PySem.Spec PyProof.Rows L2
/-- a dict of texts and numbers -/
def dkV (kvs : List (Str × Int)) : List (Key × V) := kvs.map fun p => (.inr p.1, .int p.2)
def dkD (kvs : List (Str × Int)) : PyData := .dict (kvs.map fun p => (.str p.1, .int p.2))
mutual
inductive Dz (K : PySem.W.Frag) (H : Hp) : V → PyData → Prop
  | non : Dz K H .non .none
  | bl (b : Bool) : Dz K H (.bl b) (.bool b)
  | int (i : Int) : Dz K H (.int i) (.int i)
  | str (x : Str) : Dz K H (.str x) (.str x)
  | lst {a : Addr} {xs : List V} {ds : List PyData} : SqL K H a xs → a ≠ sysModules → DzAll K H xs ds → Dz K H (.ref a) (.list ds)
  | tup {a : Addr} {xs : List V} {ds : List PyData} : SqT K H a xs → DzAll K H xs ds → Dz K H (.ref a) (.tuple ds)
  | dct {a : Addr} (kvs : List (Str × Int)) : H a = some (.dK (dkV kvs)) → Dz K H (.ref a) (dkD kvs)
inductive DzAll (K : PySem.W.Frag) (H : Hp) : List V → List PyData → Prop
  | nil : DzAll K H [] []
  | cons {v : V} {vs : List V} {d : PyData} {ds : List PyData} : Dz K H v d → DzAll K H vs ds → DzAll K H (v :: vs) (d :: ds)
end
mutual
theorem Dz.same {K : PySem.W.Frag} {H H' : Hp} (e : Same H H') : ∀ {v : V} {d : PyData}, Dz K H v d → Dz K H' v d
  | _, _, .non => .non
  | _, _, .bl b => .bl b
  | _, _, .int i => .int i
  | _, _, .str x => .str x
  | _, _, .lst h n a => .lst (e.seq h) n (DzAll.same e a)
  | _, _, .tup h a => .tup (Same.sqT e h) (DzAll.same e a)
  | _, _, .dct kvs h => .dct kvs (e _ _ h)
theorem DzAll.same {K : PySem.W.Frag} {H H' : Hp} (e : Same H H') : ∀ {vs : List V} {ds : List PyData}, DzAll K H vs ds → DzAll K H' vs ds
  | _, _, .nil => .nil
  | _, _, .cons h a => .cons (Dz.same e h) (DzAll.same e a)
end
theorem dk_reads {P : Program} {w : World} {h : Heap} : ∀ {kvs : List (Str × Int)} {vs : List (Key × Value)} {es : List DictEntry}, KV (dkV kvs) vs → Pairs (mixKind P w) es vs →
    ReadsAll h (es.map (·.key)) ((kvs.map fun p => ((PyData.str p.1, PyData.int p.2) : PyData × PyData)).map (·.1)) [] ∧ ReadsAll h (es.map (·.val)) ((kvs.map fun p => ((PyData.str p.1, PyData.int p.2) : PyData × PyData)).map (·.2)) []
  | [], _, _, r, p => by
    cases r
    cases p
    exact ⟨.nil, .nil⟩
  | (x, i) :: kvs, _, _, r, p => by
    cases r with
    | @cons a kv as bs r1 r2 =>
      cases p with
      | @cons e _ es' _ hk hv p2 =>
        obtain ⟨h1, h2⟩ := dk_reads (P := P) (w := w) (h := h) (kvs := kvs) r2 p2
        obtain ⟨e1, e2⟩ := r1
        have e1 : (Sum.inr x : Key) = kv.1 := e1
        have e2 : RelV (.int i) kv.2 := e2
        have hk : keyIs kv.1 e.key = true := hk
        rw [← e1] at hk
        rcases keyIs_shape hk with ⟨j, t, z, _⟩ | ⟨y, t, z, ey⟩
        · cases z
        · cases z
          obtain ⟨t2, e3⟩ := e2
          refine ⟨?_, ?_⟩
          · show ReadsAll h (e.key :: es'.map (·.key)) (PyData.str x :: _) ([] ++ [])
            rw [ey]
            exact .cons (.str x t) h1
          · show ReadsAll h (e.val :: es'.map (·.val)) (PyData.int i :: _) ([] ++ [])
            rw [hv, e3]
            exact .cons (.int i t2) h2
section
variable {X : Cx} {pins : List (Addr × Obj)} {σ : L2.St} {H : Hp} {s : Shared}
mutual
theorem Dz.reads (I : Inv X pins σ H s) : ∀ {v : V} {d : PyData}, Dz X.K H v d → ∀ u : Value, RelV v u → ∃ as, Reads s.heap u d as ∧ sysModules ∉ as
  | _, _, .non, u, r => by
    cases r
    exact ⟨_, Reads.none, by simp⟩
  | _, _, .bl b, u, r => by
    cases r
    exact ⟨_, Reads.bool b, by simp⟩
  | _, _, .int i, u, r => by
    obtain ⟨t, rfl⟩ := r
    exact ⟨_, Reads.int i t, by simp⟩
  | _, _, .str x, u, r => by
    obtain ⟨t, rfl⟩ := r
    exact ⟨_, Reads.str x t, by simp⟩
  | _, _, .lst hs ne ha, u, r => by
    cases r
    obtain ⟨its, rv, ⟨o, n, ho, hc, _, hd⟩, _⟩ := I.list hs
    obtain ⟨as, hr, nm⟩ := DzAll.reads I ha its rv
    exact ⟨_, Reads.list ho hc hd hr, fun z => (List.mem_cons.mp z).elim (fun z => ne z.symm) nm⟩
  | _, _, .tup hs ha, u, r => by
    cases r
    obtain ⟨its, rv, ⟨o, ho, hc, n, hd⟩, _⟩ := I.tuple hs
    obtain ⟨as, hr, nm⟩ := DzAll.reads I ha its rv
    exact ⟨_, Reads.tuple ho hc hd hr, nm⟩
  | _, _, .dct (a := a) kvs h, u, r => by
    cases r
    have hx : ObjOk X.prog X.w H s.heap a (.dK (dkV kvs)) := I.hok a _ h
    obtain ⟨_, hm, vs, rk, o, es, ep, ho, hex, hd, _, hp, _⟩ := hx
    obtain ⟨h1, h2⟩ := dk_reads (h := s.heap) rk hp
    have hne : a ≠ sysModules := beq_eq_false_iff_ne.mp hm
    exact ⟨_, Reads.dict ho hex.1 hd h1 h2, fun z => by
      simp only [List.append_nil, List.mem_cons, List.not_mem_nil, or_false] at z
      exact hne z.symm⟩
theorem DzAll.reads (I : Inv X pins σ H s) : ∀ {vs : List V} {ds : List PyData}, DzAll X.K H vs ds → ∀ us : List Value, Vals vs us → ∃ as, ReadsAll s.heap us ds as ∧ sysModules ∉ as
  | _, _, .nil, us, r => by
    cases r
    exact ⟨_, ReadsAll.nil, by simp⟩
  | _, _, .cons h1 h2, us, r => by
    cases r with
    | cons r1 r2 =>
      obtain ⟨as, q1, n1⟩ := Dz.reads I h1 _ r1
      obtain ⟨bs, q2, n2⟩ := DzAll.reads I h2 _ r2
      exact ⟨_, ReadsAll.cons q1 q2, fun z => (List.mem_append.mp z).elim n1 n2⟩
end
end
section
variable {X : Cx}
def rReprZ (K : PySem.W.Frag) : List V → Hp → VK → Prop := fun xs H Q => ∃ (a : Addr) (d : PyData), xs = [.ref a] ∧ Dz K H (.ref a) d ∧ d.depth ≤ 64 ∧ d.showable = true ∧ d.shown.length ≤ sizeLine ∧ Q (.str d.shown) H
theorem cr_reprZ (hg : X.A.guards = some []) (hu : X.A.units + 128 < cLine) : CallR X (.builtin "repr") (rReprZ X.K) := by
  intro pins s σ H xs us Q I r h
  obtain ⟨a, d, rfl, hd, dp, hw, hz, q⟩ := h
  rw [Vals.ref1 r]
  obtain ⟨as, rd, nm⟩ := Dz.reads I hd (.ref a) rfl
  refine repr_of_reads' rd hw (fun _ => nm) hg (by omega) (fun _ _ e => e) (fun h2 u tk k => ?_) hz
  exact ⟨.str d.shown, H, I.kept (t' := tk) k, ⟨u, rfl⟩, q⟩
/-- a list display: not at the place of sys.modules -/
def tLstB (t : TA) : TE := fun σ H Q => t σ H fun xs H1 => xs.length ≤ sizeLine ∧ ∀ p, H1 p = none → p ≠ sysModules → Q (.ref p) (upd H1 p (.lst xs))
theorem pe_lstB {es : List Expr} {t : TA} {pos : Pos} (h : PA X es t) : PE X (.List es pos) (tLstB t) := by
  refine ⟨fun pins s σ H Q I hq => ?_⟩
  refine wpAny_List_spliced (thn (h.run pos pins s σ H _ I hq) fun us s1 ⟨xs, H1, I1, r, z, q⟩ => ⟨by rw [← r.length]; exact z, ?_⟩)
  have hf : H1 s1.heap.objs.size = none := I1.hok.fresh (Nat.le_refl _)
  refine ⟨.ref s1.heap.objs.size, upd H1 s1.heap.objs.size (.lst xs), I1.laid (t' := s1.toks) (fun b u e => Heap.get?_push_of_some _ e) (Nat.le_refl _) ?_, rfl, q _ hf (Ne.symm (Nat.ne_of_lt I1.big))⟩
  exact ⟨z, us, 0, r, Heap.get?_push_size _ rfl⟩
end
end XT
/-! draws within comprehensions; the lots that the law draws -/
namespace XT
open PySem PySem.Spec PyProof.Rows L2
/-- the stream's time goes on, all else stays -/
structure Step (S : Sm) (H : Hp) (t : Int) (H' : Hp) (t' : Int) (n : Nat) : Prop where
  keep : Keep S H H'
  st : Strm S H' t'
  lo : t ≤ t'
  hi : t' ≤ t + n
def spDrawN : Sp := fun vs H Q _ => ∃ (S : Sm) (t : Int) (m : Nat), vs = [.ref S.s, .int (m : Int)] ∧ Strm S H t ∧ 0 < m ∧ m ≤ 1000 ∧ t < 100000000 ∧
  ∀ (H' : Hp) (r : Nat) (t' : Int), Step S H t H' t' 1 → r < m → Q (.int (r : Int)) H'
theorem drawN {P : Program} {w : World} {K : PySem.W.Frag} {mg : Str → Option Value} {base : Heap} {k : Nat} {x : Str} (D : DefR P w K mg base k x spDraw) : DefR P w K mg base k x spDrawN := by
  obtain ⟨f, F, h1, h2⟩ := D
  refine ⟨f, F.imp fun vs H Q E ⟨S, t, m, ev, st, m0, m1, t1, q⟩ => ⟨S, t, m, ev, st, by omega, by omega, by omega, fun H' r t' k s a b r0 r1 => ?_⟩, h1, h2⟩
  obtain ⟨n, rfl⟩ := Int.eq_ofNat_of_zero_le r0
  exact q H' n t' ⟨k, s, a, b⟩ (by omega)
theorem Step.refl {S : Sm} {H : Hp} {t : Int} (h : Strm S H t) : Step S H t H t 0 := ⟨Keep.refl S H, h, Int.le_refl _, by omega⟩
theorem Step.trans {S : Sm} {H H1 H2 : Hp} {t t1 t2 : Int} {n m : Nat} (a : Step S H t H1 t1 n) (b : Step S H1 t1 H2 t2 m) : Step S H t H2 t2 (n + m) := ⟨a.keep.trans b.keep, b.st, Int.le_trans a.lo b.lo, by have := a.hi; have := b.hi; omega⟩
theorem Step.same {S : Sm} {H H1 H2 : Hp} {t t1 : Int} {n : Nat} (a : Step S H t H1 t1 n) (b : Same H1 H2) : Step S H t H2 t1 n := ⟨a.keep.trans (Keep.of b), a.st.same b, a.lo, a.hi⟩
theorem Step.mono {S : Sm} {H H1 : Hp} {t t1 : Int} {n m : Nat} (a : Step S H t H1 t1 n) (h : n ≤ m) : Step S H t H1 t1 m := ⟨a.keep, a.st, a.lo, by have := a.hi; omega⟩
section
variable {K : PySem.W.Frag} {a : Addr} {g : TG} {tt : TT} {te : TE} {vs : List Nat} {σ : L2.St} {H1 : Hp} {D : Addr} {Qd : Hp → Prop} {S : Sm} {t0 : Int} {c : Nat}
/-- what one turn must do: the stream is drawn from at most d times, and what is kept is a number below c -/
def TurnS (S : Sm) (c d : Nat) (g : TG) (tt : TT) (te : TE) (vs : List Nat) (σ : L2.St) (x : V) (H : Hp) (t : Int) : Prop :=
  ∀ (R1 : Hp → Prop) (R2 : V → Hp → Prop), (∀ H3 t3, Step S H t H3 t3 d → R1 H3) → (∀ (k : Nat) H4 t4, Step S H t H4 t4 d → k < c → R2 (.int (k : Int)) H4) →
    g x (wipe σ vs) H fun σ2 H2 => wipe σ2 vs = wipe σ vs ∧ tt σ2 H2 fun b H3 => if b = true then te σ2 H3 R2 else R1 H3
def PvS (S : Sm) (c d : Nat) (H1 : Hp) (t0 : Int) (D : Addr) (i : Nat) (H : Hp) : Prop := ∃ (ks : List Nat) (t : Int), Step S H1 t0 H t (d * i) ∧ H D = some (.lst (vm ks)) ∧ (∀ k ∈ ks, k < c) ∧ ks.length ≤ i
theorem pvs_start (st : Strm S H1 t0) (nD : H1 D = none) (d : Nat) : PvS S c d H1 t0 D 0 (upd H1 D (.lst [])) := ⟨[], t0, ((Step.refl st).same (same_new nD)).mono (Nat.zero_le _), upd_same, by simp, by simp⟩
theorem pvs_turn {d i : Nat} {x : V} {H : Hp} (st0 : Strm S H1 t0) (nD : H1 D = none) (hi : i ≤ 1000) (h : PvS S c d H1 t0 D i H) (ht : ∀ t, Step S H1 t0 H t (d * i) → TurnS S c d g tt te vs σ x H t) :
    g x (wipe σ vs) H fun σ2 H2 => wipe σ2 vs = wipe σ vs ∧ tt σ2 H2 fun b H3 =>
      if b = true then te σ2 H3 fun y H4 => ∃ acc, H4 D = some (.lst acc) ∧ acc.length < sizeLine ∧ PvS S c d H1 t0 D (i + 1) (upd H4 D (.lst (acc ++ [y]))) else PvS S c d H1 t0 D (i + 1) H3 := by
  obtain ⟨ks, t, stp, hD, hk, hl⟩ := h
  refine ht t stp _ _ (fun H3 t3 s3 => ?_) (fun k H4 t4 s4 hkc => ?_)
  · exact ⟨ks, t3, (stp.trans s3).mono (by rw [Nat.mul_succ]; exact Nat.le_refl _), s3.keep.mine st0 nD hD, hk, by omega⟩
  · have hD4 := s4.keep.mine st0 nD hD
    refine ⟨_, hD4, small64 (by rw [vm_len]; omega), ks ++ [k], t4, ?_, ?_, ?_, ?_⟩
    · have z := stp.trans s4
      have nDs : D ≠ S.s := fun e => by obtain ⟨_, h⟩ := st0; rw [e, h.hs] at nD; cases nD
      have nDp : D ≠ S.p := fun e => by obtain ⟨_, h⟩ := st0; rw [e, h.hp] at nD; cases nD
      have nDq : D ≠ S.q := fun e => by obtain ⟨_, h⟩ := st0; rw [e, h.hq] at nD; cases nD
      refine ⟨fun b o n1 n2 e => ?_, ?_, z.lo, by have := z.hi; rw [Nat.mul_succ]; exact this⟩
      · rw [upd_ne (ne_of_none e nD)]
        exact z.keep b o n1 n2 e
      · obtain ⟨big, hb⟩ := z.st
        refine ⟨big, ?_, ?_, ?_, hb.sp, hb.sq, hb.pq, hb.ne, hb.t0⟩
        · rw [upd_ne nDs.symm]; exact hb.hs
        · rw [upd_ne nDp.symm]; exact hb.hp
        · rw [upd_ne nDq.symm]; exact hb.hq
    · rw [upd_same]; unfold vm; rw [List.map_append]; rfl
    · intro j hj
      rcases List.mem_append.mp hj with hj | hj
      · exact hk j hj
      · rw [List.mem_singleton.mp hj]; exact hkc
    · rw [List.length_append]; simp; exact hl
theorem lcs_range {n d : Nat} (st0 : Strm S H1 t0) (nD : H1 D = none) (hn : n ≤ 1000) (ht : ∀ (i : Nat) H t, i < n → Step S H1 t0 H t (d * i) → TurnS S c d g tt te vs σ (.int (0 + (i : Int))) H t) (hd : ∀ H, PvS S c d H1 t0 D n H → Qd H) :
    ∃ W : Nat → Nat → Hp → Prop, (∃ m, W 0 m (upd H1 D (.lst []))) ∧ ∀ i m H, W i m H →
      ((Itr 0 n).stop i H ∧ Qd H) ∨ ((Itr 0 n).go i H ∧ ∃ Nx : Hp → Prop, (∀ H', Nx H' → ∃ m', m' < m ∧ W (i + 1) m' H') ∧ ∀ x H', (Itr 0 n).yld i H x H' → g x (wipe σ vs) H' fun σ2 H2 => wipe σ2 vs = wipe σ vs ∧ tt σ2 H2 fun b H3 =>
        if b = true then te σ2 H3 fun y H4 => ∃ acc, H4 D = some (.lst acc) ∧ acc.length < sizeLine ∧ Nx (upd H4 D (.lst (acc ++ [y]))) else Nx H3) :=
  lc_range (lo := 0) (n := n) (fun i H => PvS S c d H1 t0 D i H) (pvs_start st0 nD d) (fun i H hi h => pvs_turn st0 nD (by omega) h fun t s => ht i H t hi s) hd
theorem lcs_list {ms : List Nat} {d : Nat} (st0 : Strm S H1 t0) (nD : H1 D = none) (hA : H1 a = some (.lst (vm ms))) (as : a ≠ S.s) (ap : a ≠ S.p) (hn : ms.length ≤ 1000)
    (ht : ∀ (i : Nat) (m : Nat) H t, ms[i]? = some m → Step S H1 t0 H t (d * i) → TurnS S c d g tt te vs σ (.int (m : Int)) H t) (hd : ∀ H, PvS S c d H1 t0 D ms.length H → Qd H) :
    ∃ W : Nat → Nat → Hp → Prop, (∃ m, W 0 m (upd H1 D (.lst []))) ∧ ∀ i m H, W i m H →
      ((Itl K a).stop i H ∧ Qd H) ∨ ((Itl K a).go i H ∧ ∃ Nx : Hp → Prop, (∀ H', Nx H' → ∃ m', m' < m ∧ W (i + 1) m' H') ∧ ∀ x H', (Itl K a).yld i H x H' → g x (wipe σ vs) H' fun σ2 H2 => wipe σ2 vs = wipe σ vs ∧ tt σ2 H2 fun b H3 =>
        if b = true then te σ2 H3 fun y H4 => ∃ acc, H4 D = some (.lst acc) ∧ acc.length < sizeLine ∧ Nx (upd H4 D (.lst (acc ++ [y]))) else Nx H3) := by
  refine lc_list (xs := vm ms) (fun i H => PvS S c d H1 t0 D i H) (pvs_start st0 nD d) (fun i H _ h => ?_) (fun i x H hx h => ?_) (fun H h => ?_)
  · obtain ⟨_, _, s, _⟩ := h
    exact SqL.of (s.keep a _ as ap hA)
  · obtain ⟨m, hm, rfl⟩ := mem_vm hx
    have hi : i < ms.length := (List.getElem?_eq_some_iff.mp hm).1
    exact pvs_turn st0 nD (by omega) h fun t s => ht i m H t hm s
  · rw [vm_len] at h
    exact hd H h
end
end XT
namespace XT
open PySem PySem.Spec PyProof.Rows L2
abbrev nDn : List Str := ["_law_stream_here", "_law_most", "_law_width", "_law_way", "_law_count", "_law_masks", "_law_k", "_law_turn", "_law_out", "_law_mask"]
theorem scDn : FnScope nDn ["_law_stream_here", "_law_most"] (defScope sDrawn) := ⟨rfl, rfl, rfl, by decide +kernel, rfl, by decide +kernel, by decide +kernel⟩
section
variable {P : Program} {w : World} {K : PySem.W.Frag} {mg : Str → Option Value} {base : Heap}
def spDrawn : Sp := fun vs H Q _ => ∃ (S : Sm) (t : Int) (most : Nat), vs = [.ref S.s, .int (most : Int)] ∧ Strm S H t ∧ 1 ≤ most ∧ most ≤ 6 ∧ t < 10000000 ∧
  ∀ (H' : Hp) (r : V) (n : Nat) (p : Nat → Bool) (t' : Int), Step S H t H' t' 300 → 1 ≤ n → n ≤ most → LotAt H' r n p → Q r H'
/-- the masks so far -/
def MidD (S : Sm) (H : Hp) (t : Int) (most n way B : Nat) (σ : L2.St) (H' : Hp) : Prop := ∃ (M : Addr) (ks : List Nat) (t' : Int) (y6 y7 y8 : Option V),
  σ = [some (.ref S.s), some (.int (most : Int)), some (.int (n : Int)), some (.int (way : Int)), some (.int ((2 ^ n : Nat) : Int)), some (.ref M), y6, y7, y8, none] ∧
  Step S H t H' t' B ∧ H' M = some (.lst (vm ks)) ∧ M ≠ S.s ∧ M ≠ S.p ∧ (∀ k ∈ ks, k < 2 ^ n) ∧ ks.length ≤ 64
theorem fresh_s {S : Sm} {H : Hp} {t : Int} {x : Addr} (h : Strm S H t) (n : H x = none) : x ≠ S.s ∧ x ≠ S.p := by
  obtain ⟨_, h⟩ := h
  exact ⟨fun e => (by rw [e, h.hs] at n; cases n), fun e => (by rw [e, h.hp] at n; cases n)⟩
abbrev tDr (m : TE) : TE := fun σ H Q => tCons (tVar 0) (tCons m tNil) σ H fun vs H1 => spDrawN vs H1 Q E0
theorem or_eq {σ : L2.St} {H : Hp} {i : Nat} {x a b : Int} {Q : Bool → Hp → Prop} (hx : σ[i]? = some (some (.int x))) (h : Q (decide (x = a ∨ x = b)) H) : tOr (tTest (tOp rEq (tVar i) (tC (.int a)))) (tTest (tOp rEq (tVar i) (tC (.int b)))) σ H Q := by
  refine ⟨.int x, hx, rfl, _, rfl, ite2 (fun e => ?_) (fun e => ⟨.int x, hx, rfl, _, rfl, ?_⟩)⟩
  · have e1 : x = a := V.int.inj (of_decide_eq_true e)
    rw [decide_eq_true (Or.inl e1)] at h
    exact h
  · have e1 : x ≠ a := fun z => e (decide_eq_true (by rw [z]))
    by_cases e2 : x = b
    · rw [decide_eq_true (Or.inr e2)] at h
      rw [decide_eq_true (by rw [e2])]
      exact h
    · rw [decide_eq_false (fun z => z.elim e1 e2)] at h
      rw [decide_eq_false (fun z => e2 (V.int.inj z))]
      exact h
theorem ok_drawn {f : Addr} {fd : FuncData} {k : Nat} (B : Bl mg) (F : Fun K "_law_drawn" "_law_drawn" sDrawn f fd) (dD : DefR P w K mg base 1 "_law_draw" spDrawN) : FnOk P w K mg base CX0 (k + 2) f fd ["_law_stream_here", "_law_most"] spDrawn := by
  refine F.ok scDn (fun vs H Q E h => ?_) (fun cdv A outer s H vs Q E hr h => ?_)
  · obtain ⟨S, t, most, rfl, _⟩ := h
    rfl
  · obtain ⟨S, t, most, rfl, st, ml, mh, ht, q⟩ := h
    have hr1 : Room 1 (A.deeper (envOfC "_law_drawn" (defScope sDrawn) s.heap.objs.size f cdv)) := hr.mono (by omega)
    refine ⟨_, pss_cons (ps_asg (pe_tup (pa_cons (pe_op op_add pe_int (pe_def dD hr1 (by rfl) (pa_cons (pv 0) (pa_cons (pv 1) pa_nil)))) (pa_cons (pe_def dD hr1 (by rfl) (pa_cons (pv 0) (pa_cons pe_int pa_nil))) pa_nil)))
          (pg_tup rfl (pgs_cons (pg_name (i := 2) scDn.nd rfl (.inl rfl)) (pgs_cons (pg_name (i := 3) scDn.nd rfl (.inr rfl)) pgs_nil))))
      (C8.pss_cut (ps_asg (pe_tup (pa_cons (pe_op op_shl pe_int (pv 2)) (pa_cons (pe_lst pa_nil) pa_nil)))
          (pg_tup rfl (pgs_cons (pg_name (i := 4) scDn.nd rfl (.inr rfl)) (pgs_cons (pg_name (i := 5) scDn.nd rfl (.inl rfl)) pgs_nil))))
      (C8.pss_cut (ps_if (pt_cmpR op_eq (pv 3) pe_int (nomark _))
          (pss_one (ps_setLc (i := 5) (own := [("_law_mask", 9)]) (g := gName 9) (te := tVar 9) rfl scDn.nd rfl rfl (sw_true rfl rfl rfl (by decide +kernel)) (pi_range1 (by rfl) B.range (pa_cons (pv 4) pa_nil)) (blkOk_by (own := [("_law_mask", 9)]) (N := nDn) (sc := defScope sDrawn) (by decide +kernel))
            (fun _ _ _ _ _ => pg_name (i := 9) scDn.nd rfl (Or.inl rfl)) (fun _ _ _ _ _ => pts_one (pt_cmpR op_eq (pe_def dD hr1 (by rfl) (pa_cons (pv 0) (pa_cons pe_int pa_nil))) pe_int (nomark _))) (fun _ _ _ _ _ => pv 9))) pss_nil)
      (C8.pss_cut (ps_if (PW.pt (pw_or (pt_cmpR op_eq (pv 3) pe_int (nomark _)) (pw_or1 (pt_cmpR op_eq (pv 3) pe_int (nomark _)))))
          (pss_one (ps_setLc (i := 5) (own := [("_law_k", 6)]) (g := gName 6) (tt := tYes) rfl scDn.nd rfl rfl (sw_true rfl rfl rfl (by decide +kernel))
            (pi_range1 (by rfl) B.range (pa_cons (pe_def dD hr1 (by rfl) (pa_cons (pv 0) (pa_cons (pe_ix ix_list (pe_lst (pa_cons pe_int (pa_cons pe_int pa_nil))) (pe_op op_sub (pv 3) pe_int) (fun _ _ => rfl)) pa_nil))) pa_nil)) (blkOk_by (own := [("_law_k", 6)]) (N := nDn) (sc := defScope sDrawn) (by decide +kernel))
            (fun _ _ _ _ _ => pg_name (i := 6) scDn.nd rfl (Or.inl rfl)) (fun _ _ _ _ _ => pts_nil) (fun _ _ _ _ _ => pe_def dD hr1 (by rfl) (pa_cons (pv 0) (pa_cons (pv 4) pa_nil))))) pss_nil)
      (C8.pss_cut (ps_if (PW.pt (pw_or (pt_cmpR op_eq (pv 3) pe_int (nomark _)) (pw_or1 (pt_cmpR op_eq (pv 3) pe_int (nomark _)))))
          (pss_cons (ps_set (i := 5) scDn.nd rfl (.inl rfl) (pe_lst (pa_cons (pe_def dD hr1 (by rfl) (pa_cons (pv 0) (pa_cons (pv 4) pa_nil))) pa_nil)))
          (pss_one (ps_for PassesOwn.never rfl (pi_range1 (by rfl) B.range (pa_cons (pe_def dD hr1 (by rfl) (pa_cons (pv 0) (pa_cons pe_int pa_nil))) pa_nil)) (pg_name (i := 6) scDn.nd rfl (.inl rfl))
            (pss_cons (ps_set (i := 7) scDn.nd rfl (.inr rfl) (pe_def dD hr1 (by rfl) (pa_cons (pv 0) (pa_cons (pv 4) pa_nil))))
            (pss_one (ps_set (i := 5) scDn.nd rfl (.inl rfl) (pe_op op_cat (pv 5)
              (pe_lc (own := [("_law_mask", 9)]) (g := gName 9) rfl scDn.nd (pi_list (pv 5)) (blkOk_by (own := [("_law_mask", 9)]) (N := nDn) (sc := defScope sDrawn) (by decide +kernel))
                (fun _ _ _ _ _ => pg_name (i := 9) scDn.nd rfl (Or.inl rfl)) (fun _ _ _ _ _ => pts_one (pt_cmpR op_gt (pe_def dD hr1 (by rfl) (pa_cons (pv 0) (pa_cons pe_int pa_nil))) (pe_op op_sub pe_int (pv 3)) (nomark _)))
                (fun _ _ _ _ _ => pe_op op_xor (pv 9) (pv 7)))))))))) pss_nil)
      (C8.pss_cut (ps_if (pt_cmpR op_eq (pv 3) pe_int (nomark _))
          (pss_cons (ps_set (i := 8) scDn.nd rfl (.inr rfl)
            (pe_lc (own := [("_law_k", 6)]) (g := gName 6) (tt := tYes) rfl scDn.nd (pi_range1 (by rfl) B.range (pa_cons (pe_def dD hr1 (by rfl) (pa_cons (pv 0) (pa_cons pe_int pa_nil))) pa_nil)) (blkOk_by (own := [("_law_k", 6)]) (N := nDn) (sc := defScope sDrawn) (by decide +kernel))
              (fun _ _ _ _ _ => pg_name (i := 6) scDn.nd rfl (Or.inl rfl)) (fun _ _ _ _ _ => pts_nil) (fun _ _ _ _ _ => pe_def dD hr1 (by rfl) (pa_cons (pv 0) (pa_cons (pv 4) pa_nil)))))
          (pss_one (ps_setLc (i := 5) (own := [("_law_mask", 9)]) (g := gName 9) (tt := tTest (tOp (rIn K true) (tVar 9) (tVar 8))) (te := tVar 9) rfl scDn.nd rfl rfl (sw_true rfl rfl rfl (by decide +kernel)) (pi_range1 (by rfl) B.range (pa_cons (pv 4) pa_nil)) (blkOk_by (own := [("_law_mask", 9)]) (N := nDn) (sc := defScope sDrawn) (by decide +kernel))
            (fun _ _ _ _ _ => pg_name (i := 9) scDn.nd rfl (Or.inl rfl)) (fun _ _ _ _ _ => pts_one (pt_cmpR op_notIn_seq (pv 9) (pv 8) (by rfl))) (fun _ _ _ _ _ => pv 9)))) pss_nil)
      (pss_one (ps_ret (pe_tup (pa_cons (pv 2) (pa_cons (pe_callTy call_tuple_of (by rfl) B.tuple bT (pa_cons (pe_callB (cr_sortS rfl) (by rfl) B.sorted bS (pa_cons (pe_callTy (cr_setL rfl) (by rfl) B.set bSet (pa_cons (pv 5) pa_nil)) pa_nil)) pa_nil)) pa_nil)))))))))), ?_⟩
    -- width, way
    refine ⟨.ref S.s, rfl, .int most, rfl, S, t, most, rfl, st, by omega, by omega, by omega, fun H1 r1 t1 s1 hr1 => ?_⟩
    refine ⟨1, r1, rfl, rfl, .ref S.s, rfl, S, t1, 6, rfl, s1.st, by omega, by omega, by have := s1.hi; omega, fun H2 way t2 s2 hway => ?_⟩
    refine ⟨sz (n := 2) (by decide), fun T nT => ⟨T, _, rfl, SqT.of upd_same, rfl, _, _, rfl, _, _, rfl, rfl, ?_⟩⟩
    have s3 := (s1.trans s2).same (same_new (o := .tup [.int (1 + (r1 : Int)), .int (way : Int)]) nT)
    obtain ⟨n, hn⟩ : ∃ n : Nat, n = 1 + r1 := ⟨_, rfl⟩
    have hn1 : 1 ≤ n := by omega
    have hn6 : n ≤ most := by omega
    -- count, masks
    refine ⟨MidD S H t most n way 10, ?_, fun σ0 H0 mid0 => ?_⟩
    · refine ⟨.int (1 + (r1 : Int)), rfl, 1, (n : Int), rfl, by rw [hn]; rfl, cpow (by omega), sz (n := 0) (by decide), fun M nM => ⟨sz (n := 2) (by decide), fun T2 nT2 => ⟨T2, _, rfl, SqT.of upd_same, rfl, _, _, rfl, _, _, rfl, rfl, ?_⟩⟩⟩
      have fs := fresh_s s3.st nM
      have s4 := s3.same (same_new (o := .lst []) nM)
      refine ⟨M, [], t2, none, none, none, ?_, (s4.same (same_new nT2)).mono (by omega), ?_, fs.1, fs.2, by simp, by simp⟩
      · rw [← shl1 n, hn]
        rfl
      · rw [upd_ne (ne_of_none upd_same nT2)]
        exact upd_same
    -- if way == 0
    refine ⟨MidD S H t most n way 80, ?_, fun σ1 H1 mid1 => ?_⟩
    · obtain ⟨M, ks, t', y6, y7, y8, rfl, stp, hM, as, ap, hk, hl⟩ := mid0
      refine ⟨.int way, rfl, rfl, _, rfl, ite2 (fun e => ?_) (fun e => ?_)⟩
      · refine ⟨.int ((2 ^ n : Nat) : Int), rfl, ((2 ^ n : Nat) : Int), rfl, l62, r62 (by omega), fun D nD => ?_⟩
        have p6 := pow6 (w := n) (by omega)
        have hi0 := stp.hi
        refine lcs_range (S := S) (c := 2 ^ n) (d := 1) (n := 2 ^ n) stp.st nD (by omega) (fun i H3 t3 hi s3 => ?_) (fun H3 pv => ?_)
        · intro R1 R2 h1 h2
          have hi3 := s3.hi
          refine ⟨rfl, .ref S.s, rfl, S, t3, 2, rfl, s3.st, by omega, by omega, by omega, fun H4 r t4 s4 hr4 => ⟨rfl, _, rfl, ite2 (fun e => ?_) (fun e => ?_)⟩⟩
          · refine ⟨.int (0 + (i : Int)), rfl, ?_⟩
            rw [Int.zero_add]
            exact h2 i H4 t4 s4 hi
          · exact h1 H4 t4 s4
        · obtain ⟨ks2, t3, s3, hD, hk2, hl2⟩ := pv
          have fs := fresh_s stp.st nD
          exact ⟨D, ks2, t3, y6, y7, y8, rfl, (stp.trans s3).mono (by omega), hD, fs.1, fs.2, hk2, by omega⟩
      · exact ⟨M, ks, t', y6, y7, y8, rfl, stp.mono (by omega), hM, as, ap, hk, hl⟩
    -- if way == 1 or way == 2
    refine ⟨MidD S H t most n way 100, ?_, fun σ2 H2 mid2 => ?_⟩
    · obtain ⟨M, ks, t', y6, y7, y8, rfl, stp, hM, as, ap, hk, hl⟩ := mid1
      refine or_eq (x := (way : Int)) rfl (ite2 (fun e => ?_) (fun e => ?_))
      · have e1 : way = 1 ∨ way = 2 := by
          have := of_decide_eq_true e
          omega
        obtain ⟨m, hm, hm7⟩ : ∃ m : Nat, atI [V.int 3, V.int 7] ((way : Int) - 1) = some (.int (m : Int)) ∧ (m = 3 ∨ m = 7) := by
          rcases e1 with rfl | rfl
          · exact ⟨3, rfl, .inl rfl⟩
          · exact ⟨7, rfl, .inr rfl⟩
        have hi0 := stp.hi
        refine ⟨.ref S.s, rfl, sz (n := 2) (by decide), fun L nL => ⟨.int way, rfl, way, 1, rfl, rfl, L, _, (way : Int) - 1, .int (m : Int), rfl, rfl, SqL.of upd_same, hm, ?_⟩⟩
        have s0 := stp.same (same_new (o := .lst [.int 3, .int 7]) nL)
        refine ⟨S, t', m, rfl, s0.st, by omega, by omega, by omega, fun H3 r t3 s3 hr3 => ?_⟩
        have hi3 := s3.hi
        refine ⟨r, rfl, by omega, by omega, fun D nD => ?_⟩
        have p6 := pow6 (w := n) (by omega)
        have p0 := pow0 n
        refine lcs_range (S := S) (c := 2 ^ n) (d := 1) (n := r) (g := gName 6) (tt := tYes) (te := tDr (tVar 4)) (vs := [6]) s3.st nD (by omega) (fun i H4 t4 hi s4 => ?_) (fun H4 pv => ?_)
        · intro R1 R2 h1 h2
          have hi4 := s4.hi
          refine ⟨rfl, iteT (B := R1 H4) ⟨.ref S.s, rfl, .int ((2 ^ n : Nat) : Int), rfl, S, t4, 2 ^ n, rfl, s4.st, by omega, by omega, by omega, fun H5 r5 t5 s5 hr5 => h2 r5 H5 t5 s5 hr5⟩⟩
        · obtain ⟨ks2, t4, s4, hD, hk2, hl2⟩ := pv
          have fs := fresh_s s3.st nD
          exact ⟨D, ks2, t4, y6, y7, y8, rfl, ((s0.trans s3).trans s4).mono (by omega), hD, fs.1, fs.2, hk2, by omega⟩
      · exact ⟨M, ks, t', y6, y7, y8, rfl, stp.mono (by omega), hM, as, ap, hk, hl⟩
    -- if way == 3 or way == 4
    refine ⟨MidD S H t most n way 200, ?_, fun σ3 H3 mid3 => ?_⟩
    · obtain ⟨M, ks, t', y6, y7, y8, rfl, stp, hM, as, ap, hk, hl⟩ := mid2
      refine or_eq (x := (way : Int)) rfl (ite2 (fun e => ?_) (fun e => ?_))
      · have hi0 := stp.hi
        have p6 := pow6 (w := n) (by omega)
        have p0 := pow0 n
        refine ⟨.ref S.s, rfl, .int ((2 ^ n : Nat) : Int), rfl, S, t', 2 ^ n, rfl, stp.st, by omega, by omega, by omega, fun H3 r t3 s3 hr3 => ⟨sz (n := 1) (by decide), fun L nL => ?_⟩⟩
        have fs := fresh_s s3.st nL
        have s4 := (stp.trans s3).same (same_new (o := .lst [.int (r : Int)]) nL)
        have hi4 := s4.hi
        refine ⟨.ref S.s, rfl, S, t3, 4, rfl, s4.st, by omega, by omega, by omega, fun H5 r5 t5 s5 hr5 => ⟨r5, rfl, by omega, by omega, ?_⟩⟩
        have hL5 := s5.keep L _ fs.1 fs.2 (show (upd H3 L (.lst [.int (r : Int)])) L = some (.lst (vm [r])) from upd_same)
        refine for_range (lo := 0) (n := r5) (fun i σ K0 => ∃ (M : Addr) (ks : List Nat) (t' : Int) (z6 z7 : Option V),
          σ = [some (.ref S.s), some (.int (most : Int)), some (.int (n : Int)), some (.int (way : Int)), some (.int ((2 ^ n : Nat) : Int)), some (.ref M), z6, z7, y8, none] ∧
          Step S H t K0 t' (102 + 9 * i) ∧ K0 M = some (.lst (vm ks)) ∧ M ≠ S.s ∧ M ≠ S.p ∧ (∀ k ∈ ks, k < 2 ^ n) ∧ ks.length ≤ 2 ^ i) ?_ (fun i σ K0 hi h => ?_) (fun σ K0 h => ?_)
        · exact ⟨L, [r], t5, y6, y7, rfl, (s4.trans s5).mono (by omega), hL5, fs.1, fs.2, by simpa using hr3, by simp⟩
        · obtain ⟨M, ks, t6, z6, z7, rfl, s6, hM6, as6, ap6, hk6, hl6⟩ := h
          have hi6 := s6.hi
          have pi : 2 ^ i ≤ 4 := by
            have : i = 0 ∨ i = 1 ∨ i = 2 := by omega
            rcases this with rfl | rfl | rfl <;> decide
          refine ⟨.ref S.s, rfl, .int ((2 ^ n : Nat) : Int), rfl, S, t6, 2 ^ n, rfl, s6.st, by omega, by omega, by omega, fun H7 r7 t7 s7 hr7 => ?_⟩
          have hi7 := s7.hi
          have hM7 := s7.keep M _ as6 ap6 hM6
          refine ⟨.ref M, rfl, .ref M, rfl, M, rfl, ⟨_, SqL.of hM7⟩, fun D nD => ?_⟩
          have fsD := fresh_s s7.st nD
          refine lcs_list (S := S) (c := 2 ^ n) (d := 1) (ms := ks) s7.st nD hM7 as6 ap6 (by omega) (fun j m H8 t8 hj s8 => ?_) (fun H8 pv => ?_)
          · intro R1 R2 h1 h2
            have hi8 := s8.hi
            have hjl : j < ks.length := (List.getElem?_eq_some_iff.mp hj).1
            refine ⟨rfl, .ref S.s, rfl, S, t8, 9, rfl, s8.st, by omega, by omega, by omega, fun H9 r9 t9 s9 hr9 => ⟨.int way, rfl, 4, way, rfl, rfl, r9, _, rfl, rfl, _, rfl, ite2 (fun e => ?_) (fun e => ?_)⟩⟩
            · refine ⟨.int m, rfl, .int r7, rfl, m, r7, rfl, rfl, ?_⟩
              show R2 (.int (Builtin.bitXor (m : Int) (r7 : Int))) H9
              rw [bx]
              exact h2 (m ^^^ r7) H9 t9 s9 (xor_lt (hk6 m (List.mem_of_getElem? hj)) hr7)
            · exact h1 H9 t9 s9
          · obtain ⟨ks8, t8, s8, hD8, hk8, hl8⟩ := pv
            have hM8 := s8.keep M _ as6 ap6 hM7
            refine ⟨M, D, vm ks, vm ks8, rfl, rfl, hM8, hD8, ?_, fun C nC => ?_⟩
            · rw [vm_len, vm_len]; exact sz (by omega)
            · have fsC := fresh_s s8.st nC
              have s9 := ((s6.trans s7).trans s8).same (same_new (o := .lst (vm ks ++ vm ks8)) nC)
              refine ⟨C, ks ++ ks8, t8, some (.int (0 + (i : Int))), some (.int (r7 : Int)), rfl, s9.mono (by omega), ?_, fsC.1, fsC.2, ?_, ?_⟩
              · rw [upd_same]; unfold vm; rw [List.map_append]
              · intro k hk
                rcases List.mem_append.mp hk with hk | hk
                · exact hk6 k hk
                · exact hk8 k hk
              · rw [List.length_append, Nat.pow_succ]; omega
        · obtain ⟨M, ks, t6, z6, z7, rfl, s6, hM6, as6, ap6, hk6, hl6⟩ := h
          have pi : 2 ^ r5 ≤ 8 := by
            have : r5 = 0 ∨ r5 = 1 ∨ r5 = 2 ∨ r5 = 3 := by omega
            rcases this with rfl | rfl | rfl | rfl <;> decide
          exact ⟨M, ks, t6, z6, z7, y8, rfl, s6.mono (by omega), hM6, as6, ap6, hk6, by omega⟩
      · exact ⟨M, ks, t', y6, y7, y8, rfl, stp.mono (by omega), hM, as, ap, hk, hl⟩
    -- if way == 5
    refine ⟨MidD S H t most n way 300, ?_, fun σ4 H4 mid4 => ?_⟩
    · obtain ⟨M, ks, t', y6, y7, y8, rfl, stp, hM, as, ap, hk, hl⟩ := mid3
      refine ⟨.int way, rfl, rfl, _, rfl, ite2 (fun e => ?_) (fun e => ?_)⟩
      · have hi0 := stp.hi
        have p6 := pow6 (w := n) (by omega)
        have p0 := pow0 n
        refine ⟨.ref S.s, rfl, S, t', 4, rfl, stp.st, by omega, by omega, by omega, fun H5 r5 t5 s5 hr5 => ⟨r5, rfl, by omega, by omega, fun D nD => ?_⟩⟩
        have hi5 := s5.hi
        have fs := fresh_s s5.st nD
        refine lcs_range (S := S) (c := 2 ^ n) (d := 1) (n := r5) (g := gName 6) (tt := tYes) (te := tDr (tVar 4)) (vs := [6]) s5.st nD (by omega) (fun i H6 t6 hi s6 => ?_) (fun H6 pv => ?_)
        · intro R1 R2 h1 h2
          have hi6 := s6.hi
          refine ⟨rfl, iteT (B := R1 H6) ⟨.ref S.s, rfl, .int ((2 ^ n : Nat) : Int), rfl, S, t6, 2 ^ n, rfl, s6.st, by omega, by omega, by omega, fun H7 r7 t7 s7 hr7 => h2 r7 H7 t7 s7 hr7⟩⟩
        · obtain ⟨ks6, t6, s6, hD6, hk6, hl6⟩ := pv
          refine ⟨.int ((2 ^ n : Nat) : Int), rfl, ((2 ^ n : Nat) : Int), rfl, l62, r62 (by omega), fun L nL => ?_⟩
          have fsL := fresh_s s6.st nL
          refine lcp_range (n := 2 ^ n) (p := fun m => !decide (m ∈ ks6)) (f := fun m => .int (m : Int)) nL (small64 (by omega)) (fun i H7 hi s7 => ?_) (fun H7 s7 hL => ?_)
          · intro R1 R2 h1 h2
            refine ⟨rfl, _, rfl, .ref D, rfl, D, _, rfl, .inl (SqL.of (s7 _ _ hD6)), rfl, vm_flat _, _, rfl, ?_⟩
            have e : inV (.int (0 + (i : Int))) (vm ks6) = decide (i ∈ ks6) := by
              rw [Int.zero_add]; exact in_vm i ks6
            show if (!inV (.int (0 + (i : Int))) (vm ks6)) = true then _ else _
            rw [e]
            refine ite2 (fun z => ?_) (fun z => ?_)
            · refine ⟨.int (0 + (i : Int)), rfl, ?_⟩
              rw [Int.zero_add]
              exact h2 z _ (Same.refl _)
            · exact h1 (by simpa using z) _ (Same.refl _)
          · refine ⟨L, (List.range (2 ^ n)).filter fun m => !decide (m ∈ ks6), t6, y6, y7, some (.ref D), rfl, (((stp.trans s5).trans s6).same s7).mono (by omega), hL, fsL.1, fsL.2, fun k hk => ?_, ?_⟩
            · exact List.mem_range.mp (List.mem_filter.mp hk).1
            · refine Nat.le_trans (List.length_filter_le _ _) ?_
              rw [List.length_range]; exact p6
      · exact ⟨M, ks, t', y6, y7, y8, rfl, stp.mono (by omega), hM, as, ap, hk, hl⟩
    -- return
    obtain ⟨M, ks, t', y6, y7, y8, rfl, stp, hM, as, ap, hk, hl⟩ := mid4
    refine ⟨.int n, rfl, .ref M, rfl, M, ks.map fun (k : Nat) => (k : Int), rfl, SqL.of (by rw [hM, vm_ints]), by rw [List.length_map]; omega, fun G c nG => ?_⟩
    have sG := same_new (o := SetO w G (fun j => decide (j ∈ ks.map fun (k : Nat) => (k : Int))) c) nG
    refine ⟨G, _, c, rfl, upd_same, fun ns L asc hm nL => ?_⟩
    have sL := same_new (o := .lst (ns.map V.int)) nL
    refine ⟨L, _, rfl, .inl ⟨SqL.of upd_same, fun T3 nT3 => ⟨sz (n := 2) (by decide), fun U nU => ?_⟩⟩⟩
    refine q _ _ n (fun m => decide (m ∈ ks)) t' ((((stp.same sG).same sL).same (same_new nT3)).same (same_new nU)) hn1 hn6 ⟨U, T3, rfl, upd_same, ?_⟩
    rw [upd_ne (ne_of_none upd_same nU), upd_same, rising_lot (w := n) (P := fun m => decide (m ∈ ks)) asc fun z => ?_]
    rw [hm z, decide_eq_true_iff, List.mem_map]
    constructor
    · rintro ⟨m, h1, h2⟩
      exact ⟨m, h2.symm, hk m h1, decide_eq_true h1⟩
    · rintro ⟨m, h1, h2, h3⟩
      exact ⟨m, of_decide_eq_true h3, h1.symm⟩
end
end XT
/-! is_number, is_mask at any value; NoMask made; turned -/
namespace XT
open PySem PySem.Spec PyProof.Rows L2
def tyD : PyData → String
  | .none => "NoneType" | .bool _ => "bool" | .int _ => "int" | .str _ => "str" | .list _ => "list" | .tuple _ => "tuple" | .dict _ => "dict"
theorem Dz.ty {K : PySem.W.Frag} {H : Hp} {v : V} {d : PyData} (h : Dz K H v d) : TyX K H v (.type (tyD d)) := by
  cases h with
  | non => exact .base .non
  | bl b => exact .base (.bl b)
  | int i => exact .base (.int i)
  | str x => exact .base (.str x)
  | lst h n a =>
    rcases h with (h | ⟨o, h⟩) | ⟨o, its, n, h, c, _⟩
    · exact .base (.lst h)
    · exact .base (.frz h)
    · exact .kList h c
  | tup h a =>
    rcases h with (h | ⟨o, h⟩) | ⟨o, its, n, h, c, _⟩
    · exact .base (.tup h)
    · exact .fTuple h
    · exact .kTuple h c
  | dct kvs h => exact .base (.dK h)
def isI : PyData → Bool
  | .int _ => true | .bool _ => true | _ => false
def isB : PyData → Bool
  | .bool _ => true | _ => false
def isN : PyData → Bool
  | .int _ => true | _ => false
theorem kitI {K : PySem.W.Frag} : ∀ d : PyData, PySem.W.kitOne K (.type (tyD d)) (.type "int") = some (isI d)
  | .none => kit_ty (a := "NoneType") (b := "int") (r := false) (by decide +kernel)
  | .bool _ => kit_ty (a := "bool") (b := "int") (r := true) (by decide +kernel)
  | .int _ => kit_ty (a := "int") (b := "int") (r := true) (by decide +kernel)
  | .str _ => kit_ty (a := "str") (b := "int") (r := false) (by decide +kernel)
  | .list _ => kit_ty (a := "list") (b := "int") (r := false) (by decide +kernel)
  | .tuple _ => kit_ty (a := "tuple") (b := "int") (r := false) (by decide +kernel)
  | .dict _ => kit_ty (a := "dict") (b := "int") (r := false) (by decide +kernel)
theorem kitB' {K : PySem.W.Frag} : ∀ d : PyData, PySem.W.kitOne K (.type (tyD d)) (.type "bool") = some (isB d)
  | .none => kit_ty (a := "NoneType") (b := "bool") (r := false) (by decide +kernel)
  | .bool _ => kit_ty (a := "bool") (b := "bool") (r := true) (by decide +kernel)
  | .int _ => kit_ty (a := "int") (b := "bool") (r := false) (by decide +kernel)
  | .str _ => kit_ty (a := "str") (b := "bool") (r := false) (by decide +kernel)
  | .list _ => kit_ty (a := "list") (b := "bool") (r := false) (by decide +kernel)
  | .tuple _ => kit_ty (a := "tuple") (b := "bool") (r := false) (by decide +kernel)
  | .dict _ => kit_ty (a := "dict") (b := "bool") (r := false) (by decide +kernel)
def isM (n : Nat) : PyData → Bool
  | .int i => decide (0 ≤ i) && decide (i < ((2 ^ n : Nat) : Int))
  | _ => false
section
variable {P : Program} {w : World} {K : PySem.W.Frag} {mg : Str → Option Value} {base : Heap}
theorem scNum : FnScope ["value"] ["value"] (defScope sNum) := ⟨rfl, rfl, rfl, by decide +kernel, rfl, by decide +kernel, by decide +kernel⟩
def spNumZ (K : PySem.W.Frag) : Sp := fun vs H Q _ => ∃ v d, vs = [v] ∧ Dz K H v d ∧ Q (.bl (isN d)) H
theorem ok_numZ {f : Addr} {fd : FuncData} {k : Nat} (B : Bl mg) (F : Fun K "is_number" "is_number" sNum f fd) : FnOk P w K mg base CX0 (k + 1) f fd ["value"] (spNumZ K) := by
  refine F.ok scNum (fun vs H Q E h => ?_) (fun cdv A outer s H vs Q E hr h => ?_)
  · obtain ⟨v, d, rfl, _⟩ := h
    rfl
  · obtain ⟨v, d, rfl, hd, q⟩ := h
    refine ⟨_, pss_one (ps_ret (pe_and (pe_callB call_isi (by rfl) B.isinstance bI (pa_cons (pv 0) (pa_cons (pe_bltn (v := .ty "int") (by rfl) B.int bInt rfl) pa_nil)))
      (pe_one (pe_not (pe_callB call_isi (by rfl) B.isinstance bI (pa_cons (pv 0) (pa_cons (pe_bltn (v := .ty "bool") (by rfl) B.bool bBool rfl) pa_nil))))))), ?_⟩
    refine ⟨v, rfl, v, .ty "int", _, _, isI d, rfl, .ty _, hd.ty, kitI d, isI d, rfl, ?_⟩
    cases hi : isI d with
    | false =>
      refine iteF ?_
      have e : isN d = false := by cases d <;> first | rfl | simp [isI] at hi
      rw [e] at q
      exact q
    | true =>
      refine iteT ⟨v, rfl, v, .ty "bool", _, _, isB d, rfl, .ty _, hd.ty, kitB' d, isB d, rfl, ?_⟩
      have e : (!isB d) = isN d := by cases d <;> first | rfl | simp [isI] at hi
      rw [e]
      exact q
theorem scMask : FnScope ["value", "width"] ["value", "width"] (defScope sMask) := ⟨rfl, rfl, rfl, by decide +kernel, rfl, by decide +kernel, by decide +kernel⟩
def spMaskZ (K : PySem.W.Frag) : Sp := fun vs H Q _ => ∃ (v : V) (d : PyData) (n : Nat), vs = [v, .int (n : Int)] ∧ Dz K H v d ∧ n ≤ 6 ∧ Q (.bl (isM n d)) H
theorem ok_maskZ {f : Addr} {fd : FuncData} {k : Nat} (F : Fun K "is_mask" "is_mask" sMask f fd) (dN : DefR P w K mg base 1 "is_number" (spNumZ K)) : FnOk P w K mg base CX0 (k + 2) f fd ["value", "width"] (spMaskZ K) := by
  refine F.ok scMask (fun vs H Q E h => ?_) (fun cdv A outer s H vs Q E hr h => ?_)
  · obtain ⟨v, d, n, rfl, _⟩ := h
    rfl
  · obtain ⟨v, d, n, rfl, hd, hn, q⟩ := h
    refine ⟨_, pss_one (ps_ret (pe_and (pe_def dN (hr.mono (by omega)) (by rfl) (pa_cons (pv 0) pa_nil)) (pe_one (pe_chain op_le op_lt pe_int (pv 0) (pe_op op_shl pe_int (pv 1)))))), ?_⟩
    refine ⟨v, rfl, v, d, rfl, hd, isN d, rfl, ?_⟩
    cases hd with
    | int i =>
      refine iteT ⟨.int i, rfl, 0, i, rfl, rfl, _, rfl, ?_⟩
      by_cases h0 : (0 : Int) ≤ i
      · rw [decide_eq_true h0]
        refine iteT ⟨.int n, rfl, 1, n, rfl, rfl, cpow hn, i, _, rfl, rfl, ?_⟩
        show Q (V.bl (decide (i < 1 * 2 ^ ((n : Int).toNat)))) H
        rw [shl1]
        have e : isM n (.int i) = decide (i < ((2 ^ n : Nat) : Int)) := by
          show (decide (0 ≤ i) && decide (i < ((2 ^ n : Nat) : Int))) = _
          rw [decide_eq_true h0, Bool.true_and]
        rw [e] at q
        exact q
      · rw [decide_eq_false h0]
        refine iteF ?_
        have e : isM n (.int i) = false := by
          show (decide (0 ≤ i) && decide (i < ((2 ^ n : Nat) : Int))) = _
          rw [decide_eq_false h0, Bool.false_and]
        rw [e] at q
        exact q
    | non => exact iteF q
    | bl b => exact iteF q
    | str x => exact iteF q
    | lst _ _ _ => exact iteF q
    | tup _ _ => exact iteF q
    | dct kvs _ => exact iteF q
theorem scIsInt : FnScope ["_law_value", "_law_low", "_law_high"] ["_law_value", "_law_low", "_law_high"] (defScope sIsInt) := ⟨rfl, rfl, rfl, by decide +kernel, rfl, by decide +kernel, by decide +kernel⟩
def isIn (a b : Int) : PyData → Bool
  | .int i => decide (a ≤ i) && decide (i ≤ b)
  | _ => false
def spIsInt (K : PySem.W.Frag) : Sp := fun vs H Q _ => ∃ (v : V) (d : PyData) (a b : Int), vs = [v, .int a, .int b] ∧ Dz K H v d ∧ Q (.bl (isIn a b d)) H
theorem ok_isInt {f : Addr} {fd : FuncData} {k : Nat} (B : Bl mg) (F : Fun K "_law_is_int" "_law_is_int" sIsInt f fd) : FnOk P w K mg base CX0 (k + 1) f fd ["_law_value", "_law_low", "_law_high"] (spIsInt K) := by
  refine F.ok scIsInt (fun vs H Q E h => ?_) (fun cdv A outer s H vs Q E hr h => ?_)
  · obtain ⟨v, d, a, b, rfl, _⟩ := h
    rfl
  · obtain ⟨v, d, a, b, rfl, hd, q⟩ := h
    refine ⟨_, pss_one (ps_ret (pe_and (pe_callB call_isi (by rfl) B.isinstance bI (pa_cons (pv 0) (pa_cons (pe_bltn (v := .ty "int") (by rfl) B.int bInt rfl) pa_nil)))
      (pe_and (pe_not (pe_callB call_isi (by rfl) B.isinstance bI (pa_cons (pv 0) (pa_cons (pe_bltn (v := .ty "bool") (by rfl) B.bool bBool rfl) pa_nil)))) (pe_one (pe_chain op_le op_le (pv 1) (pv 0) (pv 2)))))), ?_⟩
    refine ⟨v, rfl, v, .ty "int", _, _, isI d, rfl, .ty _, hd.ty, kitI d, isI d, rfl, ?_⟩
    cases hi : isI d with
    | false =>
      refine iteF ?_
      have e : isIn a b d = false := by cases d <;> first | rfl | simp [isI] at hi
      rw [e] at q
      exact q
    | true =>
      refine iteT ⟨v, rfl, v, .ty "bool", _, _, isB d, rfl, .ty _, hd.ty, kitB' d, isB d, rfl, !isB d, rfl, ?_⟩
      cases hd with
      | bl c => exact iteF q
      | int i =>
        refine iteT ⟨.int a, rfl, .int i, rfl, a, i, rfl, rfl, _, rfl, ?_⟩
        by_cases h0 : a ≤ i
        · rw [decide_eq_true h0]
          refine iteT ⟨.int b, rfl, i, b, rfl, rfl, ?_⟩
          have e : isIn a b (.int i) = decide (i ≤ b) := by
            show (decide (a ≤ i) && decide (i ≤ b)) = _
            rw [decide_eq_true h0, Bool.true_and]
          rw [e] at q
          exact q
        · rw [decide_eq_false h0]
          have e : isIn a b (.int i) = false := by
            show (decide (a ≤ i) && decide (i ≤ b)) = _
            rw [decide_eq_false h0, Bool.false_and]
          rw [e] at q
          exact iteF q
      | non => simp [isI] at hi
      | str _ => simp [isI] at hi
      | lst _ _ _ => simp [isI] at hi
      | tup _ _ => simp [isI] at hi
      | dct kvs _ => simp [isI, dkD] at hi
end
end XT
/-! _law_odd -/
namespace XT
open PySem PySem.Spec PyProof.Rows L2
theorem strm_ne {S : Sm} {H : Hp} {t : Int} {R : Addr} (h : Strm S H t) (n : H R = none) : R ≠ S.s ∧ R ≠ S.p ∧ R ≠ S.q := by
  obtain ⟨big, s⟩ := h
  exact ⟨(ne_of_none s.hs n).symm, (ne_of_none s.hp n).symm, (ne_of_none s.hq n).symm⟩
theorem DzAll.at {K : PySem.W.Frag} {H : Hp} : ∀ {vs : List V} {ds : List PyData}, DzAll K H vs ds → ∀ {i : Nat} {v : V}, vs[i]? = some v → ∃ d, ds[i]? = some d ∧ Dz K H v d
  | _, _, .nil, i, v, h => by simp at h
  | _, _, .cons (d := d) h a, 0, v, e => by
    cases e
    exact ⟨d, rfl, h⟩
  | _, _, .cons h a, i + 1, v, e => DzAll.at a (i := i) e
theorem DzAll.len {K : PySem.W.Frag} {H : Hp} : ∀ {vs : List V} {ds : List PyData}, DzAll K H vs ds → vs.length = ds.length
  | _, _, .nil => rfl
  | _, _, .cons h a => by rw [List.length_cons, List.length_cons, DzAll.len a]
def oddD : List PyData := [.none, .bool true, .bool false, .int (-1), .int 0, .int 1, .int 2, .int 3, .int 6, .int 7, .int 63, .int 64, .int (10 ^ 39), .str "", .str "0", .str "lot", .tuple [], .list [], .dict [], .tuple [.int 0], .list [.int 0], .tuple [.bool true],
  .tuple [.int 2, .tuple [.int 0]], .tuple [.int 0, .int 1], .dict [(.str "a", .int 1)], .str "01"]
section
variable {P : Program} {w : World} {K : PySem.W.Frag} {mg : Str → Option Value} {base : Heap}
abbrev nOd : List Str := ["_law_stream_here", "_law_some"]
theorem scOd : FnScope nOd ["_law_stream_here"] (defScope sOdd) := ⟨rfl, rfl, rfl, by decide +kernel, rfl, by decide +kernel, by decide +kernel⟩
def spOdd (K : PySem.W.Frag) : Sp := fun vs H Q _ => ∃ (S : Sm) (t : Int), vs = [.ref S.s] ∧ Strm S H t ∧ t < 1000000 ∧ ∀ (H' : Hp) (v : V) (d : PyData) (t' : Int), Step S H t H' t' 1 → Dz K H' v d → d ∈ oddD → Q v H'
theorem ok_odd {f : Addr} {fd : FuncData} {k : Nat} (F : Fun K "_law_odd" "_law_odd" sOdd f fd) (dD : DefR P w K mg base 1 "_law_draw" spDrawN) : FnOk P w K mg base CX0 (k + 2) f fd ["_law_stream_here"] (spOdd K) := by
  refine F.ok scOd (fun vs H Q E h => ?_) (fun cdv A outer s H vs Q E hr h => ?_)
  · obtain ⟨S, t, rfl, _⟩ := h
    rfl
  · obtain ⟨S, t, rfl, st, ht, q⟩ := h
    refine ⟨_, pss_cons (ps_set (i := 1) scOd.nd rfl (.inl rfl) (pe_lst (pa_cons pe_non (pa_cons pe_bl (pa_cons pe_bl (pa_cons (pe_un un_neg pe_int) (pa_cons pe_int (pa_cons pe_int (pa_cons pe_int (pa_cons pe_int (pa_cons pe_int (pa_cons pe_int (pa_cons pe_int (pa_cons pe_int
        (pa_cons (pe_op op_pow pe_int pe_int) (pa_cons pe_str (pa_cons pe_str (pa_cons pe_str (pa_cons (pe_tup pa_nil) (pa_cons (pe_lstB pa_nil) (pa_cons pe_dnewK (pa_cons (pe_tup (pa_cons pe_int pa_nil)) (pa_cons (pe_lstB (pa_cons pe_int pa_nil)) (pa_cons (pe_tup (pa_cons pe_bl pa_nil)) pa_nil))))))))))))))))))))))))
      (pss_one (ps_ret (pe_ix ix_list (pe_op op_cat (pv 1) (pe_lst (pa_cons (pe_tup (pa_cons pe_int (pa_cons (pe_tup (pa_cons pe_int pa_nil)) pa_nil))) (pa_cons (pe_tup (pa_cons pe_int (pa_cons pe_int pa_nil))) (pa_cons (pe_disp (pps_cons pe_str pe_int pps_nil) rfl rfl (by decide) (by decide)) (pa_cons pe_str pa_nil))))))
        (pe_def dD (hr.mono (by omega)) (by rfl) (pa_cons (pv 0) (pa_cons pe_int pa_nil))) (fun _ _ => rfl)))), ?_⟩
    refine ⟨1, rfl, 10, 39, rfl, rfl, ⟨by decide, by decide, by decide⟩, sz (n := 0) (by decide), fun T1 nT1 => ⟨sz (n := 0) (by decide), fun L1 nL1 bL1 D1 nD1 => ⟨sz (n := 1) (by decide), fun T2 nT2 => ⟨sz (n := 1) (by decide), fun L2 nL2 bL2 => ⟨sz (n := 1) (by decide), fun T3 nT3 => ⟨sz (n := 22) (by decide), fun S0 nS0 => ?_⟩⟩⟩⟩⟩⟩
    have m1 := same_new (o := .tup []) nT1
    have m2 := same_new (o := .lst []) nL1
    have m3 := same_new (o := .dK []) nD1
    have m4 := same_new (o := .tup [.int 0]) nT2
    have m5 := same_new (o := .lst [.int 0]) nL2
    have m6 := same_new (o := .tup [.bl true]) nT3
    let xs : List V := [.non, .bl true, .bl false, .int (-1), .int 0, .int 1, .int 2, .int 3, .int 6, .int 7, .int 63, .int 64, .int (10 ^ (39 : Int).toNat), .str "", .str "0", .str "lot", .ref T1, .ref L1, .ref D1, .ref T2, .ref L2, .ref T3]
    have m7 := same_new (o := .lst xs) nS0
    refine ⟨.ref S0, rfl, sz (n := 1) (by decide), fun T4 nT4 => ⟨sz (n := 2) (by decide), fun T5 nT5 => ⟨sz (n := 2) (by decide), fun T6 nT6 D2 nD2 => ⟨upd_same, [(.inr "a", .int 1)], rfl, by decide, sz (n := 4) (by decide), fun M nM => ?_⟩⟩⟩⟩
    have m8 := same_new (o := .tup [.int 0]) nT4
    have m9 := same_new (o := .tup [.int 2, .ref T4]) nT5
    have m10 := same_new (o := .tup [.int 0, .int 1]) nT6
    have m11 : Same _ (upd (upd (upd (upd (upd (upd (upd (upd (upd (upd (upd (upd H T1 (.tup [])) L1 (.lst [])) D1 (.dK [])) T2 (.tup [.int 0])) L2 (.lst [.int 0])) T3 (.tup [.bl true])) S0 (.lst xs)) T4 (.tup [.int 0])) T5 (.tup [.int 2, .ref T4])) T6 (.tup [.int 0, .int 1])) D2 (.dK [])) D2 (.dK (mergeK [] [(.inr "a", .int 1)]))) := fun b o e => by
      rw [upd_ne (ne_of_none e nD2), upd_ne (ne_of_none e nD2)]
      exact e
    have m12 := same_new (o := .lst [.ref T5, .ref T6, .ref D2, .str "01"]) nM
    refine ⟨S0, M, _, _, rfl, rfl, m12 _ _ (m11 _ _ (m10 _ _ (m9 _ _ (m8 _ _ upd_same)))), upd_same, (by rw [sizeLine_eq]; show 22 + 4 ≤ 16777216; decide), fun C nC => ?_⟩
    have m13 := same_new (o := .lst (xs ++ [.ref T5, .ref T6, .ref D2, .str "01"])) nC
    have st1 := st.same m1
    have st2 := st1.same m2
    have st3 := st2.same m3
    have st4 := st3.same m4
    have st5 := st4.same m5
    have st6 := st5.same m6
    have st7 := st6.same m7
    have st8 := st7.same m8
    have st9 := st8.same m9
    have st10 := st9.same m10
    have st11 := st10.same m11
    have st12 := st11.same m12
    have st13 := st12.same m13
    refine ⟨.ref S.s, rfl, S, t, 26, rfl, st13, by omega, by omega, by omega, fun H9 r t9 s9 hr26 => ?_⟩
    have c12 := m12.trans m13
    have c11 := m11.trans c12
    have c10 := m10.trans c11
    have c9 := m9.trans c10
    have c8 := m8.trans c9
    have c7 := m7.trans c8
    have c6 := m6.trans c7
    have c5 := m5.trans c6
    have c4 := m4.trans c5
    have c3 := m3.trans c4
    have c2 := m2.trans c3
    have kT : ∀ {b : Addr} {zs : List V}, _ = some (HO.tup zs) → H9 b = some (.tup zs) := fun {b zs} e => s9.keep.tup st13 e
    have gT1 := kT (c2 T1 _ upd_same)
    have gT2 := kT (c5 T2 _ upd_same)
    have gT3 := kT (c7 T3 _ upd_same)
    have gT4 := kT (c9 T4 _ upd_same)
    have gT5 := kT (c10 T5 _ upd_same)
    have gT6 := kT (c11 T6 _ upd_same)
    have nL1s := strm_ne st1 nL1
    have nL2s := strm_ne st4 nL2
    have nD1s := strm_ne st2 nD1
    have nD2s := strm_ne st10 nD2
    have nCs := strm_ne st12 nC
    have gL1 := s9.keep L1 _ nL1s.1 nL1s.2.1 (c3 L1 _ upd_same)
    have gL2 := s9.keep L2 _ nL2s.1 nL2s.2.1 (c6 L2 _ upd_same)
    have gD1 := s9.keep D1 _ nD1s.1 nD1s.2.1 (c4 D1 _ upd_same)
    have gD2 := s9.keep D2 _ nD2s.1 nD2s.2.1 (c12 D2 _ upd_same)
    have gC := s9.keep C _ nCs.1 nCs.2.1 upd_same
    have all : DzAll K H9 (xs ++ [.ref T5, .ref T6, .ref D2, .str "01"]) oddD :=
      .cons .non (.cons (.bl _) (.cons (.bl _) (.cons (.int _) (.cons (.int _) (.cons (.int _) (.cons (.int _) (.cons (.int _) (.cons (.int _) (.cons (.int _) (.cons (.int _) (.cons (.int _) (.cons (.int _) (.cons (.str _) (.cons (.str _) (.cons (.str _)
        (.cons (.tup (SqT.of gT1) .nil) (.cons (.lst (SqL.of gL1) bL1 .nil) (.cons (.dct [] gD1) (.cons (.tup (SqT.of gT2) (.cons (.int _) .nil)) (.cons (.lst (SqL.of gL2) bL2 (.cons (.int _) .nil)) (.cons (.tup (SqT.of gT3) (.cons (.bl _) .nil))
        (.cons (.tup (SqT.of gT5) (.cons (.int _) (.cons (.tup (SqT.of gT4) (.cons (.int _) .nil)) .nil))) (.cons (.tup (SqT.of gT6) (.cons (.int _) (.cons (.int _) .nil))) (.cons (.dct [("a", 1)] gD2) (.cons (.str _) .nil)))))))))))))))))))))))))
    have hlt : r < (xs ++ [V.ref T5, V.ref T6, V.ref D2, V.str "01"]).length := by
      show r < 26
      exact hr26
    obtain ⟨d, hd, hz⟩ := all.at (List.getElem?_eq_getElem hlt)
    refine ⟨C, _, r, _, rfl, rfl, SqL.of gC, atI_nat (List.getElem?_eq_getElem hlt), ?_⟩
    exact q H9 _ d t9 ⟨(Keep.of (((m1.trans c2)))).trans s9.keep, s9.st, s9.lo, s9.hi⟩ hz (List.mem_of_getElem? hd)
end
end XT
/-! how great data are -/
namespace XT
open PySem PySem.Spec PyProof.Rows L2
/-! texts -/
def TxOk (x : Str) : Prop := ∀ c ∈ x.cps.toList, c < 16 ^ 8
theorem shifted_lt {B : Nat} : ∀ {l : List (Nat × Nat × Nat)}, l.all (fun p => decide (p.2.2 + (p.2.1 - p.1) < B)) = true → ∀ {c x : Nat}, Unicode.shifted l c = some x → x < B
  | [], _, c, x, h => by simp [Unicode.shifted] at h
  | (a, b, t) :: l, ha, c, x, h => by
    rw [List.all_cons, Bool.and_eq_true] at ha
    have h1 : t + (b - a) < B := of_decide_eq_true ha.1
    unfold Unicode.shifted at h
    by_cases hc : c < a
    · rw [if_pos hc] at h; cases h
    · rw [if_neg hc] at h
      by_cases hb : c ≤ b
      · rw [if_pos hb] at h
        cases h
        omega
      · rw [if_neg hb] at h
        exact shifted_lt ha.2 h
theorem lookup_mem {β : Type} : ∀ {l : List (Nat × β)} {a : Nat} {b : β}, l.lookup a = some b → (a, b) ∈ l
  | [], a, b, h => by simp at h
  | (k, v) :: l, a, b, h => by
    rw [List.lookup_cons] at h
    cases e : a == k with
    | true =>
      rw [e] at h
      cases h
      rw [eq_of_beq e]
      exact List.mem_cons_self
    | false =>
      rw [e] at h
      exact List.mem_cons_of_mem _ (lookup_mem h)
theorem tabOne : UnicodeData.oneUpper.all (fun p => decide (p.2.2 + (p.2.1 - p.1) < 16 ^ 8)) = true := by decide +kernel
theorem tabSev : UnicodeData.severalUpper.all (fun p => p.2.all fun x => decide (x < 16 ^ 8)) = true := by decide +kernel
theorem upperOf_lt {c : Nat} (h : c < 16 ^ 8) : ∀ x ∈ Unicode.upperOf c, x < 16 ^ 8 := by
  intro x hx
  unfold Unicode.upperOf Unicode.image at hx
  cases e : UnicodeData.severalUpper.lookup c with
  | some cs =>
    rw [e] at hx
    have := List.all_eq_true.mp tabSev _ (lookup_mem e)
    exact of_decide_eq_true (List.all_eq_true.mp this x hx)
  | none =>
    rw [e] at hx
    rw [List.mem_singleton.mp hx]
    cases e2 : Unicode.shifted UnicodeData.oneUpper c with
    | none => exact h
    | some y => exact shifted_lt tabOne e2
theorem TxOk.upper {x : Str} (h : TxOk x) : TxOk (Txt.upper x) := by
  intro c hc
  unfold Txt.upper placed at hc
  have hc := Array.mem_toList_iff.mp hc
  obtain ⟨ys, h1, h2⟩ := Array.mem_flatten.mp hc
  obtain ⟨i, hi, e⟩ := Array.mem_mapIdx.mp h1
  subst e
  have h3 : c ∈ Unicode.upperOf x.cps[i] := by simpa using h2
  exact upperOf_lt (h _ (Array.mem_toList_iff.mpr (Array.getElem_mem hi))) c h3
theorem TxOk.app {x y : Str} (h : TxOk x) (k : TxOk y) : TxOk (x ++ y) := by
  intro c hc
  have e : (x ++ y).cps.toList = x.cps.toList ++ y.cps.toList := by
    show (x.cps ++ y.cps).toList = _
    simp
  rw [e] at hc
  exact (List.mem_append.mp hc).elim (h c) (k c)
theorem TxOk.cut {x : Str} (h : TxOk x) (lo hi : Option Int) : TxOk (cutS x lo hi) := by
  intro c hc
  have hc : c ∈ (((x.cps.toList.drop (HT.sIx x.length 0 lo)).take (HT.sIx x.length x.length hi - HT.sIx x.length 0 lo)).toArray).toList := hc
  rw [List.toList_toArray] at hc
  exact h c (List.mem_of_mem_drop (List.mem_of_mem_take hc))
theorem TxOk.of (s : String) : TxOk (Str.ofString s) := by
  intro c hc
  rw [Str.ofString_eq_toList] at hc
  have hc : c ∈ s.toList.map Char.toNat := by simpa using hc
  obtain ⟨d, _, rfl⟩ := List.mem_map.mp hc
  have := d.valid
  have h2 : d.toNat < 0x110000 := by
    rcases this with h | h
    · exact Nat.lt_trans h (by decide)
    · exact h.2
  exact Nat.lt_trans h2 (by decide)
theorem str_app_len (x y : Str) : (x ++ y).length = x.length + y.length := strLen_append x y

/-! size -/
mutual
def zs : PyData → Nat
  | .none => 10
  | .bool _ => 10
  | .int _ => 60
  | .str x => 10 * x.length + 2
  | .list ds => zsAll ds + 4
  | .tuple ds => zsAll ds + 4
  | .dict _ => 50
def zsAll : List PyData → Nat
  | [] => 0
  | d :: ds => zs d + 2 + zsAll ds
end
mutual
def fz (M : Nat) : PyData → Prop
  | .none => True
  | .bool _ => True
  | .int i => i.natAbs ≤ M
  | .str x => TxOk x
  | .list ds => fzAll M ds
  | .tuple ds => fzAll M ds
  | .dict kvs => (PyData.showable (.dict kvs) = true) ∧ (PyData.shown (.dict kvs)).length ≤ 50
def fzAll (M : Nat) : List PyData → Prop
  | [] => True
  | d :: ds => fz M d ∧ fzAll M ds
end
mutual
theorem fz_mono {M N : Nat} (h : M ≤ N) : ∀ d : PyData, fz M d → fz N d
  | .none, a => a
  | .bool _, a => a
  | .int _, a => Nat.le_trans a h
  | .str _, a => a
  | .list ds, a => fzAll_mono h ds a
  | .tuple ds, a => fzAll_mono h ds a
  | .dict _, a => a
theorem fzAll_mono {M N : Nat} (h : M ≤ N) : ∀ ds : List PyData, fzAll M ds → fzAll N ds
  | [], a => a
  | d :: ds, a => ⟨fz_mono h d a.1, fzAll_mono h ds a.2⟩
end
theorem fzAll_iff {M : Nat} : ∀ {ds : List PyData}, fzAll M ds ↔ ∀ d ∈ ds, fz M d
  | [] => ⟨fun _ d h => by simp at h, fun _ => trivial⟩
  | d :: ds => by
    constructor
    · intro h e he
      rcases List.mem_cons.mp he with rfl | he
      · exact h.1
      · exact fzAll_iff.mp h.2 e he
    · intro h
      exact ⟨h d List.mem_cons_self, fzAll_iff.mpr fun e he => h e (List.mem_cons_of_mem _ he)⟩
theorem depthAll_iff {k : Nat} : ∀ {ds : List PyData}, PyData.depthAll ds ≤ k ↔ ∀ d ∈ ds, PyData.depth d ≤ k
  | [] => ⟨fun _ d h => by simp at h, fun _ => Nat.zero_le _⟩
  | d :: ds => by
    simp only [PyData.depthAll]
    constructor
    · intro h e he
      have h := Nat.max_le.mp h
      rcases List.mem_cons.mp he with rfl | he
      · exact h.1
      · exact depthAll_iff.mp h.2 e he
    · intro h
      exact Nat.max_le.mpr ⟨h d List.mem_cons_self, depthAll_iff.mpr fun e he => h e (List.mem_cons_of_mem _ he)⟩
theorem zsAll_app : ∀ a b : List PyData, zsAll (a ++ b) = zsAll a + zsAll b
  | [], b => by simp [zsAll]
  | d :: a, b => by
    show zs d + 2 + zsAll (a ++ b) = zs d + 2 + zsAll a + zsAll b
    rw [zsAll_app a b]
    omega
theorem zsAll_take (n : Nat) (ds : List PyData) : zsAll (ds.take n) ≤ zsAll ds := by
  have := zsAll_app (ds.take n) (ds.drop n)
  rw [List.take_append_drop] at this
  omega
theorem zsAll_drop (n : Nat) (ds : List PyData) : zsAll (ds.drop n) ≤ zsAll ds := by
  have := zsAll_app (ds.take n) (ds.drop n)
  rw [List.take_append_drop] at this
  omega
theorem zsAll_rev : ∀ ds : List PyData, zsAll ds.reverse = zsAll ds
  | [] => rfl
  | d :: ds => by
    rw [List.reverse_cons, zsAll_app, zsAll_rev ds]
    show zsAll ds + (zs d + 2 + 0) = zs d + 2 + zsAll ds
    omega
theorem zs_mem : ∀ {ds : List PyData} {d : PyData}, d ∈ ds → zs d + 2 ≤ zsAll ds
  | e :: ds, d, h => by
    show zs d + 2 ≤ zs e + 2 + zsAll ds
    rcases List.mem_cons.mp h with rfl | h
    · omega
    · have := zs_mem h
      omega
theorem zsAll_len : ∀ ds : List PyData, ds.length ≤ zsAll ds
  | [] => Nat.zero_le _
  | d :: ds => by
    have := zsAll_len ds
    show ds.length + 1 ≤ zs d + 2 + zsAll ds
    omega
/-- what the data are: their numbers, their size, their depth -/
structure Gd (M n k : Nat) (d : PyData) : Prop where
  f : fz M d
  z : zs d ≤ n
  p : PyData.depth d ≤ k
structure GdAll (M n k : Nat) (ds : List PyData) : Prop where
  f : fzAll M ds
  z : zsAll ds ≤ n
  p : PyData.depthAll ds ≤ k
theorem Gd.mono {M N n m k j : Nat} {d : PyData} (h : Gd M n k d) (a : M ≤ N) (b : n ≤ m) (c : k ≤ j) : Gd N m j d := ⟨fz_mono a d h.f, Nat.le_trans h.z b, Nat.le_trans h.p c⟩
theorem GdAll.mono {M N n m k j : Nat} {d : List PyData} (h : GdAll M n k d) (a : M ≤ N) (b : n ≤ m) (c : k ≤ j) : GdAll N m j d := ⟨fzAll_mono a d h.f, Nat.le_trans h.z b, Nat.le_trans h.p c⟩
theorem Gd.all {M n k : Nat} {ds : List PyData} (h : Gd M n k (.tuple ds)) : GdAll M (n - 4) (k - 1) ds ∧ 4 ≤ n ∧ 1 ≤ k := by
  have h2 : zsAll ds + 4 ≤ n := h.z
  have h3 : PyData.depthAll ds + 1 ≤ k := by
    have := h.p
    simp only [PyData.depth] at this
    exact this
  exact ⟨⟨h.f, by omega, by omega⟩, by omega, by omega⟩
theorem GdAll.tuple {M n k : Nat} {ds : List PyData} (h : GdAll M n k ds) : Gd M (n + 4) (k + 1) (.tuple ds) := by
  refine ⟨h.f, Nat.add_le_add_right h.z 4, ?_⟩
  simp only [PyData.depth]
  exact Nat.add_le_add_right h.p 1
theorem GdAll.list {M n k : Nat} {ds : List PyData} (h : GdAll M n k ds) : Gd M (n + 4) (k + 1) (.list ds) := by
  refine ⟨h.f, Nat.add_le_add_right h.z 4, ?_⟩
  simp only [PyData.depth]
  exact Nat.add_le_add_right h.p 1
theorem GdAll.nil {M k : Nat} : GdAll M 0 k [] := ⟨trivial, Nat.le_refl _, Nat.zero_le _⟩
theorem GdAll.cons {M n m k : Nat} {d : PyData} {ds : List PyData} (h : Gd M n k d) (t : GdAll M m k ds) : GdAll M (n + 2 + m) k (d :: ds) := by
  refine ⟨⟨h.f, t.f⟩, ?_, ?_⟩
  · have := h.z
    have := t.z
    show zs d + 2 + zsAll ds ≤ _
    omega
  · simp only [PyData.depthAll]
    exact Nat.max_le.mpr ⟨h.p, t.p⟩
theorem GdAll.app {M n m k : Nat} {ds es : List PyData} (h : GdAll M n k ds) (t : GdAll M m k es) : GdAll M (n + m) k (ds ++ es) := by
  refine ⟨fzAll_iff.mpr fun d hd => (List.mem_append.mp hd).elim (fzAll_iff.mp h.f d) (fzAll_iff.mp t.f d), ?_, depthAll_iff.mpr fun d hd => (List.mem_append.mp hd).elim (depthAll_iff.mp h.p d) (depthAll_iff.mp t.p d)⟩
  rw [zsAll_app]
  exact Nat.add_le_add h.z t.z
theorem GdAll.sub {M n k : Nat} {ds es : List PyData} (h : GdAll M n k ds) (s : ∀ d ∈ es, d ∈ ds) (z : zsAll es ≤ zsAll ds) : GdAll M n k es :=
  ⟨fzAll_iff.mpr fun d hd => fzAll_iff.mp h.f d (s d hd), Nat.le_trans z h.z, depthAll_iff.mpr fun d hd => depthAll_iff.mp h.p d (s d hd)⟩
theorem GdAll.take {M n k : Nat} {ds : List PyData} (i : Nat) (h : GdAll M n k ds) : GdAll M n k (ds.take i) := h.sub (fun _ hd => List.mem_of_mem_take hd) (zsAll_take i ds)
theorem GdAll.drop {M n k : Nat} {ds : List PyData} (i : Nat) (h : GdAll M n k ds) : GdAll M n k (ds.drop i) := h.sub (fun _ hd => List.mem_of_mem_drop hd) (zsAll_drop i ds)
theorem GdAll.rev {M n k : Nat} {ds : List PyData} (h : GdAll M n k ds) : GdAll M n k ds.reverse := h.sub (fun _ hd => List.mem_reverse.mp hd) (Nat.le_of_eq (zsAll_rev ds))
theorem GdAll.at {M n k : Nat} {ds : List PyData} {d : PyData} (h : GdAll M n k ds) (m : d ∈ ds) : Gd M n k d :=
  ⟨fzAll_iff.mp h.f d m, by have := zs_mem m; have := h.z; omega, depthAll_iff.mp h.p d m⟩
/-- shown -/
theorem shown_int {M : Nat} {i : Int} (hM : M < 10 ^ 40) (h : i.natAbs ≤ M) : (PyData.shown (.int i)).length ≤ 60 := by
  have e := int_text_length_le10 (a := i) (k := 40) (by decide) (by omega)
  show (Str.ofString (toString i)).length ≤ 60
  rw [PySem.ofString_length]
  omega
theorem log_int {M : Nat} {i : Int} (hM : M < 10 ^ 40) (h : i.natAbs ≤ M) : i.natAbs.log2 < 1920 := by
  by_cases h0 : i.natAbs = 0
  · rw [h0]; decide
  · exact Nat.lt_of_lt_of_le ((Nat.log2_lt h0).mpr (show i.natAbs < 2 ^ 140 from Nat.lt_of_lt_of_le (show i.natAbs < 10 ^ 40 by omega) (by decide))) (by decide)
mutual
theorem shown_le {M : Nat} (hM : M < 10 ^ 40) : ∀ d : PyData, fz M d → PyData.showable d = true ∧ (PyData.shown d).length ≤ zs d
  | .none, _ => ⟨rfl, by decide⟩
  | .bool b, _ => ⟨rfl, by cases b <;> decide⟩
  | .int i, h => ⟨decide_eq_true (log_int hM h), shown_int hM h⟩
  | .str x, h => ⟨rfl, by
    show (reprText x).length ≤ 10 * x.length + 2
    exact StrLaws.reprText_len x h⟩
  | .list ds, h => by
    obtain ⟨h1, h2⟩ := shownAll_le hM ds h
    refine ⟨by simpa only [PyData.showable] using h1, ?_⟩
    simp only [PyData.shown, zs]
    have := listText_len_le (PyData.shownAll ds)
    omega
  | .tuple ds, h => by
    obtain ⟨h1, h2⟩ := shownAll_le hM ds h
    refine ⟨by simpa only [PyData.showable] using h1, ?_⟩
    simp only [PyData.shown, zs]
    have := tupleText_len_le (PyData.shownAll ds)
    omega
  | .dict kvs, h => h
theorem shownAll_le {M : Nat} (hM : M < 10 ^ 40) : ∀ ds : List PyData, fzAll M ds → PyData.showableAll ds = true ∧ ((PyData.shownAll ds).map (·.length)).sum + 2 * (PyData.shownAll ds).length ≤ zsAll ds
  | [], _ => ⟨rfl, Nat.le_refl _⟩
  | d :: ds, h => by
    obtain ⟨h1, h2⟩ := shown_le hM d h.1
    obtain ⟨h3, h4⟩ := shownAll_le hM ds h.2
    refine ⟨by simp only [PyData.showableAll, h1, h3, Bool.and_self], ?_⟩
    simp only [PyData.shownAll, List.map_cons, List.sum_cons, List.length_cons, zsAll]
    omega
end
end XT
/-! rules: repr of any data, list(tuple), tuple != (), t[::-1], bools as numbers -/
namespace XT
open PySem PySem.Spec PyProof.Rows L2
section
variable {X : Cx}
/-- repr of any data -/
def rReprA (K : PySem.W.Frag) : List V → Hp → VK → Prop := fun xs H Q => ∃ (x : V) (d : PyData), xs = [x] ∧ Dz K H x d ∧ d.depth ≤ 64 ∧ d.showable = true ∧ d.shown.length ≤ sizeLine ∧ Q (.str d.shown) H
theorem cr_reprA (hg : X.A.guards = some []) (hu : X.A.units + 128 < cLine) : CallR X (.builtin "repr") (rReprA X.K) := by
  intro pins s σ H xs us Q I r h
  obtain ⟨x, d, rfl, hd, dp, hw, hz, q⟩ := h
  obtain ⟨u, rfl, ru⟩ := vals1 r
  cases hd with
  | non => cases ru; exact PySem.P.repr_of_none ⟨.str _, H, I.tok _, ⟨_, rfl⟩, q⟩
  | bl b => cases ru; exact PySem.P.repr_of_bool ⟨.str (if b then "True" else "False"), H, I.tok _, ⟨_, by cases b <;> rfl⟩, by cases b <;> exact q⟩
  | int i =>
    obtain ⟨t, rfl⟩ := ru
    exact PySem.P.repr_of_int (of_decide_eq_true hw) ⟨.str _, H, I.tok _, ⟨_, rfl⟩, q⟩
  | str y =>
    obtain ⟨t, rfl⟩ := ru
    exact PySem.P.repr_of_str ⟨.str _, H, I.tok _, ⟨_, rfl⟩, q⟩ (hsz := hz)
  | lst a b c => cases ru; exact cr_reprZ hg hu pins s σ H _ _ Q I r ⟨_, _, rfl, .lst a b c, dp, hw, hz, q⟩
  | tup a b => cases ru; exact cr_reprZ hg hu pins s σ H _ _ Q I r ⟨_, _, rfl, .tup a b, dp, hw, hz, q⟩
  | dct kvs a => cases ru; exact cr_reprZ hg hu pins s σ H _ _ Q I r ⟨_, _, rfl, .dct kvs a, dp, hw, hz, q⟩
/-- list(t): not at the place of sys.modules -/
theorem call_listB : CallR X (.type "list") (fun xs H Q => ∃ p ys, xs = [.ref p] ∧ SqT X.K H p ys ∧ ∀ l, H l = none → l ≠ sysModules → Q (.ref l) (upd H l (.lst ys))) := by
  intro pins s σ H xs us Q I r h
  obtain ⟨p, ys, rfl, hq, q⟩ := h
  obtain ⟨u, rfl, rx⟩ := vals1 r
  cases rx
  have fin : ∀ (its : List Value), Vals ys its → ys.length ≤ sizeLine → ∀ (h' : Heap) (c' : Nat), (∀ b o', s.heap.get? b = some o' → h'.get? b = some o') →
      h'.get? s.heap.objs.size = some { cls := .type "list", dict := none, data := .seq its.toArray c', slots := #[] } → EP X pins σ Q (.ref s.heap.objs.size) { s with heap := h' } := fun its r' hz h' c' kp e =>
    ⟨.ref s.heap.objs.size, _, I.laid (t' := s.toks) kp (Nat.le_refl _) (show ObjOk X.prog X.w _ h' _ (.lst ys) from ⟨hz, its, c', r', e⟩), rfl, q _ (I.hok.fresh (Nat.le_refl _)) (Ne.symm (Nat.ne_of_lt I.big))⟩
  obtain ⟨its, r', pl, hz⟩ := I.tuple hq
  have hlen := r'.length
  obtain ⟨o, ho, hc, n, hd⟩ := pl
  exact call_list_seq p (.inr rfl) ho hc hd (fun h' c' kp e => fin its r' hz h' c' kp e) (by simp only [List.size_toArray] <;> omega)
/-- t != () -/
theorem op_neE (hu : X.A.units < cLine) : OpR X (compareOp .NotEq) (fun x y H Q => ∃ (a b : Addr) (xs : List V), x = .ref a ∧ y = .ref b ∧ SqT X.K H a xs ∧ SqT X.K H b [] ∧ Q (.bl (!xs.isEmpty)) H) := by
  intro pins s σ H x y v u Q I rx ry h
  obtain ⟨a, b, xs, rfl, rfl, ha, hb, q⟩ := h
  cases rx
  cases ry
  obtain ⟨its, r1, p1, _⟩ := I.tuple ha
  obtain ⟨its2, r2, p2, _⟩ := I.tuple hb
  cases r2
  refine SeqAt.RcNeAt.tuples (e := fun _ => true) p1 p2 hu (fun j h1 h2 => absurd h2 (Nat.not_lt_zero _)) X.prog X.w _ _ ⟨.bl (!xs.isEmpty), H, I, ?_, q⟩
  show Value.bool _ = Value.bool _
  congr 1
  cases r1 with
  | nil => rfl
  | cons _ _ => simp
/-- True + 1 -/
theorem op_add_bi : OpR X (binaryOp .Add) (fun x y H Q => ∃ k i, x = .bl k ∧ y = .int i ∧ Q (.int ((if k = true then (1 : Int) else 0) + i)) H) := by
  intro pins s σ H x y v u Q I rx ry h
  obtain ⟨k, i, rfl, rfl, q⟩ := h
  obtain ⟨t, rfl⟩ := ry
  cases rx
  exact PySem.IntBool.add_bool_int ⟨.int _, H, I.tok _, ⟨_, rfl⟩, q⟩
theorem op_sub_bi : OpR X (binaryOp .Sub) (fun x y H Q => ∃ k i, x = .bl k ∧ y = .int i ∧ Q (.int ((if k = true then (1 : Int) else 0) - i)) H) := by
  intro pins s σ H x y v u Q I rx ry h
  obtain ⟨k, i, rfl, rfl, q⟩ := h
  obtain ⟨t, rfl⟩ := ry
  cases rx
  exact PySem.IntBool.sub_bool_int ⟨.int _, H, I.tok _, ⟨_, rfl⟩, q⟩
theorem op_eq_bi : OpR X (compareOp .Eq) (fun x y H Q => ∃ k i, x = .bl k ∧ y = .int i ∧ Q (.bl ((if k then 1 else 0) == i)) H) := by
  intro pins s σ H x y v u Q I rx ry h
  obtain ⟨k, i, rfl, rfl, q⟩ := h
  obtain ⟨t, rfl⟩ := ry
  cases rx
  exact PySem.EqBoolInt.eq_bool_int ⟨.bl _, H, I, rfl, q⟩
theorem call_str_bool : CallR X (.type "str") (fun xs H Q => ∃ b, xs = [.bl b] ∧ Q (.str (Str.ofString (if b then "True" else "False"))) H) := by
  intro pins s σ H xs us Q I r h
  obtain ⟨b, rfl, q⟩ := h
  obtain ⟨u, rfl, ru⟩ := vals1 r
  cases ru
  exact PySem.P.str_of_bool ⟨.str _, H, I.tok _, ⟨_, by cases b <;> rfl⟩, q⟩
/-- two rules for one operator -/
theorem OpR.or {f : Value → Value → Sem Value} {r r' : R2} (h : OpR X f r) (h' : OpR X f r') : OpR X f (fun x y H Q => r x y H Q ∨ r' x y H Q) := by
  intro pins s σ H x y v u Q I rx ry q
  rcases q with q | q
  · exact h pins s σ H x y v u Q I rx ry q
  · exact h' pins s σ H x y v u Q I rx ry q
theorem CallR.or {f : Value} {r r' : List V → Hp → VK → Prop} (h : CallR X f r) (h' : CallR X f r') : CallR X f (fun xs H Q => r xs H Q ∨ r' xs H Q) := by
  intro pins s σ H xs us Q I rx q
  rcases q with q | q
  · exact h pins s σ H xs us Q I rx q
  · exact h' pins s σ H xs us Q I rx q
end
/-! t[::-1] -/
section
variable {prog : Program} {w : World} {A : Around} {E : Value → Shared → Prop} {s : Shared}
theorem adjust_rev (n : Nat) : Builtin.Slice.sliceAdjust none none (-1) (n : Int) = ((n : Int) - 1, -1) := rfl
theorem places_rev (n : Nat) : Builtin.Slice.slicePlaces ((n : Int) - 1) (-1) (-1) = n := by
  unfold Builtin.Slice.slicePlaces
  have h1 : ¬ ((-1 : Int) > 0) := by decide
  rw [if_neg h1]
  by_cases h : (n : Int) - 1 > -1
  · rw [if_pos h, show (- -1 : Int) = 1 by decide, Int.ediv_one]
    omega
  · rw [if_neg h]
    omega
theorem pick_rev (xs : Array Value) : ((List.range xs.size).filterMap fun (m : Nat) => xs[((xs.size : Int) - 1 + (m : Int) * (-1)).toNat]?).toArray = xs.toList.reverse.toArray := by
  have e : (List.range xs.size).filterMap (fun (m : Nat) => xs[((xs.size : Int) - 1 + (m : Int) * (-1)).toNat]?) = ((List.range xs.size).map fun k => xs.size - 1 - k).filterMap (xs[·]?) := by
    rw [List.filterMap_map]
    have g : ∀ l : List Nat, (∀ m ∈ l, m < xs.size) → l.filterMap (fun (m : Nat) => xs[((xs.size : Int) - 1 + (m : Int) * (-1)).toNat]?) = l.filterMap ((fun x => xs[x]?) ∘ fun k => xs.size - 1 - k) := by
      intro l
      induction l with
      | nil => intro _; rfl
      | cons m l ih =>
        intro hm
        have h1 := hm m List.mem_cons_self
        have e2 : ((xs.size : Int) - 1 + (m : Int) * (-1)).toNat = xs.size - 1 - m := by omega
        rw [List.filterMap_cons, List.filterMap_cons, ih fun x hx => hm x (List.mem_cons_of_mem _ hx)]
        rw [e2]
        rfl
    exact g _ fun m hm => List.mem_range.mp hm
  rw [e, PySem.W.krv_range, List.filterMap_reverse, PySem.W.krv_all]
theorem sliceApplied_rev {sl : Addr} {tk : Tok} {n : Nat} {Q : Int × Int × Nat → Shared → Prop} (hs : s.heap.IsSliceOf sl .none .none (.int (-1) tk))
    (h : Q ((n : Int) - 1, -1, n) s) : wpAny (model prog w) A (Builtin.Slice.sliceApplied (.ref sl) (pure (n : Int))) Q E s := by
  obtain ⟨os, hos, hcs, hds⟩ := id hs
  unfold Builtin.Slice.sliceApplied Builtin.Slice.sliceFields
  refine wpAny_bind (wpAny_bind (wpAny_field hos hds (x := .none) rfl (wpAny_bind (wpAny_field hos hds (x := .none) rfl (wpAny_bind (wpAny_field hos hds (x := .int (-1) tk) rfl (wpAny_pure ?_)))))))
  refine wpAny_bind (HT.slicePart_ (.int (-1) tk) ?_)
  show wpAny _ _ (if ((-1 : Int) == 0) = true then _ else _) _ _ s
  rw [if_neg (by decide)]
  refine wpAny_bind (HT.slicePart_ .none (wpAny_bind (HT.slicePart_ .none (wpAny_bind (wpAny_pure ?_)))))
  show wpAny _ _ (match Builtin.Slice.sliceAdjust none none (-1) (n : Int) with | (lo, hi) => pure (lo, (-1 : Int), Builtin.Slice.slicePlaces lo hi (-1))) _ _ s
  rw [adjust_rev n]
  show wpAny _ _ (pure ((n : Int) - 1, (-1 : Int), Builtin.Slice.slicePlaces ((n : Int) - 1) (-1) (-1))) _ _ s
  rw [places_rev]
  exact wpAny_pure h
theorem getItem_tuple_rev {t sl : Addr} {items : Array Value} {tk : Tok} {Q : Value → Shared → Prop} (ht : IsTup s.heap t items) (hs : s.heap.IsSliceOf sl .none .none (.int (-1) tk))
    (h : Q (.ref s.heap.objs.size) { s with heap := s.heap.push { cls := .type "tuple", data := .seq items.toList.reverse.toArray } })
    (hsz : items.size ≤ sizeLine) : wpAny (model prog w) A (getItem (.ref t) (.ref sl)) Q E s := by
  have htake : sizeOk (.seq items.toList.reverse.toArray) := by
    show items.toList.reverse.toArray.size ≤ sizeLine
    rw [List.size_toArray, List.length_reverse, Array.length_toList]
    exact hsz
  obtain ⟨os, hos, hcs, hds⟩ := id hs
  have hTs : s.TypeIs (.ref sl) "slice" := ⟨os, hos, hcs⟩
  unfold getItem
  try with_reducible refine wpAny_holding ?_
  first | refine wpAny_bind (wpAny_pure ?_) | skip
  refine wpAny_bind (wpAny_sequenceKey ht.typeIs (by decide) ?_)
  refine wpAny_bind (wpAny_callSpecial?_slot (name := Str.ofString "__getitem__") ht.typeIs PyProof.Rows.slot_tuple_getitem
    (wpAny_call_entry PyProof.Rows.slot_tuple_getitem ht.typeIs entry_tuple_getitem ?_ (args_tuple_getitem _ _)))
  show wpAny _ _ (Builtin.Tuple.tupleItemsOf (.ref t) >>= _) _ _ s
  refine wpAny_bind (tupleItemsOf_ ht ?_)
  refine wpAny_bind (wpAny_typeOf hTs ?_)
  rw [if_pos (by decide)]
  refine wpAny_bind (sliceApplied_rev hs ?_)
  have hno : ¬ ((((items.size : Int) - 1) == 0 && (-1 : Int) == 1 && items.size == items.size) = true) := by
    intro q
    rw [Bool.and_eq_true, Bool.and_eq_true] at q
    exact absurd q.1.2 (by decide)
  show wpAny _ _ (if ((((items.size : Int) - 1) == 0 && (-1 : Int) == 1 && items.size == items.size) = true) then _ else _) _ _ s
  rw [if_neg hno, pick_rev]
  first
    | exact wpAny_bind (m := Builtin.Tuple.tupleExact _) (wpAny_newObj_type (wpAny_pure ⟨_, rfl, wpAny_pure h⟩) htake)
    | exact wpAny_bind (m := Builtin.Tuple.tupleExact _) (wpAny_newObj_type (wpAny_bind (wpAny_pure (wpAny_pure ⟨_, rfl, wpAny_pure h⟩))) htake)
    | exact wpAny_bind (wpAny_bind (m := Builtin.Tuple.tupleExact _) (wpAny_newObj_type (wpAny_pure (wpAny_pure ⟨_, rfl, wpAny_pure h⟩)) htake))
    | exact wpAny_bind (wpAny_bind (m := Builtin.Tuple.tupleExact _) (wpAny_newObj_type (wpAny_pure ⟨_, rfl, wpAny_pure h⟩) htake))
end
section
variable {X : Cx} {e st : Expr} {te ts : TE} {pos p2 : Pos}
def tRevT (K : PySem.W.Frag) (te ts : TE) : TE := fun σ H Q => te σ H fun x H1 => ts σ H1 fun y H2 => ∃ a xs, x = .ref a ∧ y = .int (-1) ∧ SqT K H2 a xs ∧ ∀ p, H2 p = none → Q (.ref p) (upd H2 p (.tup xs.reverse))
/-- t[::-1] -/
theorem pe_revT (he : PE X e te) (hs : PE X st ts) : PE X (.Subscript e (.Slice none none (some st) p2) pos) (tRevT X.K te ts) := by
  refine ⟨fun pins s σ H Q I h => ?_⟩
  refine Subscript_ (thn (he.run pins s σ H _ I h) fun v s1 ⟨x, H1, I1, r1, q1⟩ => ?_)
  refine wpAny_Slice ?_
  rw [evalPart_none]
  refine wpAny_pure ?_
  refine wpAny_pure ?_
  rw [evalPart_some]
  refine thn (hs.run pins s1 σ H1 _ I1 q1) fun u s3 ⟨y, H3, I3, r3, q3⟩ => ?_
  obtain ⟨a, xs, rfl, rfl, hx, q⟩ := q3
  obtain ⟨tk, rfl⟩ := r3
  cases r1
  have I4 : Inv X pins σ H3 { s3 with heap := s3.heap.push { cls := .type "slice", data := .fields #[.none, .none, .int (-1) tk] } } := I3.kept (t' := s3.toks) fun b ob q => Heap.get?_push_of_some _ q
  obtain ⟨its, r, ht, hz⟩ := I4.tuple hx
  have hlen : its.toArray.size = xs.length := by rw [List.size_toArray]; exact r.length.symm
  show wpAny (model X.prog X.w) X.A (subscriptTail e (.Slice none none (some st) p2) (.ref a) (.ref s3.heap.objs.size)) (EP X pins σ Q) X.xe { s3 with heap := s3.heap.push { cls := .type "slice", data := .fields #[.none, .none, .int (-1) tk] } }
  refine tail_any (ops := [.ref a, .ref s3.heap.objs.size]) ht.typeIs PyProof.Rows.slot_tuple_getitem.lookup ?_ (by with_unfolding_all rfl)
  refine getItem_tuple_rev ht (Heap.IsSliceOf.new ..) ?_ (by rw [hlen]; exact hz)
  refine ⟨.ref (s3.heap.push { cls := .type "slice", data := .fields #[.none, .none, .int (-1) tk] }).objs.size, _, I4.laid (t' := s3.toks) (o := .tup xs.reverse) (fun b ob q => Heap.get?_push_of_some _ q) (Nat.le_refl _) ?_, rfl, q _ (I4.hok.fresh (Nat.le_refl _))⟩
  exact ⟨by rw [List.length_reverse]; exact hz, _, r.reverse, IsTup.new _ _⟩
end
end XT
/-! data that are none of the stream's -/
namespace XT
open PySem PySem.Spec PyProof.Rows L2
mutual
inductive Dv (K : PySem.W.Frag) (N : Addr → Prop) (H : Hp) : V → PyData → Prop
  | non : Dv K N H .non .none
  | bl (b : Bool) : Dv K N H (.bl b) (.bool b)
  | int (i : Int) : Dv K N H (.int i) (.int i)
  | str (x : Str) : Dv K N H (.str x) (.str x)
  | lst {a : Addr} {xs : List V} {ds : List PyData} : SqL K H a xs → a ≠ sysModules → N a → DvAll K N H xs ds → Dv K N H (.ref a) (.list ds)
  | tup {a : Addr} {xs : List V} {ds : List PyData} : SqT K H a xs → DvAll K N H xs ds → Dv K N H (.ref a) (.tuple ds)
  | dct {a : Addr} (kvs : List (Str × Int)) : H a = some (.dK (dkV kvs)) → Dv K N H (.ref a) (dkD kvs)
inductive DvAll (K : PySem.W.Frag) (N : Addr → Prop) (H : Hp) : List V → List PyData → Prop
  | nil : DvAll K N H [] []
  | cons {v : V} {vs : List V} {d : PyData} {ds : List PyData} : Dv K N H v d → DvAll K N H vs ds → DvAll K N H (v :: vs) (d :: ds)
end
/-- not of the stream -/
abbrev Nof (S : Sm) : Addr → Prop := fun a => a ≠ S.s ∧ a ≠ S.p
abbrev Ds (K : PySem.W.Frag) (S : Sm) (H : Hp) : V → PyData → Prop := Dv K (Nof S) H
abbrev DsAll (K : PySem.W.Frag) (S : Sm) (H : Hp) : List V → List PyData → Prop := DvAll K (Nof S) H
mutual
theorem Dv.dz {K : PySem.W.Frag} {N : Addr → Prop} {H : Hp} : ∀ {v : V} {d : PyData}, Dv K N H v d → Dz K H v d
  | _, _, .non => .non
  | _, _, .bl b => .bl b
  | _, _, .int i => .int i
  | _, _, .str x => .str x
  | _, _, .lst h n _ a => .lst h n (DvAll.dz a)
  | _, _, .tup h a => .tup h (DvAll.dz a)
  | _, _, .dct kvs h => .dct kvs h
theorem DvAll.dz {K : PySem.W.Frag} {N : Addr → Prop} {H : Hp} : ∀ {vs : List V} {ds : List PyData}, DvAll K N H vs ds → DzAll K H vs ds
  | _, _, .nil => .nil
  | _, _, .cons h a => .cons (Dv.dz h) (DvAll.dz a)
end
mutual
/-- all that the data stand on is kept -/
theorem Dv.map {K : PySem.W.Frag} {N N' : Addr → Prop} {H H' : Hp} (kt : ∀ b xs, SqT K H b xs → SqT K H' b xs) (kl : ∀ b xs, N b → SqL K H b xs → SqL K H' b xs) (kd : ∀ b kvs, H b = some (.dK kvs) → H' b = some (.dK kvs)) (kn : ∀ b, N b → N' b) :
    ∀ {v : V} {d : PyData}, Dv K N H v d → Dv K N' H' v d
  | _, _, .non => .non
  | _, _, .bl b => .bl b
  | _, _, .int i => .int i
  | _, _, .str x => .str x
  | _, _, .lst h n m a => .lst (kl _ _ m h) n (kn _ m) (DvAll.map kt kl kd kn a)
  | _, _, .tup h a => .tup (kt _ _ h) (DvAll.map kt kl kd kn a)
  | _, _, .dct kvs h => .dct kvs (kd _ _ h)
theorem DvAll.map {K : PySem.W.Frag} {N N' : Addr → Prop} {H H' : Hp} (kt : ∀ b xs, SqT K H b xs → SqT K H' b xs) (kl : ∀ b xs, N b → SqL K H b xs → SqL K H' b xs) (kd : ∀ b kvs, H b = some (.dK kvs) → H' b = some (.dK kvs)) (kn : ∀ b, N b → N' b) :
    ∀ {vs : List V} {ds : List PyData}, DvAll K N H vs ds → DvAll K N' H' vs ds
  | _, _, .nil => .nil
  | _, _, .cons h a => .cons (Dv.map kt kl kd kn h) (DvAll.map kt kl kd kn a)
end
theorem Dv.same {K : PySem.W.Frag} {N : Addr → Prop} {H H' : Hp} (e : Same H H') {v : V} {d : PyData} (h : Dv K N H v d) : Dv K N H' v d := h.map (fun _ _ q => Same.sqT e q) (fun _ _ _ q => e.seq q) (fun _ _ q => e _ _ q) (fun _ q => q)
theorem DvAll.same {K : PySem.W.Frag} {N : Addr → Prop} {H H' : Hp} (e : Same H H') {v : List V} {d : List PyData} (h : DvAll K N H v d) : DvAll K N H' v d := h.map (fun _ _ q => Same.sqT e q) (fun _ _ _ q => e.seq q) (fun _ _ q => e _ _ q) (fun _ q => q)
theorem Dv.imp {K : PySem.W.Frag} {N N' : Addr → Prop} {H : Hp} {v : V} {d : PyData} (h : Dv K N H v d) (k : ∀ b, N b → N' b) : Dv K N' H v d := h.map (fun _ _ q => q) (fun _ _ _ q => q) (fun _ _ q => q) k
theorem DvAll.imp {K : PySem.W.Frag} {N N' : Addr → Prop} {H : Hp} {v : List V} {d : List PyData} (h : DvAll K N H v d) (k : ∀ b, N b → N' b) : DvAll K N' H v d := h.map (fun _ _ q => q) (fun _ _ _ q => q) (fun _ _ q => q) k
theorem Strm.ks {S : Sm} {H : Hp} {t : Int} {b : Addr} {o : HO} (h : Strm S H t) (e : H b = some o) (ne : ∀ xs, o ≠ .lst xs) : b ≠ S.s ∧ b ≠ S.p := by
  obtain ⟨_, h⟩ := h
  refine ⟨fun z => ?_, fun z => ?_⟩
  · rw [z, h.hs] at e
    exact ne _ (Option.some.inj e).symm
  · rw [z, h.hp] at e
    exact ne _ (Option.some.inj e).symm
theorem Keep.ko {S : Sm} {H H' : Hp} {t : Int} {b : Addr} {o : HO} (k : Keep S H H') (h : Strm S H t) (e : H b = some o) (ne : ∀ xs, o ≠ .lst xs) : H' b = some o := k b o (h.ks e ne).1 (h.ks e ne).2 e
theorem Keep.sqT {K : PySem.W.Frag} {S : Sm} {H H' : Hp} {t : Int} {b : Addr} {xs : List V} (k : Keep S H H') (h : Strm S H t) (e : SqT K H b xs) : SqT K H' b xs := by
  rcases e with (e | ⟨o, e⟩) | e
  · exact .inl (.inl (k.ko h e (fun _ z => nomatch z)))
  · exact .inl (.inr ⟨o, k.ko h e (fun _ z => nomatch z)⟩)
  · exact .inr e
theorem Keep.sqL {K : PySem.W.Frag} {S : Sm} {H H' : Hp} {b : Addr} {xs : List V} (k : Keep S H H') (n1 : b ≠ S.s) (n2 : b ≠ S.p) (e : SqL K H b xs) : SqL K H' b xs := by
  rcases e with (e | ⟨o, e⟩) | e
  · exact .inl (.inl (k b _ n1 n2 e))
  · exact .inl (.inr ⟨o, k b _ n1 n2 e⟩)
  · exact .inr e
theorem Dv.keep {K : PySem.W.Frag} {S : Sm} {H H' : Hp} {t : Int} {v : V} {d : PyData} (h : Ds K S H v d) (k : Keep S H H') (st : Strm S H t) : Ds K S H' v d := h.map (fun _ _ q => k.sqT st q) (fun _ _ n q => k.sqL n.1 n.2 q) (fun _ _ q => k.ko st q (fun _ z => nomatch z)) (fun _ q => q)
theorem DvAll.keep {K : PySem.W.Frag} {S : Sm} {H H' : Hp} {t : Int} {v : List V} {d : List PyData} (h : DsAll K S H v d) (k : Keep S H H') (st : Strm S H t) : DsAll K S H' v d := h.map (fun _ _ q => k.sqT st q) (fun _ _ n q => k.sqL n.1 n.2 q) (fun _ _ q => k.ko st q (fun _ z => nomatch z)) (fun _ q => q)
/-- a list of one's own is changed -/
theorem Dv.put {K : PySem.W.Frag} {N : Addr → Prop} {H : Hp} {L : Addr} {xs ys : List V} {v : V} {d : PyData} (h : Dv K N H v d) (hL : H L = some (.lst xs)) (hN : ∀ b, N b → b ≠ L) : Dv K N (upd H L (.lst ys)) v d := by
  refine h.map (fun b zs q => ?_) (fun b zs n q => ?_) (fun b kvs q => ?_) (fun _ q => q)
  · rcases q with (q | ⟨o, q⟩) | q
    · exact .inl (.inl (by rw [upd_ne (ne_of q hL (by intro z; cases z))]; exact q))
    · exact .inl (.inr ⟨o, by rw [upd_ne (ne_of q hL (by intro z; cases z))]; exact q⟩)
    · exact .inr q
  · rcases q with (q | ⟨o, q⟩) | q
    · exact .inl (.inl (by rw [upd_ne (hN b n)]; exact q))
    · exact .inl (.inr ⟨o, by rw [upd_ne (hN b n)]; exact q⟩)
    · exact .inr q
  · rw [upd_ne (ne_of q hL (by intro z; cases z))]
    exact q
theorem DvAll.put {K : PySem.W.Frag} {N : Addr → Prop} {H : Hp} {L : Addr} {xs ys : List V} (hL : H L = some (.lst xs)) (hN : ∀ b, N b → b ≠ L) : ∀ {vs : List V} {ds : List PyData}, DvAll K N H vs ds → DvAll K N (upd H L (.lst ys)) vs ds
  | _, _, .nil => .nil
  | _, _, .cons h a => .cons (h.put hL hN) (DvAll.put hL hN a)
theorem DvAll.at {K : PySem.W.Frag} {N : Addr → Prop} {H : Hp} : ∀ {vs : List V} {ds : List PyData}, DvAll K N H vs ds → ∀ {i : Nat} {v : V}, vs[i]? = some v → ∃ d, ds[i]? = some d ∧ Dv K N H v d
  | _, _, .nil, i, v, h => by simp at h
  | _, _, .cons (d := d) h a, 0, v, e => by
    cases e
    exact ⟨d, rfl, h⟩
  | _, _, .cons h a, i + 1, v, e => DvAll.at a (i := i) e
theorem DvAll.len {K : PySem.W.Frag} {N : Addr → Prop} {H : Hp} : ∀ {vs : List V} {ds : List PyData}, DvAll K N H vs ds → vs.length = ds.length
  | _, _, .nil => rfl
  | _, _, .cons h a => by rw [List.length_cons, List.length_cons, DvAll.len a]
theorem DvAll.app {K : PySem.W.Frag} {N : Addr → Prop} {H : Hp} : ∀ {vs us : List V} {ds es : List PyData}, DvAll K N H vs ds → DvAll K N H us es → DvAll K N H (vs ++ us) (ds ++ es)
  | _, _, _, _, .nil, b => b
  | _, _, _, _, .cons h a, b => .cons h (DvAll.app a b)
theorem DvAll.take {K : PySem.W.Frag} {N : Addr → Prop} {H : Hp} : ∀ {vs : List V} {ds : List PyData} (n : Nat), DvAll K N H vs ds → DvAll K N H (vs.take n) (ds.take n)
  | _, _, 0, _ => by rw [List.take_zero, List.take_zero]; exact .nil
  | _, _, n + 1, .nil => .nil
  | _, _, n + 1, .cons h a => .cons h (DvAll.take n a)
theorem DvAll.drop {K : PySem.W.Frag} {N : Addr → Prop} {H : Hp} : ∀ {vs : List V} {ds : List PyData} (n : Nat), DvAll K N H vs ds → DvAll K N H (vs.drop n) (ds.drop n)
  | _, _, 0, a => a
  | _, _, n + 1, .nil => .nil
  | _, _, n + 1, .cons h a => DvAll.drop n a
theorem DvAll.rev {K : PySem.W.Frag} {N : Addr → Prop} {H : Hp} : ∀ {vs : List V} {ds : List PyData}, DvAll K N H vs ds → DvAll K N H vs.reverse ds.reverse
  | _, _, .nil => .nil
  | _, _, .cons h a => by
    rw [List.reverse_cons, List.reverse_cons]
    exact (DvAll.rev a).app (.cons h .nil)
/-- the data of a cut -/
def cutD (ds : List PyData) (lo hi : Option Int) : List PyData := (ds.drop (HT.sIx ds.length 0 lo)).take (HT.sIx ds.length ds.length hi - HT.sIx ds.length 0 lo)
theorem DvAll.cut {K : PySem.W.Frag} {N : Addr → Prop} {H : Hp} {vs : List V} {ds : List PyData} (h : DvAll K N H vs ds) (lo hi : Option Int) : DvAll K N H (cutV vs lo hi) (cutD ds lo hi) := by
  unfold cutV cutD
  rw [h.len]
  exact (h.drop _).take _
section
variable {P : Program} {w : World} {K : PySem.W.Frag} {mg : Str → Option Value} {base : Heap}
def spOddS (K : PySem.W.Frag) : Sp := fun vs H Q _ => ∃ (S : Sm) (t : Int), vs = [.ref S.s] ∧ Strm S H t ∧ t < 1000000 ∧ ∀ (H' : Hp) (v : V) (d : PyData) (t' : Int), Step S H t H' t' 1 → Ds K S H' v d → d ∈ oddD → Q v H'
theorem ok_oddS {f : Addr} {fd : FuncData} {k : Nat} (F : Fun K "_law_odd" "_law_odd" sOdd f fd) (dD : DefR P w K mg base 1 "_law_draw" spDrawN) : FnOk P w K mg base CX0 (k + 2) f fd ["_law_stream_here"] (spOddS K) := by
  refine F.ok scOd (fun vs H Q E h => ?_) (fun cdv A outer s H vs Q E hr h => ?_)
  · obtain ⟨S, t, rfl, _⟩ := h
    rfl
  · obtain ⟨S, t, rfl, st, ht, q⟩ := h
    refine ⟨_, pss_cons (ps_set (i := 1) scOd.nd rfl (.inl rfl) (pe_lst (pa_cons pe_non (pa_cons pe_bl (pa_cons pe_bl (pa_cons (pe_un un_neg pe_int) (pa_cons pe_int (pa_cons pe_int (pa_cons pe_int (pa_cons pe_int (pa_cons pe_int (pa_cons pe_int (pa_cons pe_int (pa_cons pe_int
        (pa_cons (pe_op op_pow pe_int pe_int) (pa_cons pe_str (pa_cons pe_str (pa_cons pe_str (pa_cons (pe_tup pa_nil) (pa_cons (pe_lstB pa_nil) (pa_cons pe_dnewK (pa_cons (pe_tup (pa_cons pe_int pa_nil)) (pa_cons (pe_lstB (pa_cons pe_int pa_nil)) (pa_cons (pe_tup (pa_cons pe_bl pa_nil)) pa_nil))))))))))))))))))))))))
      (pss_one (ps_ret (pe_ix ix_list (pe_op op_cat (pv 1) (pe_lst (pa_cons (pe_tup (pa_cons pe_int (pa_cons (pe_tup (pa_cons pe_int pa_nil)) pa_nil))) (pa_cons (pe_tup (pa_cons pe_int (pa_cons pe_int pa_nil))) (pa_cons (pe_disp (pps_cons pe_str pe_int pps_nil) rfl rfl (by decide) (by decide)) (pa_cons pe_str pa_nil))))))
        (pe_def dD (hr.mono (by omega)) (by rfl) (pa_cons (pv 0) (pa_cons pe_int pa_nil))) (fun _ _ => rfl)))), ?_⟩
    refine ⟨1, rfl, 10, 39, rfl, rfl, ⟨by decide, by decide, by decide⟩, sz (n := 0) (by decide), fun T1 nT1 => ⟨sz (n := 0) (by decide), fun L1 nL1 bL1 D1 nD1 => ⟨sz (n := 1) (by decide), fun T2 nT2 => ⟨sz (n := 1) (by decide), fun L2 nL2 bL2 => ⟨sz (n := 1) (by decide), fun T3 nT3 => ⟨sz (n := 22) (by decide), fun S0 nS0 => ?_⟩⟩⟩⟩⟩⟩
    have m1 := same_new (o := .tup []) nT1
    have m2 := same_new (o := .lst []) nL1
    have m3 := same_new (o := .dK []) nD1
    have m4 := same_new (o := .tup [.int 0]) nT2
    have m5 := same_new (o := .lst [.int 0]) nL2
    have m6 := same_new (o := .tup [.bl true]) nT3
    let xs : List V := [.non, .bl true, .bl false, .int (-1), .int 0, .int 1, .int 2, .int 3, .int 6, .int 7, .int 63, .int 64, .int (10 ^ (39 : Int).toNat), .str "", .str "0", .str "lot", .ref T1, .ref L1, .ref D1, .ref T2, .ref L2, .ref T3]
    have m7 := same_new (o := .lst xs) nS0
    refine ⟨.ref S0, rfl, sz (n := 1) (by decide), fun T4 nT4 => ⟨sz (n := 2) (by decide), fun T5 nT5 => ⟨sz (n := 2) (by decide), fun T6 nT6 D2 nD2 => ⟨upd_same, [(.inr "a", .int 1)], rfl, by decide, sz (n := 4) (by decide), fun M nM => ?_⟩⟩⟩⟩
    have m8 := same_new (o := .tup [.int 0]) nT4
    have m9 := same_new (o := .tup [.int 2, .ref T4]) nT5
    have m10 := same_new (o := .tup [.int 0, .int 1]) nT6
    have m11 : Same _ (upd (upd (upd (upd (upd (upd (upd (upd (upd (upd (upd (upd H T1 (.tup [])) L1 (.lst [])) D1 (.dK [])) T2 (.tup [.int 0])) L2 (.lst [.int 0])) T3 (.tup [.bl true])) S0 (.lst xs)) T4 (.tup [.int 0])) T5 (.tup [.int 2, .ref T4])) T6 (.tup [.int 0, .int 1])) D2 (.dK [])) D2 (.dK (mergeK [] [(.inr "a", .int 1)]))) := fun b o e => by
      rw [upd_ne (ne_of_none e nD2), upd_ne (ne_of_none e nD2)]
      exact e
    have m12 := same_new (o := .lst [.ref T5, .ref T6, .ref D2, .str "01"]) nM
    refine ⟨S0, M, _, _, rfl, rfl, m12 _ _ (m11 _ _ (m10 _ _ (m9 _ _ (m8 _ _ upd_same)))), upd_same, (by rw [sizeLine_eq]; show 22 + 4 ≤ 16777216; decide), fun C nC => ?_⟩
    have m13 := same_new (o := .lst (xs ++ [.ref T5, .ref T6, .ref D2, .str "01"])) nC
    have st1 := st.same m1
    have st2 := st1.same m2
    have st3 := st2.same m3
    have st4 := st3.same m4
    have st5 := st4.same m5
    have st6 := st5.same m6
    have st7 := st6.same m7
    have st8 := st7.same m8
    have st9 := st8.same m9
    have st10 := st9.same m10
    have st11 := st10.same m11
    have st12 := st11.same m12
    have st13 := st12.same m13
    refine ⟨.ref S.s, rfl, S, t, 26, rfl, st13, by omega, by omega, by omega, fun H9 r t9 s9 hr26 => ?_⟩
    have c12 := m12.trans m13
    have c11 := m11.trans c12
    have c10 := m10.trans c11
    have c9 := m9.trans c10
    have c8 := m8.trans c9
    have c7 := m7.trans c8
    have c6 := m6.trans c7
    have c5 := m5.trans c6
    have c4 := m4.trans c5
    have c3 := m3.trans c4
    have c2 := m2.trans c3
    have kT : ∀ {b : Addr} {zs : List V}, _ = some (HO.tup zs) → H9 b = some (.tup zs) := fun {b zs} e => s9.keep.tup st13 e
    have gT1 := kT (c2 T1 _ upd_same)
    have gT2 := kT (c5 T2 _ upd_same)
    have gT3 := kT (c7 T3 _ upd_same)
    have gT4 := kT (c9 T4 _ upd_same)
    have gT5 := kT (c10 T5 _ upd_same)
    have gT6 := kT (c11 T6 _ upd_same)
    have nL1s := strm_ne st1 nL1
    have nL2s := strm_ne st4 nL2
    have nD1s := strm_ne st2 nD1
    have nD2s := strm_ne st10 nD2
    have nCs := strm_ne st12 nC
    have gL1 := s9.keep L1 _ nL1s.1 nL1s.2.1 (c3 L1 _ upd_same)
    have gL2 := s9.keep L2 _ nL2s.1 nL2s.2.1 (c6 L2 _ upd_same)
    have gD1 := s9.keep D1 _ nD1s.1 nD1s.2.1 (c4 D1 _ upd_same)
    have gD2 := s9.keep D2 _ nD2s.1 nD2s.2.1 (c12 D2 _ upd_same)
    have gC := s9.keep C _ nCs.1 nCs.2.1 upd_same
    have all : DsAll K S H9 (xs ++ [.ref T5, .ref T6, .ref D2, .str "01"]) oddD :=
      .cons .non (.cons (.bl _) (.cons (.bl _) (.cons (.int _) (.cons (.int _) (.cons (.int _) (.cons (.int _) (.cons (.int _) (.cons (.int _) (.cons (.int _) (.cons (.int _) (.cons (.int _) (.cons (.int _) (.cons (.str _) (.cons (.str _) (.cons (.str _)
        (.cons (.tup (SqT.of gT1) .nil) (.cons (.lst (SqL.of gL1) bL1 ⟨nL1s.1, nL1s.2.1⟩ .nil) (.cons (.dct [] gD1) (.cons (.tup (SqT.of gT2) (.cons (.int _) .nil)) (.cons (.lst (SqL.of gL2) bL2 ⟨nL2s.1, nL2s.2.1⟩ (.cons (.int _) .nil)) (.cons (.tup (SqT.of gT3) (.cons (.bl _) .nil))
        (.cons (.tup (SqT.of gT5) (.cons (.int _) (.cons (.tup (SqT.of gT4) (.cons (.int _) .nil)) .nil))) (.cons (.tup (SqT.of gT6) (.cons (.int _) (.cons (.int _) .nil))) (.cons (.dct [("a", 1)] gD2) (.cons (.str _) .nil)))))))))))))))))))))))))
    have hlt : r < (xs ++ [V.ref T5, V.ref T6, V.ref D2, V.str "01"]).length := by
      show r < 26
      exact hr26
    obtain ⟨d, hd, hz⟩ := all.at (List.getElem?_eq_getElem hlt)
    refine ⟨C, _, r, _, rfl, rfl, SqL.of gC, atI_nat (List.getElem?_eq_getElem hlt), ?_⟩
    exact q H9 _ d t9 ⟨(Keep.of (((m1.trans c2)))).trans s9.keep, s9.st, s9.lo, s9.hi⟩ hz (List.mem_of_getElem? hd)

/-! _law_pick -/
theorem scPk : FnScope ["_law_stream_here", "_law_items"] ["_law_stream_here", "_law_items"] (defScope sPick) := ⟨rfl, rfl, rfl, by decide +kernel, rfl, by decide +kernel, by decide +kernel⟩
def spPick (K : PySem.W.Frag) : Sp := fun vs H Q _ => ∃ (S : Sm) (t : Int) (L : Addr) (xs : List V) (ds : List PyData), vs = [.ref S.s, .ref L] ∧ Strm S H t ∧ t < 1000000 ∧ H L = some (.lst xs) ∧ L ≠ S.s ∧ L ≠ S.p ∧ DsAll K S H xs ds ∧ 0 < ds.length ∧ ds.length ≤ 1000 ∧
  ∀ (H' : Hp) (v : V) (d : PyData) (t' : Int), Step S H t H' t' 1 → Ds K S H' v d → d ∈ ds → Q v H'
theorem ok_pick {f : Addr} {fd : FuncData} {k : Nat} (B : Bl mg) (F : Fun K "_law_pick" "_law_pick" sPick f fd) (dD : DefR P w K mg base 1 "_law_draw" spDrawN) : FnOk P w K mg base CX0 (k + 2) f fd ["_law_stream_here", "_law_items"] (spPick K) := by
  refine F.ok scPk (fun vs H Q E h => ?_) (fun cdv A outer s H vs Q E hr h => ?_)
  · obtain ⟨S, t, L, xs, ds, rfl, _⟩ := h
    rfl
  · obtain ⟨S, t, L, xs, ds, rfl, st, ht, hL, n1, n2, all, l0, l1, q⟩ := h
    have hl := all.len
    refine ⟨_, pss_one (ps_ret (pe_ix ix_list (pv 1) (pe_def dD (hr.mono (by omega)) (by rfl) (pa_cons (pv 0) (pa_cons (pe_callB call_len_seq (by rfl) B.len PySem.boot_len (pa_cons (pv 1) pa_nil)) pa_nil))) (fun _ _ => rfl))), ?_⟩
    refine ⟨.ref L, rfl, .ref S.s, rfl, .ref L, rfl, L, xs, rfl, .inl (SqL.of hL), S, t, xs.length, rfl, st, by omega, by omega, by omega, fun H9 r t9 s9 hr => ?_⟩
    obtain ⟨d, hd, hz⟩ := all.at (List.getElem?_eq_getElem hr)
    exact ⟨L, xs, r, _, rfl, rfl, SqL.of (s9.keep L _ n1 n2 hL), atI_nat (List.getElem?_eq_getElem hr), q H9 _ d t9 s9 (hz.keep s9.keep st) (List.mem_of_getElem? hd)⟩
end
end XT
/-! is_width, mask_error, lot_error, is_lot, _law_lot_error at any data -/
namespace XT
open PySem PySem.Spec PyProof.Rows L2
def isTp : PyData → Bool
  | .tuple _ => true | _ => false
def isSt : PyData → Bool
  | .str _ => true | _ => false
theorem kitT {K : PySem.W.Frag} : ∀ d : PyData, PySem.W.kitOne K (.type (tyD d)) (.type "tuple") = some (isTp d)
  | .none => kit_ty (a := "NoneType") (b := "tuple") (r := false) (by decide +kernel)
  | .bool _ => kit_ty (a := "bool") (b := "tuple") (r := false) (by decide +kernel)
  | .int _ => kit_ty (a := "int") (b := "tuple") (r := false) (by decide +kernel)
  | .str _ => kit_ty (a := "str") (b := "tuple") (r := false) (by decide +kernel)
  | .list _ => kit_ty (a := "list") (b := "tuple") (r := false) (by decide +kernel)
  | .tuple _ => kit_ty (a := "tuple") (b := "tuple") (r := true) (by decide +kernel)
  | .dict _ => kit_ty (a := "dict") (b := "tuple") (r := false) (by decide +kernel)
theorem kitS {K : PySem.W.Frag} : ∀ d : PyData, PySem.W.kitOne K (.type (tyD d)) (.type "str") = some (isSt d)
  | .none => kit_ty (a := "NoneType") (b := "str") (r := false) (by decide +kernel)
  | .bool _ => kit_ty (a := "bool") (b := "str") (r := false) (by decide +kernel)
  | .int _ => kit_ty (a := "int") (b := "str") (r := false) (by decide +kernel)
  | .str _ => kit_ty (a := "str") (b := "str") (r := true) (by decide +kernel)
  | .list _ => kit_ty (a := "list") (b := "str") (r := false) (by decide +kernel)
  | .tuple _ => kit_ty (a := "tuple") (b := "str") (r := false) (by decide +kernel)
  | .dict _ => kit_ty (a := "dict") (b := "str") (r := false) (by decide +kernel)
def isW : PyData → Bool
  | .int i => decide (1 ≤ i) && decide (i ≤ 6)
  | _ => false
def iv : PyData → Int
  | .int i => i
  | _ => 0
def okM (n : Nat) (least : Int) (d : PyData) : Bool := isM n d && decide (least ≤ iv d)
def errM (n : Nat) : Nat → Int → List PyData → PyData
  | _, _, [] => .none
  | i, least, d :: ds => if okM n least d = true then errM n (i + 1) (iv d + 1) ds else .tuple [.int (i : Nat), .str "mask"]
def eT (x : Str) : PyData := .tuple [.none, .str x]
def mskErr (n : Nat) : PyData → PyData
  | .tuple ms => errM n 0 0 ms
  | _ => eT "masks"
def lotErr : PyData → PyData
  | .tuple [a, b] => if isW a = true then mskErr (iv a).toNat b else eT "width"
  | _ => eT "lot"
theorem isW_nat {d : PyData} (h : isW d = true) : ∃ n : Nat, d = .int (n : Int) ∧ 1 ≤ n ∧ n ≤ 6 := by
  cases d with
  | int i =>
    have h : (decide (1 ≤ i) && decide (i ≤ 6)) = true := h
    rw [Bool.and_eq_true, decide_eq_true_iff, decide_eq_true_iff] at h
    obtain ⟨n, rfl⟩ := Int.eq_ofNat_of_zero_le (show 0 ≤ i by omega)
    exact ⟨n, rfl, by omega, by omega⟩
  | _ => exact absurd h (by simp [isW])
theorem isM_int {n : Nat} {d : PyData} (h : isM n d = true) : ∃ a : Nat, d = .int (a : Int) ∧ a < 2 ^ n := by
  cases d with
  | int i =>
    have h : (decide (0 ≤ i) && decide (i < ((2 ^ n : Nat) : Int))) = true := h
    rw [Bool.and_eq_true, decide_eq_true_iff, decide_eq_true_iff] at h
    obtain ⟨a, rfl⟩ := Int.eq_ofNat_of_zero_le h.1
    exact ⟨a, rfl, by omega⟩
  | _ => exact absurd h (by simp [isM])
theorem Dz.cast {K : PySem.W.Frag} {H : Hp} {v : V} {d e : PyData} (h : Dz K H v d) (q : d = e) : Dz K H v e := q ▸ h
theorem dz2 {K : PySem.W.Frag} {H : Hp} {p : Addr} {a b : V} {d e : PyData} (h : H p = some (.tup [a, b])) (x : Dz K H a d) (y : Dz K H b e) : Dz K H (.ref p) (.tuple [d, e]) := .tup (SqT.of h) (.cons x (.cons y .nil))
section
variable {P : Program} {w : World} {K : PySem.W.Frag} {mg : Str → Option Value} {base : Heap}
theorem scIsW : FnScope ["value"] ["value"] (defScope sWid) := ⟨rfl, rfl, rfl, by decide +kernel, rfl, by decide +kernel, by decide +kernel⟩
def spIsWZ (K : PySem.W.Frag) : Sp := fun vs H Q _ => ∃ (v : V) (d : PyData), vs = [v] ∧ Dz K H v d ∧ Q (.bl (isW d)) H
theorem ok_isW {f : Addr} {fd : FuncData} {k : Nat} {tk : Tok} (F : Fun K "is_width" "is_width" sWid f fd) (hW : mg "MAX_WIDTH" = some (.int 6 tk)) (dN : DefR P w K mg base 1 "is_number" (spNumZ K)) : FnOk P w K mg base CX0 (k + 2) f fd ["value"] (spIsWZ K) := by
  refine F.ok scIsW (fun vs H Q E h => ?_) (fun cdv A outer s H vs Q E hr h => ?_)
  · obtain ⟨v, d, rfl, _⟩ := h
    rfl
  · obtain ⟨v, d, rfl, hd, q⟩ := h
    refine ⟨_, pss_one (ps_ret (pe_and (pe_def dN (hr.mono (by omega)) (by rfl) (pa_cons (pv 0) pa_nil)) (pe_one (pe_chain op_le op_le pe_int (pv 0) (pe_glob (v := .int 6) (by rfl) hW ⟨_, rfl⟩))))), ?_⟩
    refine ⟨v, rfl, v, d, rfl, hd, isN d, rfl, ?_⟩
    cases hd with
    | int i =>
      refine iteT ⟨.int i, rfl, 1, i, rfl, rfl, _, rfl, ?_⟩
      by_cases h0 : (1 : Int) ≤ i
      · rw [decide_eq_true h0]
        refine iteT ⟨i, 6, rfl, rfl, ?_⟩
        have e : isW (.int i) = decide (i ≤ 6) := by
          show (decide (1 ≤ i) && decide (i ≤ 6)) = _
          rw [decide_eq_true h0, Bool.true_and]
        rw [e] at q
        exact q
      · rw [decide_eq_false h0]
        have e : isW (.int i) = false := by
          show (decide (1 ≤ i) && decide (i ≤ 6)) = _
          rw [decide_eq_false h0, Bool.false_and]
        rw [e] at q
        exact iteF q
    | non => exact iteF q
    | bl b => exact iteF q
    | str x => exact iteF q
    | lst _ _ _ => exact iteF q
    | tup _ _ => exact iteF q
    | dct kvs _ => exact iteF q
theorem scMaskE : FnScope ["width", "masks", "least", "index", "mask"] ["width", "masks"] (defScope sMaskE) := ⟨rfl, rfl, rfl, by decide +kernel, rfl, by decide +kernel, by decide +kernel⟩
def spMaskE (K : PySem.W.Frag) : Sp := fun vs H Q _ => ∃ (n : Nat) (y : Addr) (xs : List V) (ds : List PyData), vs = [.int (n : Int), .ref y] ∧ n ≤ 6 ∧ SqT K H y xs ∧ DzAll K H xs ds ∧ ∀ H' r, Same H H' → Dz K H' r (errM n 0 0 ds) → Q r H'
theorem ok_maskE {f : Addr} {fd : FuncData} {k : Nat} (B : Bl mg) (F : Fun K "mask_error" "mask_error" sMaskE f fd) (dM : DefR P w K mg base 2 "is_mask" (spMaskZ K)) : FnOk P w K mg base CX0 (k + 3) f fd ["width", "masks"] (spMaskE K) := by
  refine F.ok scMaskE (fun vs H Q E h => ?_) (fun cdv A outer s H vs Q E hr h => ?_)
  · obtain ⟨n, y, xs, ds, rfl, _⟩ := h
    rfl
  · obtain ⟨n, y, xs, ds, rfl, hn, hy, all, q⟩ := h
    refine ⟨_, pss_cons (ps_set (i := 2) scMaskE.nd rfl (.inl rfl) pe_int)
      (pss_cons (ps_for PassesOwn.never rfl (pi_enumT (by rfl) B.enumerate (pa_cons (pv 1) pa_nil)) (pg_tup rfl (pgs_cons (pg_name (i := 3) scMaskE.nd rfl (.inl rfl)) (pgs_cons (pg_name (i := 4) scMaskE.nd rfl (.inl rfl)) pgs_nil)))
        (pss_cons (ps_if (PW.pt (pw_or (pt_not (pt_val (pe_def dM (hr.mono (by omega)) (by rfl) (pa_cons (pv 4) (pa_cons (pv 0) pa_nil))))) (pw_or1 (pt_cmpR op_lt (pv 4) (pv 2) (nomark _))))) (pss_one (ps_ret (pe_tup (pa_cons (pv 3) (pa_cons pe_str pa_nil))))) pss_nil)
        (pss_one (ps_set (i := 2) scMaskE.nd rfl (.inl rfl) (pe_op op_add (pv 4) pe_int)))))
      (pss_one (ps_ret pe_non))), ?_⟩
    refine ⟨.ref y, rfl, y, _, rfl, hy, for_enumT (K := K) (xs := xs) (fun i σ H' => Same H H' ∧ ∃ (L : Int) (a b : Option V), σ = [some (.int (n : Int)), some (.ref y), some (.int L), a, b] ∧ errM n 0 0 ds = errM n i L (ds.drop i)) ⟨Same.refl H, 0, none, none, rfl, rfl⟩ (fun i σ H' _ h => Same.sqT h.1 hy) (fun i v σ H' T hv h nT => ?_) (fun σ H' h => ?_)⟩
    · obtain ⟨sm, L, a, b, rfl, hL⟩ := h
      obtain ⟨d, hd, hz⟩ := all.at hv
      have sT := same_new (o := .tup [.int (i : Nat), v]) nT
      have hz' := (hz.same sm).same sT
      have ed : ds.drop i = d :: ds.drop (i + 1) := by
        obtain ⟨h1, h2⟩ := List.getElem?_eq_some_iff.mp hd
        rw [List.drop_eq_getElem_cons h1, h2]
      rw [ed] at hL
      have hE : errM n i L (d :: ds.drop (i + 1)) = if okM n L d = true then errM n (i + 1) (iv d + 1) (ds.drop (i + 1)) else .tuple [.int (i : Nat), .str "mask"] := rfl
      have bad : okM n L d = false → ∀ a' b' : Option V, (∀ H' r, Same H H' → Dz K H' r (errM n 0 0 ds) → Q r H') → ∀ (p : Addr), (upd H' T (.tup [.int (i : Nat), v])) p = none → Q (.ref p) (upd (upd H' T (.tup [.int (i : Nat), v])) p (.tup [.int (i : Nat), .str "mask"])) := fun hb _ _ q p np => by
        have sp := same_new (o := .tup [.int (i : Nat), .str "mask"]) np
        refine q _ _ ((sm.trans sT).trans sp) ?_
        rw [hL, hE, hb, if_neg (by decide)]
        exact dz2 upd_same (.int _) (.str _)
      refine ⟨T, _, rfl, SqT.of upd_same, rfl, _, _, rfl, _, _, rfl, rfl, ?_⟩
      refine ⟨v, rfl, .int n, rfl, v, d, n, rfl, hz', hn, isM n d, rfl, ?_⟩
      cases hm : isM n d with
      | false =>
        have hb : okM n L d = false := by unfold okM; rw [hm]; rfl
        exact iteT ⟨.int (i : Nat), rfl, sz (n := 2) (by decide), fun p np => bad hb a b q p np⟩
      | true =>
        obtain ⟨m, rfl, hm2⟩ := isM_int hm
        cases hz'
        refine iteF ⟨.int m, rfl, .int L, rfl, m, L, rfl, rfl, _, rfl, ?_⟩
        by_cases hlt : (m : Int) < L
        · have hb : okM n L (.int (m : Int)) = false := by
            unfold okM
            rw [hm, Bool.true_and]
            exact decide_eq_false (show ¬ L ≤ (m : Int) by omega)
          rw [decide_eq_true hlt]
          exact iteT ⟨.int (i : Nat), rfl, sz (n := 2) (by decide), fun p np => bad hb a b q p np⟩
        · have hb : okM n L (.int (m : Int)) = true := by
            unfold okM
            rw [hm, Bool.true_and]
            exact decide_eq_true (show L ≤ (m : Int) by omega)
          rw [decide_eq_false hlt]
          refine iteF ⟨.int m, rfl, m, 1, rfl, rfl, sm.trans sT, (m : Int) + 1, _, _, rfl, ?_⟩
          rw [hL, hE, hb, if_pos rfl]
          rfl
    · obtain ⟨sm, L, a, b, rfl, hL⟩ := h
      rw [all.len, List.drop_length] at hL
      exact q H' _ sm (Dz.cast .non hL.symm)
theorem scLotE : FnScope ["value", "width", "masks"] ["value"] (defScope sLotE) := ⟨rfl, rfl, rfl, by decide +kernel, rfl, by decide +kernel, by decide +kernel⟩
def spLotE (K : PySem.W.Frag) : Sp := fun vs H Q _ => ∃ (v : V) (d : PyData), vs = [v] ∧ Dz K H v d ∧ ∀ H' r, Same H H' → Dz K H' r (lotErr d) → Q r H'
theorem lotErr_len {ds : List PyData} (h : ds.length ≠ 2) : lotErr (.tuple ds) = eT "lot" := by
  match ds, h with
  | [], _ => rfl
  | [_], _ => rfl
  | [_, _], h => exact absurd rfl h
  | _ :: _ :: _ :: _, _ => rfl
theorem ok_lotE {f : Addr} {fd : FuncData} {k : Nat} (B : Bl mg) (F : Fun K "lot_error" "lot_error" sLotE f fd) (dW : DefR P w K mg base 2 "is_width" (spIsWZ K)) (dE : DefR P w K mg base 3 "mask_error" (spMaskE K)) : FnOk P w K mg base CX0 (k + 4) f fd ["value"] (spLotE K) := by
  refine F.ok scLotE (fun vs H Q E h => ?_) (fun cdv A outer s H vs Q E hr h => ?_)
  · obtain ⟨v, d, rfl, _⟩ := h
    rfl
  · obtain ⟨v, d, rfl, hd, q⟩ := h
    refine ⟨_, pss_cons (ps_if (PW.pt (pw_or (pt_not (pt_val (pe_callB call_isi (by rfl) B.isinstance bI (pa_cons (pv 0) (pa_cons (pe_bltn (v := .ty "tuple") (by rfl) B.tuple bT rfl) pa_nil))))) (pw_or1 (pt_cmpR op_ne (pe_callB call_len_seq (by rfl) B.len PySem.boot_len (pa_cons (pv 0) pa_nil)) pe_int (nomark _))))) (pss_one (ps_ret (pe_tup (pa_cons pe_non (pa_cons pe_str pa_nil))))) pss_nil)
      (pss_cons (ps_asg (pv 0) (pg_tup rfl (pgs_cons (pg_name (i := 1) scLotE.nd rfl (.inl rfl)) (pgs_cons (pg_name (i := 2) scLotE.nd rfl (.inl rfl)) pgs_nil))))
      (pss_cons (ps_if (pt_not (pt_val (pe_def dW (hr.mono (by omega)) (by rfl) (pa_cons (pv 1) pa_nil)))) (pss_one (ps_ret (pe_tup (pa_cons pe_non (pa_cons pe_str pa_nil))))) pss_nil)
      (pss_cons (ps_if (pt_not (pt_val (pe_callB call_isi (by rfl) B.isinstance bI (pa_cons (pv 2) (pa_cons (pe_bltn (v := .ty "tuple") (by rfl) B.tuple bT rfl) pa_nil))))) (pss_one (ps_ret (pe_tup (pa_cons pe_non (pa_cons pe_str pa_nil))))) pss_nil)
      (pss_one (ps_ret (pe_def dE (hr.mono (by omega)) (by rfl) (pa_cons (pv 1) (pa_cons (pv 2) pa_nil)))))))), ?_⟩
    refine ⟨v, rfl, v, .ty "tuple", _, _, isTp d, rfl, .ty _, hd.ty, kitT d, isTp d, rfl, ?_⟩
    have bad : ∀ (x : Str), lotErr d = eT x → ∀ (p : Addr), H p = none → Q (.ref p) (upd H p (.tup [.non, .str x])) := fun x e p np => by
      refine q _ _ (same_new np) ?_
      rw [e]
      exact dz2 upd_same .non (.str _)
    cases hd with
    | non => exact iteT ⟨sz (n := 2) (by decide), fun p np => bad _ rfl p np⟩
    | bl b => exact iteT ⟨sz (n := 2) (by decide), fun p np => bad _ rfl p np⟩
    | int i => exact iteT ⟨sz (n := 2) (by decide), fun p np => bad _ rfl p np⟩
    | str x => exact iteT ⟨sz (n := 2) (by decide), fun p np => bad _ rfl p np⟩
    | lst _ _ _ => exact iteT ⟨sz (n := 2) (by decide), fun p np => bad _ rfl p np⟩
    | dct kvs _ => exact iteT ⟨sz (n := 2) (by decide), fun p np => bad _ rfl p np⟩
    | @tup a xs ds hx all =>
      have hl := all.len
      refine iteF ⟨.ref a, rfl, a, _, rfl, .inr hx, rfl, _, rfl, ?_⟩
      by_cases h2 : ds.length = 2
      · match ds, h2 with
        | [d1, d2], _ =>
        cases all with
        | @cons v1 _ _ _ hz1 all2 =>
        cases all2 with
        | @cons v2 _ _ _ hz2 all3 =>
        cases all3
        refine iteNS rfl ?_
        refine ⟨.ref a, rfl, a, _, rfl, hx, rfl, _, _, rfl, _, _, rfl, rfl, ?_⟩
        refine ⟨v1, rfl, v1, d1, rfl, hz1, isW d1, rfl, ?_⟩
        have e1 : lotErr (.tuple [d1, d2]) = if isW d1 = true then mskErr (iv d1).toNat d2 else eT "width" := rfl
        cases hw : isW d1 with
        | false => exact iteT ⟨sz (n := 2) (by decide), fun p np => bad _ (by rw [e1, hw, if_neg (by decide)]) p np⟩
        | true =>
          rw [hw, if_pos rfl] at e1
          refine iteF ?_
          obtain ⟨n, rfl, hn1, hn6⟩ := isW_nat hw
          cases hz1
          refine ⟨v2, rfl, v2, .ty "tuple", _, _, isTp d2, rfl, .ty _, hz2.ty, kitT d2, isTp d2, rfl, ?_⟩
          cases hz2 with
          | non => exact iteT ⟨sz (n := 2) (by decide), fun p np => bad _ e1 p np⟩
          | bl b => exact iteT ⟨sz (n := 2) (by decide), fun p np => bad _ e1 p np⟩
          | int i => exact iteT ⟨sz (n := 2) (by decide), fun p np => bad _ e1 p np⟩
          | str x => exact iteT ⟨sz (n := 2) (by decide), fun p np => bad _ e1 p np⟩
          | lst _ _ _ => exact iteT ⟨sz (n := 2) (by decide), fun p np => bad _ e1 p np⟩
          | dct kvs _ => exact iteT ⟨sz (n := 2) (by decide), fun p np => bad _ e1 p np⟩
          | @tup y ys ms hy all4 =>
            exact iteF ⟨.int n, rfl, .ref y, rfl, n, y, ys, ms, rfl, hn6, hy, all4, fun H' r sm hr => q H' r sm (by rw [e1]; exact hr)⟩
      · have e : decide (V.int ((xs.length : Nat) : Int) = V.int 2) = false := decide_eq_false fun z => h2 (by have := V.int.inj z; omega)
        rw [e]
        exact iteT ⟨sz (n := 2) (by decide), fun p np => bad _ (lotErr_len h2) p np⟩
theorem scIsLot : FnScope ["value"] ["value"] (defScope sIsLot) := ⟨rfl, rfl, rfl, by decide +kernel, rfl, by decide +kernel, by decide +kernel⟩
def isNo : PyData → Bool
  | .none => true | _ => false
theorem Dz.isNo {K : PySem.W.Frag} {H : Hp} {v : V} {d : PyData} (h : Dz K H v d) : decide (v = .non) = isNo d := by
  cases h <;> rfl
def spIsLot (K : PySem.W.Frag) : Sp := fun vs H Q _ => ∃ (v : V) (d : PyData), vs = [v] ∧ Dz K H v d ∧ ∀ H', Same H H' → Q (.bl (isNo (lotErr d))) H'
theorem ok_isLot {f : Addr} {fd : FuncData} {k : Nat} (F : Fun K "is_lot" "is_lot" sIsLot f fd) (dE : DefR P w K mg base 4 "lot_error" (spLotE K)) : FnOk P w K mg base CX0 (k + 5) f fd ["value"] (spIsLot K) := by
  refine F.ok scIsLot (fun vs H Q E h => ?_) (fun cdv A outer s H vs Q E hr h => ?_)
  · obtain ⟨v, d, rfl, _⟩ := h
    rfl
  · obtain ⟨v, d, rfl, hv, q⟩ := h
    refine ⟨_, pss_one (ps_ret (pe_cmpR op_isN (pe_def dE (hr.mono (by omega)) (by rfl) (pa_cons (pv 0) pa_nil)) pe_non (nomark _))), ?_⟩
    refine ⟨v, rfl, v, d, rfl, hv, fun H' r sm hz => ⟨rfl, ?_⟩⟩
    have := q H' sm
    rw [← hz.isNo] at this
    exact this
end
end XT
/-! _law_lot_error -/
namespace XT
open PySem PySem.Spec PyProof.Rows L2
section
variable {P : Program} {w : World} {K : PySem.W.Frag} {mg : Str → Option Value} {base : Heap}
theorem scLL : FnScope ["_law_value", "_law_index"] ["_law_value"] (defScope sLLE) := ⟨rfl, rfl, rfl, by decide +kernel, rfl, by decide +kernel, by decide +kernel⟩
theorem isIn_W (d : PyData) : isIn 1 6 d = isW d := by cases d <;> rfl
theorem isIn_M (n : Nat) (d : PyData) : isIn 0 (((2 ^ n : Nat) : Int) - 1) d = isM n d := by
  cases d with
  | int i =>
    show (decide (0 ≤ i) && decide (i ≤ ((2 ^ n : Nat) : Int) - 1)) = (decide (0 ≤ i) && decide (i < ((2 ^ n : Nat) : Int)))
    congr 1
    rw [Bool.eq_iff_iff, decide_eq_true_iff, decide_eq_true_iff]
    omega
  | _ => rfl
def spLL (K : PySem.W.Frag) : Sp := fun vs H Q _ => ∃ (v : V) (d : PyData), vs = [v] ∧ Dz K H v d ∧ zs d ≤ 1000000 ∧ ∀ H' r, Same H H' → Dz K H' r (lotErr d) → Q r H'
/-- what stood ahead -/
def Ahd (ds : List PyData) (i : Nat) (L : Int) : Prop := (i = 0 ∧ L = 0) ∨ ∃ (j : Nat) (m : Int), i = j + 1 ∧ ds[j]? = some (.int m) ∧ L = m + 1
theorem ok_LL {f : Addr} {fd : FuncData} {k : Nat} (B : Bl mg) (F : Fun K "_law_lot_error" "_law_lot_error" sLLE f fd) (dI : DefR P w K mg base 1 "_law_is_int" (spIsInt K)) : FnOk P w K mg base CX0 (k + 2) f fd ["_law_value"] (spLL K) := by
  refine F.ok scLL (fun vs H Q E h => ?_) (fun cdv A outer s H vs Q E hr h => ?_)
  · obtain ⟨v, d, rfl, _⟩ := h
    rfl
  · obtain ⟨v, d, rfl, hd, hzs, q⟩ := h
    have hr1 : Room 1 (A.deeper (envOfC "_law_lot_error" (defScope sLLE) s.heap.objs.size f cdv)) := hr.mono (by omega)
    refine ⟨_, pss_cons (ps_if (PW.pt (pw_or (pt_not (pt_val (pe_callB call_isi (by rfl) B.isinstance bI (pa_cons (pv 0) (pa_cons (pe_bltn (v := .ty "tuple") (by rfl) B.tuple bT rfl) pa_nil))))) (pw_or1 (pt_cmpR op_ne (pe_callB call_len_seq (by rfl) B.len PySem.boot_len (pa_cons (pv 0) pa_nil)) pe_int (nomark _))))) (pss_one (ps_ret (pe_tup (pa_cons pe_non (pa_cons pe_str pa_nil))))) pss_nil)
      (pss_cons (ps_if (pt_not (pt_val (pe_def dI hr1 (by rfl) (pa_cons (pe_ix ix_tup (pv 0) pe_int (fun _ _ => rfl)) (pa_cons pe_int (pa_cons pe_int pa_nil)))))) (pss_one (ps_ret (pe_tup (pa_cons pe_non (pa_cons pe_str pa_nil))))) pss_nil)
      (pss_cons (ps_if (pt_not (pt_val (pe_callB call_isi (by rfl) B.isinstance bI (pa_cons (pe_ix ix_tup (pv 0) pe_int (fun _ _ => rfl)) (pa_cons (pe_bltn (v := .ty "tuple") (by rfl) B.tuple bT rfl) pa_nil))))) (pss_one (ps_ret (pe_tup (pa_cons pe_non (pa_cons pe_str pa_nil))))) pss_nil)
      (pss_cons (ps_for PassesOwn.never rfl (pi_range1 (by rfl) B.range (pa_cons (pe_callB call_len_seq (by rfl) B.len PySem.boot_len (pa_cons (pe_ix ix_tup (pv 0) pe_int (fun _ _ => rfl)) pa_nil)) pa_nil)) (pg_name (i := 1) scLL.nd rfl (.inl rfl))
        (pss_cons (ps_if (pt_not (pt_val (pe_def dI hr1 (by rfl) (pa_cons (pe_ix ix_tup (pe_ix ix_tup (pv 0) pe_int (fun _ _ => rfl)) (pv 1) (fun _ _ => rfl)) (pa_cons pe_int (pa_cons (pe_op op_sub (pe_op op_shl pe_int (pe_ix ix_tup (pv 0) pe_int (fun _ _ => rfl))) pe_int) pa_nil)))))) (pss_one (ps_ret (pe_tup (pa_cons (pv 1) (pa_cons pe_str pa_nil))))) pss_nil)
        (pss_one (ps_if (PW.pt (pw_and (pt_cmpR op_gt (pv 1) pe_int (nomark _)) (pw_and1 (pt_cmpR op_ge (pe_ix ix_tup (pe_ix ix_tup (pv 0) pe_int (fun _ _ => rfl)) (pe_op op_sub (pv 1) pe_int) (fun _ _ => rfl)) (pe_ix ix_tup (pe_ix ix_tup (pv 0) pe_int (fun _ _ => rfl)) (pv 1) (fun _ _ => rfl)) (nomark _))))) (pss_one (ps_ret (pe_tup (pa_cons (pv 1) (pa_cons pe_str pa_nil))))) pss_nil))))
      (pss_one (ps_ret pe_non))))), ?_⟩
    refine ⟨v, rfl, v, .ty "tuple", _, _, isTp d, rfl, .ty _, hd.ty, kitT d, isTp d, rfl, ?_⟩
    have bad : ∀ (x : Str), lotErr d = eT x → ∀ (p : Addr), H p = none → Q (.ref p) (upd H p (.tup [.non, .str x])) := fun x e p np => by
      refine q _ _ (same_new np) ?_
      rw [e]
      exact dz2 upd_same .non (.str _)
    cases hd with
    | non => exact iteT ⟨sz (n := 2) (by decide), fun p np => bad _ rfl p np⟩
    | bl b => exact iteT ⟨sz (n := 2) (by decide), fun p np => bad _ rfl p np⟩
    | int i => exact iteT ⟨sz (n := 2) (by decide), fun p np => bad _ rfl p np⟩
    | str x => exact iteT ⟨sz (n := 2) (by decide), fun p np => bad _ rfl p np⟩
    | lst _ _ _ => exact iteT ⟨sz (n := 2) (by decide), fun p np => bad _ rfl p np⟩
    | dct kvs _ => exact iteT ⟨sz (n := 2) (by decide), fun p np => bad _ rfl p np⟩
    | @tup a xs ds hx all =>
      have hl := all.len
      refine iteF ⟨.ref a, rfl, a, _, rfl, .inr hx, rfl, _, rfl, ?_⟩
      by_cases h2 : ds.length = 2
      · match ds, h2 with
        | [d1, d2], _ =>
        cases all with
        | @cons v1 _ _ _ hz1 all2 =>
        cases all2 with
        | @cons v2 _ _ _ hz2 all3 =>
        cases all3
        refine iteNS rfl ?_
        refine ⟨.ref a, rfl, a, _, 0, v1, rfl, rfl, hx, rfl, v1, d1, 1, 6, rfl, hz1, isW d1, congrArg V.bl (isIn_W d1), ?_⟩
        have e1 : lotErr (.tuple [d1, d2]) = if isW d1 = true then mskErr (iv d1).toNat d2 else eT "width" := rfl
        cases hw : isW d1 with
        | false => exact iteT ⟨sz (n := 2) (by decide), fun p np => bad _ (by rw [e1, hw, if_neg (by decide)]) p np⟩
        | true =>
          rw [hw, if_pos rfl] at e1
          refine iteF ?_
          obtain ⟨n, rfl, hn1, hn6⟩ := isW_nat hw
          cases hz1
          refine ⟨.ref a, rfl, a, _, 1, v2, rfl, rfl, hx, rfl, v2, .ty "tuple", _, _, isTp d2, rfl, .ty _, hz2.ty, kitT d2, isTp d2, rfl, ?_⟩
          cases hz2 with
          | non => exact iteT ⟨sz (n := 2) (by decide), fun p np => bad _ e1 p np⟩
          | bl b => exact iteT ⟨sz (n := 2) (by decide), fun p np => bad _ e1 p np⟩
          | int i => exact iteT ⟨sz (n := 2) (by decide), fun p np => bad _ e1 p np⟩
          | str x => exact iteT ⟨sz (n := 2) (by decide), fun p np => bad _ e1 p np⟩
          | lst _ _ _ => exact iteT ⟨sz (n := 2) (by decide), fun p np => bad _ e1 p np⟩
          | dct kvs _ => exact iteT ⟨sz (n := 2) (by decide), fun p np => bad _ e1 p np⟩
          | @tup y ys ms hy all4 =>
            have hlen := all4.len
            have e2 : lotErr (.tuple [.int (n : Int), .tuple ms]) = errM n 0 0 ms := e1
            have hsm : ys.length ≤ 1000000 := by
              have h1 : (60 + 2 + (zsAll ms + 4 + 2 + 0)) + 4 ≤ 1000000 := hzs
              have := zsAll_len ms
              omega
            refine iteF ⟨.ref a, rfl, a, _, 1, .ref y, rfl, rfl, hx, rfl, y, ys, rfl, .inr hy, ys.length, rfl, by omega, by omega, for_range (lo := 0) (n := ys.length) (fun i σ H' => Same H H' ∧ ∃ (L : Int) (z : Option V), σ = [some (.ref a), z] ∧ Ahd ms i L ∧ errM n 0 0 ms = errM n i L (ms.drop i)) ⟨Same.refl H, 0, none, rfl, .inl ⟨rfl, rfl⟩, rfl⟩ (fun i σ H' hi h => ?_) (fun σ H' h => ?_)⟩
            · obtain ⟨sm, L, z, rfl, ah, hL⟩ := h
              have hyi : ys[i]? = some ys[i] := List.getElem?_eq_getElem hi
              obtain ⟨d, hd, hz⟩ := all4.at hyi
              have hz' := hz.same sm
              have hx' : SqT K H' a [.int (n : Int), .ref y] := Same.sqT sm hx
              have hy' : SqT K H' y ys := Same.sqT sm hy
              have ed : ms.drop i = d :: ms.drop (i + 1) := by
                obtain ⟨h1, h2⟩ := List.getElem?_eq_some_iff.mp hd
                rw [List.drop_eq_getElem_cons h1, h2]
              rw [ed] at hL
              have hE : errM n i L (d :: ms.drop (i + 1)) = if okM n L d = true then errM n (i + 1) (iv d + 1) (ms.drop (i + 1)) else .tuple [.int (i : Nat), .str "mask"] := rfl
              have bad2 : okM n L d = false → ∀ (p : Addr), H' p = none → Q (.ref p) (upd H' p (.tup [.int (0 + (i : Int)), .str "mask"])) := fun hb p np => by
                have sp := same_new (o := .tup [.int (0 + (i : Int)), .str "mask"]) np
                refine q _ _ (sm.trans sp) ?_
                rw [e2, hL, hE, hb, if_neg (by decide)]
                refine Dz.cast (dz2 upd_same (.int _) (.str _)) ?_
                rw [Int.zero_add]
              have ati : atI ys (0 + (i : Int)) = some ys[i] := by rw [Int.zero_add]; exact atI_nat hyi
              refine ⟨.ref a, rfl, a, _, 1, .ref y, rfl, rfl, hx', rfl, .int (0 + (i : Int)), rfl, y, ys, 0 + (i : Int), ys[i], rfl, rfl, hy', ati, ?_⟩
              refine ⟨.ref a, rfl, a, _, 0, .int (n : Int), rfl, rfl, hx', rfl, 1, n, rfl, rfl, cpow hn6, _, 1, rfl, rfl, ys[i], d, 0, _, rfl, hz', isM n d, ?_, ?_⟩
              · show V.bl (isIn 0 (1 * 2 ^ ((n : Int).toNat) - 1) d) = V.bl (isM n d)
                rw [shl1, isIn_M]
              cases hm : isM n d with
              | false =>
                have hb : okM n L d = false := by unfold okM; rw [hm]; rfl
                exact iteT ⟨.int (0 + (i : Int)), rfl, sz (n := 2) (by decide), fun p np => bad2 hb p np⟩
              | true =>
                obtain ⟨m, rfl, hm2⟩ := isM_int hm
                have evi : ys[i] = .int (m : Int) := by
                  cases hyv : ys[i] with
                  | int x => rw [hyv] at hz'; cases hz'; rfl
                  | _ => rw [hyv] at hz'; cases hz'
                rw [evi] at ati
                refine iteF ⟨.int (0 + (i : Int)), rfl, 0 + (i : Int), 0, rfl, rfl, _, rfl, ?_⟩
                rcases ah with ⟨rfl, rfl⟩ | ⟨j, mj, rfl, hj, rfl⟩
                · have e0 : decide ((0 : Int) < 0 + ((0 : Nat) : Int)) = false := by decide
                  have hb : okM n 0 (.int (m : Int)) = true := by
                    unfold okM
                    rw [hm, Bool.true_and]
                    exact decide_eq_true (show (0 : Int) ≤ (m : Int) by omega)
                  refine ite2 (fun z => absurd z (by decide)) (fun _ => iteF ⟨sm, (m : Int) + 1, _, rfl, .inr ⟨0, m, rfl, hd, rfl⟩, ?_⟩)
                  rw [hL, hE, hb, if_pos rfl]
                  rfl
                · refine ite2 (fun _ => ?_) (fun z => absurd (decide_eq_true (show (0 : Int) + ((j + 1 : Nat) : Int) > 0 by omega)) z)
                  have hyj : ys[j]? = some (.int mj) := by
                    have hjl : j < ys.length := by omega
                    obtain ⟨dj, hdj, hzj⟩ := all4.at (List.getElem?_eq_getElem hjl)
                    rw [hj] at hdj
                    cases hdj
                    rw [List.getElem?_eq_getElem hjl]
                    cases hyv : ys[j] with
                    | int x => rw [hyv] at hzj; cases hzj; rfl
                    | _ => rw [hyv] at hzj; cases hzj
                  have atj : atI ys (0 + ((j + 1 : Nat) : Int) - 1) = some (.int mj) := by
                    rw [show (0 : Int) + ((j + 1 : Nat) : Int) - 1 = (j : Int) by omega]
                    exact atI_nat hyj
                  refine ⟨.ref a, rfl, a, _, 1, .ref y, rfl, rfl, hx', rfl, .int (0 + ((j + 1 : Nat) : Int)), rfl, _, 1, rfl, rfl, y, ys, _, .int mj, rfl, rfl, hy', atj, ?_⟩
                  refine ⟨.ref a, rfl, a, _, 1, .ref y, rfl, rfl, hx', rfl, .int (0 + ((j + 1 : Nat) : Int)), rfl, y, ys, _, .int (m : Int), rfl, rfl, hy', ati, mj, m, rfl, rfl, _, rfl, ?_⟩
                  by_cases hge : mj ≥ (m : Int)
                  · have hb : okM n (mj + 1) (.int (m : Int)) = false := by
                      unfold okM
                      rw [hm, Bool.true_and]
                      exact decide_eq_false (show ¬ mj + 1 ≤ (m : Int) by omega)
                    refine ite2 (fun _ => ⟨.int (0 + ((j + 1 : Nat) : Int)), rfl, sz (n := 2) (by decide), fun p np => bad2 hb p np⟩) (fun z => absurd (decide_eq_true hge) z)
                  · have hb : okM n (mj + 1) (.int (m : Int)) = true := by
                      unfold okM
                      rw [hm, Bool.true_and]
                      exact decide_eq_true (show mj + 1 ≤ (m : Int) by omega)
                    refine ite2 (fun z => absurd (of_decide_eq_true z) hge) (fun _ => ⟨sm, (m : Int) + 1, _, rfl, .inr ⟨j + 1, m, rfl, hd, rfl⟩, ?_⟩)
                    rw [hL, hE, hb, if_pos rfl]
                    rfl
            · obtain ⟨sm, L, z, rfl, ah, hL⟩ := h
              rw [hlen, List.drop_length] at hL
              exact q H' _ sm (Dz.cast .non (by rw [e2, hL]; rfl))
      · have e : decide (V.int ((xs.length : Nat) : Int) = V.int 2) = false := decide_eq_false fun z => h2 (by have := V.int.inj z; omega)
        rw [e]
        exact iteT ⟨sz (n := 2) (by decide), fun p np => bad _ (lotErr_len h2) p np⟩
end
end XT
/-! _law_bent -/
namespace XT
open PySem PySem.Spec PyProof.Rows L2
section
variable {X : Cx}
theorem cutV_whole {xs : List V} {lo hi : Option Int} (h : HT.sIx xs.length 0 lo = 0 ∧ HT.sIx xs.length xs.length hi = xs.length) : cutV xs lo hi = xs := by
  unfold cutV
  rw [h.1, h.2, List.drop_zero, Nat.sub_zero, List.take_length]
/-- a cut of a tuple, the same one or a new one -/
def rSlU (K : PySem.W.Frag) : V → Option Int → Option Int → Hp → VK → Prop := fun x lo hi H Q => ∃ a xs, x = .ref a ∧ SqT K H a xs ∧ ∀ H' p, Same H H' → SqT K H' p (cutV xs lo hi) → Q (.ref p) H'
theorem sl_tupU : SlR X (rSlU X.K) := by
  intro pins s σ H x v vl vu lo hi sl Q I rx hs pl pu h
  obtain ⟨a, xs, rfl, hx, q⟩ := h
  refine sl_tupA pins s σ H _ v vl vu lo hi sl Q I rx hs pl pu ⟨a, xs, rfl, hx, fun hw => q H a (Same.refl H) (by rw [cutV_whole hw]; exact hx), fun _ p np => q _ p (same_new np) (SqT.of upd_same)⟩
/-- t + u -/
def rCatU (K : PySem.W.Frag) : R2 := fun x y H Q => ∃ a b xs ys, x = .ref a ∧ y = .ref b ∧ SqT K H a xs ∧ SqT K H b ys ∧ xs.length + ys.length ≤ sizeLine ∧ ∀ H' p, Same H H' → SqT K H' p (xs ++ ys) → Q (.ref p) H'
theorem op_catU : OpR X (binaryOp .Add) (rCatU X.K) := by
  intro pins s σ H x y v u Q I rx ry h
  obtain ⟨a, b, xs, ys, rfl, rfl, ha, hb, hz, q⟩ := h
  refine op_catA pins s σ H _ _ v u Q I rx ry ⟨a, b, xs, ys, rfl, rfl, ha, hb, hz, fun e => q H b (Same.refl H) (by rw [e]; exact hb), fun _ e => q H a (Same.refl H) (by rw [e, List.append_nil]; exact ha), fun _ _ p np => q _ p (same_new np) (SqT.of upd_same)⟩
end
theorem gd_non {M : Nat} : Gd M 10 0 .none := ⟨trivial, Nat.le_refl _, Nat.le_refl _⟩
theorem gd_bl {M : Nat} (b : Bool) : Gd M 10 0 (.bool b) := ⟨trivial, Nat.le_refl _, Nat.le_refl _⟩
theorem gd_int {M : Nat} {i : Int} (h : i.natAbs ≤ M) : Gd M 60 0 (.int i) := ⟨h, Nat.le_refl _, Nat.le_refl _⟩
theorem gd_str {M n : Nat} {x : Str} (h : TxOk x) (l : x.length ≤ n) : Gd M (10 * n + 2) 0 (.str x) := ⟨h, by show 10 * x.length + 2 ≤ _; omega, Nat.le_refl _⟩
theorem gd_odd : ∀ d ∈ oddD, Gd (10 ^ 39) 200 3 d := by
  unfold oddD
  have hs : ∀ (s : String), (Str.ofString s).length ≤ 3 → Gd (10 ^ 39) 200 3 (.str (Str.ofString s)) := fun s h => (gd_str (TxOk.of s) h).mono (Nat.le_refl _) (by omega) (by omega)
  have hi : ∀ i : Int, i.natAbs ≤ 10 ^ 39 → Gd (10 ^ 39) 60 0 (.int i) := fun i h => gd_int h
  have hi3 : ∀ i : Int, i.natAbs ≤ 10 ^ 39 → Gd (10 ^ 39) 200 3 (.int i) := fun i h => (gd_int h).mono (Nat.le_refl _) (by omega) (by omega)
  repeat' (first | exact List.forall_mem_nil _ | refine List.forall_mem_cons.mpr ⟨?_, ?_⟩)
  · exact gd_non.mono (Nat.le_refl _) (by omega) (by omega)
  · exact (gd_bl _).mono (Nat.le_refl _) (by omega) (by omega)
  · exact (gd_bl _).mono (Nat.le_refl _) (by omega) (by omega)
  all_goals first
    | exact hi3 _ (by decide)
    | exact hs "" (by decide)
    | exact hs "0" (by decide)
    | exact hs "lot" (by decide)
    | exact hs "01" (by decide)
    | exact (GdAll.nil (k := 0)).tuple.mono (Nat.le_refl _) (by omega) (by omega)
    | exact (GdAll.nil (k := 0)).list.mono (Nat.le_refl _) (by omega) (by omega)
    | exact (GdAll.cons (hi 0 (by decide)) GdAll.nil).tuple.mono (Nat.le_refl _) (by omega) (by omega)
    | exact (GdAll.cons (hi 0 (by decide)) GdAll.nil).list.mono (Nat.le_refl _) (by omega) (by omega)
    | exact (GdAll.cons (gd_bl true) GdAll.nil).tuple.mono (Nat.le_refl _) (by omega) (by omega)
    | exact (GdAll.cons (hi 0 (by decide)) (GdAll.cons (hi 1 (by decide)) GdAll.nil)).tuple.mono (Nat.le_refl _) (by omega) (by omega)
    | exact (GdAll.cons ((hi 2 (by decide)).mono (Nat.le_refl _) (Nat.le_refl _) (Nat.zero_le 1)) (GdAll.cons (GdAll.cons (hi 0 (by decide)) GdAll.nil).tuple GdAll.nil)).tuple.mono (Nat.le_refl _) (by omega) (by omega)
    | exact ⟨⟨by decide +kernel, by decide +kernel⟩, by decide, by decide⟩
abbrev nBt : List Str := ["_law_stream_here", "_law_value", "_law_deep", "_law_spot", "_law_some"]
theorem scBt : FnScope nBt ["_law_stream_here", "_law_value", "_law_deep"] (defScope sBent) := ⟨rfl, rfl, rfl, by decide +kernel, rfl, by decide +kernel, by decide +kernel⟩
theorem cutD_gd {M n k : Nat} {ds : List PyData} (h : GdAll M n k ds) (lo hi : Option Int) : GdAll M n k (cutD ds lo hi) := (h.drop _).take _
theorem cutD_take {ds : List PyData} {i : Nat} (h : i ≤ ds.length) : cutD ds none (some (i : Int)) = ds.take i := by
  unfold cutD
  rw [HT.sIx_none, HT.sIx_nat, List.drop_zero, Nat.sub_zero, Nat.min_eq_left h]
theorem cutD_drop {ds : List PyData} {i : Nat} (h : i ≤ ds.length) : cutD ds (some (i : Int)) none = ds.drop i := by
  unfold cutD
  rw [HT.sIx_none, HT.sIx_nat, Nat.min_eq_left h]
  exact List.take_of_length_le (by rw [List.length_drop]; exact Nat.le_refl _)
theorem cutV_len {xs : List V} {lo hi : Option Int} : (cutV xs lo hi).length ≤ xs.length := cutV_length xs lo hi
section
variable {P : Program} {w : World} {K : PySem.W.Frag} {mg : Str → Option Value} {base : Heap}
def spDrawM : Sp := fun vs H Q _ => ∃ (S : Sm) (t : Int) (m : Nat), vs = [.ref S.s, .int (m : Int)] ∧ Strm S H t ∧ 0 < m ∧ m ≤ 10000000 ∧ t < 100000000 ∧
  ∀ (H' : Hp) (r : Nat) (t' : Int), Step S H t H' t' 1 → r < m → Q (.int (r : Int)) H'
theorem drawM {k : Nat} {x : Str} (D : DefR P w K mg base k x spDraw) : DefR P w K mg base k x spDrawM := by
  obtain ⟨f, F, h1, h2⟩ := D
  refine ⟨f, F.imp fun vs H Q E ⟨S, t, m, ev, st, m0, m1, t1, q⟩ => ⟨S, t, m, ev, st, by omega, by omega, by omega, fun H' r t' k s a b r0 r1 => ?_⟩, h1, h2⟩
  obtain ⟨n, rfl⟩ := Int.eq_ofNat_of_zero_le r0
  exact q H' n t' ⟨k, s, a, b⟩ (by omega)
def spBent (K : PySem.W.Frag) (dp : Nat) : Sp := fun vs H Q _ => ∃ (S : Sm) (t : Int) (v : V) (d : PyData) (M n k : Nat), vs = [.ref S.s, v, .int (dp : Int)] ∧ Strm S H t ∧ t + 10 * (dp + 1) < 100000 ∧ Ds K S H v d ∧ Gd M n k d ∧ 10 ^ 39 ≤ M ∧ M < 10 ^ 39 + 10 ∧ n ≤ 1000000 ∧
  ∀ (H' : Hp) (v' : V) (d' : PyData) (t' : Int), Step S H t H' t' (10 * (dp + 1)) → Ds K S H' v' d' → Gd (M + 1) (3 * n + 900) (k + 4) d' → Q v' H'
def MidB (K : PySem.W.Frag) (S : Sm) (H : Hp) (t : Int) (v : V) (dp : Nat) (M n k c : Nat) (σ : L2.St) (H' : Hp) : Prop := ∃ (L : Addr) (xs : List V) (ds : List PyData) (t' : Int),
  σ = [some (.ref S.s), some v, some (.int (dp : Int)), none, some (.ref L)] ∧ Step S H t H' t' 3 ∧ H' L = some (.lst xs) ∧ L ≠ S.s ∧ L ≠ S.p ∧ DsAll K S H' xs ds ∧ 4 ≤ ds.length ∧ ds.length ≤ c ∧ ∀ e ∈ ds, Gd (M + 1) (3 * n + 900) (k + 4) e
theorem szl {n m : Nat} (h : n ≤ m) (hm : m ≤ 10000000) : n ≤ sizeLine := by rw [sizeLine_eq]; omega
theorem ok_bent {f : Addr} {fd : FuncData} {j dp : Nat} {sB : Sp} (B : Bl mg) (mLi : mg "list" = none) (mS : mg "str" = none) (F : Fun K "_law_bent" "_law_bent" sBent f fd) (dD : DefR P w K mg base 1 "_law_draw" spDrawM) (dO : DefR P w K mg base 2 "_law_odd" (spOddS K)) (dP : DefR P w K mg base 2 "_law_pick" (spPick K))
    (dB : DefR P w K mg base j "_law_bent" sB) (hj : 2 ≤ j) (hB : ∀ dq, dp = dq + 1 → ∀ vs H Q E, spBent K dq vs H Q E → sB vs H Q E) : FnOk P w K mg base CX0 (j + 1) f fd ["_law_stream_here", "_law_value", "_law_deep"] (spBent K dp) := by
  refine F.ok scBt (fun vs H Q E h => ?_) (fun cdv A outer s H vs Q E hr h => ?_)
  · obtain ⟨S, t, v, d, M, n, k, rfl, _⟩ := h
    rfl
  · obtain ⟨S, t, v, d, M, n, k, rfl, st, ht, hd, gd, hM1, hM2, hn, q⟩ := h
    have hr1 : Room 1 (A.deeper (envOfC "_law_bent" (defScope sBent) s.heap.objs.size f cdv)) := hr.mono (by omega)
    have hr2 : Room 2 (A.deeper (envOfC "_law_bent" (defScope sBent) s.heap.objs.size f cdv)) := hr.mono (by omega)
    have hu : (A.deeper (envOfC "_law_bent" (defScope sBent) s.heap.objs.size f cdv)).units < cLine := hr.units0
    refine ⟨_, C8.pss_cut (ps_if (PW.pt (pw_and (pt_cmpR op_gt (pv 2) pe_int (nomark _)) (pw_and (pt_val (pe_callB call_isi (by rfl) B.isinstance bI (pa_cons (pv 1) (pa_cons (pe_bltn (v := .ty "tuple") (by rfl) B.tuple bT rfl) pa_nil))))
          (pw_and (pt_cmpR (op_neE hu) (pv 1) (pe_tup pa_nil) (nomark _)) (pw_and1 (pt_cmpR op_gt (pe_def dD hr1 (by rfl) (pa_cons (pv 0) (pa_cons pe_int pa_nil))) pe_int (nomark _)))))))
        (pss_cons (ps_set (i := 3) scBt.nd rfl (.inl rfl) (pe_def dD hr1 (by rfl) (pa_cons (pv 0) (pa_cons (pe_callB call_len_seq (by rfl) B.len PySem.boot_len (pa_cons (pv 1) pa_nil)) pa_nil))))
        (pss_one (ps_ret (pe_op op_catU (pe_op op_catU (pe_slice sl_tupU (pv 1) po_none (po_some (pv 3))) (pe_tup (pa_cons (pe_def dB hr (by rfl) (pa_cons (pv 0) (pa_cons (pe_ix ix_tup (pv 1) (pv 3) (fun _ _ => rfl)) (pa_cons (pe_op op_sub (pv 2) pe_int) pa_nil)))) pa_nil)))
          (pe_slice sl_tupU (pv 1) (po_some (pe_op op_add (pv 3) pe_int)) po_none))))) pss_nil)
      (C8.pss_cut (ps_set (i := 4) scBt.nd rfl (.inl rfl) (pe_lst (pa_cons (pe_def dO hr2 (by rfl) (pa_cons (pv 0) pa_nil)) (pa_cons (pe_def dO hr2 (by rfl) (pa_cons (pv 0) pa_nil)) (pa_cons (pe_tup (pa_cons pe_int (pa_cons (pe_tup pa_nil) pa_nil))) (pa_cons pe_int pa_nil))))))
      (C8.pss_cut (ps_if (pt_val (pe_callB call_isi (by rfl) B.isinstance bI (pa_cons (pv 1) (pa_cons (pe_bltn (v := .ty "tuple") (by rfl) B.tuple bT rfl) pa_nil))))
        (pss_one (ps_set (i := 4) scBt.nd rfl (.inl rfl) (pe_op op_cat (pv 4) (pe_lst (pa_cons (pe_callTy call_listB (by rfl) mLi boot_list (pa_cons (pv 1) pa_nil)) (pa_cons (pe_slice sl_tupU (pv 1) (po_some pe_int) po_none)
          (pa_cons (pe_op op_catU (pv 1) (pe_slice sl_tupU (pv 1) (po_some (pe_un un_neg pe_int)) po_none)) (pa_cons (pe_revT (pv 1) (pe_un un_neg pe_int)) (pa_cons (pe_tup (pa_cons (pv 1) pa_nil)) (pa_cons (pe_op op_catU (pv 1) (pe_tup (pa_cons pe_non pa_nil))) (pa_cons (pe_slice sl_tupU (pv 1) po_none (po_some (pe_un un_neg pe_int))) pa_nil)))))))))))
        (pss_one (ps_if (pt_val (pe_callB call_isi (by rfl) B.isinstance bI (pa_cons (pv 1) (pa_cons (pe_bltn (v := .ty "str") (by rfl) mS boot_str rfl) pa_nil))))
          (pss_one (ps_set (i := 4) scBt.nd rfl (.inl rfl) (pe_op op_cat (pv 4) (pe_lst (pa_cons (pe_op op_add_str (pv 1) pe_str) (pa_cons (pe_slice sl_str (pv 1) (po_some pe_int) po_none) (pa_cons (pe_upper (pv 1)) (pa_cons (pe_op op_add_str (pv 1) pe_str) (pa_cons (pe_lstB (pa_cons (pv 1) pa_nil)) pa_nil)))))))))
          (pss_one (ps_if (pt_val (pe_callB call_isi (by rfl) B.isinstance bI (pa_cons (pv 1) (pa_cons (pe_bltn (v := .ty "int") (by rfl) B.int bInt rfl) pa_nil))))
            (pss_one (ps_set (i := 4) scBt.nd rfl (.inl rfl) (pe_op op_cat (pv 4) (pe_lst (pa_cons (pe_op (OpR.or op_add op_add_bi) (pv 1) pe_int) (pa_cons (pe_op (OpR.or op_sub op_sub_bi) (pv 1) pe_int) (pa_cons pe_int (pa_cons (pe_un un_neg pe_int) (pa_cons (pe_callTy (CallR.or call_str_int call_str_bool) (by rfl) mS boot_str (pa_cons (pv 1) pa_nil)) (pa_cons (pe_cmpR (OpR.or op_eq op_eq_bi) (pv 1) pe_int (nomark _)) pa_nil))))))))))
            pss_nil)))))
      (pss_one (ps_ret (pe_def dP hr2 (by rfl) (pa_cons (pv 0) (pa_cons (pv 4) pa_nil))))))), ?_⟩
    -- the part within
    refine ⟨fun σ H' => ∃ t', σ = [some (.ref S.s), some v, some (.int (dp : Int)), none, none] ∧ Step S H t H' t' 1, ?_, fun σ1 H1 mid1 => ?_⟩
    · refine ⟨.int dp, rfl, dp, 0, rfl, rfl, _, rfl, ite2 (fun e0 => ?_) (fun _ => iteF ⟨t, rfl, (Step.refl st).mono (by omega)⟩)⟩
      have hdp : 0 < dp := by have := of_decide_eq_true e0; omega
      refine ⟨v, rfl, v, .ty "tuple", _, _, isTp d, rfl, .ty _, hd.dz.ty, kitT d, isTp d, rfl, ?_⟩
      cases hd with
      | non => exact iteF (iteF ⟨t, rfl, (Step.refl st).mono (by omega)⟩)
      | bl b => exact iteF (iteF ⟨t, rfl, (Step.refl st).mono (by omega)⟩)
      | int i => exact iteF (iteF ⟨t, rfl, (Step.refl st).mono (by omega)⟩)
      | str x => exact iteF (iteF ⟨t, rfl, (Step.refl st).mono (by omega)⟩)
      | lst _ _ _ _ => exact iteF (iteF ⟨t, rfl, (Step.refl st).mono (by omega)⟩)
      | dct kvs _ => exact iteF (iteF ⟨t, rfl, (Step.refl st).mono (by omega)⟩)
      | @tup a xs ds hx all =>
        obtain ⟨ga, hn4, hk1⟩ := gd.all
        have hl := all.len
        have hls := zsAll_len ds
        have hgz := ga.z
        refine iteT ⟨.ref a, rfl, sz (n := 0) (by decide), fun E0 nE0 => ?_⟩
        have sE := same_new (o := .tup []) nE0
        refine ⟨a, E0, xs, rfl, rfl, Same.sqT sE hx, SqT.of upd_same, _, rfl, ?_⟩
        have stE := (Step.refl st).same sE
        cases xs with
        | nil => exact iteF (iteF ⟨t, rfl, stE.mono (by omega)⟩)
        | cons x0 xs0 =>
          refine iteT ⟨.ref S.s, rfl, S, t, 6, rfl, stE.st, by omega, by omega, by omega, fun H2 r t2 s2 hr6 => ⟨r, 0, rfl, rfl, _, rfl, ?_⟩⟩
          have st2 := stE.trans s2
          refine ite2 (fun e => ?_) (fun e => ?_)
          · -- value[:spot] + (bent,) + value[spot + 1:]
            have hx2 : SqT K H2 a (x0 :: xs0) := s2.keep.sqT stE.st (Same.sqT sE hx)
            have all2 : DsAll K S H2 (x0 :: xs0) ds := (all.same sE).keep s2.keep stE.st
            have hi2 := s2.hi
            refine ⟨.ref S.s, rfl, .ref a, rfl, a, _, rfl, .inr hx2, S, t2, (x0 :: xs0).length, rfl, st2.st, Nat.succ_pos _, by omega, by omega, fun H3 spot t3 s3 hsp => ?_⟩
            have hi3 := s3.hi
            have hx3 : SqT K H3 a (x0 :: xs0) := s3.keep.sqT st2.st hx2
            have all3 : DsAll K S H3 (x0 :: xs0) ds := all2.keep s3.keep st2.st
            refine ⟨.ref a, rfl, .int spot, rfl, spot, rfl, a, _, rfl, hx3, fun H4 p4 s4 h4 => ?_⟩
            have st4 := (st2.trans s3).same s4
            have hx4 : SqT K H4 a (x0 :: xs0) := Same.sqT s4 hx3
            have all4 : DsAll K S H4 (x0 :: xs0) ds := all3.same s4
            have hat : (x0 :: xs0)[spot]? = some (x0 :: xs0)[spot] := List.getElem?_eq_getElem hsp
            obtain ⟨ds1, hds1, hz1⟩ := all4.at hat
            have hspd : spot < ds.length := by omega
            have hmem := List.mem_of_getElem? hds1
            have eds : ds = ds.take spot ++ ds1 :: ds.drop (spot + 1) := by
              obtain ⟨h1, h2⟩ := List.getElem?_eq_some_iff.mp hds1
              rw [← h2, ← List.drop_eq_getElem_cons h1, List.take_append_drop]
            have ez : zsAll ds = zsAll (ds.take spot) + (zs ds1 + 2 + zsAll (ds.drop (spot + 1))) := by
              conv => lhs; rw [eds]
              rw [zsAll_app]
              rfl
            have g1 : Gd M (zs ds1) (k - 1) ds1 := ⟨(ga.at hmem).f, Nat.le_refl _, (ga.at hmem).p⟩
            obtain ⟨dq, rfl⟩ : ∃ dq, dp = dq + 1 := ⟨dp - 1, by omega⟩
            refine ⟨.ref S.s, rfl, .ref a, rfl, .int spot, rfl, a, _, spot, _, rfl, rfl, hx4, atI_nat hat, .int ((dq + 1 : Nat) : Int), rfl, ((dq + 1 : Nat) : Int), 1, rfl, rfl, ?_⟩
            refine hB dq rfl _ _ _ _ ⟨S, t3, _, ds1, M, zs ds1, k - 1, ?_, st4.st, by omega, hz1, g1, hM1, hM2, by omega, fun H5 v5 d5 t5 s5 hz5 g5 => ?_⟩
            · show [V.ref S.s, _, V.int (((dq + 1 : Nat) : Int) - 1)] = _
              rw [show ((dq + 1 : Nat) : Int) - 1 = (dq : Int) by omega]
            have st5 := st4.trans s5
            refine ⟨sz (n := 1) (by decide), fun p6 np6 => ?_⟩
            have s6 := same_new (o := .tup [v5]) np6
            have h46 : SqT K (upd H5 p6 (.tup [v5])) p4 (cutV (x0 :: xs0) none (some (spot : Int))) := Same.sqT s6 (s5.keep.sqT st4.st h4)
            have a46 : DsAll K S (upd H5 p6 (.tup [v5])) (cutV (x0 :: xs0) none (some (spot : Int))) (cutD ds none (some (spot : Int))) := ((all4.cut _ _).keep s5.keep st4.st).same s6
            have lcut := cutV_len (xs := x0 :: xs0) (lo := none) (hi := some (spot : Int))
            refine ⟨p4, p6, _, _, rfl, rfl, h46, SqT.of upd_same, szl (m := 1000001) (by show _ + 1 ≤ _; omega) (by omega), fun H7 p7 s7 h7 => ?_⟩
            have st7 := (st5.same s6).same s7
            have hx7 : SqT K H7 a (x0 :: xs0) := Same.sqT s7 (Same.sqT s6 (s5.keep.sqT st4.st hx4))
            have all7 : DsAll K S H7 (x0 :: xs0) ds := ((all4.keep s5.keep st4.st).same s6).same s7
            refine ⟨.ref a, rfl, .int spot, rfl, spot, 1, rfl, rfl, (spot : Int) + 1, rfl, a, _, rfl, hx7, fun H8 p8 s8 h8 => ?_⟩
            have lcut2 := cutV_len (xs := x0 :: xs0) (lo := some ((spot : Int) + 1)) (hi := none)
            refine ⟨p7, p8, _, _, rfl, rfl, Same.sqT s8 h7, h8, szl (m := 2000002) (by rw [List.length_append]; show _ + 1 + _ ≤ _; omega) (by omega), fun H9 p9 s9 h9 => ?_⟩
            have st9 := (st7.same s8).same s9
            refine q H9 _ (.tuple ((ds.take spot ++ [d5]) ++ ds.drop (spot + 1))) t5 (st9.mono (by omega)) (.tup h9 ?_) ?_
            · have b1 := ((a46.same s7).same s8).same s9
              have b2 := (((hz5.same s6).same s7).same s8).same s9
              have b3 := ((all7.cut (some ((spot : Int) + 1)) none).same s8).same s9
              rw [cutD_take (Nat.le_of_lt hspd)] at b1
              rw [show (spot : Int) + 1 = ((spot + 1 : Nat) : Int) by omega, cutD_drop hspd] at b3
              exact (b1.app (.cons b2 .nil)).app b3
            · have k1 := ((ga.take spot).mono (show M ≤ M + 1 by omega) (Nat.le_refl _) (show k - 1 ≤ k + 3 by omega))
              have k3 := ((ga.drop (spot + 1)).mono (show M ≤ M + 1 by omega) (Nat.le_refl _) (show k - 1 ≤ k + 3 by omega))
              have k2 := g5.mono (Nat.le_refl _) (Nat.le_refl _) (show k - 1 + 4 ≤ k + 3 by omega)
              have k4 : GdAll (M + 1) (zsAll (ds.take spot) + (3 * zs ds1 + 900 + 2 + 0) + zsAll (ds.drop (spot + 1))) (k + 3) ((ds.take spot ++ [d5]) ++ ds.drop (spot + 1)) :=
                (GdAll.app (GdAll.app ⟨k1.f, Nat.le_refl _, k1.p⟩ (GdAll.cons k2 GdAll.nil)) ⟨k3.f, Nat.le_refl _, k3.p⟩)
              exact k4.tuple.mono (Nat.le_refl _) (by omega) (by omega)
          · exact ⟨t2, rfl, st2.mono (by omega)⟩
    obtain ⟨t1, rfl, s1⟩ := mid1
    have gM : ∀ {e : PyData} {n' k' : Nat}, Gd M n' k' e → n' ≤ 3 * n + 900 → k' ≤ k + 4 → Gd (M + 1) (3 * n + 900) (k + 4) e := fun g a b => g.mono (by omega) a b
    have gO : ∀ e ∈ oddD, Gd (M + 1) (3 * n + 900) (k + 4) e := fun e he => (gd_odd e he).mono (by omega) (by omega) (by omega)
    have hi1 := s1.hi
    have h391 : 1 ≤ 10 ^ 39 := by decide
    have h3964 : 64 ≤ 10 ^ 39 := by decide
    -- some = [..]
    refine ⟨MidB K S H t v dp M n k 4, ?_, fun σ2 H2 mid2 => ?_⟩
    · refine ⟨.ref S.s, rfl, S, t1, rfl, s1.st, by omega, fun H2 u1 d1 t2 s2 z1 m1 => ⟨.ref S.s, rfl, S, t2, rfl, s2.st, by have := s2.hi; omega, fun H3 u2 d2 t3 s3 z2 m2 => ⟨sz (n := 0) (by decide), fun T1 nT1 => ⟨sz (n := 2) (by decide), fun T2 nT2 => ⟨sz (n := 4) (by decide), fun L nL => ?_⟩⟩⟩⟩⟩
      have c1 := same_new (o := .tup []) nT1
      have c2 := same_new (o := .tup [.int 1, .ref T1]) nT2
      have c3 := same_new (o := .lst [u1, u2, .ref T2, .int 5]) nL
      have stp := (((s1.trans s2).trans s3).same c1).same c2
      have ne := strm_ne stp.st nL
      refine ⟨L, _, [d1, d2, .tuple [.int 1, .tuple []], .int 5], t3, rfl, (stp.same c3).mono (by omega), upd_same, ne.1, ne.2.1, ?_, (by show 4 ≤ 4; decide), (by show 4 ≤ 4; decide), ?_⟩
      · have x1 := (((z1.keep s3.keep s2.st).same c1).same c2).same c3
        have x2 := ((z2.same c1).same c2).same c3
        have hT1 : SqT K _ T1 [] := SqT.of (c3 _ _ (c2 _ _ upd_same))
        exact .cons x1 (.cons x2 (.cons (.tup (SqT.of (c3 _ _ upd_same)) (.cons (.int _) (.cons (.tup hT1 .nil) .nil))) (.cons (.int _) .nil)))
      · intro e he
        simp only [List.mem_cons, List.not_mem_nil, or_false] at he
        rcases he with rfl | rfl | rfl | rfl
        · exact gO _ m1
        · exact gO _ m2
        · exact gM (GdAll.cons ((gd_int (M := M) (i := 1) (by show 1 ≤ M; omega)).mono (Nat.le_refl _) (Nat.le_refl _) (Nat.zero_le 1)) (GdAll.cons (GdAll.nil (k := 0)).tuple GdAll.nil)).tuple (by omega) (by omega)
        · exact gM (gd_int (i := 5) (by show 5 ≤ M; omega)) (by omega) (by omega)
    obtain ⟨L, xs, es, t2, rfl, s2, hL, nL1, nL2, allL, l4, l20, gL⟩ := mid2
    have hd2 : Ds K S H2 v d := hd.keep s2.keep st
    have hxl := allL.len
    -- the if
    refine ⟨MidB K S H t v dp M n k 20, ?_, fun σ3 H3 mid3 => ?_⟩
    · have no : MidB K S H t v dp M n k 20 [some (.ref S.s), some v, some (.int (dp : Int)), none, some (.ref L)] H2 := ⟨L, xs, es, t2, rfl, s2, hL, nL1, nL2, allL, l4, by omega, gL⟩
      have more : ∀ (H3 : Hp) (ys : List V) (fs : List PyData) (N : Addr), Same H2 H3 → DsAll K S H3 ys fs → fs.length ≤ 8 → H3 N = none → (∀ e ∈ fs, Gd (M + 1) (3 * n + 900) (k + 4) e) → rCat (.ref L) (.ref N) (upd H3 N (.lst ys)) fun x H4 => MidB K S H t v dp M n k 20 [some (.ref S.s), some v, some (.int (dp : Int)), none, some x] H4 := fun H3 ys fs N s3 aY l8 nN gY => by
        have c1 := same_new (o := .lst ys) nN
        have hyl := aY.len
        refine ⟨L, N, xs, ys, rfl, rfl, c1 _ _ (s3 _ _ hL), upd_same, szl (m := 100) (by omega) (by omega), fun C nC => ?_⟩
        have c2 := same_new (o := .lst (xs ++ ys)) nC
        have stp := (s2.same s3).same c1
        have ne := strm_ne stp.st nC
        exact ⟨C, _, es ++ fs, t2, rfl, stp.same c2, upd_same, ne.1, ne.2.1, (((allL.same s3).same c1).same c2).app ((aY.same c1).same c2), by rw [List.length_append]; omega, by rw [List.length_append]; omega, fun e he => (List.mem_append.mp he).elim (gL e) (gY e)⟩
      refine ⟨v, rfl, v, .ty "tuple", _, _, isTp d, rfl, .ty _, hd2.dz.ty, kitT d, isTp d, rfl, ?_⟩
      have hty := hd2.dz.ty
      cases hd2 with
      | @tup a zs0 ds hx all =>
        obtain ⟨ga, hn4, hk1⟩ := gd.all
        have hl := all.len
        have hls := zsAll_len ds
        have hgz := ga.z
        have lc := fun (lo hi : Option Int) => cutV_len (xs := zs0) (lo := lo) (hi := hi)
        have lc1 := lc (some (-1)) none
        refine iteT ⟨.ref L, rfl, .ref a, rfl, a, zs0, rfl, hx, fun l1 nl1 bl1 => ?_⟩
        have c1 := same_new (o := .lst zs0) nl1
        refine ⟨.ref a, rfl, 1, rfl, a, zs0, rfl, Same.sqT c1 hx, fun H4 p4 s4 h4 => ?_⟩
        have k4 := c1.trans s4
        refine ⟨.ref a, rfl, .ref a, rfl, 1, rfl, -1, rfl, a, zs0, rfl, Same.sqT k4 hx, fun H5 p5 s5 h5 => ⟨a, p5, _, _, rfl, rfl, Same.sqT (k4.trans s5) hx, h5, szl (m := 2000000) (by omega) (by omega), fun H6 p6 s6 h6 => ?_⟩⟩
        have k6 := (k4.trans s5).trans s6
        refine ⟨.ref a, rfl, 1, rfl, a, zs0, rfl, rfl, Same.sqT k6 hx, fun p7 np7 => ?_⟩
        have s7 := same_new (o := .tup zs0.reverse) np7
        have k7 := k6.trans s7
        refine ⟨.ref a, rfl, sz (n := 1) (by decide), fun p8 np8 => ?_⟩
        have s8 := same_new (o := .tup [.ref a]) np8
        have k8 := k7.trans s8
        refine ⟨.ref a, rfl, sz (n := 1) (by decide), fun p9 np9 => ?_⟩
        have s9 := same_new (o := .tup [.non]) np9
        have k9 := k8.trans s9
        refine ⟨a, p9, zs0, [.non], rfl, rfl, Same.sqT k9 hx, SqT.of upd_same, szl (m := 2000000) (by show _ + 1 ≤ _; omega) (by omega), fun H10 p10 s10 h10 => ?_⟩
        have k10 := k9.trans s10
        refine ⟨.ref a, rfl, 1, rfl, -1, rfl, a, zs0, rfl, Same.sqT k10 hx, fun H11 p11 s11 h11 => ?_⟩
        have k11 := k10.trans s11
        refine ⟨sz (n := 7) (by decide), fun N nN => ?_⟩
        have ne1 := strm_ne s2.st nl1
        have aE : DsAll K S H11 zs0 ds := all.same k11
        have q10 := s10.trans s11
        have q9 := s9.trans q10
        have q8 := s8.trans q9
        have q7 := s7.trans q8
        have q6 := s6.trans q7
        have q5 := s5.trans q6
        have q4 := s4.trans q5
        refine more H11 _ [.list ds, .tuple (cutD ds (some 1) none), .tuple (ds ++ cutD ds (some (-1)) none), .tuple ds.reverse, .tuple [.tuple ds], .tuple (ds ++ [.none]), .tuple (cutD ds none (some (-1)))] N k11 ?_ (by show 7 ≤ 8; decide) nN ?_
        · refine .cons (.lst (SqL.of (q4 _ _ upd_same)) bl1 ⟨ne1.1, ne1.2.1⟩ aE) (.cons (.tup (Same.sqT q5 h4) (aE.cut _ _)) (.cons (.tup (Same.sqT q7 h6) (aE.app (aE.cut _ _))) (.cons (.tup (SqT.of (q8 _ _ upd_same)) aE.rev)
            (.cons (.tup (SqT.of (q9 _ _ upd_same)) (.cons (.tup (Same.sqT k11 hx) aE) .nil)) (.cons (.tup (Same.sqT s11 h10) (aE.app (.cons .non .nil))) (.cons (.tup h11 (aE.cut _ _)) .nil))))))
        · intro e he
          simp only [List.mem_cons, List.not_mem_nil, or_false] at he
          rcases he with rfl | rfl | rfl | rfl | rfl | rfl | rfl
          · exact gM ga.list (by omega) (by omega)
          · exact gM (cutD_gd ga _ _).tuple (by omega) (by omega)
          · exact gM (ga.app (cutD_gd ga _ _)).tuple (by omega) (by omega)
          · exact gM ga.rev.tuple (by omega) (by omega)
          · exact gM (GdAll.cons gd GdAll.nil).tuple (by omega) (by omega)
          · exact gM (ga.app (GdAll.cons (gd_non.mono (Nat.le_refl _) (Nat.le_refl _) (Nat.zero_le _)) GdAll.nil)).tuple (by omega) (by omega)
          · exact gM (cutD_gd ga _ _).tuple (by omega) (by omega)
      | non => exact iteF ⟨_, rfl, _, .ty "str", _, _, _, rfl, .ty _, hty, kitS _, _, rfl, iteF ⟨_, rfl, _, .ty "int", _, _, _, rfl, .ty _, hty, kitI _, _, rfl, iteF no⟩⟩
      | lst _ _ _ _ => exact iteF ⟨_, rfl, _, .ty "str", _, _, _, rfl, .ty _, hty, kitS _, _, rfl, iteF ⟨_, rfl, _, .ty "int", _, _, _, rfl, .ty _, hty, kitI _, _, rfl, iteF no⟩⟩
      | dct kvs _ => exact iteF ⟨_, rfl, _, .ty "str", _, _, _, rfl, .ty _, hty, kitS _, _, rfl, iteF ⟨_, rfl, _, .ty "int", _, _, _, rfl, .ty _, hty, kitI _, _, rfl, iteF no⟩⟩
      | str x =>
        have hxl2 : 10 * x.length + 2 ≤ n := gd.z
        have ht : TxOk x := gd.f
        refine iteF ⟨_, rfl, _, .ty "str", _, _, _, rfl, .ty _, hty, kitS _, _, rfl, iteT ?_⟩
        refine ⟨.ref L, rfl, .str x, rfl, x, _, rfl, rfl, szl (m := 2000000) (by show _ + 1 ≤ _; omega) (by omega), .str x, rfl, 1, rfl, x, rfl, szl (m := 2000000) (by omega) (by omega), .str x, rfl, ⟨_, rfl⟩, x, rfl, rfl, by omega, .str x, rfl, x, _, rfl, rfl, szl (m := 2000000) (by show _ + 1 ≤ _; omega) (by omega), .str x, rfl, sz (n := 1) (by decide), fun p np bp => ⟨sz (n := 5) (by decide), fun N nN => ?_⟩⟩
        have c1 := same_new (o := .lst [.str x]) np
        have ne1 := strm_ne s2.st np
        refine more _ _ [.str (x ++ Str.ofString "x"), .str (cutS x (some 1) none), .str (Txt.upper x), .str (x ++ Str.ofString " "), .list [.str x]] N c1 ?_ (by show 5 ≤ 8; decide) nN ?_
        · exact .cons (.str _) (.cons (.str _) (.cons (.str _) (.cons (.str _) (.cons (.lst (SqL.of upd_same) bp ⟨ne1.1, ne1.2.1⟩ (.cons (.str _) .nil)) .nil))))
        · intro e he
          simp only [List.mem_cons, List.not_mem_nil, or_false] at he
          rcases he with rfl | rfl | rfl | rfl | rfl
          · exact gM (gd_str (n := x.length + 1) (ht.app (TxOk.of _)) (by rw [str_app_len]; exact Nat.le_refl _)) (by omega) (by omega)
          · exact gM (gd_str (n := x.length) (ht.cut _ _) (cutS_length x _ _)) (by omega) (by omega)
          · exact gM (gd_str (n := 3 * x.length) ht.upper (PyProof.Rows.len_upper x)) (by omega) (by omega)
          · exact gM (gd_str (n := x.length + 1) (ht.app (TxOk.of _)) (by rw [str_app_len]; exact Nat.le_refl _)) (by omega) (by omega)
          · exact gM (GdAll.cons gd GdAll.nil).list (by omega) (by omega)
      | int i =>
        have hiM : i.natAbs ≤ M := gd.f
        have hM40 : M < 10 ^ 40 := Nat.lt_of_lt_of_le hM2 (by decide)
        have hlen := int_text_length_le10 (a := i) (k := 40) (by decide) (by omega)
        refine iteF ⟨_, rfl, _, .ty "str", _, _, _, rfl, .ty _, hty, kitS _, _, rfl, iteF ⟨_, rfl, _, .ty "int", _, _, _, rfl, .ty _, hty, kitI _, _, rfl, iteT ?_⟩⟩
        refine ⟨.ref L, rfl, .int i, rfl, .inl ⟨i, 1, rfl, rfl, .int i, rfl, .inl ⟨i, 1, rfl, rfl, 1, rfl, .int i, rfl, .inl ⟨i, rfl, log_int hM40 hiM, .int i, rfl, .inl ⟨rfl, sz (n := 6) (by decide), fun N nN => ?_⟩⟩⟩⟩⟩
        refine more H2 _ [.int (i + 1), .int (i - 1), .int 64, .int (-1), .str (Str.ofString (toString i)), .bool (decide (V.int i = V.int 1))] N (Same.refl _) ?_ (by show 6 ≤ 8; decide) nN ?_
        · exact .cons (.int _) (.cons (.int _) (.cons (.int _) (.cons (.int _) (.cons (.str _) (.cons (.bl _) .nil)))))
        · intro e he
          simp only [List.mem_cons, List.not_mem_nil, or_false] at he
          rcases he with rfl | rfl | rfl | rfl | rfl | rfl
          · exact (gd_int (M := M + 1) (by omega)).mono (Nat.le_refl _) (by omega) (by omega)
          · exact (gd_int (M := M + 1) (by omega)).mono (Nat.le_refl _) (by omega) (by omega)
          · exact gM (gd_int (i := 64) (by show 64 ≤ M; omega)) (by omega) (by omega)
          · exact gM (gd_int (i := -1) (by show 1 ≤ M; omega)) (by omega) (by omega)
          · exact gM (gd_str (n := 41) (TxOk.of _) (by rw [PySem.ofString_length]; exact hlen)) (by omega) (by omega)
          · exact gM (gd_bl _) (by omega) (by omega)
      | bl b =>
        refine iteF ⟨_, rfl, _, .ty "str", _, _, _, rfl, .ty _, hty, kitS _, _, rfl, iteF ⟨_, rfl, _, .ty "int", _, _, _, rfl, .ty _, hty, kitI _, _, rfl, iteT ?_⟩⟩
        refine ⟨.ref L, rfl, .bl b, rfl, .inr ⟨b, 1, rfl, rfl, .bl b, rfl, .inr ⟨b, 1, rfl, rfl, 1, rfl, .bl b, rfl, .inr ⟨b, rfl, .bl b, rfl, .inr ⟨b, 1, rfl, rfl, sz (n := 6) (by decide), fun N nN => ?_⟩⟩⟩⟩⟩
        refine more H2 _ [.int ((if b = true then (1 : Int) else 0) + 1), .int ((if b = true then (1 : Int) else 0) - 1), .int 64, .int (-1), .str (Str.ofString (if b = true then "True" else "False")), .bool ((if b = true then (1 : Int) else 0) == 1)] N (Same.refl _) ?_ (by show 6 ≤ 8; decide) nN ?_
        · exact .cons (.int _) (.cons (.int _) (.cons (.int _) (.cons (.int _) (.cons (.str _) (.cons (.bl _) .nil)))))
        · intro e he
          simp only [List.mem_cons, List.not_mem_nil, or_false] at he
          rcases he with rfl | rfl | rfl | rfl | rfl | rfl
          · exact (gd_int (M := M + 1) (by split <;> omega)).mono (Nat.le_refl _) (by omega) (by omega)
          · exact (gd_int (M := M + 1) (by split <;> omega)).mono (Nat.le_refl _) (by omega) (by omega)
          · exact gM (gd_int (i := 64) (by show 64 ≤ M; omega)) (by omega) (by omega)
          · exact gM (gd_int (i := -1) (by show 1 ≤ M; omega)) (by omega) (by omega)
          · exact gM (gd_str (n := 5) (TxOk.of _) (by cases b <;> decide)) (by omega) (by omega)
          · exact gM (gd_bl _) (by omega) (by omega)
    obtain ⟨L3, xs3, es3, t3, rfl, s3, hL3, nL31, nL32, allL3, l43, l203, gL3⟩ := mid3
    have hi3 := s3.hi
    exact ⟨.ref S.s, rfl, .ref L3, rfl, S, t3, L3, xs3, es3, rfl, s3.st, by omega, hL3, nL31, nL32, allL3, by omega, by omega, fun H9 v9 d9 t9 s9 z9 m9 => q H9 v9 d9 t9 ((s3.trans s9).mono (by omega)) z9 (gL3 d9 m9)⟩
end
end XT
/-! displays of written data -/
namespace XT
open PySem PySem.Spec PyProof.Rows L2
def tZ (K : PySem.W.Frag) (d : PyData) : TE := fun σ H Q => ∀ (H' : Hp) (v : V), Same H H' → (∀ N : Addr → Prop, (∀ a, H a = none → H' a ≠ none → N a) → Dv K N H' v d) → Q v H'
def tZs (K : PySem.W.Frag) (ds : List PyData) : TA := fun σ H Q => ∀ (H' : Hp) (vs : List V), Same H H' → vs.length = ds.length → (∀ N : Addr → Prop, (∀ a, H a = none → H' a ≠ none → N a) → DvAll K N H' vs ds) → Q vs H'
theorem _root_.L2.PE.to {X : Cx} {e : Expr} {t t' : TE} (h : PE X e t) (i : ∀ σ H Q, t' σ H Q → t σ H Q) : PE X e t' := ⟨fun pins s σ H Q I q => h.run pins s σ H Q I (i σ H Q q)⟩
theorem _root_.L2.PA.to {X : Cx} {e : List Expr} {t t' : TA} (h : PA X e t) (i : ∀ σ H Q, t' σ H Q → t σ H Q) : PA X e t' := ⟨fun pos pins s σ H Q I q => h.run pos pins s σ H Q I (i σ H Q q)⟩
theorem some_ne {H H' : Hp} (s : Same H H') {a : Addr} (h : H a ≠ none) : H' a ≠ none := by
  cases e : H a with
  | none => exact absurd e h
  | some o => rw [s a o e]; exact fun z => nomatch z
section
variable {X : Cx} {e : Expr} {es : List Expr} {d : PyData} {ds : List PyData} {pos : Pos}
theorem pz_c {v : V} (h : PE X e (tC v)) (k : ∀ N H, Dv X.K N H v d) : PE X e (tZ X.K d) := h.to fun σ H Q q => q H v (Same.refl H) fun N _ => k N H
theorem pz_int {i : Int} {j p} : PE X (.Constant (.int i) j p) (tZ X.K (.int i)) := pz_c pe_int fun _ _ => .int i
theorem pz_bl {b : Bool} {j p} : PE X (.Constant (.bool b) j p) (tZ X.K (.bool b)) := pz_c pe_bl fun _ _ => .bl b
theorem pz_non {j p} : PE X (.Constant .none j p) (tZ X.K .none) := pz_c pe_non fun _ _ => .non
theorem pzs_nil : PA X [] (tZs X.K []) := pa_nil.to fun σ H Q q => q H [] (Same.refl H) rfl fun N _ => .nil
theorem pzs_cons (ha : PE X e (tZ X.K d)) (hr : PA X es (tZs X.K ds)) (hs : starEach (e :: es) X.env = (false, eval e X.env) :: starEach es X.env := by rfl) : PA X (e :: es) (tZs X.K (d :: ds)) :=
  (pa_cons ha hr hs).to fun σ H Q q => fun H1 v s1 k1 => fun H2 vs s2 l2 k2 => q H2 (v :: vs) (s1.trans s2) (by rw [List.length_cons, List.length_cons, l2]) fun N hN =>
    .cons ((k1 N fun a h1 h2 => hN a h1 (some_ne s2 h2)).same s2) (k2 N fun a h1 h2 => hN a (by
      cases e : H a with
      | none => rfl
      | some o => rw [s1 a o e] at h1; cases h1) h2)
theorem pz_tup {x1} (hl : ds.length ≤ 1000) (h : PA X es (tZs X.K ds)) : PE X (.Tuple es x1 pos) (tZ X.K (.tuple ds)) :=
  (pe_tup h).to fun σ H Q q => fun H1 vs s1 l1 k1 => ⟨szl (m := 1000) (by omega) (by omega), fun p np => by
    have c := same_new (o := .tup vs) np
    exact q _ (.ref p) (s1.trans c) fun N hN => .tup (SqT.of upd_same) ((k1 N fun a h1 h2 => hN a h1 (some_ne c h2)).same c)⟩
theorem pz_lst (hl : ds.length ≤ 1000) (h : PA X es (tZs X.K ds)) : PE X (.List es pos) (tZ X.K (.list ds)) :=
  (pe_lstB h).to fun σ H Q q => fun H1 vs s1 l1 k1 => ⟨szl (m := 1000) (by omega) (by omega), fun p np bp => by
    have c := same_new (o := .lst vs) np
    exact q _ (.ref p) (s1.trans c) fun N hN => .lst (SqL.of upd_same) bp (hN p (by
      cases e : H p with
      | none => rfl
      | some o => rw [s1 p o e] at np; cases np) (by rw [upd_same]; exact fun z => nomatch z)) ((k1 N fun a h1 h2 => hN a h1 (some_ne c h2)).same c)⟩
def rg64 : List PyData := (List.range 64).map fun (i : Nat) => PyData.int (i : Int)
theorem dv_ints {K : PySem.W.Frag} {N : Addr → Prop} {H : Hp} : ∀ ms : List Nat, DvAll K N H (ms.map fun (m : Nat) => V.int (m : Int)) (ms.map fun (m : Nat) => PyData.int (m : Int))
  | [] => .nil
  | m :: ms => .cons (.int _) (dv_ints ms)
theorem rgV64 : rgV 0 64 = (List.range 64).map fun (m : Nat) => V.int (m : Int) := by
  unfold rgV
  show List.map (fun (i : Nat) => V.int (0 + (i : Int))) (List.range 64) = _
  exact List.map_congr_left fun m _ => by rw [Int.zero_add]
theorem pz_rg {a : Expr} {p pos pr posr : Pos} (hc : X.calm = true) (hg : Gl X "tuple") (hm : X.mg "tuple" = none) (hg2 : Gl X "range") (hm2 : X.mg "range" = none) (ha : PE X a (tC (.int 64)))
    (na : starEach [a] X.env = (false, eval a X.env) :: starEach [] X.env := by rfl) (nb : starEach [Expr.Call (.Name "range" pr) [a] [] posr] X.env = (false, eval (Expr.Call (.Name "range" pr) [a] [] posr) X.env) :: starEach [] X.env := by rfl) :
    PE X (.Call (.Name "tuple" p) [.Call (.Name "range" pr) [a] [] posr] [] pos) (tZ X.K (.tuple rg64)) :=
  (pe_tupRg hc hg hm (prg_1 hg2 hm2 ha na) nb).to fun σ H Q q => ⟨64, rfl, RgOk.of_le (by decide) (by decide) (by decide) (by decide), fun p np => by
    have c := same_new (o := .tup (rgV 0 64)) np
    exact q _ (.ref p) c fun N hN => .tup (SqT.of upd_same) (by rw [rgV64]; exact dv_ints _)⟩
end
end XT
namespace XT
open PySem PySem.Spec PyProof.Rows L2
abbrev nLw : List Str := ["_law_script", "_law_stream_here", "_law_values", "_law_turn", "_law_lot", "_law_bent_here", "_law_value", "_law_shown", "_law_due"]
theorem scLw : FnScope nLw ["_law_script"] (defScope sLaw) := ⟨rfl, rfl, rfl, by decide +kernel, rfl, by decide +kernel, by decide +kernel⟩
theorem LotAt.dv {K : PySem.W.Frag} {N : Addr → Prop} {H : Hp} {v : V} {n : Nat} {p : Nat → Bool} (h : LotAt H v n p) : Dv K N H v (dLot n p) := by
  obtain ⟨x, y, rfl, hx, hy⟩ := h
  exact .tup (SqT.of hx) (.cons (.int _) (.cons (.tup (SqT.of hy) (dv_ints _)) .nil))
theorem gd_nats {M : Nat} : ∀ {ms : List Nat}, (∀ m ∈ ms, m ≤ M) → GdAll M (62 * ms.length) 0 (ms.map fun (m : Nat) => PyData.int (m : Int))
  | [], _ => GdAll.nil
  | m :: ms, h => by
    have := GdAll.cons (gd_int (M := M) (i := (m : Int)) (by rw [Int.natAbs_natCast]; exact h m List.mem_cons_self)) (gd_nats (ms := ms) fun x hx => h x (List.mem_cons_of_mem _ hx))
    exact this.mono (Nat.le_refl _) (by rw [List.length_cons]; omega) (Nat.le_refl _)
theorem gd_lot {n : Nat} (hn : n ≤ 6) (p : Nat → Bool) (j : Nat) (hj : j ≤ 7) : Gd (10 ^ 39) 4100 2 (.tuple [.int (j : Int), .tuple ((lotOf n p).map fun (m : Nat) => .int (m : Int))]) := by
  have h6 := pow6 (w := n) hn
  have hl := lot_len hn p
  have b : 64 ≤ 10 ^ 39 := by decide
  have h := (gd_nats (M := 10 ^ 39) (ms := lotOf n p) fun m hm => by have := (mem_lot.mp hm).1; omega).tuple
  have := (GdAll.cons ((gd_int (M := 10 ^ 39) (i := (j : Int)) (by rw [Int.natAbs_natCast]; omega)).mono (Nat.le_refl _) (Nat.le_refl _) (Nat.zero_le 1)) (GdAll.cons (h.mono (Nat.le_refl _) (Nat.le_refl _) (by omega)) GdAll.nil)).tuple
  exact this.mono (Nat.le_refl _) (by omega) (by omega)
theorem gd_err {n : Nat} : ∀ (ds : List PyData) (i : Nat) (L : Int), i + ds.length ≤ 1000000 → Gd (10 ^ 39) 200 1 (errM n i L ds)
  | [], i, L, _ => gd_non.mono (Nat.le_refl _) (by omega) (by omega)
  | d :: ds, i, L, h => by
    unfold errM
    rw [List.length_cons] at h
    have b : 1000000 ≤ 10 ^ 39 := by decide
    split
    · exact gd_err ds (i + 1) _ (by omega)
    · exact (GdAll.cons (gd_int (i := ((i : Nat) : Int)) (by rw [Int.natAbs_natCast]; omega)) (GdAll.cons (gd_str (n := 4) (TxOk.of "mask") (by decide)) GdAll.nil)).tuple.mono (Nat.le_refl _) (by omega) (by omega)
theorem gd_eT {s : String} (h : (Str.ofString s).length ≤ 6) : Gd (10 ^ 39) 200 1 (eT (Str.ofString s)) := (GdAll.cons gd_non (GdAll.cons (gd_str (n := 6) (TxOk.of s) h) GdAll.nil)).tuple.mono (Nat.le_refl _) (by omega) (by omega)
theorem gd_lotErr {d : PyData} (h : zs d ≤ 1000000) : Gd (10 ^ 39) 200 1 (lotErr d) := by
  unfold lotErr
  split
  · rename_i a b
    split
    · unfold mskErr
      split
      · rename_i ms
        refine gd_err _ _ _ ?_
        have h1 : (zs a + 2 + (zsAll ms + 4 + 2 + 0)) + 4 ≤ 1000000 := h
        have := zsAll_len ms
        omega
      · exact gd_eT (by decide)
    · exact gd_eT (by decide)
  · exact gd_eT (by decide)
abbrev i6 : PyData := .int 6
def vals1 : List PyData := [.tuple [.int 1, .tuple []], .tuple [.int 6, .tuple rg64], .tuple [.int 6, .tuple [.int 64]], .tuple [.int 5, .tuple [.int 31, .int 32]], .tuple [.int 0, .tuple []], .tuple [.int 7, .tuple []], .tuple [.bool true, .tuple []], .tuple [.int 2, .tuple [.int 0, .bool true]]]
def vals2 : List PyData := [.tuple [.int 2, .tuple [.bool false]], .tuple [.int 2, .tuple [.int 1, .int 0]], .tuple [.int 2, .tuple [.int 1, .int 1]], .tuple [.int 2, .list [.int 0]], .list [.int 2, .tuple [.int 0]], .tuple [.int 2], .tuple [.int 2, .tuple [], .tuple []], .tuple [.int 2, .none]]
def val3 : PyData := .tuple [.int 1, .tuple [.int 2]]
/-- fine data, decided -/
def fine : PyData → Bool
  | .none => true
  | .bool _ => true
  | .int i => decide (i.natAbs ≤ 1000)
  | .tuple ds => fineAll ds
  | .list ds => fineAll ds
  | _ => false
where fineAll : List PyData → Bool
  | [] => true
  | d :: ds => fine d && fineAll ds
mutual
theorem fine_fz : ∀ d : PyData, fine d = true → fz (10 ^ 39) d
  | .none, _ => trivial
  | .bool _, _ => trivial
  | .int i, h => Nat.le_trans (of_decide_eq_true h) (by decide)
  | .tuple ds, h => fineAll_fz ds h
  | .list ds, h => fineAll_fz ds h
  | .str _, h => nomatch h
  | .dict _, h => nomatch h
theorem fineAll_fz : ∀ ds : List PyData, fine.fineAll ds = true → fzAll (10 ^ 39) ds
  | [], _ => trivial
  | d :: ds, h => by
    have h : (fine d && fine.fineAll ds) = true := h
    rw [Bool.and_eq_true] at h
    exact ⟨fine_fz d h.1, fineAll_fz ds h.2⟩
end
theorem gd_vals : ∀ d ∈ vals1 ++ vals2 ++ [val3], Gd (10 ^ 39) 5000 5 d := by
  have h : (vals1 ++ vals2 ++ [val3]).all (fun d => fine d && (decide (zs d ≤ 5000) && decide (d.depth ≤ 5))) = true := by decide +kernel
  intro d hd
  have := List.all_eq_true.mp h d hd
  rw [Bool.and_eq_true, Bool.and_eq_true, decide_eq_true_iff, decide_eq_true_iff] at this
  exact ⟨fine_fz d this.1, this.2.1, this.2.2⟩
/-- a fine value is shown -/
theorem Gd.show {M n k : Nat} {d : PyData} (h : Gd M n k d) (hM : M < 10 ^ 40) (hn : n ≤ 10000000) (hk : k ≤ 64) : d.depth ≤ 64 ∧ d.showable = true ∧ d.shown.length ≤ sizeLine := by
  obtain ⟨h1, h2⟩ := shown_le hM d h.f
  refine ⟨Nat.le_trans h.p hk, h1, ?_⟩
  rw [sizeLine_eq]
  have := h.z
  omega
abbrev MF : Nat := 10 ^ 39 + 2
section
variable {P : Program} {w : World} {K : PySem.W.Frag} {mg : Str → Option Value} {base : Heap}
structure Defs (P : Program) (w : World) (K : PySem.W.Frag) (mg : Str → Option Value) (base : Heap) : Prop where
  stream : DefR P w K mg base 5 "_law_stream" (spStream K)
  drawn : DefR P w K mg base 5 "_law_drawn" spDrawn
  bent : DefR P w K mg base 5 "_law_bent" (spBent K 2)
  odd : DefR P w K mg base 5 "_law_odd" (spOddS K)
  ll : DefR P w K mg base 5 "_law_lot_error" (spLL K)
  le : DefR P w K mg base 5 "lot_error" (spLotE K)
  il : DefR P w K mg base 5 "is_lot" (spIsLot K)
def spLaw (K : PySem.W.Frag) : Sp := fun vs H Q _ => ∃ (a : Addr) (ns : List Int), vs = [.ref a] ∧ SqL K H a (ns.map V.int) ∧ ns.length ≤ 63 ∧ ∀ H', Q (.bl true) H'
theorem Strm.put {S : Sm} {H : Hp} {t : Int} {L : Addr} {o : HO} (h : Strm S H t) (n : L ≠ S.s ∧ L ≠ S.p ∧ L ≠ S.q) : Strm S (upd H L o) t := by
  obtain ⟨big, hb⟩ := h
  refine ⟨big, ?_, ?_, ?_, hb.sp, hb.sq, hb.pq, hb.ne, hb.t0⟩
  · rw [upd_ne n.1.symm]; exact hb.hs
  · rw [upd_ne n.2.1.symm]; exact hb.hp
  · rw [upd_ne n.2.2.symm]; exact hb.hq
theorem Dv.cast {K : PySem.W.Frag} {N : Addr → Prop} {H : Hp} {v : V} {d e : PyData} (h : Dv K N H v d) (q : d = e) : Dv K N H v e := q ▸ h
/-- the values so far -/
def MidV (K : PySem.W.Frag) (S : Sm) (a0 : Addr) (c : Nat) (tm : Int) (σ : L2.St) (H' : Hp) : Prop := ∃ (L : Addr) (xs : List V) (ds : List PyData) (t : Int) (z3 z4 z5 : Option V),
  σ = [some (.ref a0), some (.ref S.s), some (.ref L), z3, z4, z5, none, none, none] ∧ Strm S H' t ∧ t ≤ tm ∧ H' L = some (.lst xs) ∧ L ≠ S.s ∧ L ≠ S.p ∧ DsAll K S H' xs ds ∧ ds.length ≤ c ∧ ∀ e ∈ ds, Gd MF 50000 12 e
theorem MidV.to {S : Sm} {a0 : Addr} {c c' : Nat} {tm tm' : Int} {σ : L2.St} {H : Hp} (h : MidV K S a0 c tm σ H) (e : c = c') (e2 : tm = tm') : MidV K S a0 c' tm' σ H := e ▸ e2 ▸ h
theorem run_k02 {f : Addr} {fd : FuncData} (B : Bl mg) (mR : mg "repr" = none) (F : Fun K "law" "law" sLaw f fd) (d : Defs P w K mg base) : RunC P w K mg base 6 f (spLaw K) := by
  refine run_law (k := 5) F scLw (fun _ _ _ _ _ _ _ => rfl) (fun cdv s H v Q hr h => ?_)
  obtain ⟨a0, ns, ev, hA, hlen, q⟩ := h
  cases ev
  have hun : (callerA.deeper (envOfC "law" (defScope sLaw) s.heap.objs.size f cdv)).units + 128 < cLine := by have := hr.un; omega
  have hgd : (callerA.deeper (envOfC "law" (defScope sLaw) s.heap.objs.size f cdv)).guards = some [] := rfl
  refine ⟨_, pss_cons (ps_set (i := 1) scLw.nd rfl (.inl rfl) (pe_def d.stream hr (by rfl) (pa_cons (pv 0) pa_nil)))
    (pss_cons (ps_set (i := 2) scLw.nd rfl (.inl rfl) (pe_lst (t := tZs K vals1) (pzs_cons (pz_tup (by decide) (pzs_cons pz_int (pzs_cons (pz_tup (by decide) pzs_nil) pzs_nil))) (pzs_cons (pz_tup (by decide) (pzs_cons pz_int (pzs_cons (pz_rg rfl (by rfl) B.tuple (by rfl) B.range pe_int) pzs_nil))) (pzs_cons (pz_tup (by decide) (pzs_cons pz_int (pzs_cons (pz_tup (by decide) (pzs_cons pz_int pzs_nil)) pzs_nil)))
        (pzs_cons (pz_tup (by decide) (pzs_cons pz_int (pzs_cons (pz_tup (by decide) (pzs_cons pz_int (pzs_cons pz_int pzs_nil))) pzs_nil))) (pzs_cons (pz_tup (by decide) (pzs_cons pz_int (pzs_cons (pz_tup (by decide) pzs_nil) pzs_nil))) (pzs_cons (pz_tup (by decide) (pzs_cons pz_int (pzs_cons (pz_tup (by decide) pzs_nil) pzs_nil))) (pzs_cons (pz_tup (by decide) (pzs_cons pz_bl (pzs_cons (pz_tup (by decide) pzs_nil) pzs_nil)))
        (pzs_cons (pz_tup (by decide) (pzs_cons pz_int (pzs_cons (pz_tup (by decide) (pzs_cons pz_int (pzs_cons pz_bl pzs_nil))) pzs_nil))) pzs_nil))))))))))
    (pss_cons (ps_set (i := 2) scLw.nd rfl (.inl rfl) (pe_op op_cat (pv 2) (pe_lst (t := tZs K vals2) (pzs_cons (pz_tup (by decide) (pzs_cons pz_int (pzs_cons (pz_tup (by decide) (pzs_cons pz_bl pzs_nil)) pzs_nil))) (pzs_cons (pz_tup (by decide) (pzs_cons pz_int (pzs_cons (pz_tup (by decide) (pzs_cons pz_int (pzs_cons pz_int pzs_nil))) pzs_nil))) (pzs_cons (pz_tup (by decide) (pzs_cons pz_int (pzs_cons (pz_tup (by decide) (pzs_cons pz_int (pzs_cons pz_int pzs_nil))) pzs_nil)))
        (pzs_cons (pz_tup (by decide) (pzs_cons pz_int (pzs_cons (pz_lst (by decide) (pzs_cons pz_int pzs_nil)) pzs_nil))) (pzs_cons (pz_lst (by decide) (pzs_cons pz_int (pzs_cons (pz_tup (by decide) (pzs_cons pz_int pzs_nil)) pzs_nil))) (pzs_cons (pz_tup (by decide) (pzs_cons pz_int pzs_nil)) (pzs_cons (pz_tup (by decide) (pzs_cons pz_int (pzs_cons (pz_tup (by decide) pzs_nil) (pzs_cons (pz_tup (by decide) pzs_nil) pzs_nil)))) (pzs_cons (pz_tup (by decide) (pzs_cons pz_int (pzs_cons pz_non pzs_nil))) pzs_nil)))))))))))
    (C8.pss_cut (ps_expr (pe_bm PySem.F.plainAttrs_list PySem.F.slot_list_append PySem.F.type_list_append mt_append (pv 2) (pa_cons (pz_tup (ds := [.int 1, .tuple [.int 2]]) (by decide) (pzs_cons pz_int (pzs_cons (pz_tup (by decide) (pzs_cons pz_int pzs_nil)) pzs_nil))) pa_nil)))
    (C8.pss_cut (ps_for PassesOwn.never rfl (pi_range1 (by rfl) B.range (pa_cons pe_int pa_nil)) (pg_name (i := 3) scLw.nd rfl (.inl rfl))
      (pss_cons (ps_set (i := 4) scLw.nd rfl (.inl rfl) (pe_def d.drawn hr (by rfl) (pa_cons (pv 1) (pa_cons pe_int pa_nil))))
      (pss_cons (ps_set (i := 5) scLw.nd rfl (.inl rfl) (pe_def d.bent hr (by rfl) (pa_cons (pv 1) (pa_cons (pv 4) (pa_cons pe_int pa_nil)))))
      (pss_one (ps_set (i := 2) scLw.nd rfl (.inl rfl) (pe_op op_cat (pv 2) (pe_lst (pa_cons (pv 4) (pa_cons (pv 5) (pa_cons (pe_def d.bent hr (by rfl) (pa_cons (pv 1) (pa_cons (pv 5) (pa_cons pe_int pa_nil)))) (pa_cons (pe_def d.odd hr (by rfl) (pa_cons (pv 1) pa_nil))
        (pa_cons (pe_tup (pa_cons (pe_op op_add (pe_op op_mod (pe_ix ix_tup (pv 4) pe_int (fun _ _ => rfl)) pe_int) pe_int) (pa_cons (pe_ix ix_tup (pv 4) pe_int (fun _ _ => rfl)) pa_nil))) pa_nil))))))))))))
    (pss_cons (ps_for PassesOwn.never rfl (pi_list (pv 2)) (pg_name (i := 6) scLw.nd rfl (.inl rfl))
      (pss_cons (ps_par (i := 7) (j := 8) (by rfl) scLw.nd rfl rfl (by decide) rfl rfl (pa_cons (pe_callB (cr_reprA hgd hun) (by rfl) mR boot_repr (pa_cons (pv 6) pa_nil)) (pa_cons (pe_def d.ll hr (by rfl) (pa_cons (pv 6) pa_nil)) pa_nil)) (by rfl))
      (pss_one (ps_if (PW.pt (pw_or (pt_cmpR op_ne (pe_callB (cr_reprA hgd hun) (by rfl) mR boot_repr (pa_cons (pe_lstB (pa_cons (pe_def d.le hr (by rfl) (pa_cons (pv 6) pa_nil)) (pa_cons (pe_def d.il hr (by rfl) (pa_cons (pv 6) pa_nil)) pa_nil))) pa_nil)) (pe_callB (cr_reprA hgd hun) (by rfl) mR boot_repr (pa_cons (pe_lstB (pa_cons (pv 8) (pa_cons (pe_cmpR op_isN (pv 8) pe_non (nomark _)) pa_nil))) pa_nil)) (nomark _))
        (pw_or1 (pt_cmpR op_ne (pe_callB (cr_reprA hgd hun) (by rfl) mR boot_repr (pa_cons (pv 6) pa_nil)) (pv 7) (nomark _))))) pss_never pss_nil))))
    (pss_one (ps_ret pe_bl))))))), ?_⟩
  refine ⟨.ref a0, rfl, a0, ns, rfl, hA, hlen, fun H1 S s1 st1 => ?_⟩
  -- the written values
  intro H2 vs2 s2 l2 k2
  refine ⟨szl (m := 100) (by have : vals1.length = 8 := rfl; omega) (by omega), fun L1 nL1 => ?_⟩
  have c1 := same_new (o := .lst vs2) nL1
  refine ⟨.ref L1, rfl, fun H3 vs3 s3 l3 k3 => ⟨szl (m := 100) (by have : vals2.length = 8 := rfl; omega) (by omega), fun L2 nL2 => ?_⟩⟩
  have c2 := same_new (o := .lst vs3) nL2
  refine ⟨L1, L2, _, _, rfl, rfl, c2 _ _ (s3 _ _ upd_same), upd_same, szl (m := 100) (by have : vals1.length = 8 := rfl; have : vals2.length = 8 := rfl; omega) (by omega), fun L3 nL3 => ?_⟩
  have c3 := same_new (o := .lst (vs2 ++ vs3)) nL3
  -- values.append(..)
  have gF : ∀ e ∈ vals1 ++ vals2 ++ [val3], Gd MF 50000 12 e := fun e he => (gd_vals e he).mono (by decide) (by omega) (by omega)
  refine ⟨MidV K S a0 17 0, ?_, fun σ4 H4 mid4 => ?_⟩
  · refine ⟨.ref L3, rfl, .inl ⟨rfl, _, SqL.of upd_same⟩, fun H5 v5 s5 k5 => ⟨L3, _, v5, rfl, rfl, s5 _ _ upd_same, ?_, ?_⟩⟩
    · have e1 : vals1.length = 8 := rfl
      have e2 : vals2.length = 8 := rfl
      have : (vs2 ++ vs3).length < 100 := by rw [List.length_append]; omega
      rw [sizeLine_eq]
      omega
    have st2 := (st1.same s2).same c1
    have st3 := (st2.same s3).same c2
    have st4 := st3.same c3
    have st5 := st4.same s5
    have ne3 := strm_ne st3 nL3
    have w3 : ∀ a, upd H3 L2 (.lst vs3) a ≠ none → a ≠ L3 := fun a h e => h (e ▸ nL3)
    have hL5 : H5 L3 = some (.lst (vs2 ++ vs3)) := s5 _ _ upd_same
    have m2 := k2 (fun a => Nof S a ∧ a ≠ L3) fun a h1 h2 => ⟨⟨(strm_ne st1 h1).1, (strm_ne st1 h1).2.1⟩, w3 a (some_ne c2 (some_ne s3 (some_ne c1 h2)))⟩
    have m3 := k3 (fun a => Nof S a ∧ a ≠ L3) fun a h1 h2 => ⟨⟨(strm_ne st2 h1).1, (strm_ne st2 h1).2.1⟩, w3 a (some_ne c2 h2)⟩
    have m5 := k5 (fun a => Nof S a ∧ a ≠ L3) fun a h1 h2 => ⟨⟨(strm_ne st4 h1).1, (strm_ne st4 h1).2.1⟩, fun e => by rw [e, upd_same] at h1; cases h1⟩
    have a2 := (((((m2.same c1).same s3).same c2).same c3).same s5).put (ys := (vs2 ++ vs3) ++ [v5]) hL5 (fun b n => n.2)
    have a3 := (((m3.same c2).same c3).same s5).put (ys := (vs2 ++ vs3) ++ [v5]) hL5 (fun b n => n.2)
    have a5 := m5.put (ys := (vs2 ++ vs3) ++ [v5]) hL5 (fun b n => n.2)
    exact ⟨L3, _, vals1 ++ vals2 ++ [val3], 0, none, none, none, rfl, st5.put ne3, Int.le_refl _, upd_same, ne3.1, ne3.2.1, ((a2.app a3).app (.cons a5 .nil)).imp (fun b n => n.1), by decide, gF⟩
  -- the drawn values
  refine ⟨MidV K S a0 77 4800, ?_, fun σ5 H5 mid5 => ?_⟩
  · refine ⟨12, rfl, by decide, by decide, for_range (lo := 0) (n := 12) (fun i σ H' => MidV K S a0 (17 + 5 * i) (400 * i) σ H') (mid4.to rfl rfl) (fun i σ H2 hi h => ?_) (fun σ H2 h => MidV.to h rfl rfl)⟩
    obtain ⟨L, xs, ds, t, z3, z4, z5, rfl, st, ht, hL, nL1, nL2, all, hl, gds⟩ := h
    refine ⟨.ref S.s, rfl, S, t, 6, rfl, st, by omega, by omega, by omega, fun H3 lot n p t3 s3 hn1 hn hlot => ?_⟩
    have hi3 := s3.hi
    refine ⟨.ref S.s, rfl, lot, rfl, S, t3, lot, dLot n p, 10 ^ 39, 4100, 2, rfl, s3.st, by omega, hlot.dv, gd_lot hn p n (by omega), Nat.le_refl _, by decide, by omega, fun H4 b1 d1 t4 s4 z4 g4 => ?_⟩
    have hi4 := s4.hi
    have hlot4 := hlot.keep s4.keep s3.st
    refine ⟨.ref L, rfl, lot, rfl, b1, rfl, .ref S.s, rfl, b1, rfl, S, t4, b1, d1, 10 ^ 39 + 1, 3 * 4100 + 900, 6, rfl, s4.st, by omega, z4, g4, by decide, by decide, by omega, fun H5 b2 d2 t5 s5 z5 g5 => ?_⟩
    have hi5 := s5.hi
    have hlot5 := hlot4.keep s5.keep s4.st
    refine ⟨.ref S.s, rfl, S, t5, rfl, s5.st, by omega, fun H6 o dO t6 s6 zO mO => ?_⟩
    have hi6 := s6.hi
    have hlot6 := hlot5.keep s6.keep s5.st
    have hb1 : Ds K S H6 b1 d1 := (z4.keep s5.keep s4.st).keep s6.keep s5.st
    have hb2 : Ds K S H6 b2 d2 := z5.keep s6.keep s5.st
    have kp := ((s3.keep.trans s4.keep).trans s5.keep).trans s6.keep
    have hL6 := kp L _ nL1 nL2 hL
    have all6 : DsAll K S H6 xs ds := all.keep kp st
    obtain ⟨x, y, ex, hx, hy⟩ := id hlot6
    subst ex
    refine ⟨.ref x, rfl, x, _, 0, .int n, rfl, rfl, SqT.of hx, rfl, n, 6, rfl, rfl, (by show (0 : Int) < 6; decide), _, 1, rfl, rfl, .ref x, rfl, x, _, 1, .ref y, rfl, rfl, SqT.of hx, rfl, sz (n := 2) (by decide), fun T nT => ⟨sz (n := 5) (by decide), fun Ml nM => ?_⟩⟩
    have c1 := same_new (o := .tup [.int ((n : Int) % 6 + 1), .ref y]) nT
    have c2 := same_new (o := .lst [.ref x, b1, b2, o, .ref T]) nM
    have hxl := all.len
    refine ⟨L, Ml, xs, _, rfl, rfl, c2 _ _ (c1 _ _ hL6), upd_same, szl (m := 1000) (by show _ + 5 ≤ _; omega) (by omega), fun C nC => ?_⟩
    have c3 := same_new (o := .lst (xs ++ [.ref x, b1, b2, o, .ref T])) nC
    have st6 := (s6.st.same c1).same c2
    have ne := strm_ne st6 nC
    have e6 : ((n % 6 + 1 : Nat) : Int) = (n : Int) % 6 + 1 := by omega
    let d5 : PyData := .tuple [.int ((n % 6 + 1 : Nat) : Int), .tuple ((lotOf n p).map fun (m : Nat) => .int (m : Int))]
    refine ⟨C, _, ds ++ [dLot n p, d1, d2, dO, d5], t6, _, _, _, rfl, st6.same c3, by omega, upd_same, ne.1, ne.2.1, (((all6.same c1).same c2).same c3).app ?_, by rw [List.length_append]; show _ + 5 ≤ _; omega, ?_⟩
    · have hT : SqT K (upd (upd (upd H6 T (.tup [.int ((n : Int) % 6 + 1), .ref y])) Ml (.lst [.ref x, b1, b2, o, .ref T])) C (.lst (xs ++ [.ref x, b1, b2, o, .ref T]))) T [.int ((n : Int) % 6 + 1), .ref y] := SqT.of (c3 _ _ (c2 _ _ upd_same))
      have hy3 := c3 _ _ (c2 _ _ (c1 _ _ hy))
      refine .cons (((hlot6.same c1).same c2).same c3).dv (.cons (((hb1.same c1).same c2).same c3) (.cons (((hb2.same c1).same c2).same c3) (.cons (((zO.same c1).same c2).same c3) (.cons (.tup hT (.cons ?_ (.cons (.tup (SqT.of hy3) (dv_ints _)) .nil))) .nil))))
      rw [← e6]
      exact .int _
    · intro e he
      rcases List.mem_append.mp he with he | he
      · exact gds e he
      · simp only [List.mem_cons, List.not_mem_nil, or_false] at he
        rcases he with rfl | rfl | rfl | rfl | rfl
        · exact (gd_lot hn p n (by omega)).mono (by decide) (by omega) (by omega)
        · exact g4.mono (by decide) (by omega) (by omega)
        · exact g5.mono (by decide) (by omega) (by omega)
        · exact (gd_odd _ mO).mono (by decide) (by omega) (by omega)
        · exact (gd_lot hn p (n % 6 + 1) (by omega)).mono (by decide) (by omega) (by omega)
  -- each value
  obtain ⟨L, xs, ds, t, z3, z4, z5, rfl, st, ht, hL, nL1, nL2, all, hl, gds⟩ := mid5
  have hM40 : MF < 10 ^ 40 := by decide
  refine ⟨.ref L, rfl, L, rfl, ⟨_, SqL.of hL⟩, for_list (K := K) (xs := xs) (fun j σ H' => ∃ z6 z7 z8, σ = [some (.ref a0), some (.ref S.s), some (.ref L), z3, z4, z5, z6, z7, z8] ∧ Same H5 H') ⟨_, _, _, rfl, Same.refl _⟩ (fun j σ H' _ h => ?_) (fun j v σ H6 hv h => ?_) (fun σ H6 h => q H6)⟩
  · obtain ⟨_, _, _, _, sm⟩ := h
    exact sm.seq (SqL.of hL)
  · obtain ⟨z6, z7, z8, rfl, sm6⟩ := h
    obtain ⟨dd, hdd, hz⟩ := all.at hv
    have g := gds dd (List.mem_of_getElem? hdd)
    obtain ⟨w1, w2, w3⟩ := g.show hM40 (by omega) (by omega)
    have hz6 : Dz K H6 v dd := hz.dz.same sm6
    have hzs : zs dd ≤ 1000000 := by have := g.z; omega
    have gE := gd_lotErr hzs
    have gP : Gd (10 ^ 39) 220 2 (.list [lotErr dd, .bool (isNo (lotErr dd))]) := (GdAll.cons gE (GdAll.cons ((gd_bl _).mono (Nat.le_refl _) (Nat.le_refl _) (by omega)) GdAll.nil)).list.mono (Nat.le_refl _) (by omega) (by omega)
    obtain ⟨p1, p2, p3⟩ := gP.show (by decide) (by omega) (by omega)
    obtain ⟨shn, hsh⟩ : ∃ shn : Str, shn = dd.shown := ⟨_, rfl⟩
    refine ⟨v, rfl, v, dd, rfl, hz6, w1, w2, w3, ?_⟩
    rw [← hsh]
    refine ⟨v, rfl, v, dd, rfl, hz6, hzs, fun H7 r7 s7 z7' => ⟨_, _, rfl, ?_⟩⟩
    have hz7 := hz6.same s7
    refine ⟨v, rfl, v, dd, rfl, hz7, fun H8 r8 s8 z8' => ⟨v, rfl, v, dd, rfl, hz7.same s8, fun H9 s9 => ⟨sz (n := 2) (by decide), fun M1 nM1 bM1 => ⟨.ref M1, .list [lotErr dd, .bool (isNo (lotErr dd))], rfl, ?_, p1, p2, p3, ?_⟩⟩⟩⟩
    · have c := same_new (o := .lst [r8, .bl (isNo (lotErr dd))]) nM1
      exact .lst (SqL.of upd_same) bM1 (.cons ((z8'.same s9).same c) (.cons (.bl _) .nil))
    have c := same_new (o := .lst [r8, .bl (isNo (lotErr dd))]) nM1
    have sA := (s8.trans s9).trans c
    have en := z7'.isNo
    refine ⟨r7, rfl, r7, rfl, rfl, sz (n := 2) (by decide), fun M2 nM2 bM2 => ⟨.ref M2, .list [lotErr dd, .bool (isNo (lotErr dd))], rfl, ?_, p1, p2, p3, rfl, _, rfl, iteNS rfl ?_⟩⟩
    · have c2 := same_new (o := .lst [r7, .bl (decide (r7 = .non))]) nM2
      exact .lst (SqL.of upd_same) bM2 (.cons ((z7'.same sA).same c2) (.cons (Dz.cast (.bl _) (congrArg PyData.bool en)) .nil))
    have c2 := same_new (o := .lst [r7, .bl (decide (r7 = .non))]) nM2
    have sB := sA.trans c2
    refine ⟨v, rfl, v, dd, rfl, hz7.same sB, w1, w2, w3, ?_⟩
    rw [← hsh]
    refine ⟨.str shn, rfl, rfl, _, rfl, iteNS rfl ?_⟩
    exact ⟨_, _, _, rfl, (sm6.trans s7).trans sB⟩
end
end XT
namespace XT
open PySem PySem.Spec PyProof.Rows L2
/-! what the top has written -/
theorem all_mk {l : PySem.W.OpenLaw} {w : World} {K : PySem.W.Frag} {h : Heap} {mg : Str → Option Value} {fa : Addr} (X : K.In h) (G : h.Ns mainGlobals mg) (hfa : mg "law" = some (.ref fa))
    {f1 : Addr} {od1 an1 : Option Addr} {sl1 : Array (Option Value)} {oc1 kV1 dc1 pm1 cd1 ct1 : Value}
    (a1 : PySem.W.nsIn K mainGlobals "is_number" = some (some (.ref f1))) (l1 : K.lookup f1 = some ⟨oc1, od1, .func (PySem.W.fnOf "is_number" "is_number" (defArgs sNum) (defBody sNum) (defScope sNum) .none kV1 dc1 pm1 an1 cd1 ct1), sl1⟩) (c1 : PySem.W.codeIn K cd1 "is_number" = true) (k1 : PySem.W.keepIn K (.ref f1) = true)
    {f2 : Addr} {od2 an2 : Option Addr} {sl2 : Array (Option Value)} {oc2 kV2 dc2 pm2 cd2 ct2 : Value}
    (a2 : PySem.W.nsIn K mainGlobals "is_width" = some (some (.ref f2))) (l2 : K.lookup f2 = some ⟨oc2, od2, .func (PySem.W.fnOf "is_width" "is_width" (defArgs sWid) (defBody sWid) (defScope sWid) .none kV2 dc2 pm2 an2 cd2 ct2), sl2⟩) (c2 : PySem.W.codeIn K cd2 "is_width" = true) (k2 : PySem.W.keepIn K (.ref f2) = true)
    {f3 : Addr} {od3 an3 : Option Addr} {sl3 : Array (Option Value)} {oc3 kV3 dc3 pm3 cd3 ct3 : Value}
    (a3 : PySem.W.nsIn K mainGlobals "is_mask" = some (some (.ref f3))) (l3 : K.lookup f3 = some ⟨oc3, od3, .func (PySem.W.fnOf "is_mask" "is_mask" (defArgs sMask) (defBody sMask) (defScope sMask) .none kV3 dc3 pm3 an3 cd3 ct3), sl3⟩) (c3 : PySem.W.codeIn K cd3 "is_mask" = true) (k3 : PySem.W.keepIn K (.ref f3) = true)
    {f4 : Addr} {od4 an4 : Option Addr} {sl4 : Array (Option Value)} {oc4 kV4 dc4 pm4 cd4 ct4 : Value}
    (a4 : PySem.W.nsIn K mainGlobals "is_lot" = some (some (.ref f4))) (l4 : K.lookup f4 = some ⟨oc4, od4, .func (PySem.W.fnOf "is_lot" "is_lot" (defArgs sIsLot) (defBody sIsLot) (defScope sIsLot) .none kV4 dc4 pm4 an4 cd4 ct4), sl4⟩) (c4 : PySem.W.codeIn K cd4 "is_lot" = true) (k4 : PySem.W.keepIn K (.ref f4) = true)
    {f5 : Addr} {od5 an5 : Option Addr} {sl5 : Array (Option Value)} {oc5 kV5 dc5 pm5 cd5 ct5 : Value}
    (a5 : PySem.W.nsIn K mainGlobals "lot_error" = some (some (.ref f5))) (l5 : K.lookup f5 = some ⟨oc5, od5, .func (PySem.W.fnOf "lot_error" "lot_error" (defArgs sLotE) (defBody sLotE) (defScope sLotE) .none kV5 dc5 pm5 an5 cd5 ct5), sl5⟩) (c5 : PySem.W.codeIn K cd5 "lot_error" = true) (k5 : PySem.W.keepIn K (.ref f5) = true)
    {f6 : Addr} {od6 an6 : Option Addr} {sl6 : Array (Option Value)} {oc6 kV6 dc6 pm6 cd6 ct6 : Value}
    (a6 : PySem.W.nsIn K mainGlobals "mask_error" = some (some (.ref f6))) (l6 : K.lookup f6 = some ⟨oc6, od6, .func (PySem.W.fnOf "mask_error" "mask_error" (defArgs sMaskE) (defBody sMaskE) (defScope sMaskE) .none kV6 dc6 pm6 an6 cd6 ct6), sl6⟩) (c6 : PySem.W.codeIn K cd6 "mask_error" = true) (k6 : PySem.W.keepIn K (.ref f6) = true)
    {f7 : Addr} {od7 an7 : Option Addr} {sl7 : Array (Option Value)} {oc7 kV7 dc7 pm7 cd7 ct7 : Value}
    (a7 : PySem.W.nsIn K mainGlobals "_law_stream" = some (some (.ref f7))) (l7 : K.lookup f7 = some ⟨oc7, od7, .func (PySem.W.fnOf "_law_stream" "_law_stream" (defArgs sStream) (defBody sStream) (defScope sStream) .none kV7 dc7 pm7 an7 cd7 ct7), sl7⟩) (c7 : PySem.W.codeIn K cd7 "_law_stream" = true) (k7 : PySem.W.keepIn K (.ref f7) = true)
    {f8 : Addr} {od8 an8 : Option Addr} {sl8 : Array (Option Value)} {oc8 kV8 dc8 pm8 cd8 ct8 : Value}
    (a8 : PySem.W.nsIn K mainGlobals "_law_draw" = some (some (.ref f8))) (l8 : K.lookup f8 = some ⟨oc8, od8, .func (PySem.W.fnOf "_law_draw" "_law_draw" (defArgs sDraw) (defBody sDraw) (defScope sDraw) .none kV8 dc8 pm8 an8 cd8 ct8), sl8⟩) (c8 : PySem.W.codeIn K cd8 "_law_draw" = true) (k8 : PySem.W.keepIn K (.ref f8) = true)
    {f9 : Addr} {od9 an9 : Option Addr} {sl9 : Array (Option Value)} {oc9 kV9 dc9 pm9 cd9 ct9 : Value}
    (a9 : PySem.W.nsIn K mainGlobals "_law_pick" = some (some (.ref f9))) (l9 : K.lookup f9 = some ⟨oc9, od9, .func (PySem.W.fnOf "_law_pick" "_law_pick" (defArgs sPick) (defBody sPick) (defScope sPick) .none kV9 dc9 pm9 an9 cd9 ct9), sl9⟩) (c9 : PySem.W.codeIn K cd9 "_law_pick" = true) (k9 : PySem.W.keepIn K (.ref f9) = true)
    {f10 : Addr} {od10 an10 : Option Addr} {sl10 : Array (Option Value)} {oc10 kV10 dc10 pm10 cd10 ct10 : Value}
    (a10 : PySem.W.nsIn K mainGlobals "_law_odd" = some (some (.ref f10))) (l10 : K.lookup f10 = some ⟨oc10, od10, .func (PySem.W.fnOf "_law_odd" "_law_odd" (defArgs sOdd) (defBody sOdd) (defScope sOdd) .none kV10 dc10 pm10 an10 cd10 ct10), sl10⟩) (c10 : PySem.W.codeIn K cd10 "_law_odd" = true) (k10 : PySem.W.keepIn K (.ref f10) = true)
    {f11 : Addr} {od11 an11 : Option Addr} {sl11 : Array (Option Value)} {oc11 kV11 dc11 pm11 cd11 ct11 : Value}
    (a11 : PySem.W.nsIn K mainGlobals "_law_is_int" = some (some (.ref f11))) (l11 : K.lookup f11 = some ⟨oc11, od11, .func (PySem.W.fnOf "_law_is_int" "_law_is_int" (defArgs sIsInt) (defBody sIsInt) (defScope sIsInt) .none kV11 dc11 pm11 an11 cd11 ct11), sl11⟩) (c11 : PySem.W.codeIn K cd11 "_law_is_int" = true) (k11 : PySem.W.keepIn K (.ref f11) = true)
    {f12 : Addr} {od12 an12 : Option Addr} {sl12 : Array (Option Value)} {oc12 kV12 dc12 pm12 cd12 ct12 : Value}
    (a12 : PySem.W.nsIn K mainGlobals "_law_drawn" = some (some (.ref f12))) (l12 : K.lookup f12 = some ⟨oc12, od12, .func (PySem.W.fnOf "_law_drawn" "_law_drawn" (defArgs sDrawn) (defBody sDrawn) (defScope sDrawn) .none kV12 dc12 pm12 an12 cd12 ct12), sl12⟩) (c12 : PySem.W.codeIn K cd12 "_law_drawn" = true) (k12 : PySem.W.keepIn K (.ref f12) = true)
    {f13 : Addr} {od13 an13 : Option Addr} {sl13 : Array (Option Value)} {oc13 kV13 dc13 pm13 cd13 ct13 : Value}
    (a13 : PySem.W.nsIn K mainGlobals "_law_bent" = some (some (.ref f13))) (l13 : K.lookup f13 = some ⟨oc13, od13, .func (PySem.W.fnOf "_law_bent" "_law_bent" (defArgs sBent) (defBody sBent) (defScope sBent) .none kV13 dc13 pm13 an13 cd13 ct13), sl13⟩) (c13 : PySem.W.codeIn K cd13 "_law_bent" = true) (k13 : PySem.W.keepIn K (.ref f13) = true)
    {f14 : Addr} {od14 an14 : Option Addr} {sl14 : Array (Option Value)} {oc14 kV14 dc14 pm14 cd14 ct14 : Value}
    (a14 : PySem.W.nsIn K mainGlobals "_law_lot_error" = some (some (.ref f14))) (l14 : K.lookup f14 = some ⟨oc14, od14, .func (PySem.W.fnOf "_law_lot_error" "_law_lot_error" (defArgs sLLE) (defBody sLLE) (defScope sLLE) .none kV14 dc14 pm14 an14 cd14 ct14), sl14⟩) (c14 : PySem.W.codeIn K cd14 "_law_lot_error" = true) (k14 : PySem.W.keepIn K (.ref f14) = true)
    {f15 : Addr} {od15 an15 : Option Addr} {sl15 : Array (Option Value)} {oc15 kV15 dc15 pm15 cd15 ct15 : Value}
    (a15 : PySem.W.nsIn K mainGlobals "law" = some (some (.ref f15))) (l15 : K.lookup f15 = some ⟨oc15, od15, .func (PySem.W.fnOf "law" "law" (defArgs sLaw) (defBody sLaw) (defScope sLaw) .none kV15 dc15 pm15 an15 cd15 ct15), sl15⟩) (c15 : PySem.W.codeIn K cd15 "law" = true) (k15 : PySem.W.keepIn K (.ref f15) = true)
    {tk1 : Tok} (w1 : PySem.W.nsIn K mainGlobals "MAX_WIDTH" = some (some (.int 6 tk1)))
    (y1 : PySem.W.nsIn K mainGlobals "repr" = some none)
    (y2 : PySem.W.nsIn K mainGlobals "list" = some none)
    (y3 : PySem.W.nsIn K mainGlobals "str" = some none)
    (z1 : PySem.W.nsIn K mainGlobals "len" = some none) (z2 : PySem.W.nsIn K mainGlobals "abs" = some none) (z3 : PySem.W.nsIn K mainGlobals "tuple" = some none) (z4 : PySem.W.nsIn K mainGlobals "sorted" = some none) (z5 : PySem.W.nsIn K mainGlobals "isinstance" = some none) (z6 : PySem.W.nsIn K mainGlobals "int" = some none) (z7 : PySem.W.nsIn K mainGlobals "bool" = some none) (z8 : PySem.W.nsIn K mainGlobals "set" = some none) (z9 : PySem.W.nsIn K mainGlobals "all" = some none) (z10 : PySem.W.nsIn K mainGlobals "range" = some none) (z11 : PySem.W.nsIn K mainGlobals "enumerate" = some none) :
    ∀ base : Heap, K.In base → base.Ns mainGlobals mg → RunC l.prog w K mg base 6 fa (spLaw K) := by
  cases hfa.symm.trans (PySem.W.mg_of X G a15)
  have F1 := fun_mk (st := sNum) l1 c1 k1
  have F2 := fun_mk (st := sWid) l2 c2 k2
  have F3 := fun_mk (st := sMask) l3 c3 k3
  have F4 := fun_mk (st := sIsLot) l4 c4 k4
  have F5 := fun_mk (st := sLotE) l5 c5 k5
  have F6 := fun_mk (st := sMaskE) l6 c6 k6
  have F7 := fun_mk (st := sStream) l7 c7 k7
  have F8 := fun_mk (st := sDraw) l8 c8 k8
  have F9 := fun_mk (st := sPick) l9 c9 k9
  have F10 := fun_mk (st := sOdd) l10 c10 k10
  have F11 := fun_mk (st := sIsInt) l11 c11 k11
  have F12 := fun_mk (st := sDrawn) l12 c12 k12
  have F13 := fun_mk (st := sBent) l13 c13 k13
  have F14 := fun_mk (st := sLLE) l14 c14 k14
  have F15 := fun_mk (st := sLaw) l15 c15 k15
  have b1 := F1.binds (ps := ["value"]) fun _ _ _ _ _ _ us hl => match us, hl with | [_], _ => rfl
  have b2 := F2.binds (ps := ["value"]) fun _ _ _ _ _ _ us hl => match us, hl with | [_], _ => rfl
  have b3 := F3.binds (ps := ["value", "width"]) fun _ _ _ _ _ _ us hl => match us, hl with | [_, _], _ => rfl
  have b4 := F4.binds (ps := ["value"]) fun _ _ _ _ _ _ us hl => match us, hl with | [_], _ => rfl
  have b5 := F5.binds (ps := ["value"]) fun _ _ _ _ _ _ us hl => match us, hl with | [_], _ => rfl
  have b6 := F6.binds (ps := ["width", "masks"]) fun _ _ _ _ _ _ us hl => match us, hl with | [_, _], _ => rfl
  have b7 := F7.binds (ps := ["_law_script"]) fun _ _ _ _ _ _ us hl => match us, hl with | [_], _ => rfl
  have b8 := F8.binds (ps := ["_law_stream_here", "_law_many"]) fun _ _ _ _ _ _ us hl => match us, hl with | [_, _], _ => rfl
  have b9 := F9.binds (ps := ["_law_stream_here", "_law_items"]) fun _ _ _ _ _ _ us hl => match us, hl with | [_, _], _ => rfl
  have b10 := F10.binds (ps := ["_law_stream_here"]) fun _ _ _ _ _ _ us hl => match us, hl with | [_], _ => rfl
  have b11 := F11.binds (ps := ["_law_value", "_law_low", "_law_high"]) fun _ _ _ _ _ _ us hl => match us, hl with | [_, _, _], _ => rfl
  have b12 := F12.binds (ps := ["_law_stream_here", "_law_most"]) fun _ _ _ _ _ _ us hl => match us, hl with | [_, _], _ => rfl
  have b13 := F13.binds (ps := ["_law_stream_here", "_law_value", "_law_deep"]) fun _ _ _ _ _ _ us hl => match us, hl with | [_, _, _], _ => rfl
  have b14 := F14.binds (ps := ["_law_value"]) fun _ _ _ _ _ _ us hl => match us, hl with | [_], _ => rfl
  have B : Bl mg := ⟨PySem.W.mg_none_of X G z1, PySem.W.mg_none_of X G z2, PySem.W.mg_none_of X G z3, PySem.W.mg_none_of X G z4, PySem.W.mg_none_of X G z5, PySem.W.mg_none_of X G z6, PySem.W.mg_none_of X G z7, PySem.W.mg_none_of X G z8, PySem.W.mg_none_of X G z9, PySem.W.mg_none_of X G z10, PySem.W.mg_none_of X G z11⟩
  intro base _ _
  have dD0 : DefR l.prog w K mg base 1 "_law_draw" spDraw := .of (ok_draw F8 B.len) b8 (PySem.W.mg_of X G a8) k8
  have dD1 := drawN dD0
  have dDM := drawM dD0
  have dO : DefR l.prog w K mg base 2 "_law_odd" (spOddS K) := .of (ok_oddS F10 dD1) b10 (PySem.W.mg_of X G a10) k10
  have dP : DefR l.prog w K mg base 2 "_law_pick" (spPick K) := .of (ok_pick B F9 dD1) b9 (PySem.W.mg_of X G a9) k9
  have dB0 : DefR l.prog w K mg base 2 "_law_bent" (fun _ _ _ _ => False) := .of (Fun.ok F13 scBt (fun _ _ _ _ h => h.elim) (fun _ _ _ _ _ _ _ _ _ h => h.elim)) b13 (PySem.W.mg_of X G a13) k13
  have dB1 : DefR l.prog w K mg base 3 "_law_bent" (spBent K 0) := .of (ok_bent (j := 2) B (PySem.W.mg_none_of X G y2) (PySem.W.mg_none_of X G y3) F13 dDM dO dP dB0 (by omega) (fun dq e => absurd e (by omega))) b13 (PySem.W.mg_of X G a13) k13
  have dB2 : DefR l.prog w K mg base 4 "_law_bent" (spBent K 1) := .of (ok_bent (j := 3) B (PySem.W.mg_none_of X G y2) (PySem.W.mg_none_of X G y3) F13 dDM dO dP dB1 (by omega) (fun dq e vs H Q E h => by cases (Nat.succ.inj e : 0 = dq); exact h)) b13 (PySem.W.mg_of X G a13) k13
  have dI : DefR l.prog w K mg base 1 "_law_is_int" (spIsInt K) := .of (ok_isInt B F11) b11 (PySem.W.mg_of X G a11) k11
  have dN : DefR l.prog w K mg base 1 "is_number" (spNumZ K) := .of (ok_numZ B F1) b1 (PySem.W.mg_of X G a1) k1
  have dW : DefR l.prog w K mg base 2 "is_width" (spIsWZ K) := .of (ok_isW F2 (PySem.W.mg_of X G w1) dN) b2 (PySem.W.mg_of X G a2) k2
  have dM : DefR l.prog w K mg base 2 "is_mask" (spMaskZ K) := .of (ok_maskZ F3 dN) b3 (PySem.W.mg_of X G a3) k3
  have dE : DefR l.prog w K mg base 3 "mask_error" (spMaskE K) := .of (ok_maskE B F6 dM) b6 (PySem.W.mg_of X G a6) k6
  have dL : DefR l.prog w K mg base 4 "lot_error" (spLotE K) := .of (ok_lotE B F5 dW dE) b5 (PySem.W.mg_of X G a5) k5
  exact run_k02 B (PySem.W.mg_none_of X G y1) F15 ⟨.of (ok_stream F7 B.len B.abs) b7 (PySem.W.mg_of X G a7) k7, .of (ok_drawn B F12 dD1) b12 (PySem.W.mg_of X G a12) k12, .of (ok_bent (j := 4) B (PySem.W.mg_none_of X G y2) (PySem.W.mg_none_of X G y3) F13 dDM dO dP dB2 (by omega) (fun dq e vs H Q E h => by cases (Nat.succ.inj e : 1 = dq); exact h)) b13 (PySem.W.mg_of X G a13) k13, .of (ok_oddS F10 dD1) b10 (PySem.W.mg_of X G a10) k10, .of (ok_LL B F14 dI) b14 (PySem.W.mg_of X G a14) k14, .of (ok_lotE B F5 dW dE) b5 (PySem.W.mg_of X G a5) k5, .of (ok_isLot F4 dL) b4 (PySem.W.mg_of X G a4) k4⟩
end XT
open PySem PySem.W PyProof.Rows
set_option maxHeartbeats 0 in
theorem PySem.Challenge.cw_xorturns_k02_lots_judged_holds : PySem.Challenge.rw_xorturns_k02_lots_judged.Holds := by
  w_on; o_law; k_head; (case hw => w_witness2)
  k_fill
  refine XT.walk_ofC (l := PySem.Challenge.rw_xorturns_k02_lots_judged) (n := 63) (k := 6) (sp := fun w => XT.spLaw _) rfl (by decide) rfl ⟨rfl, by decide, by decide⟩ (fun w h Y => PySem.W.kIn_of Y) ?F (fun _ _ a ns hl hS => ⟨a, ns, rfl, hS, hl, fun _ => rfl⟩)
  case F =>
    intro w mg fa h KX G hmg
    refine' XT.all_mk KX G hmg ?a1 ?l1 ?c1 ?k1 ?a2 ?l2 ?c2 ?k2 ?a3 ?l3 ?c3 ?k3 ?a4 ?l4 ?c4 ?k4 ?a5 ?l5 ?c5 ?k5 ?a6 ?l6 ?c6 ?k6 ?a7 ?l7 ?c7 ?k7 ?a8 ?l8 ?c8 ?k8 ?a9 ?l9 ?c9 ?k9 ?a10 ?l10 ?c10 ?k10 ?a11 ?l11 ?c11 ?k11 ?a12 ?l12 ?c12 ?k12 ?a13 ?l13 ?c13 ?k13 ?a14 ?l14 ?c14 ?k14 ?a15 ?l15 ?c15 ?k15 ?w1 ?y1 ?y2 ?y3 ?z1 ?z2 ?z3 ?z4 ?z5 ?z6 ?z7 ?z8 ?z9 ?z10 ?z11
    (case a1 => k_is); (case l1 => k_is); (case c1 => k_is); (case k1 => k_is); (case a2 => k_is); (case l2 => k_is); (case c2 => k_is); (case k2 => k_is); (case a3 => k_is); (case l3 => k_is); (case c3 => k_is); (case k3 => k_is); (case a4 => k_is); (case l4 => k_is); (case c4 => k_is); (case k4 => k_is); (case a5 => k_is); (case l5 => k_is); (case c5 => k_is); (case k5 => k_is); (case a6 => k_is); (case l6 => k_is); (case c6 => k_is); (case k6 => k_is); (case a7 => k_is); (case l7 => k_is); (case c7 => k_is); (case k7 => k_is); (case a8 => k_is); (case l8 => k_is); (case c8 => k_is); (case k8 => k_is); (case a9 => k_is); (case l9 => k_is); (case c9 => k_is); (case k9 => k_is); (case a10 => k_is); (case l10 => k_is); (case c10 => k_is); (case k10 => k_is); (case a11 => k_is); (case l11 => k_is); (case c11 => k_is); (case k11 => k_is); (case a12 => k_is); (case l12 => k_is); (case c12 => k_is); (case k12 => k_is); (case a13 => k_is); (case l13 => k_is); (case c13 => k_is); (case k13 => k_is); (case a14 => k_is); (case l14 => k_is); (case c14 => k_is); (case k14 => k_is); (case a15 => k_is); (case l15 => k_is); (case c15 => k_is); (case k15 => k_is); (case w1 => k_is); (case y1 => k_is); (case y2 => k_is); (case y3 => k_is); (case z1 => k_is); (case z2 => k_is); (case z3 => k_is); (case z4 => k_is); (case z5 => k_is); (case z6 => k_is); (case z7 => k_is); (case z8 => k_is); (case z9 => k_is); (case z10 => k_is); (case z11 => k_is)
