import PyProof.Rows.All
import Wide.All
import OpenK.AllK
import Wide.FinOn
import PyProof.EqAt
import PyProof.EqKinds
import PyProof.TupleCall
import HandS.ForMost
import HandS.Strs
import HandS.SetFor
import HandS.SortInts
import HandS.Star
import HandS.IsInst
import KE.GoesMore
import PyProof.ReprRoads
import PyProof.StrLawsRepr
import PyProof.ReprLen
import HandS.Dict
import HandS.Codes
import HandS.ForExc
import HandS.ExcInit
import KE.KExcInit
import KE.KExcIs
import HandS.ExcIs
import HandS.ExcField
import PySem.Challenge.RW_xorturns_k01_bounds_and_errors
set_option Elab.async false
set_option linter.all false
set_option maxRecDepth 100000
set_option maxHeartbeats 4000000
namespace XT
open PySem PySem.Spec PyProof.Rows L2

def topS (i : Nat) : Stmt := PySem.Challenge.pw_xorturns_k01_bounds_and_errors.main.body.getD i (.Pass ⟨0, 0, 0, 0⟩)
abbrev sStream : Stmt := topS 29
abbrev sDraw : Stmt := topS 30
abbrev sOdd : Stmt := topS 31
abbrev sMade : Stmt := topS 32
abbrev sFlags : Stmt := topS 33
abbrev sFields : Stmt := topS 34
abbrev sShR : Stmt := topS 35
abbrev sLaw : Stmt := topS 36
abbrev sI0 : Stmt := inClass (topS 2) 0
abbrev sI1 : Stmt := inClass (topS 3) 0
abbrev sI2 : Stmt := inClass (topS 4) 0
abbrev sI3 : Stmt := inClass (topS 5) 0
abbrev sI4 : Stmt := inClass (topS 6) 0
abbrev sI5 : Stmt := inClass (topS 7) 0
abbrev sI6 : Stmt := inClass (topS 8) 0
abbrev sI7 : Stmt := inClass (topS 9) 0
abbrev sI8 : Stmt := inClass (topS 10) 0
abbrev sI9 : Stmt := inClass (topS 11) 0
abbrev sI10 : Stmt := inClass (topS 12) 0
abbrev sI11 : Stmt := inClass (topS 13) 0
abbrev sI12 : Stmt := inClass (topS 14) 0
abbrev sI13 : Stmt := inClass (topS 15) 0
abbrev sI14 : Stmt := inClass (topS 16) 0
abbrev sI15 : Stmt := inClass (topS 17) 0
abbrev sI16 : Stmt := inClass (topS 18) 0
abbrev sI17 : Stmt := inClass (topS 19) 0
abbrev sI18 : Stmt := inClass (topS 20) 0
abbrev sI19 : Stmt := inClass (topS 21) 0
abbrev sI20 : Stmt := inClass (topS 22) 0

/-! heaps -/
theorem same_new {H : Hp} {p : Addr} {o : HO} (h : H p = none) : Same H (upd H p o) := fun b x e => by
  rw [upd_ne (ne_of_none e h)]; exact e

/-- a stream: its own list, the list of its great cells, the list of its cells -/
structure Sm where
  s : Addr
  p : Addr
  q : Addr
  cs : List Int
structure StrmB (S : Sm) (H : Hp) (t : Int) (big : List Int) : Prop where
  hs : H S.s = some (.lst [.ref S.p, .ref S.q, .int t])
  hp : H S.p = some (.lst (big.map V.int))
  hq : H S.q = some (.lst (S.cs.map V.int))
  sp : S.s ≠ S.p
  sq : S.s ≠ S.q
  pq : S.p ≠ S.q
  ne : 0 < S.cs.length
  t0 : 0 ≤ t
def Strm (S : Sm) (H : Hp) (t : Int) : Prop := ∃ big, StrmB S H t big
def Keep (S : Sm) (H H' : Hp) : Prop := ∀ b o, b ≠ S.s → b ≠ S.p → H b = some o → H' b = some o
theorem Keep.refl (S : Sm) (H : Hp) : Keep S H H := fun _ _ _ _ h => h
theorem Keep.trans {S : Sm} {H H1 H2 : Hp} (a : Keep S H H1) (b : Keep S H1 H2) : Keep S H H2 := fun c o n1 n2 h => b c o n1 n2 (a c o n1 n2 h)
theorem Keep.of {S : Sm} {H H' : Hp} (a : Same H H') : Keep S H H' := fun c o _ _ h => a c o h
theorem StrmB.same {S : Sm} {H H' : Hp} {t : Int} {big : List Int} (h : StrmB S H t big) (e : Same H H') : StrmB S H' t big :=
  ⟨e _ _ h.hs, e _ _ h.hp, e _ _ h.hq, h.sp, h.sq, h.pq, h.ne, h.t0⟩
theorem Strm.same {S : Sm} {H H' : Hp} {t : Int} (h : Strm S H t) (e : Same H H') : Strm S H' t := let ⟨b, h⟩ := h; ⟨b, h.same e⟩
theorem Strm.ns {S : Sm} {H : Hp} {t : Int} {b : Addr} {xs : List V} (h : Strm S H t) (e : H b = some (.tup xs)) : b ≠ S.s := by
  obtain ⟨_, h⟩ := h
  exact ne_of e h.hs (by intro z; cases z)
theorem Strm.np {S : Sm} {H : Hp} {t : Int} {b : Addr} {xs : List V} (h : Strm S H t) (e : H b = some (.tup xs)) : b ≠ S.p := by
  obtain ⟨_, h⟩ := h
  exact ne_of e h.hp (by intro z; cases z)
theorem Keep.tup {S : Sm} {H H' : Hp} {t : Int} {b : Addr} {xs : List V} (k : Keep S H H') (h : Strm S H t) (e : H b = some (.tup xs)) : H' b = some (.tup xs) :=
  k b _ (h.ns e) (h.np e) e
theorem Keep.free {S : Sm} {H H' : Hp} {t : Int} {x : Addr} (k : Keep S H H') (h : Strm S H' t) (e : H' x = none) : H x = none := by
  obtain ⟨_, h⟩ := h
  cases q : H x with
  | none => rfl
  | some o =>
    by_cases h1 : x = S.s
    · rw [h1, h.hs] at e; cases e
    · by_cases h2 : x = S.p
      · rw [h2, h.hp] at e; cases e
      · rw [k x o h1 h2 q] at e; cases e
/-- a list of one's own, new behind H, is neither of the stream's -/
theorem Keep.mine {S : Sm} {H H' H2 : Hp} {t : Int} {x : Addr} {o : HO} (k : Keep S H' H2) (h : Strm S H t) (n : H x = none) (e : H' x = some o) : H2 x = some o := by
  obtain ⟨_, h⟩ := h
  refine k x o (fun z => ?_) (fun z => ?_) e
  · rw [z, h.hs] at n; cases n
  · rw [z, h.hp] at n; cases n

theorem dpInts {K : PySem.W.Frag} {H : Hp} : ∀ ns : List Int, DpAll K H (ns.map V.int) (ns.map PyData.int)
  | [] => .nil
  | n :: ns => .cons (.int n) (dpInts ns)
theorem ke_shaped (ns : List Int) : SeqAt.shaped (.list (ns.map PyData.int)) = true := by
  have h1 : ∀ ns : List Int, PyData.canLay0 (.list (ns.map PyData.int)) = true := by
    intro ns
    induction ns with
    | nil => rfl
    | cons n ns ih => simpa [PyData.canLay0, PyData.canLayAll0] using ih
  have h2 : ∀ ns : List Int, PyData.depth (.list (ns.map PyData.int)) ≤ 2 := by
    intro ns
    induction ns with
    | nil => decide
    | cons n ns ih => simp only [PyData.depth, PyData.depthAll, List.map] at ih ⊢; omega
  unfold SeqAt.shaped
  rw [h1 ns, decide_eq_true (Nat.le_trans (h2 ns) (by decide))]
  rfl
theorem ix0 {n : Nat} (h : 0 < n) : ixN n 0 = some 0 := by
  have h2 : (0 : Int) < n := by omega
  simp [ixN]; omega
theorem sq0 {n : Nat} (h : 0 < n) : seqIndex? 0 n = some 0 := (ixN_seq (ix0 h)).1
theorem scD : FnScope ["_law_stream_here", "_law_many", "_law_rest", "_law_turn", "_law_cell", "_law_mixed"] ["_law_stream_here", "_law_many"] (defScope sDraw) := ⟨rfl, rfl, rfl, by decide +kernel, rfl, by decide +kernel, by decide +kernel⟩
theorem pm31 {x : Int} : x % 2147483647 < 2147483647 ∧ 0 ≤ x % 2147483647 := ⟨Int.emod_lt_of_pos _ (by decide), Int.emod_nonneg _ (by decide)⟩
theorem pm87 {x : Int} : x % 2147483587 < 2147483587 ∧ 0 ≤ x % 2147483587 := ⟨Int.emod_lt_of_pos _ (by decide), Int.emod_nonneg _ (by decide)⟩

section
variable {P : Program} {w : World} {K : PySem.W.Frag} {mg : Str → Option Value} {base : Heap}
def spDraw : Sp := fun vs H Q _ => ∃ (S : Sm) (t m : Int), vs = [.ref S.s, .int m] ∧ Strm S H t ∧ 0 < m ∧ m < 1073741824 ∧ t < 1000000000000 ∧
  ∀ (H' : Hp) (r t' : Int), Keep S H H' → Strm S H' t' → t ≤ t' → t' ≤ t + 1 → 0 ≤ r → r < m → Q (.int r) H'
theorem ok_draw {f : Addr} {fd : FuncData} {k : Nat} (F : Fun K "_law_draw" "_law_draw" sDraw f fd) (ml : mg "len" = none) : FnOk P w K mg base CX0 (k + 1) f fd ["_law_stream_here", "_law_many"] spDraw := by
  refine F.ok scD (fun vs H Q E h => ?_) (fun cdv A outer s H vs Q E hr h => ?_)
  · obtain ⟨S, t, m, rfl, _⟩ := h
    rfl
  · obtain ⟨S, t, m, rfl, ⟨big0, hS0⟩, m0, m1, t1, q⟩ := h
    refine ⟨_, pss_cons (ps_while PassesOwn.never
        (pt_cmpR (op_neD hr.units) (pe_ix ix_list (pv 0) pe_int (fun _ _ => rfl)) (pe_lst pa_nil) (nomark _))
        (pss_cons (ps_set (i := 2) scD.nd rfl (.inl rfl) (pe_ix ix_list (pe_ix ix_list (pv 0) pe_int (fun _ _ => rfl)) pe_int (fun _ _ => rfl)))
        (pss_cons (ps_if (pt_cmpR op_gt (pv 2) pe_int (nomark _))
          (pss_cons (ps_asg (pe_op op_fdiv (pv 2) (pv 1)) (pg_sub (pe_ix ix_list (pv 0) pe_int (fun _ _ => rfl)) pe_int set_list))
          (pss_one (ps_ret (pe_op op_mod (pv 2) (pv 1))))) pss_nil)
        (pss_one (ps_expr (pe_bm PySem.F.plainAttrs_list PySem.F.slot_list_pop PySem.F.type_list_pop mt_popAt (pe_ix ix_list (pv 0) pe_int (fun _ _ => rfl)) (pa_cons pe_int pa_nil)))))))
      (pss_cons (ps_set (i := 3) scD.nd rfl (.inl rfl) (pe_op op_add (pe_ix ix_list (pv 0) pe_int (fun _ _ => rfl)) pe_int))
      (pss_cons (ps_asg (pv 3) (pg_sub (pv 0) pe_int set_list))
      (pss_cons (ps_set (i := 4) scD.nd rfl (.inl rfl) (pe_op op_mod (pe_ix ix_list (pe_ix ix_list (pv 0) pe_int (fun _ _ => rfl)) (pe_op op_mod (pv 3) (pe_callB call_len_seq (by rfl) ml PySem.boot_len (pa_cons (pe_ix ix_list (pv 0) pe_int (fun _ _ => rfl)) pa_nil))) (fun _ _ => rfl)) pe_int))
      (pss_cons (ps_set (i := 5) scD.nd rfl (.inl rfl) (pe_op op_mod (pe_op op_add (pe_op op_add (pe_op op_mul (pv 4) (pe_op op_add pe_int (pe_op op_mul pe_int (pv 3)))) (pe_op op_mul (pe_op op_mul pe_int (pv 3)) (pv 3))) pe_int) pe_int))
      (pss_one (ps_ret (pe_op op_mod (pe_op op_fdiv (pe_op op_mod (pe_op op_mul (pv 5) (pv 5)) pe_int) pe_int) (pv 1)))))))), ?_⟩
    refine ⟨fun n σ H1 => ∃ big y2, σ = [some (.ref S.s), some (.int m), y2, none, none, none] ∧ n = big.length ∧ StrmB S H1 t big ∧ Keep S H H1,
      ⟨big0.length, big0, none, rfl, rfl, hS0, Keep.refl S H⟩, ?_⟩
    rintro n σ H1 ⟨big, y2, rfl, rfl, hS, hk⟩
    -- while stream[0] != []
    refine ⟨.ref S.s, rfl, S.s, _, 0, .ref S.p, rfl, rfl, SqL.of hS.hs, rfl, Nat.zero_le _, fun z nz => ?_⟩
    have sm : Same H1 (upd H1 z (.lst [])) := same_new nz
    have hz : (upd H1 z (.lst [])) z = some (.lst []) := upd_same
    have hS' := hS.same sm
    have hk' : Keep S H (upd H1 z (.lst [])) := hk.trans (Keep.of sm)
    generalize upd H1 z (.lst []) = H2 at *
    clear hS hk sm nz
    refine ⟨_, _, .lst (SqL.of hS'.hp) (dpInts big), .lst (SqL.of hz) .nil, ke_shaped big, rfl, _, rfl, ?_⟩
    cases big with
    | cons x rest =>
      have e : (!PyData.eqv (.list ((x :: rest).map PyData.int)) (.list [])) = true := rfl
      rw [e]
      refine iteT ?_
      refine ⟨fun σ' H' => ∃ y2, σ' = [some (.ref S.s), some (.int m), y2, none, none, none] ∧ StrmB S H' t rest ∧ Keep S H H', ?_, ?_⟩
      · rintro σ' H' ⟨y, rfl, h1, h2⟩
        exact ⟨rest.length, Nat.lt_succ_self _, rest, y, rfl, rfl, h1, h2⟩
      · refine ⟨.ref S.s, rfl, S.s, _, 0, .ref S.p, rfl, rfl, SqL.of hS'.hs, rfl, S.p, _, 0, .int x, rfl, rfl, SqL.of hS'.hp, atI_nat (j := 0) rfl, ?_⟩
        refine ⟨.int x, rfl, x, 0, rfl, rfl, _, rfl, ite2 (fun hx => ?_) (fun hx => ?_)⟩
        · refine ⟨.int x, rfl, .int m, rfl, x, m, rfl, rfl, ⟨m0, m1⟩, ?_⟩
          refine ⟨.ref S.s, rfl, S.s, _, 0, .ref S.p, rfl, rfl, SqL.of hS'.hs, rfl, S.p, _, 0, 0, rfl, rfl, hS'.hp, ix0 (Nat.succ_pos _), ?_⟩
          refine ⟨.int x, rfl, .int m, rfl, x, m, rfl, rfl, m0, ?_⟩
          refine q _ _ t (fun b o n1 n2 eb => ?_) ⟨(x / m) :: rest, ?_⟩ (Int.le_refl _) (by omega) (Int.emod_nonneg _ (by omega)) (Int.emod_lt_of_pos _ m0)
          · rw [upd_ne n2]; exact hk' b o n1 n2 eb
          · refine ⟨?_, upd_same, ?_, hS'.sp, hS'.sq, hS'.pq, hS'.ne, hS'.t0⟩
            · rw [upd_ne hS'.sp]; exact hS'.hs
            · rw [upd_ne hS'.pq.symm]; exact hS'.hq
        · refine ⟨.ref S.s, rfl, S.s, _, 0, .ref S.p, rfl, rfl, SqL.of hS'.hs, rfl, .inl ⟨rfl, _, SqL.of hS'.hp⟩, S.p, _, 0, 0, .int x, rfl, rfl, hS'.hp, by decide, by decide, sq0 (Nat.succ_pos _), rfl, ?_⟩
          refine ⟨_, rfl, ⟨?_, upd_same, ?_, hS'.sp, hS'.sq, hS'.pq, hS'.ne, hS'.t0⟩, fun b o n1 n2 eb => ?_⟩
          · rw [upd_ne hS'.sp]; exact hS'.hs
          · rw [upd_ne hS'.pq.symm]; exact hS'.hq
          · rw [upd_ne n2]; exact hk' b o n1 n2 eb
    | nil =>
      have e : (!PyData.eqv (.list (([] : List Int).map PyData.int)) (.list [])) = false := rfl
      rw [e]
      refine iteF ?_
      have t0 := hS'.t0
      -- turn = stream[2] + 1; stream[2] = turn
      refine ⟨.ref S.s, rfl, S.s, _, 2, .int t, rfl, rfl, SqL.of hS'.hs, rfl, t, 1, rfl, rfl, ?_⟩
      refine ⟨.int (t + 1), rfl, .ref S.s, rfl, S.s, _, 2, 2, rfl, rfl, hS'.hs, rfl, ?_⟩
      generalize hH3 : upd H2 S.s (.lst ([V.ref S.p, .ref S.q, .int t].set 2 (.int (t + 1)))) = H3
      have hS3 : StrmB S H3 (t + 1) [] := by
        subst hH3
        refine ⟨upd_same, ?_, ?_, hS'.sp, hS'.sq, hS'.pq, hS'.ne, by omega⟩
        · rw [upd_ne hS'.sp.symm]; exact hS'.hp
        · rw [upd_ne hS'.sq.symm]; exact hS'.hq
      have hk3 : Keep S H H3 := fun b o n1 n2 eb => by
        subst hH3
        rw [upd_ne n1]; exact hk' b o n1 n2 eb
      clear hH3
      -- cell
      have hl : (0 : Int) < ((S.cs.map V.int).length : Nat) := by rw [List.length_map]; have := hS'.ne; omega
      have hm1 : (t + 1) % ((S.cs.map V.int).length : Nat) < ((S.cs.map V.int).length : Nat) := Int.emod_lt_of_pos _ hl
      have hm0 : 0 ≤ (t + 1) % ((S.cs.map V.int).length : Nat) := Int.emod_nonneg _ (by omega)
      obtain ⟨j, hj⟩ : ∃ j : Nat, (t + 1) % ((S.cs.map V.int).length : Nat) = j := ⟨_, (Int.toNat_of_nonneg hm0).symm⟩
      have hjl : j < S.cs.length := by rw [List.length_map] at hm1 hj; omega
      have hat : atI (S.cs.map V.int) ((t + 1) % ((S.cs.map V.int).length : Nat)) = some (.int S.cs[j]) := by
        rw [hj]
        refine atI_nat ?_
        rw [List.getElem?_map, List.getElem?_eq_getElem hjl]
        rfl
      refine ⟨.ref S.s, rfl, S.s, _, 1, .ref S.q, rfl, rfl, SqL.of hS3.hs, rfl, .int (t + 1), rfl, .ref S.s, rfl, S.s, _, 1, .ref S.q, rfl, rfl, SqL.of hS3.hs, rfl, S.q, _, rfl, .inl (SqL.of hS3.hq), _, _, rfl, rfl, hl, ?_⟩
      have k87 : (0 : Int) < 2147483587 := by decide
      have k47 : (0 : Int) < 2147483647 := by decide
      have k29 : (0 : Int) < 2147483629 := by decide
      refine ⟨S.q, _, _, .int S.cs[j], rfl, rfl, SqL.of hS3.hq, hat, S.cs[j], _, rfl, rfl, k87, ?_⟩
      obtain ⟨c1, c0⟩ := pm87 (x := S.cs[j])
      obtain ⟨c, hc⟩ : ∃ c, S.cs[j] % 2147483587 = c := ⟨_, rfl⟩
      rw [hc] at c1 c0
      -- mixed
      refine ⟨.int c, congrArg (fun x => some (some (V.int x))) hc, .int (t + 1), rfl, 40692, t + 1, rfl, rfl, .inl ⟨by decide, by decide⟩, 69621, 40692 * (t + 1), rfl, rfl, c, 69621 + 40692 * (t + 1), rfl, rfl, .inl ⟨by omega, by omega⟩, ?_⟩
      refine ⟨.int (t + 1), rfl, 48271, t + 1, rfl, rfl, .inl ⟨by decide, by decide⟩, .int (t + 1), rfl, 48271 * (t + 1), t + 1, rfl, rfl, .inr ⟨by omega, by omega⟩, c * (69621 + 40692 * (t + 1)), 48271 * (t + 1) * (t + 1), rfl, rfl, _, 47, rfl, rfl, c * (69621 + 40692 * (t + 1)) + 48271 * (t + 1) * (t + 1) + 47, 2147483647, rfl, rfl, k47, ?_⟩
      obtain ⟨d1, d0⟩ := pm31 (x := c * (69621 + 40692 * (t + 1)) + 48271 * (t + 1) * (t + 1) + 47)
      obtain ⟨d, hd⟩ : ∃ d, (c * (69621 + 40692 * (t + 1)) + 48271 * (t + 1) * (t + 1) + 47) % 2147483647 = d := ⟨_, rfl⟩
      rw [hd] at d1 d0
      have ed : some (some (V.int ((c * (69621 + 40692 * (t + 1)) + 48271 * (t + 1) * (t + 1) + 47) % 2147483647))) = some (some (V.int d)) := congrArg (fun x => some (some (V.int x))) hd
      refine ⟨.int d, ed, .int d, ed, d, d, rfl, rfl, .inl ⟨by omega, by omega⟩, d * d, 2147483629, rfl, rfl, k29, d * d % 2147483629, 16, rfl, rfl, ⟨by decide, by decide⟩, .int m, rfl, _, m, rfl, rfl, m0, ?_⟩
      exact q _ _ (t + 1) hk3 ⟨_, hS3⟩ (by omega) (Int.le_refl _) (Int.emod_nonneg _ (by omega)) (Int.emod_lt_of_pos _ m0)
end
end XT
namespace XT
open PySem PySem.Spec PyProof.Rows L2

/-! comprehensions whose turns only lay new things -/
theorem take_one {α β : Type} (f : α → β) (p : α → Bool) {xs : List α} {i : Nat} {x : α} (h : xs[i]? = some x) :
    ((xs.take (i + 1)).filter p).map f = ((xs.take i).filter p).map f ++ (if p x = true then [f x] else []) := by
  rw [List.take_add_one, h, List.filter_append, List.map_append]
  by_cases hp : p x = true
  · simp [hp]
  · simp [hp]
theorem flt_len {α β : Type} (f : α → β) (p : α → Bool) (xs : List α) (i : Nat) : (((xs.take i).filter p).map f).length ≤ i := by
  rw [List.length_map]
  exact Nat.le_trans (List.length_filter_le _ _) (by rw [List.length_take]; exact Nat.min_le_left _ _)

section
variable {K : PySem.W.Frag} {a : Addr} {g : TG} {tt : TT} {te : TE} {vs : List Nat} {σ : L2.St} {H1 : Hp} {D : Addr} {Qd : Hp → Prop}
/-- what one turn must do -/
def TurnP (g : TG) (tt : TT) (te : TE) (vs : List Nat) (σ : L2.St) (x y : V) (keep : Bool) (H : Hp) : Prop :=
  ∀ (R1 : Hp → Prop) (R2 : V → Hp → Prop), (keep = false → ∀ H3, Same H H3 → R1 H3) → (keep = true → ∀ H4, Same H H4 → R2 y H4) →
    g x (wipe σ vs) H fun σ2 H2 => wipe σ2 vs = wipe σ vs ∧ tt σ2 H2 fun b H3 => if b = true then te σ2 H3 R2 else R1 H3
/-- the invariant -/
def PvP (H1 : Hp) (D : Addr) (ys : List V) (H : Hp) : Prop := Same H1 H ∧ H D = some (.lst ys)
theorem pvp_turn {x y : V} {keep : Bool} {H : Hp} {ys : List V} (nD : H1 D = none) (h : PvP H1 D ys H) (hl : ys.length < sizeLine) (ht : TurnP g tt te vs σ x y keep H) (zs : List V) (ez : zs = ys ++ (if keep = true then [y] else [])) :
    g x (wipe σ vs) H fun σ2 H2 => wipe σ2 vs = wipe σ vs ∧ tt σ2 H2 fun b H3 =>
      if b = true then te σ2 H3 fun y H4 => ∃ acc, H4 D = some (.lst acc) ∧ acc.length < sizeLine ∧ PvP H1 D zs (upd H4 D (.lst (acc ++ [y]))) else PvP H1 D zs H3 := by
  obtain ⟨sm, hD⟩ := h
  refine ht _ _ (fun hk H3 s3 => ?_) (fun hk H4 s4 => ?_)
  · subst hk
    refine ⟨sm.trans s3, ?_⟩
    rw [ez, s3 _ _ hD]
    simp
  · subst hk
    refine ⟨ys, s4 _ _ hD, hl, fun b o e => ?_, ?_⟩
    · rw [upd_ne (ne_of_none e nD)]
      exact s4 _ _ (sm _ _ e)
    · rw [upd_same, ez]
      rfl
theorem lcp_list {xs : List V} (p : V → Bool) (f : V → V) (nD : H1 D = none) (hA : SqL K H1 a xs) (hz : xs.length < sizeLine) (ht : ∀ (i : Nat) x H, xs[i]? = some x → Same H1 H → TurnP g tt te vs σ x (f x) (p x) H)
    (hd : ∀ H, Same H1 H → H D = some (.lst ((xs.filter p).map f)) → Qd H) :
    ∃ W : Nat → Nat → Hp → Prop, (∃ m, W 0 m (upd H1 D (.lst []))) ∧ ∀ i m H, W i m H →
      ((Itl K a).stop i H ∧ Qd H) ∨ ((Itl K a).go i H ∧ ∃ Nx : Hp → Prop, (∀ H', Nx H' → ∃ m', m' < m ∧ W (i + 1) m' H') ∧ ∀ x H', (Itl K a).yld i H x H' → g x (wipe σ vs) H' fun σ2 H2 => wipe σ2 vs = wipe σ vs ∧ tt σ2 H2 fun b H3 =>
        if b = true then te σ2 H3 fun y H4 => ∃ acc, H4 D = some (.lst acc) ∧ acc.length < sizeLine ∧ Nx (upd H4 D (.lst (acc ++ [y]))) else Nx H3) := by
  refine lc_list (xs := xs) (fun i H => PvP H1 D (((xs.take i).filter p).map f) H) ⟨same_new nD, upd_same⟩ (fun i H _ h => h.1.seq hA) (fun i x H hx h => ?_) (fun H h => ?_)
  · have hi : i < xs.length := (List.getElem?_eq_some_iff.mp hx).1
    exact pvp_turn nD h (Nat.lt_of_le_of_lt (flt_len f p xs i) (Nat.lt_trans hi hz)) (ht i x H hx h.1) _ (take_one f p hx)
  · have h2 := h.2
    rw [List.take_length] at h2
    exact hd H h.1 h2
theorem Same.sqT {H H' : Hp} {a : Addr} {xs : List V} (e : Same H H') (h : SqT K H a xs) : SqT K H' a xs := by
  rcases h with (h | ⟨o, h⟩) | h
  · exact .inl (.inl (e _ _ h))
  · exact .inl (.inr ⟨o, e _ _ h⟩)
  · exact .inr h
theorem lcp_tup {xs : List V} (p : V → Bool) (f : V → V) (nD : H1 D = none) (hA : SqT K H1 a xs) (hz : xs.length < sizeLine) (ht : ∀ (i : Nat) x H, xs[i]? = some x → Same H1 H → TurnP g tt te vs σ x (f x) (p x) H)
    (hd : ∀ H, Same H1 H → H D = some (.lst ((xs.filter p).map f)) → Qd H) :
    ∃ W : Nat → Nat → Hp → Prop, (∃ m, W 0 m (upd H1 D (.lst []))) ∧ ∀ i m H, W i m H →
      ((Itt K a).stop i H ∧ Qd H) ∨ ((Itt K a).go i H ∧ ∃ Nx : Hp → Prop, (∀ H', Nx H' → ∃ m', m' < m ∧ W (i + 1) m' H') ∧ ∀ x H', (Itt K a).yld i H x H' → g x (wipe σ vs) H' fun σ2 H2 => wipe σ2 vs = wipe σ vs ∧ tt σ2 H2 fun b H3 =>
        if b = true then te σ2 H3 fun y H4 => ∃ acc, H4 D = some (.lst acc) ∧ acc.length < sizeLine ∧ Nx (upd H4 D (.lst (acc ++ [y]))) else Nx H3) := by
  refine lc_tup (xs := xs) (fun i H => PvP H1 D (((xs.take i).filter p).map f) H) ⟨same_new nD, upd_same⟩ (fun i H _ h => Same.sqT h.1 hA) (fun i x H hx h => ?_) (fun H h => ?_)
  · have hi : i < xs.length := (List.getElem?_eq_some_iff.mp hx).1
    exact pvp_turn nD h (Nat.lt_of_le_of_lt (flt_len f p xs i) (Nat.lt_trans hi hz)) (ht i x H hx h.1) _ (take_one f p hx)
  · have h2 := h.2
    rw [List.take_length] at h2
    exact hd H h.1 h2
theorem lcp_range {n : Nat} (p : Nat → Bool) (f : Nat → V) (nD : H1 D = none) (hz : n < sizeLine) (ht : ∀ (i : Nat) H, i < n → Same H1 H → TurnP g tt te vs σ (.int (0 + (i : Int))) (f i) (p i) H)
    (hd : ∀ H, Same H1 H → H D = some (.lst (((List.range n).filter p).map f)) → Qd H) :
    ∃ W : Nat → Nat → Hp → Prop, (∃ m, W 0 m (upd H1 D (.lst []))) ∧ ∀ i m H, W i m H →
      ((Itr 0 n).stop i H ∧ Qd H) ∨ ((Itr 0 n).go i H ∧ ∃ Nx : Hp → Prop, (∀ H', Nx H' → ∃ m', m' < m ∧ W (i + 1) m' H') ∧ ∀ x H', (Itr 0 n).yld i H x H' → g x (wipe σ vs) H' fun σ2 H2 => wipe σ2 vs = wipe σ vs ∧ tt σ2 H2 fun b H3 =>
        if b = true then te σ2 H3 fun y H4 => ∃ acc, H4 D = some (.lst acc) ∧ acc.length < sizeLine ∧ Nx (upd H4 D (.lst (acc ++ [y]))) else Nx H3) := by
  refine lc_range (lo := 0) (n := n) (fun i H => PvP H1 D ((((List.range n).take i).filter p).map f) H) ⟨same_new nD, upd_same⟩ (fun i H hi h => ?_) (fun H h => ?_)
  · have hx : (List.range n)[i]? = some i := List.getElem?_range hi
    exact pvp_turn nD h (Nat.lt_of_le_of_lt (flt_len f p _ i) (Nat.lt_trans hi hz)) (ht i H hi h.1) _ (take_one f p hx)
  · have h2 := h.2
    rw [List.take_of_length_le (by rw [List.length_range]; exact Nat.le_refl _)] at h2
    exact hd H h.1 h2
end
end XT
namespace XT
open PySem PySem.Spec PyProof.Rows L2

theorem scSt : FnScope ["_law_script", "_law_cells", "_law_cell"] ["_law_script"] (defScope sStream) := ⟨rfl, rfl, rfl, by decide +kernel, rfl, by decide +kernel, by decide +kernel⟩
theorem sz {n : Nat} (h : n ≤ 1000) : n ≤ sizeLine := Nat.le_trans h (by decide)
theorem small64 {n : Nat} (h : n ≤ 1000) : n < sizeLine := Nat.lt_of_le_of_lt h (by decide)
def ab (i : Int) : Int := if i < 0 then -i else i
section
variable {P : Program} {w : World} {K : PySem.W.Frag} {mg : Str → Option Value} {base : Heap}
def spStream (K : PySem.W.Frag) : Sp := fun vs H Q _ => ∃ (a : Addr) (ns : List Int), vs = [.ref a] ∧ SqL K H a (ns.map V.int) ∧ ns.length ≤ 63 ∧
  ∀ (H' : Hp) (S : Sm), Same H H' → Strm S H' 0 → Q (.ref S.s) H'
theorem ok_stream {f : Addr} {fd : FuncData} {k : Nat} (F : Fun K "_law_stream" "_law_stream" sStream f fd) (ml : mg "len" = none) (ma : mg "abs" = none) : FnOk P w K mg base CX0 (k + 1) f fd ["_law_script"] (spStream K) := by
  refine F.ok scSt (fun vs H Q E h => ?_) (fun cdv A outer s H vs Q E hr h => ?_)
  · obtain ⟨a, ns, rfl, _⟩ := h
    rfl
  · obtain ⟨a, ns, rfl, hA, hlen, q⟩ := h
    refine ⟨_, pss_cons (ps_setLc (i := 1) (own := [("_law_cell", 2)]) (g := gName 2) (tt := tYes) rfl scSt.nd rfl rfl (sw_true rfl rfl rfl (by decide +kernel)) (pi_list (pv 0)) (blkOk_by (own := [("_law_cell", 2)]) (N := ["_law_script", "_law_cells", "_law_cell"]) (sc := defScope sStream) (by decide +kernel))
          (fun _ _ _ _ _ => pg_name (i := 2) scSt.nd rfl (Or.inl rfl)) (fun _ _ _ _ _ => pts_nil) (fun _ _ _ _ _ => pe_callB call_abs (by rfl) ma (by decide +kernel) (pa_cons (pv 2) pa_nil)))
        (pss_one (ps_ret (pe_lst (pa_cons
          (pe_lc (own := [("_law_cell", 2)]) (g := gName 2) rfl scSt.nd (pi_list (pv 1)) (blkOk_by (own := [("_law_cell", 2)]) (N := ["_law_script", "_law_cells", "_law_cell"]) (sc := defScope sStream) (by decide +kernel))
            (fun _ _ _ _ _ => pg_name (i := 2) scSt.nd rfl (Or.inl rfl)) (fun _ _ _ _ _ => pts_one (pt_cmpR op_ge (pv 2) (pe_op op_pow pe_int pe_int) (nomark _))) (fun _ _ _ _ _ => pv 2))
          (pa_cons (pe_op op_cat (pv 1) (pe_lst (pa_cons (pe_op op_add (pe_callB call_len_seq (by rfl) ml PySem.boot_len (pa_cons (pv 1) pa_nil)) pe_int) pa_nil)))
          (pa_cons pe_int pa_nil)))))), ?_⟩
    have hml : (ns.map V.int).length ≤ 63 := by rw [List.length_map]; exact hlen
    refine ⟨.ref a, rfl, a, rfl, ⟨_, hA⟩, fun D nD => lcp_list (p := fun _ => true) (f := fun v => match v with | .int i => .int (ab i) | v => v) nD hA (small64 (by omega)) (fun i x H3 hx sm => ?_) (fun H3 sm hD => ?_)⟩
    · intro R1 R2 h1 h2
      rw [List.getElem?_map] at hx
      obtain ⟨n, -, rfl⟩ := Option.map_eq_some_iff.mp hx
      exact ⟨rfl, iteT (B := R1 H3) ⟨_, rfl, n, rfl, h2 rfl _ (Same.refl _)⟩⟩
    · -- cells
      obtain ⟨cs, hcs, hcl⟩ : ∃ cs : List Int, (((ns.map V.int).filter fun _ => true).map fun v => match v with | .int i => V.int (ab i) | v => v) = cs.map V.int ∧ cs.length = ns.length := by
        refine ⟨ns.map ab, ?_, List.length_map _⟩
        rw [List.filter_eq_self.mpr (fun _ _ => rfl), List.map_map, List.map_map]
        rfl
      rw [hcs] at hD
      have hDl : (cs.map V.int).length ≤ 63 := by rw [List.length_map]; omega
      refine ⟨.ref D, rfl, D, rfl, ⟨_, SqL.of hD⟩, fun B nB => lcp_list (p := fun v => match v with | .int i => decide (10 ^ 18 ≤ i) | _ => false) (f := id) nB (SqL.of hD) (small64 (by omega)) (fun i x H4 hx sm4 => ?_) (fun H4 sm4 hB => ?_)⟩
      · intro R1 R2 h1 h2
        rw [List.getElem?_map] at hx
        obtain ⟨n, -, rfl⟩ := Option.map_eq_some_iff.mp hx
        refine ⟨rfl, _, rfl, 10, 18, rfl, rfl, ⟨by decide, by decide, by decide⟩, n, _, rfl, rfl, _, rfl, ite2 (fun e => ?_) (fun e => ?_)⟩
        · exact ⟨_, rfl, h2 e _ (Same.refl _)⟩
        · exact h1 (by simpa using e) _ (Same.refl _)
      · have hD4 := sm4 _ _ hD
        obtain ⟨big, hbig⟩ : ∃ big : List Int, (((cs.map V.int).filter fun v => match v with | .int i => decide (10 ^ 18 ≤ i) | _ => false).map id) = big.map V.int := by
          refine ⟨cs.filter fun i => decide (10 ^ 18 ≤ i), ?_⟩
          rw [List.map_id, List.filter_map]
          rfl
        rw [hbig] at hB
        refine ⟨.ref D, rfl, .ref D, rfl, D, _, rfl, .inl (SqL.of hD4), _, _, rfl, rfl, sz (n := 1) (by decide), fun L nL => ?_⟩
        have s5 : Same H4 (upd H4 L (.lst [.int (((cs.map V.int).length : Nat) + 37)])) := same_new nL
        refine ⟨D, L, _, _, rfl, rfl, s5 _ _ hD4, upd_same, ?_, fun C nC => ?_⟩
        · rw [sizeLine_eq]; simp only [List.length_map, List.length_cons, List.length_nil]; omega
        · have s6 := same_new (o := .lst (cs.map V.int ++ [.int (((cs.map V.int).length : Nat) + 37)])) nC
          refine ⟨sz (n := 3) (by decide), fun G nG => ?_⟩
          have s7 := same_new (o := .lst [V.ref B, .ref C, .int 0]) nG
          have hBC : B ≠ C := ne_of_none (s5 _ _ hB) nC
          refine q _ ⟨G, B, C, cs ++ [(((cs.map V.int).length : Nat) : Int) + 37]⟩ (((sm.trans sm4).trans (s5.trans s6)).trans s7) ⟨big, upd_same, s7 _ _ (s6 _ _ (s5 _ _ hB)), s7 _ _ ?_, ?_, ?_, hBC, ?_, Int.le_refl _⟩
          · rw [upd_same, List.map_append]; rfl
          · exact (ne_of_none (s6 _ _ (s5 _ _ hB)) nG).symm
          · exact (ne_of_none (show (upd _ C _) C = some _ from upd_same) nG).symm
          · show 0 < (cs ++ _).length
            rw [List.length_append]; exact Nat.succ_pos _
end
end XT
/-! set(list of ints); sorted(set of ints) of any number -/
namespace XT
open PySem PySem.Spec PyProof.Rows L2
abbrev newS (w : World) : Obj := { cls := .type "set", dict := none, data := .set #[] 0 (.fresh 0 0 (!w.params.followText "set-order")) }
section
variable {P : Program} {w : World} {A : Around} {E : Value → Shared → Prop} {s : Shared}
abbrev afterS (w : World) (s : Shared) (ns : List Int) (r : Value) (s2 : Shared) : Prop :=
  r = .none ∧ ∃ (hp : Heap) (tk c : Nat), s2 = { s with heap := hp, toks := tk } ∧ SetR w hp s.heap.objs.size (fun j => decide (j ∈ ns)) c ∧ c ≤ ns.length ∧ (∀ b o, s.heap.get? b = some o → hp.get? b = some o)
abbrev withS (w : World) (s : Shared) : Shared := { s with heap := s.heap.push (newS w) }
theorem items_at {items : Array Value} {ns : List Int} (hit : IntsAre items.toList ns) (hz : items.size = ns.length) (i : Nat) (v : Value) (hv : items[i]? = some v) : ∃ k t, ns[i]? = some k ∧ v = .int k t := by
  have hi : i < ns.length := by rw [← hz]; exact (Array.getElem?_eq_some_iff.mp hv).1
  obtain ⟨t, e⟩ := IntsAre.int_at hit i v (by rw [Array.getElem?_toList]; exact hv)
  exact ⟨ns[i], t, List.getElem?_eq_getElem hi, by rw [e, List.getD_eq_getElem?_getD, List.getElem?_eq_getElem hi] <;> rfl⟩
theorem set_listI {l : Addr} {items : Array Value} (ns : List Int) {Q : Value → Shared → Prop} (hh : A.handled = none) (hl : s.heap.IsList l items) (hit : IntsAre items.toList ns) (hb : ns.length + 1 < scanBound)
    (h : ∀ (hp : Heap) (tk c : Nat), SetR w hp s.heap.objs.size (fun j => decide (j ∈ ns)) c → c ≤ ns.length → (∀ b o, s.heap.get? b = some o → hp.get? b = some o) → Q (.ref s.heap.objs.size) { s with heap := hp, toks := tk }) :
    wpAny (model P w) A (call (.type "set") [.ref l]) Q E s := by
  have hz : items.size = ns.length := by
    have e := IntsAre.length hit
    rwa [Array.length_toList] at e
  obtain ⟨mc, mt, m0⟩ := F.called_set.mro
  have m1 := F.called_set.made
  have m2 := F.called_set.sub
  have m3 := F.called_set.notType
  have m4 := F.called_set.canCreate
  have m5 := F.typeCall_set_1 (.ref l)
  refine wpAny_call (codeAny_of_tree ?_)
  show wpAny _ _ (callAny (.type "set") _) _ _ _
  refine wpAny_pure ⟨Code.quiet_builtin _ (by decide +kernel), codeAny_builtin F.entry_type_call ?_⟩
  rw [Around.under_plain (weight_type_call_type "set" [.ref l] []) rfl]
  repeat (any_goals (first | assumption | wp_step))
  refine codeAny_mono (code_set_led1 (.ref l) (E := E) (Q₁ := fun v s1 => v = .ref s.heap.objs.size ∧ s1 = withS w s) ⟨rfl, rfl⟩) fun r s1 hr => ?_
  match r, hr with
  | .error e, hr => exact hr
  | .ok .next, hr => exact hr.elim
  | .ok .brk, hr => exact hr.elim
  | .ok .cont, hr => exact hr.elim
  | .ok (.ret v), hr =>
    obtain ⟨rfl, rfl⟩ := hr
    have g0 : (s.heap.push (newS w)).get? s.heap.objs.size = some (newS w) := Heap.get?_push_size _ rfl
    have g1 : Shared.TypeIs (withS w s) (.ref s.heap.objs.size) "set" := ⟨_, g0, rfl⟩
    have g2 := F.called_set.init.lookup
    have g3 := F.called_set.init.bind (.ref s.heap.objs.size)
    repeat (any_goals (first | assumption | wp_step))
    refine codeAny_mono (codeAny_call_builtin (R := wants (afterS w s ns) E) F.called_set.init.plain F.entry_set_init (check_set_init_1 g1 ?_)) fun r2 s2 hr2 => ?_
    · obtain ⟨ol, hol, hcl, nl, hdl⟩ := hl
      obtain ⟨oc, od, odt, osl⟩ := ol
      simp only at hcl hdl
      subst hcl hdl
      have hol1 : (s.heap.push (newS w)).get? l = some { cls := .type "list", dict := od, data := .seq items nl, slots := osl } := Heap.get?_push_of_some _ hol
      have n1 := F.sub_list_set
      have n2 := F.sub_list_frozenset
      have n3 : (Value.type "list" == Value.type "dict") = false := by decide
      have hl1 : (s.heap.push (newS w)).IsList l items := ⟨_, hol1, rfl, nl, rfl⟩
      have lS : l < s.heap.objs.size := Heap.lt_size hol
      have z1 : (s.heap.push (newS w)).objs.size = s.heap.objs.size + 1 := Heap.size_push ..
      unfold Builtin.«set.__init__» noKeywords Builtin.Frozenset.updateFrom
      generalize hPI : pyIter = PI
      wp_walk
      subst hPI
      refine wpAny_pyIter_list hl1 (wpAny_bind (wpAny_runValue ?_))
      refine set_update_ints ((Walks.list (by simp [hh]) _ l (by rw [z1]; exact Nat.ne_of_lt (Nat.lt_succ_of_lt lS)) items).toS) s.heap.objs.size (by rw [z1]; simp only [List.mem_cons, List.not_mem_nil, or_false, not_or]; exact ⟨Nat.ne_of_lt (Nat.lt_succ_self _), Nat.ne_of_gt lS⟩) ns hz hb (items_at hit hz) (items.size - 0) 0 _ (by omega) (Nat.zero_le _)
        ⟨⟨_, Heap.get?_push_size _ rfl, rfl, rfl⟩, hl1.push _⟩ ⟨0, Nat.le_refl 0, setR_new_at (Heap.get?_push_of_some _ g0)⟩ ?_
      intro s3 c hm hc hS
      obtain ⟨h3, ge, dr, tk, os⟩ := s3
      obtain rfl : ge = s.gens := hm.gens
      obtain rfl : dr = s.drawn := hm.drawn
      obtain rfl : os = s.os := hm.os
      show wpAny _ _ _ _ _ _
      refine wpAny_pure ?_
      show wpAny _ _ (ret Value.none) _ _ _
      rw [hz] at hc
      refine wpAny_pure ⟨rfl, h3, tk, c, rfl, hS, hc, fun b o e => ?_⟩
      have b0 : b < s.heap.objs.size := Heap.lt_size e
      exact hm.heap b o (by rw [z1]; simp only [List.mem_cons, List.not_mem_nil, or_false, not_or]; exact ⟨Nat.ne_of_lt b0, Nat.ne_of_lt (Nat.lt_succ_of_lt b0)⟩) (Heap.get?_push_of_some _ (Heap.get?_push_of_some _ e))
    · match r2, hr2 with
      | .error e, hr2 => exact hr2
      | .ok .next, hr2 => exact hr2.elim
      | .ok .brk, hr2 => exact hr2.elim
      | .ok .cont, hr2 => exact hr2.elim
      | .ok (.ret v), hr2 =>
        obtain ⟨rfl, hp, tk, c, rfl, hS, hc, hk⟩ := hr2
        repeat (any_goals (first | assumption | wp_step))
        exact h _ _ _ hS hc hk
end
end XT
namespace XT
open PySem PySem.Spec PyProof.Rows L2
section
variable {P : Program} {w : World} {A : Around} {E : Value → Shared → Prop} {s : Shared} {a : Addr}
theorem iv_raw (v : Value) (h : ∃ k t, v = Value.int k t) : SrtO.iv v = Builtin.Re.reRawOf v := by
  obtain ⟨k, t, rfl⟩ := h
  rfl
/-- sorted(set of ints), however many -/
theorem sorted_setN {S : Int → Bool} {n : Nat} {Q : Value → Shared → Prop} (R : SetR w s.heap a S n) (hh : A.handled = none)
    (hQ : ∀ s2 p (out : List Value) (c : Nat) (ns : List Int), (∀ b o, s.heap.get? b = some o → s2.heap.get? b = some o) → s2.gens = s.gens → s2.os = s.os → s.heap.objs.size ≤ p →
      s2.heap.get? p = some (seqObj "list" out.toArray c) → IntsAre out ns → ns.Pairwise (· < ·) → (∀ k, k ∈ ns ↔ S k = true) → ns.length = n → Q (.ref p) s2) :
    wpAny (model P w) A (call (.builtin "sorted") [.ref a]) Q E s := by
  obtain ⟨o, es, ep, t, ho, hex, hd, g, nd, hm, hb, hf, hn, hr, hl⟩ := R
  refine Calls.call_function_entry kind_sorted plain_sorted entry_sorted (args_sorted1 _) ?_
  unfold Builtin.«sorted»
  refine wpAny_bind (m := checkCount "sorted" 1 1 _) (wpAny_pure (wpAny_bind (collect_set (A := A.in1) hh ⟨o, ho, hex.1, hd⟩ hf hb hr hl fun s1 vs k1 hz g1 o1 pm => ?_)))
  have vl : vs.length = n := by rw [pm.length_eq, List.length_map, Array.length_toList]; exact hn
  have n0 : n ≤ sizeLine := by rw [sizeLine_eq]; unfold scanBound at hb; omega
  have allI : ∀ v ∈ vs, ∃ k t, v = Value.int k t := fun v hv => by
    obtain ⟨e, he, q⟩ := List.mem_map.mp (pm.mem_iff.mp hv)
    obtain ⟨k, tk, h1, _⟩ := g e he
    exact ⟨k, tk, by rw [← q]; exact h1⟩
  have hI : IntsAre vs (vs.map SrtO.iv) := SrtO.ints_iv allI
  have pk : (vs.map SrtO.iv).Perm (es.toList.map keyOf) := by
    have e1 : vs.map SrtO.iv = vs.map Builtin.Re.reRawOf := List.map_congr_left fun v hv => iv_raw v (allI v hv)
    have q := pm.map Builtin.Re.reRawOf
    rw [List.map_map] at q
    rw [e1]
    exact q
  refine wpAny_bind (wpAny_newList ?_ (by rw [vl]; exact n0))
  have hoL : (s1.heap.push (seqObj "list" vs.toArray 0)).get? s1.heap.objs.size = some (seqObj "list" vs.toArray 0) := Heap.get?_push_size _ rfl
  refine wpAny_bind (wpAny_holding (wpAny_call_entry slot_list_sort ⟨_, hoL, rfl⟩ entry_list_sort (SrtO.list_sort_ord SrtO.swo_int hoL (by rw [vl]; exact n0) (fun h2 => SrtO.ints_sortable hI h2) fun out a1 a2 => ⟨_, rfl, ?_⟩) (args_list_sort _)))
  obtain ⟨j1, j2, j3⟩ := SrtO.ints_out hI a1 a2
  obtain ⟨c, hc⟩ := sortedHeap_at (vs := vs) (out := out.toArray) hoL
  have pn := j2.trans pk
  refine wpAny_pure ⟨_, rfl, hQ _ s1.heap.objs.size out c _ (fun b u e => ?_) g1 o1 hz hc j1 (lt_of_le_nodup _ j3 (pn.nodup_iff.mpr nd)) (fun k => by rw [pn.mem_iff, ← hm k]) ?_⟩
  · have q := k1 b u e
    have lt := Heap.lt_size q
    show (sortedHeap (s1.heap.push (seqObj "list" vs.toArray 0)) s1.heap.objs.size vs out.toArray).get? b = some u
    rw [sortedHeap_old (Nat.ne_of_lt lt) (by rw [size_push']; exact Nat.lt_succ_of_lt lt)]
    exact Heap.get?_push_of_some _ q
  · rw [pn.length_eq, List.length_map, Array.length_toList]; exact hn
end
section
variable {X : Cx}
/-- set(xs), a list of ints -/
def rSetL (K : PySem.W.Frag) (w : World) : List V → Hp → VK → Prop := fun vs H Q => ∃ (a : Addr) (ns : List Int), vs = [V.ref a] ∧ SqL K H a (ns.map V.int) ∧ ns.length ≤ 1000 ∧
  ∀ (p : Addr) (c : Nat), H p = none → Q (.ref p) (upd H p (SetO w p (fun j => decide (j ∈ ns)) c))
theorem cr_setL (hc : X.calm = true) : CallR X (.type "set") (XT.rSetL X.K X.w) := by
  intro pins s σ H vs us Q I r h
  obtain ⟨a, ns, rfl, hs, hn, q⟩ := h
  obtain ⟨its, rv, hl, hz⟩ := I.list hs
  rw [Vals.ref1 r]
  refine set_listI ns (I.ok.hd hc) hl.isList (by simpa using rv.ints) (by unfold scanBound; omega) fun hp tk c hS hcn hk => ?_
  exact ⟨.ref _, _, I.laid (t' := tk) hk (Nat.le_refl _) (setO_new hS), rfl, q _ c (I.hok.fresh (Nat.le_refl _))⟩
/-- sorted(found) -/
def rSortS (w : World) : List V → Hp → VK → Prop := fun vs H Q => ∃ (a : Addr) (S : Int → Bool) (n : Nat), vs = [V.ref a] ∧ H a = some (SetO w a S n) ∧
  ∀ (ns : List Int) (p : Addr), ns.Pairwise (· < ·) → (∀ k : Int, k ∈ ns ↔ S k = true) → H p = none → Q (.ref p) (upd H p (.lst (ns.map V.int)))
theorem cr_sortS (hc : X.calm = true) : CallR X (.builtin "sorted") (rSortS X.w) := by
  intro pins s σ H vs us Q I r h
  obtain ⟨a, S, n, rfl, ha, q⟩ := h
  have R := setO_get I ha
  have n0 : n ≤ sizeLine := by
    obtain ⟨_, _, _, _, _, _, _, _, _, _, hb, _, hn, _⟩ := R
    rw [sizeLine_eq]; unfold scanBound at hb; omega
  rw [Vals.ref1 r]
  refine sorted_setN R (I.ok.hd hc) fun s2 p out c ns k g o hp hg hi hs hm hl => ?_
  have hn : H p = none := I.hok.fresh hp
  have J : Inv X pins σ (upd H p (.lst (ns.map V.int))) { s with heap := s2.heap, gens := s2.gens, drawn := s2.drawn, toks := s2.toks } :=
    I.call (ch := []) (Un.laid k hp hn) (I.hok.laid k hp ⟨by rw [List.length_map, hl]; exact n0, out, c, vals_of_ints hi, hg⟩) (by rw [g]; exact I.bare) (fun _ z => nomatch z)
  have e : s2 = { s with heap := s2.heap, gens := s2.gens, drawn := s2.drawn, toks := s2.toks } := by
    cases s2; cases s; cases o; rfl
  rw [e]
  exact ⟨.ref p, _, J, rfl, q ns p hs hm hn⟩
end
end XT
/-! for i, x in enumerate(t), t a tuple -/
namespace XT
open PySem PySem.Spec PyProof.Rows L2
abbrev enO (it : Addr) : Obj := { cls := .type "enumerate", data := .fields #[.none, .bool false, .ref it, rawInt 0, .none, .none] }
abbrev tiO (t : Addr) : Obj := { cls := .type "tuple_iterator", data := .fields #[.ref t, .int 0 0] }
theorem newEnumT (t : Addr) (items : Array Value) : Meets (Builtin.«enumerate.__new__» ⟨[.type "enumerate", .ref t], []⟩)
    (fun _ R s => s.heap.IsTuple t items ∧ R (.ok (.ret (.ref (s.heap.push (tiO t)).objs.size))) { s with heap := (s.heap.push (tiO t)).push (enO s.heap.objs.size) }) :=
  .of_wp fun prog w A R s h => by
    obtain ⟨hp, ge, dr, tk, os⟩ := s
    obtain ⟨h1, h2⟩ := h
    have sb := sub_enumerate
    have q : ∀ {A2 : Around} {E : Value → Shared → Prop} {Q : Value → Shared → Prop}, Q (.ref hp.objs.size) ⟨hp.push (tiO t), ge, dr, tk, os⟩ → wpAny (model prog w) A2 (pyIter (.ref t)) Q E ⟨hp, ge, dr, tk, os⟩ :=
      fun z => wpAny_pyIter_tuple (s := ⟨hp, ge, dr, tk, os⟩) h1 z
    wp_walk using q
    refine wpAny_stack_any fun st => wpAny_pure ?_
    split
    · rename_i c _ _ _ _ _
      cases (c == Value.type "enumerate") <;> (wp_walk using q; exact ⟨_, rfl, h2⟩)
    · wp_walk using q
      exact ⟨_, rfl, h2⟩
section
variable {prog : Program} {w : World} {A : Around} {E : Value → Shared → Prop} {s : Shared}
theorem call_enumT {t : Addr} {items : Array Value} {Q : Value → Shared → Prop} (hT : s.heap.IsTuple t items)
    (h : ∀ hp, IsEnum hp (s.heap.objs.size + 1) s.heap.objs.size 0 .none → hp.IsTupleIter s.heap.objs.size t 0 → (∀ b o, s.heap.get? b = some o → hp.get? b = some o) → Q (.ref (s.heap.objs.size + 1)) { s with heap := hp }) :
    wpAny (model prog w) A (call (.type "enumerate") [.ref t]) Q E s := by
  refine callType_new F.called_enumerate (by decide) (F.typeCall_enumerate_1 _) (F.newCall_enumerate_1 _) (fun obj => F.args_object_init_2 obj _) F.entry_enumerate_new (newEnumT t items) ⟨hT, ?_⟩
  have z : (s.heap.push (tiO t)).objs.size = s.heap.objs.size + 1 := Heap.size_push ..
  have e0 := Heap.get?_push_size (s.heap.push (tiO t)) (o := enO s.heap.objs.size) rfl
  rw [z] at e0
  show _ ∧ _
  rw [z]
  exact ⟨⟨_, e0, rfl⟩, h _ e0 ⟨_, Heap.get?_push_of_some _ (Heap.get?_push_size _ rfl), rfl, rfl⟩ fun b o x => Heap.get?_push_of_some _ (Heap.get?_push_of_some _ x)⟩
end
/-- the tuple at a, its items in new pairs with their places -/
def ItT (K : PySem.W.Frag) (a : Addr) : It :=
  ⟨fun i H => ∃ (xs : List V) (x : V), SqT K H a xs ∧ xs[i]? = some x,
   fun i H v H2 => ∃ T x, v = .ref T ∧ H T = none ∧ H2 = upd H T (.tup [.int (i : Nat), x]) ∧ ∀ xs, SqT K H a xs → xs[i]? = some x,
   fun i H => ∃ xs : List V, SqT K H a xs ∧ xs.length = i⟩
theorem turn_enumT {P : Program} {w : World} {K : PySem.W.Frag} {elts : List Expr} {kk : Nat} {tpos : Pos} (a e it : Addr) (hne : e ≠ it) (hai : a ≠ it) (hae : e ≠ a) :
    Turn P w K (.Tuple elts kk tpos) (ItT K a) [e, it] e (fun i h => (∃ old, IsEnum h e it ((i : Nat) : Int) old) ∧ h.IsTupleIter it a i) where
  mem := List.mem_cons_self
  obj := fun i h st b hb => by
    obtain ⟨⟨old, he⟩, ⟨o, ho, hc, hd⟩⟩ := st
    rcases List.mem_cons.mp hb with z | z
    · rw [z]; exact ⟨_, he, fun v q => nomatch q⟩
    · rw [List.mem_singleton.mp z]; exact ⟨o, ho, fun v q => by rw [hd] at q; cases q⟩
  keep := fun i h h2 st k => ⟨let ⟨old, he⟩ := st.1; ⟨old, k e (by simp) _ he⟩, st.2.at fun o q => k it (by simp) o q⟩
  item := by
    intro X hP hw hK hc i pins s σ H E I hf st hg
    subst hP hw hK
    obtain ⟨⟨old, he⟩, hit⟩ := st
    obtain ⟨xs, x, hq, hx⟩ := hg
    obtain ⟨its, rv, p, hz⟩ := I.tuple hq
    obtain ⟨u, hu, ru⟩ := rv.get hx
    have p' : s.heap.IsTuple a its.toArray := p
    have el : e < s.heap.objs.size := Heap.lt_size he
    have il : it < s.heap.objs.size := by obtain ⟨_, q, _⟩ := hit; exact Heap.lt_size q
    have hi : i < its.toArray.size := by
      rw [List.size_toArray]; exact (List.getElem?_eq_some_iff.mp hu).1
    refine wpAny_pyNext_enum_itemD (Draws.tuple (A := X.A.in1) (I.ok.hd hc) it a hai its.toArray) he ⟨hit, p'⟩ hi hne (by simp [hne, hae]) fun y h1 tk hy ho hit1 hT hsz hk => ?_
    have ey : y = u := by
      have q : its.toArray[i]? = some u := by simpa using hu
      exact Option.some.inj (hy.symm.trans q)
    subst ey
    refine ⟨_, rfl, wpAny_letOwnedTupleGo_enum (s := { s with heap := h1, toks := tk + 1 }) ho fun h2 he2 sb => ?_⟩
    have gT : h2.get? s.heap.objs.size = some { cls := .type "tuple", data := .seq #[.int i tk, y] } := (sb.2 _ (Nat.ne_of_gt el)).trans hT
    have new : ObjOk X.prog X.w (upd H s.heap.objs.size (.tup [.int (i : Nat), x])) h2 s.heap.objs.size (.tup [.int (i : Nat), x]) :=
      ⟨sz (n := 2) (by decide), [.int i tk, y], .cons ⟨_, rfl⟩ (.cons ru .nil), ⟨_, gT, rfl, _, rfl⟩⟩
    have J := I.turnedNew (t' := tk + 1) (ch := [e, it]) (fun b ob hb q => (sb.2 b (fun z => hb (by simp [z]))).trans (hk b ob (fun z => hb (by simp [z])) (fun z => hb (by simp [z])) q)) hf (Nat.le_refl _) new
    refine ⟨.ref s.heap.objs.size, _, J, rfl, ⟨_, x, rfl, I.hok.fresh (Nat.le_refl _), rfl, fun ys hy => by rw [I.tuple_inj hy hq]; exact hx⟩, ⟨⟨y, ?_⟩, hit1.1.at fun o q => (sb.2 it (Ne.symm hne)).trans q⟩, fun b hb => ?_⟩
    · rw [show ((i + 1 : Nat) : Int) = (i : Int) + 1 by omega]; exact he2
    · have hb2 : b < s.heap.objs.size := by
        rcases List.mem_cons.mp hb with z | z
        · rw [z]; exact el
        · rw [List.mem_singleton.mp z]; exact il
      rw [upd_ne (Nat.ne_of_lt hb2)]
      exact (hf b hb).1
  done := by
    intro X hP hw hK hc i pins s σ H E I hf st hg
    subst hP hw hK
    obtain ⟨⟨old, he⟩, hit⟩ := st
    obtain ⟨xs, hq, hx⟩ := hg
    obtain ⟨its, rv, p, hz⟩ := I.tuple hq
    obtain ⟨f0, f1, f2, f3, f4, f5⟩ := hf it (by simp)
    have hl : its.toArray.size = i := by rw [List.size_toArray, ← rv.length]; exact hx
    have D := Draws.tuple (prog := X.prog) (w := X.w) (A := X.A.in1) (I.ok.hd hc) it a hai its.toArray
    rw [hl] at D
    exact wpAny_pyNext_enum_endD D he ⟨hit, p⟩ fun h2 eb => ⟨rfl, I.turned (t' := s.toks) (fun b o hb q => eb b o hb q) f0 f1 f3 f4 f5⟩
  self := fun A i s Q E st h => let ⟨⟨_, he⟩, _⟩ := st; wpAny_pyIter_enum he h
def iEnT (K : PySem.W.Frag) (ta : TA) : TI := fun σ H R => ta σ H fun vs H1 => ∃ a xs, vs = [.ref a] ∧ SqT K H1 a xs ∧ R (ItT K a) H1
theorem pi_enumT {X : Cx} {e : Expr} {ta : TA} {p pos tpos : Pos} {elts : List Expr} {kk : Nat} (hg : Gl X "enumerate") (hm : X.mg "enumerate" = none) (ha : PA X [e] ta) (hs : starEach [e] X.env = [(false, eval e X.env)] := by rfl) :
    PI X (.Tuple elts kk tpos) (.Call (.Name "enumerate" p) [e] [] pos) (iEnT X.K ta) := by
  refine ⟨fun pins s σ H R I h => Call_ (ld_blt I hg hm boot_enumerate (callWith_type1 (thn (ha.run pos pins s σ H _ I h) fun us s1 ⟨vs, H1, I1, r1, q1⟩ => ?_) hs rfl))⟩
  obtain ⟨a, xs, ex, hq, q⟩ := q1
  subst ex
  obtain ⟨u, rfl, ru⟩ := vals1 r1
  cases (show u = Value.ref a from ru)
  obtain ⟨its, rv, p2, hz⟩ := I1.tuple hq
  have al : a < s1.heap.objs.size := by obtain ⟨o, ho, _⟩ := p2; exact Heap.lt_size ho
  refine call_enumT (items := its.toArray) p2 fun hp he hit hk => wpAny_pyIter_enum he ?_
  have I2 : Inv X pins σ H1 { s1 with heap := hp } := I1.kept (t' := s1.toks) hk
  refine ⟨s1.heap.objs.size + 1, [s1.heap.objs.size + 1, s1.heap.objs.size], _, _, H1, rfl, I2, turn_enumT a (s1.heap.objs.size + 1) s1.heap.objs.size (Nat.succ_ne_self _) (Nat.ne_of_lt al) (Nat.ne_of_gt (Nat.lt_succ_of_lt al)), ⟨⟨.none, he⟩, hit⟩, fun b hb => ?_, q⟩
  have hle : s1.heap.objs.size ≤ b := by
    rcases List.mem_cons.mp hb with z | z
    · rw [z]; exact Nat.le_succ _
    · rw [List.mem_singleton.mp z]; exact Nat.le_refl _
  exact I1.fpOk hle (I1.hok.fresh hle)
end XT
/-! lots as lists of numbers -/
namespace XT
open PySem PySem.Spec PyProof.Rows L2
def lotOf (w : Nat) (P : Nat → Bool) : List Nat := (List.range (2 ^ w)).filter P
def vm (ms : List Nat) : List V := ms.map fun (m : Nat) => V.int (m : Int)
theorem mem_lot {w : Nat} {P : Nat → Bool} {m : Nat} : m ∈ lotOf w P ↔ m < 2 ^ w ∧ P m = true := by
  unfold lotOf
  rw [List.mem_filter, List.mem_range]
theorem lot_congr {w : Nat} {P P' : Nat → Bool} (h : ∀ m, m < 2 ^ w → P m = P' m) : lotOf w P = lotOf w P' := by
  unfold lotOf
  exact List.filter_congr fun m hm => h m (List.mem_range.mp hm)
theorem pow6 {w : Nat} (h : w ≤ 6) : 2 ^ w ≤ 64 := by
  have : w = 0 ∨ w = 1 ∨ w = 2 ∨ w = 3 ∨ w = 4 ∨ w = 5 ∨ w = 6 := by omega
  rcases this with rfl | rfl | rfl | rfl | rfl | rfl | rfl <;> decide
theorem pow0 (w : Nat) : 0 < 2 ^ w := Nat.pow_pos (by decide)
theorem lot_len {w : Nat} (h : w ≤ 6) (P : Nat → Bool) : (lotOf w P).length ≤ 64 := by
  refine Nat.le_trans (List.length_filter_le _ _) ?_
  rw [List.length_range]
  exact pow6 h
theorem vm_len (ms : List Nat) : (vm ms).length = ms.length := List.length_map _
/-- two rising lists with the same members are one -/
theorem rising_eq : ∀ {l m : List Int}, l.Pairwise (· < ·) → m.Pairwise (· < ·) → (∀ k, k ∈ l ↔ k ∈ m) → l = m
  | [], [], _, _, _ => rfl
  | [], b :: m, _, _, h => absurd ((h b).mpr List.mem_cons_self) (by simp)
  | a :: l, [], _, _, h => absurd ((h a).mp List.mem_cons_self) (by simp)
  | a :: l, b :: m, hl, hm, h => by
    obtain ⟨l1, l2⟩ := List.pairwise_cons.mp hl
    obtain ⟨m1, m2⟩ := List.pairwise_cons.mp hm
    have e : a = b := by
      rcases List.mem_cons.mp ((h a).mp List.mem_cons_self) with e | e
      · exact e
      · rcases List.mem_cons.mp ((h b).mpr List.mem_cons_self) with e' | e'
        · exact e'.symm
        · have := m1 a e
          have := l1 b e'
          omega
    subst e
    congr 1
    refine rising_eq l2 m2 fun k => ⟨fun hk => ?_, fun hk => ?_⟩
    · rcases List.mem_cons.mp ((h k).mp (List.mem_cons_of_mem _ hk)) with e | e
      · have := l1 k hk
        omega
      · exact e
    · rcases List.mem_cons.mp ((h k).mpr (List.mem_cons_of_mem _ hk)) with e | e
      · have := m1 k hk
        omega
      · exact e
theorem range_rising (n : Nat) : ((List.range n).map fun (m : Nat) => (m : Int)).Pairwise (· < ·) := by
  rw [List.pairwise_map]
  exact List.pairwise_lt_range.imp fun h => by omega
theorem lot_rising (w : Nat) (P : Nat → Bool) : ((lotOf w P).map fun (m : Nat) => (m : Int)).Pairwise (· < ·) := by
  unfold lotOf
  have h := List.pairwise_map.mp (range_rising (2 ^ w))
  rw [List.pairwise_map]
  exact h.filter _
theorem rising_lot {w : Nat} {P : Nat → Bool} {ns : List Int} (h : ns.Pairwise (· < ·)) (hm : ∀ k, k ∈ ns ↔ ∃ m : Nat, k = m ∧ m < 2 ^ w ∧ P m = true) : ns.map V.int = vm (lotOf w P) := by
  have e : ns = (lotOf w P).map fun (m : Nat) => (m : Int) := rising_eq h (lot_rising w P) fun k => by
    rw [hm k, List.mem_map]
    constructor
    · rintro ⟨m, rfl, h1, h2⟩
      exact ⟨m, mem_lot.mpr ⟨h1, h2⟩, rfl⟩
    · rintro ⟨m, h1, rfl⟩
      exact ⟨m, rfl, mem_lot.mp h1⟩
  rw [e, List.map_map]
  rfl
theorem vm_ints (ms : List Nat) : vm ms = (ms.map fun (m : Nat) => (m : Int)).map V.int := by
  unfold vm
  rw [List.map_map]
  rfl
theorem vm_flat (ms : List Nat) : (vm ms).all flatV = true := by
  rw [List.all_eq_true]
  intro v hv
  obtain ⟨m, _, rfl⟩ := List.mem_map.mp hv
  rfl
theorem in_vm (k : Nat) (ms : List Nat) : inV (.int (k : Int)) (vm ms) = decide (k ∈ ms) := by
  rw [Bool.eq_iff_iff, decide_eq_true_iff]
  unfold inV
  rw [List.any_eq_true]
  constructor
  · rintro ⟨v, hv, e⟩
    obtain ⟨m, hm, rfl⟩ := List.mem_map.mp hv
    have e' : ((m : Int) == (k : Int)) = true := e
    have : (m : Int) = k := by simpa using e'
    have : m = k := by omega
    rw [← this]
    exact hm
  · intro h
    exact ⟨_, List.mem_map.mpr ⟨k, h, rfl⟩, by show ((k : Int) == (k : Int)) = true; simp⟩
theorem in_lot {w : Nat} {P : Nat → Bool} {k : Nat} (hk : k < 2 ^ w) : inV (.int (k : Int)) (vm (lotOf w P)) = P k := by
  rw [in_vm, Bool.eq_iff_iff, decide_eq_true_iff, mem_lot]
  exact ⟨fun h => h.2, fun h => ⟨hk, h⟩⟩
/-- a lot -/
def LotAt (H : Hp) (v : V) (w : Nat) (P : Nat → Bool) : Prop := ∃ p q, v = .ref p ∧ H p = some (.tup [.int (w : Int), .ref q]) ∧ H q = some (.tup (vm (lotOf w P)))
theorem LotAt.same {H H' : Hp} {v : V} {w : Nat} {P : Nat → Bool} (h : LotAt H v w P) (e : Same H H') : LotAt H' v w P := by
  obtain ⟨p, q, rfl, h1, h2⟩ := h
  exact ⟨p, q, rfl, e _ _ h1, e _ _ h2⟩
theorem LotAt.keep {S : Sm} {H H' : Hp} {t : Int} {v : V} {w : Nat} {P : Nat → Bool} (h : LotAt H v w P) (k : Keep S H H') (st : Strm S H t) : LotAt H' v w P := by
  obtain ⟨p, q, rfl, h1, h2⟩ := h
  exact ⟨p, q, rfl, k.tup st h1, k.tup st h2⟩
theorem LotAt.congr {H : Hp} {v : V} {w : Nat} {P P' : Nat → Bool} (h : LotAt H v w P) (e : ∀ m, m < 2 ^ w → P m = P' m) : LotAt H v w P' := by
  obtain ⟨p, q, rfl, h1, h2⟩ := h
  exact ⟨p, q, rfl, h1, by rw [← lot_congr e]; exact h2⟩
def dLot (w : Nat) (P : Nat → Bool) : PyData := .tuple [.int (w : Int), .tuple ((lotOf w P).map fun (m : Nat) => .int (m : Int))]
theorem dpVm {K : PySem.W.Frag} {H : Hp} : ∀ ms : List Nat, DpAll K H (vm ms) (ms.map fun (m : Nat) => .int (m : Int))
  | [] => .nil
  | m :: ms => .cons (.int m) (dpVm ms)
theorem LotAt.dp {K : PySem.W.Frag} {H : Hp} {v : V} {w : Nat} {P : Nat → Bool} (h : LotAt H v w P) : Dp K H v (dLot w P) := by
  obtain ⟨p, q, rfl, h1, h2⟩ := h
  exact .tup (SqT.of h1) (.cons (.int _) (.cons (.tup (SqT.of h2) (dpVm _)) .nil))
theorem ints_lay : ∀ ms : List Nat, PyData.canLayAll0 (ms.map fun (m : Nat) => PyData.int (m : Int)) = true
  | [] => rfl
  | m :: ms => by
    have h := ints_lay ms
    simpa [PyData.canLayAll0, PyData.canLay0] using h
theorem ints_depth : ∀ ms : List Nat, PyData.depthAll (ms.map fun (m : Nat) => PyData.int (m : Int)) ≤ 1
  | [] => by decide
  | m :: ms => by
    have h := ints_depth ms
    simp only [PyData.depthAll, PyData.depth, List.map] at h ⊢
    omega
theorem dLot_shaped (w : Nat) (P : Nat → Bool) : SeqAt.shaped (dLot w P) = true := by
  have h1 : PyData.canLay0 (dLot w P) = true := by
    have h := ints_lay (lotOf w P)
    simp [dLot, PyData.canLay0, PyData.canLayAll0, h]
  have h2 : PyData.depth (dLot w P) ≤ 64 := by
    have h := ints_depth (lotOf w P)
    simp only [dLot, PyData.depth, PyData.depthAll]
    omega
  unfold SeqAt.shaped
  rw [h1, decide_eq_true h2]
  rfl
theorem eqv_ints : ∀ ms : List Nat, PyData.eqvAll (ms.map fun (m : Nat) => PyData.int (m : Int)) (ms.map fun (m : Nat) => PyData.int (m : Int)) = true
  | [] => rfl
  | m :: ms => by
    have h := eqv_ints ms
    simp [PyData.eqvAll, PyData.eqv, h]
theorem eqv_lot {w : Nat} {P P' : Nat → Bool} (h : ∀ m, m < 2 ^ w → P m = P' m) : PyData.eqv (dLot w P) (dLot w P') = true := by
  unfold dLot
  rw [lot_congr h]
  simp [PyData.eqv, PyData.eqvAll, eqv_ints]
/-- a != b, two lots that are one -/
theorem ne_lot {K : PySem.W.Frag} {H : Hp} {x y : V} {w : Nat} {P P' : Nat → Bool} {Q : VK} (hx : LotAt H x w P) (hy : LotAt H y w P') (h : ∀ m, m < 2 ^ w → P m = P' m) (q : Q (.bl false) H) : rNeD K x y H Q := by
  refine ⟨_, _, hx.dp, hy.dp, dLot_shaped _ _, dLot_shaped _ _, ?_⟩
  rw [eqv_lot h]
  exact q
end XT
/-! the program's own defs -/
namespace XT
open PySem PySem.Spec PyProof.Rows L2
def DefR (P : Program) (w : World) (K : PySem.W.Frag) (mg : Str → Option Value) (base : Heap) (k : Nat) (x : Str) (sp : Sp) : Prop :=
  ∃ f, FnR P w K mg base CX0 k f sp ∧ mg x = some (.ref f) ∧ PySem.W.keepIn K (.ref f) = true
theorem DefR.of {P : Program} {w : World} {K : PySem.W.Frag} {mg : Str → Option Value} {base : Heap} {k : Nat} {x : Str} {sp : Sp} {f : Addr} {fd : FuncData} {ps : List Str}
    (F : FnOk P w K mg base CX0 k f fd ps sp) (b : Binds K fd ps []) (hm : mg x = some (.ref f)) (hk : PySem.W.keepIn K (.ref f) = true) : DefR P w K mg base k x sp :=
  ⟨f, (FnOk.raw F b .nil).imp fun vs H Q E h => by rw [List.append_nil]; exact h, hm, hk⟩
section
variable {X : Cx}
/-- f(e, ..) -/
theorem pe_def {j : Nat} {x : Str} {sp : Sp} {e : Expr} {es : List Expr} {t : TA} {p pos : Pos} (D : DefR X.prog X.w X.K X.mg X.base j x sp) (hr : Room j X.A) (hg : Gl X x) (ha : PA X (e :: es) t)
    (hdb : (x == ("__debug__" : Str)) = false := by decide) (he : starEach (e :: es) X.env = (false, eval e X.env) :: starEach es X.env := by rfl) (hpl : (backTo pos (starEach es X.env)).any (·.1) = false := by rfl) :
    PE X (.Call (.Name x p) (e :: es) [] pos) (fun σ H Q => t σ H fun vs H1 => sp vs H1 Q E0) := by
  obtain ⟨f, F, hm, hk⟩ := D
  refine ⟨fun pins s σ H Q I h => wpAny_Call_Name_kw (ld_glob I hg hm ?_ hdb)⟩
  refine PySem.W.callWith_K (h₀ := X.base) I.ok.mod.kin hk (thn (ha.run pos pins s σ H _ I h) fun us s1 ⟨vs, H1, I1, r, q⟩ => ⟨I1.kIn, ?_⟩) he hpl
  refine wpAny_call (codeAny_mono (run_fnR F hr pass0 I1 r q) fun r s2 z => ?_)
  match r, z with
  | .ok (.ret v), z => exact z
  | .ok .next, z => exact z.elim
  | .ok .brk, z => exact z.elim
  | .ok .cont, z => exact z.elim
  | .error e, z => exact z
end
theorem bT : bootBuiltins "tuple" = some (.type "tuple") := by decide +kernel
theorem bS : bootBuiltins "sorted" = some (.builtin "sorted") := by decide +kernel
theorem bI : bootBuiltins "isinstance" = some (.builtin "isinstance") := by decide +kernel
theorem bInt : bootBuiltins "int" = some (.type "int") := by decide +kernel
theorem bBool : bootBuiltins "bool" = some (.type "bool") := by decide +kernel
theorem bSet : bootBuiltins "set" = some (.type "set") := by decide +kernel
theorem bAll : bootBuiltins "all" = some (.builtin "all") := by decide +kernel

section
variable {P : Program} {w : World} {K : PySem.W.Frag} {mg : Str → Option Value} {base : Heap}
/-- the module's names that are still the built-in ones -/
structure Bl (mg : Str → Option Value) : Prop where
  len : mg "len" = none
  abs : mg "abs" = none
  tuple : mg "tuple" = none
  sorted : mg "sorted" = none
  isinstance : mg "isinstance" = none
  int : mg "int" = none
  bool : mg "bool" = none
  set : mg "set" = none
  all : mg "all" = none
  range : mg "range" = none
  enumerate : mg "enumerate" = none

theorem shl1 (n : Nat) : (1 : Int) * 2 ^ ((n : Int).toNat) = ((2 ^ n : Nat) : Int) := by
  rw [Int.toNat_natCast, Int.one_mul]
  norm_cast
theorem cpow {n : Nat} (h : n ≤ 6) : CPow 1 (n : Int) := ⟨by omega, by omega, by decide⟩
theorem xor_lt {a b n : Nat} (ha : a < 2 ^ n) (hb : b < 2 ^ n) : a ^^^ b < 2 ^ n := Nat.xor_lt_two_pow ha hb
theorem bx (a b : Nat) : Builtin.bitXor (a : Int) (b : Int) = ((a ^^^ b : Nat) : Int) := by
  rw [Bits.bitXor_pp (by omega) (by omega)]
  rfl
end
end XT
/-! the law's own call, where no repr is under way; repr of data -/
namespace XT
open PySem PySem.Spec PyProof.Rows L2
def RunC (P : Program) (w : World) (K : PySem.W.Frag) (mg : Str → Option Value) (base : Heap) (k : Nat) (f : Addr) (sp : Sp) : Prop :=
  ∀ (s : Shared) (H : Hp) (u : Value) (v : V) (Q : VK), Room k callerA → Env0 P w K mg base callerA [] s H → RelV v u → sp [v] H Q E0 → codeAny (model P w) callerA (.call (.ref f) ⟨[u], []⟩) (CR CX0 [] P w H s Q E0) s
section
variable {P : Program} {w : World} {K : PySem.W.Frag} {mg : Str → Option Value} {base : Heap}
theorem run_law {x par : Str} {st : Stmt} {f : Addr} {fd : FuncData} {N : List Str} {k : Nat} {sp : Sp} (F : Fun K x x st f fd) (S : FnScope N [par] (defScope st))
    (hb : ∀ (kV doc pm : Value) (an : Option Addr) (cdv ct u : Value), bindArgs (PySem.W.fnOf x x (defArgs st) (defBody st) (defScope st) .none kV doc pm an cdv ct) ⟨[u], []⟩ = pure [(par, u)])
    (hbody : ∀ (cdv : Value) (s : Shared) (H : Hp) (v : V) (Q : VK), Room k (callerA.deeper (envOfC x (defScope st) s.heap.objs.size f cdv)) → sp [v] H Q E0 →
      ∃ t, PSs (cxOf CX0 P w K mg base N x (defScope st) f cdv callerA [] s H E0).nox (defBody st) t ∧ t { nx := fun _ H' => Q .non H', rt := Q } (start N [v]) H) : RunC P w K mg base (k + 1) f sp := by
  obtain ⟨oc, od, kV, doc, pm, an, cdv, ct, osl, rfl, lk, hcd⟩ := F.ex
  intro s H u v Q hr e0 rv hsp
  refine StX.run_bnd lk hcd S hr e0 (G := fun vs H2 => vs = [v] ∧ H2 = H) (fun A2 Ex Q2 h => ?_) fun s2 H2 vs ⟨ev, eH⟩ hr2 => ?_
  · rw [hb kV doc pm an cdv ct u]
    exact wpAny_pure (h s H [v] [u] e0 Un.refl rfl (fun _ _ z => z) (.cons rv .nil) rfl ⟨rfl, rfl⟩)
  · subst ev eH
    obtain ⟨t, h1, h2⟩ := hbody cdv s2 H2 v Q hr2 hsp
    exact ⟨t, h1.nox, h2⟩
/-- from the law's promise to what the row asks of its call -/
theorem law_end {mb : Str → Option Value} {k : Nat} {fa a : Addr} {sp : Sp} {s1 : Shared} {vs : List Value} {ns : List Int} (KX : K.In s1.heap) (hns : s1.heap.Ns mainGlobals mg) (hb : s1.heap.Ns builtinsNs mb)
    (hbb : ∀ x : Str, x ≠ "__name__" → mb x = bootBuiltins x) (hlim : s1.heap.NoLimit) (hg : s1.gens = #[]) (ha : s1.heap.get? a = some { cls := .type "list", data := .seq vs.toArray }) (hi : IntsAre vs ns) (hl : ns.length ≤ sizeLine)
    (hr : Room k callerA) (F : ∀ base : Heap, K.In base → base.Ns mainGlobals mg → RunC P w K mg base k fa sp) (hsp : ∀ H : Hp, SqL K H a (ns.map V.int) → sp [.ref a] H (fun v _ => v = .bl true) E0) :
    codeAny (model P w) callerA (.call (.ref fa) ⟨[.ref a], []⟩) (fun r s2 => r = .ok (.ret (.bool true)) ∧ OldK s1.heap s2.heap ∧ s2.os = s1.os ∧ AllBare s2.gens) s1 := by
  have rv : Vals (ns.map V.int) vs := vals_of_ints hi
  have nl := hi.length
  have go : ∀ H : Hp, SqL K H a (ns.map V.int) → HOk P w H s1.heap → (∀ b, H b = none ∨ (b = a ∧ K.lookup a = none ∧ ∃ o xs, H b = some (.frz o (.lst xs)))) →
      codeAny (model P w) callerA (.call (.ref fa) ⟨[.ref a], []⟩) (fun r s2 => r = .ok (.ret (.bool true)) ∧ OldK s1.heap s2.heap ∧ s2.os = s1.os ∧ AllBare s2.gens) s1 := by
    intro H hS hok hO
    have nsK : ∀ {b : Addr} {m : Str → Option Value}, s1.heap.Ns b m → (hidT s1.heap H).Ns b m := fun {b m} ⟨o, es, ep, e, d, r⟩ => by
      refine ⟨o, es, ep, hidT_get e ?_, d, r⟩
      rcases hO b with z | ⟨z, _, _⟩
      · exact z
      · rw [z, ha] at e
        cases e
        have d2 : Data.seq vs.toArray _ = Data.dict es ep := d
        cases d2
    have kb : K.In (hidT s1.heap H) := fun b o e => by
      refine hidT_get (KX b o e) ?_
      rcases hO b with z | ⟨z, y, _⟩
      · exact z
      · rw [z, y] at e; cases e
    have M : Mod K mg (hidT s1.heap H) := ⟨kb, nsK hns, ⟨mb, nsK hb, hbb⟩, let ⟨mc, h1, h2⟩ := hlim; ⟨mc, nsK h1, h2⟩⟩
    have e0 : Env0 P w K mg (hidT s1.heap H) callerA [] s1 H := ⟨rfl, M, fun b o e => of_hidT e, Nat.le_of_eq (hidT_size _ _), trivial, fun b z => absurd (show b ∈ ([] : List Addr) from z) (by simp), hok, .of_eq hg⟩
    refine codeAny_mono (F _ kb (nsK hns) s1 H (.ref a) (.ref a) _ hr e0 rfl (hsp H hS)) fun r s2 z => ?_
    match r, z with
    | .error e, z => exact z.elim
    | .ok .next, z => exact z.elim
    | .ok .brk, z => exact z.elim
    | .ok .cont, z => exact z.elim
    | .ok (.ret u), z =>
      obtain ⟨v, H2, os, bare, un, hok2, rr, q⟩ := z
      have q : v = .bl true := q
      subst q
      obtain rfl : u = Value.bool true := rr
      refine ⟨rfl, OldK.of_keep fun b o e => ?_, os, bare⟩
      rcases hO b with y | ⟨_, _, ob, xs, y⟩
      · exact un.keep b o e y (fun z => absurd (show b ∈ ([] : List Addr) from z) (by simp)) (by simp)
      · obtain ⟨g1, _⟩ := hok b _ y
        obtain ⟨g2, _⟩ := hok2 b _ (un.frzs b ob _ y)
        rw [e] at g1
        cases g1
        exact g2
  cases hk : K.lookup a with
  | some o =>
    have e := KX a o hk
    rw [ha] at e
    cases e
    exact go (fun _ => none) (.inr ⟨_, vs.toArray, _, hk, rfl, rfl, rfl, by rw [List.size_toArray, nl]; exact hl, by simpa using rv⟩) (fun b u z => nomatch z) fun _ => .inl rfl
  | none =>
    refine go (upd (fun _ => none) a (.frz { cls := .type "list", data := .seq vs.toArray } (.lst (ns.map V.int)))) (.inl (.inr ⟨_, upd_same⟩)) (fun b u z => ?_) fun b => ?_
    · by_cases e : b = a
      · subst e
        rw [upd_same] at z
        cases z
        exact ⟨ha, by rw [List.length_map]; exact hl, vs, _, rv, ha⟩
      · rw [upd_ne e] at z
        cases z
    · by_cases e : b = a
      · exact .inr ⟨e, hk, _, _, by rw [e]; exact upd_same⟩
      · exact .inl (upd_ne e)
end
theorem walk_ofC {l : PySem.W.OpenLaw} {n k : Nat} {q : Program} {loose : List Str} {XP : (Str → Option Value) → Heap → Prop} {YP : World → Heap → Prop} {d : DefRec} {K : Params → PySem.W.Frag} {sp : World → Sp}
    (hn : l.most = some n) (hn2 : n ≤ sizeLine) (hdf : d.params.defaults = []) (hr : Room k callerA) (hY : ∀ (w : World) (h : Heap), YP w h → (K w.params).In h)
    (F : ∀ (w : World) (mg : Str → Option Value) (fa : Addr) (h : Heap), (K w.params).In h → h.Ns mainGlobals mg → mg d.name = some (.ref fa) → ∀ base : Heap, (K w.params).In base → base.Ns mainGlobals mg → RunC l.prog w (K w.params) mg base k fa (sp w))
    (hsp : ∀ (w : World) (H : Hp) (a : Addr) (ns : List Int), ns.length ≤ n → SqL (K w.params) H a (ns.map V.int) → sp w [.ref a] H (fun v _ => v = .bl true) E0) :
    PySem.W.WalkO q loose XP YP l.row.toRowW d [] (fun f vs => PySem.call f vs) :=
  Att.attach_call hn hdf fun w s0 s1 mg mb fa o pm cd doc a vs ns G Y ho hd hcd hmg hobj hints hlen hg =>
    law_end (hY w _ Y) G.T.g G.T.b G.T.builtins G.T.nolimit hg hobj hints (Nat.le_trans hlen hn2) hr (F w mg fa _ (hY w _ Y) G.T.g hmg) fun H hS => hsp w H a ns hlen hS
/-! repr -/
section
variable {X : Cx}
def rRepr (K : PySem.W.Frag) : List V → Hp → VK → Prop := fun xs H Q => ∃ (a : Addr) (d : PyData), xs = [.ref a] ∧ Dp K H (.ref a) d ∧ SeqAt.shaped d = true ∧ d.showable = true ∧ d.shown.length ≤ sizeLine ∧ Q (.str d.shown) H
theorem cr_repr (hg : X.A.guards = some []) (hu : X.A.units + 128 < cLine) : CallR X (.builtin "repr") (rRepr X.K) := by
  intro pins s σ H xs us Q I r h
  obtain ⟨a, d, rfl, hd, hs, hw, hz, q⟩ := h
  rw [Vals.ref1 r]
  obtain ⟨as, rd⟩ := Dp.reads I d (.ref a) (.ref a) hd rfl
  have nd : d.hasDict = false := PyData.hasDict_of_canLay d (SeqAt.canLay_of_shaped hs)
  have dp := SeqAt.depth_of_shaped hs
  refine repr_of_reads' rd hw (PyData.noDict_hsm nd) hg (by omega) (fun _ _ e => e) (fun h2 u tk k => ?_) hz
  exact ⟨.str d.shown, H, I.kept (t' := tk) k, ⟨u, rfl⟩, q⟩
end
end XT
namespace XT
open PySem PySem.Spec PyProof.Rows L2
theorem lot_filter (n : Nat) (p q : Nat → Bool) : (lotOf n p).filter q = lotOf n (fun m => p m && q m) := by
  unfold lotOf
  rw [List.filter_filter]
  refine List.filter_congr fun m _ => ?_
  rw [Bool.and_comm]
theorem vm_filter (ms : List Nat) (q : Nat → Bool) (r : V → Bool) (h : ∀ m ∈ ms, r (.int (m : Int)) = q m) : ((vm ms).filter r).map id = vm (ms.filter q) := by
  unfold vm
  rw [List.map_id, List.filter_map]
  congr 1
  exact List.filter_congr fun m hm => h m hm
theorem mem_vm {ms : List Nat} {i : Nat} {v : V} (h : (vm ms)[i]? = some v) : ∃ m, ms[i]? = some m ∧ v = .int (m : Int) := by
  unfold vm at h
  rw [List.getElem?_map] at h
  obtain ⟨m, h1, h2⟩ := Option.map_eq_some_iff.mp h
  exact ⟨m, h1, h2.symm⟩
/-- for i, x in enumerate(t) -/
theorem for_enumT {K : PySem.W.Frag} {a : Addr} {xs : List V} {g : TG} {tb : TS} {D : Ends} {σ : L2.St} {H : Hp} (Pv : Nat → L2.St → Hp → Prop) (h0 : Pv 0 σ H) (hl : ∀ i σ H, i ≤ xs.length → Pv i σ H → SqT K H a xs)
    (hs : ∀ i x σ H T, xs[i]? = some x → Pv i σ H → H T = none → g (.ref T) σ (upd H T (.tup [.int (i : Nat), x])) fun σ2 H2 => tb { D with nx := Pv (i + 1), ct := Pv (i + 1), bk := D.nx } σ2 H2) (hd : ∀ σ H, Pv xs.length σ H → D.nx σ H) :
    ∃ W : Nat → Nat → L2.St → Hp → Prop, (∃ m, W 0 m σ H) ∧ ∀ i m σ H, W i m σ H →
      ((ItT K a).stop i H ∧ D.nx σ H) ∨ ((ItT K a).go i H ∧ ∃ N : L2.St → Hp → Prop, (∀ σ' H', N σ' H' → ∃ m', m' < m ∧ W (i + 1) m' σ' H') ∧ ∀ x H', (ItT K a).yld i H x H' → g x σ H' fun σ2 H2 => tb { D with nx := N, ct := N, bk := D.nx } σ2 H2) := by
  refine ⟨fun i m σ H => m = xs.length - i ∧ i ≤ xs.length ∧ Pv i σ H, ⟨xs.length, by simp, Nat.zero_le _, h0⟩, ?_⟩
  rintro i m σ H ⟨rfl, hi, p⟩
  have q := hl i σ H hi p
  rcases Nat.lt_or_ge i xs.length with lt | ge
  · refine .inr ⟨⟨xs, xs[i], q, List.getElem?_eq_getElem lt⟩, Pv (i + 1), fun σ' H' p' => ⟨xs.length - (i + 1), by omega, rfl, lt, p'⟩, fun v H' y => ?_⟩
    obtain ⟨T, x, rfl, nT, rfl, fx⟩ := y
    exact hs i x σ H T (fx xs q) p nT
  · have e : i = xs.length := by omega
    subst e
    exact .inl ⟨⟨xs, q, rfl⟩, hd σ H p⟩
theorem r62 {n : Nat} (h : n ≤ 6) : ((2 ^ n : Nat) : Int) < 2 ^ 62 := by
  have := pow6 h
  omega
theorem l62 {n : Nat} : -(2 ^ 62) ≤ ((2 ^ n : Nat) : Int) := Int.le_trans (by decide : -(2 ^ 62) ≤ (0 : Int)) (Int.natCast_nonneg _)
end XT
/-! data with dicts, and repr of them -/
namespace XT
open PySem PySem.Spec PyProof.Rows L2
/-- a dict of texts and numbers -/
def dkV (kvs : List (Str × Int)) : List (Key × V) := kvs.map fun p => (.inr p.1, .int p.2)
def dkD (kvs : List (Str × Int)) : PyData := .dict (kvs.map fun p => (.str p.1, .int p.2))
mutual
inductive Dz (K : PySem.W.Frag) (H : Hp) : V → PyData → Prop
  | non : Dz K H .non .none
  | bl (b : Bool) : Dz K H (.bl b) (.bool b)
  | int (i : Int) : Dz K H (.int i) (.int i)
  | str (x : Str) : Dz K H (.str x) (.str x)
  | lst {a : Addr} {xs : List V} {ds : List PyData} : SqL K H a xs → a ≠ sysModules → DzAll K H xs ds → Dz K H (.ref a) (.list ds)
  | tup {a : Addr} {xs : List V} {ds : List PyData} : SqT K H a xs → DzAll K H xs ds → Dz K H (.ref a) (.tuple ds)
  | dct {a : Addr} (kvs : List (Str × Int)) : H a = some (.dK (dkV kvs)) → Dz K H (.ref a) (dkD kvs)
inductive DzAll (K : PySem.W.Frag) (H : Hp) : List V → List PyData → Prop
  | nil : DzAll K H [] []
  | cons {v : V} {vs : List V} {d : PyData} {ds : List PyData} : Dz K H v d → DzAll K H vs ds → DzAll K H (v :: vs) (d :: ds)
end
mutual
theorem Dz.same {K : PySem.W.Frag} {H H' : Hp} (e : Same H H') : ∀ {v : V} {d : PyData}, Dz K H v d → Dz K H' v d
  | _, _, .non => .non
  | _, _, .bl b => .bl b
  | _, _, .int i => .int i
  | _, _, .str x => .str x
  | _, _, .lst h n a => .lst (e.seq h) n (DzAll.same e a)
  | _, _, .tup h a => .tup (Same.sqT e h) (DzAll.same e a)
  | _, _, .dct kvs h => .dct kvs (e _ _ h)
theorem DzAll.same {K : PySem.W.Frag} {H H' : Hp} (e : Same H H') : ∀ {vs : List V} {ds : List PyData}, DzAll K H vs ds → DzAll K H' vs ds
  | _, _, .nil => .nil
  | _, _, .cons h a => .cons (Dz.same e h) (DzAll.same e a)
end
theorem dk_reads {P : Program} {w : World} {h : Heap} : ∀ {kvs : List (Str × Int)} {vs : List (Key × Value)} {es : List DictEntry}, KV (dkV kvs) vs → Pairs (mixKind P w) es vs →
    ReadsAll h (es.map (·.key)) ((kvs.map fun p => ((PyData.str p.1, PyData.int p.2) : PyData × PyData)).map (·.1)) [] ∧ ReadsAll h (es.map (·.val)) ((kvs.map fun p => ((PyData.str p.1, PyData.int p.2) : PyData × PyData)).map (·.2)) []
  | [], _, _, r, p => by
    cases r
    cases p
    exact ⟨.nil, .nil⟩
  | (x, i) :: kvs, _, _, r, p => by
    cases r with
    | @cons a kv as bs r1 r2 =>
      cases p with
      | @cons e _ es' _ hk hv p2 =>
        obtain ⟨h1, h2⟩ := dk_reads (P := P) (w := w) (h := h) (kvs := kvs) r2 p2
        obtain ⟨e1, e2⟩ := r1
        have e1 : (Sum.inr x : Key) = kv.1 := e1
        have e2 : RelV (.int i) kv.2 := e2
        have hk : keyIs kv.1 e.key = true := hk
        rw [← e1] at hk
        rcases keyIs_shape hk with ⟨j, t, z, _⟩ | ⟨y, t, z, ey⟩
        · cases z
        · cases z
          obtain ⟨t2, e3⟩ := e2
          refine ⟨?_, ?_⟩
          · show ReadsAll h (e.key :: es'.map (·.key)) (PyData.str x :: _) ([] ++ [])
            rw [ey]
            exact .cons (.str x t) h1
          · show ReadsAll h (e.val :: es'.map (·.val)) (PyData.int i :: _) ([] ++ [])
            rw [hv, e3]
            exact .cons (.int i t2) h2
section
variable {X : Cx} {pins : List (Addr × Obj)} {σ : L2.St} {H : Hp} {s : Shared}
mutual
theorem Dz.reads (I : Inv X pins σ H s) : ∀ {v : V} {d : PyData}, Dz X.K H v d → ∀ u : Value, RelV v u → ∃ as, Reads s.heap u d as ∧ sysModules ∉ as
  | _, _, .non, u, r => by
    cases r
    exact ⟨_, Reads.none, by simp⟩
  | _, _, .bl b, u, r => by
    cases r
    exact ⟨_, Reads.bool b, by simp⟩
  | _, _, .int i, u, r => by
    obtain ⟨t, rfl⟩ := r
    exact ⟨_, Reads.int i t, by simp⟩
  | _, _, .str x, u, r => by
    obtain ⟨t, rfl⟩ := r
    exact ⟨_, Reads.str x t, by simp⟩
  | _, _, .lst hs ne ha, u, r => by
    cases r
    obtain ⟨its, rv, ⟨o, n, ho, hc, _, hd⟩, _⟩ := I.list hs
    obtain ⟨as, hr, nm⟩ := DzAll.reads I ha its rv
    exact ⟨_, Reads.list ho hc hd hr, fun z => (List.mem_cons.mp z).elim (fun z => ne z.symm) nm⟩
  | _, _, .tup hs ha, u, r => by
    cases r
    obtain ⟨its, rv, ⟨o, ho, hc, n, hd⟩, _⟩ := I.tuple hs
    obtain ⟨as, hr, nm⟩ := DzAll.reads I ha its rv
    exact ⟨_, Reads.tuple ho hc hd hr, nm⟩
  | _, _, .dct (a := a) kvs h, u, r => by
    cases r
    have hx : ObjOk X.prog X.w H s.heap a (.dK (dkV kvs)) := I.hok a _ h
    obtain ⟨_, hm, vs, rk, o, es, ep, ho, hex, hd, _, hp, _⟩ := hx
    obtain ⟨h1, h2⟩ := dk_reads (h := s.heap) rk hp
    have hne : a ≠ sysModules := beq_eq_false_iff_ne.mp hm
    exact ⟨_, Reads.dict ho hex.1 hd h1 h2, fun z => by
      simp only [List.append_nil, List.mem_cons, List.not_mem_nil, or_false] at z
      exact hne z.symm⟩
theorem DzAll.reads (I : Inv X pins σ H s) : ∀ {vs : List V} {ds : List PyData}, DzAll X.K H vs ds → ∀ us : List Value, Vals vs us → ∃ as, ReadsAll s.heap us ds as ∧ sysModules ∉ as
  | _, _, .nil, us, r => by
    cases r
    exact ⟨_, ReadsAll.nil, by simp⟩
  | _, _, .cons h1 h2, us, r => by
    cases r with
    | cons r1 r2 =>
      obtain ⟨as, q1, n1⟩ := Dz.reads I h1 _ r1
      obtain ⟨bs, q2, n2⟩ := DzAll.reads I h2 _ r2
      exact ⟨_, ReadsAll.cons q1 q2, fun z => (List.mem_append.mp z).elim n1 n2⟩
end
end
section
variable {X : Cx}
def rReprZ (K : PySem.W.Frag) : List V → Hp → VK → Prop := fun xs H Q => ∃ (a : Addr) (d : PyData), xs = [.ref a] ∧ Dz K H (.ref a) d ∧ d.depth ≤ 64 ∧ d.showable = true ∧ d.shown.length ≤ sizeLine ∧ Q (.str d.shown) H
theorem cr_reprZ (hg : X.A.guards = some []) (hu : X.A.units + 128 < cLine) : CallR X (.builtin "repr") (rReprZ X.K) := by
  intro pins s σ H xs us Q I r h
  obtain ⟨a, d, rfl, hd, dp, hw, hz, q⟩ := h
  rw [Vals.ref1 r]
  obtain ⟨as, rd, nm⟩ := Dz.reads I hd (.ref a) rfl
  refine repr_of_reads' rd hw (fun _ => nm) hg (by omega) (fun _ _ e => e) (fun h2 u tk k => ?_) hz
  exact ⟨.str d.shown, H, I.kept (t' := tk) k, ⟨u, rfl⟩, q⟩
/-- a list display: not at the place of sys.modules -/
def tLstB (t : TA) : TE := fun σ H Q => t σ H fun xs H1 => xs.length ≤ sizeLine ∧ ∀ p, H1 p = none → p ≠ sysModules → Q (.ref p) (upd H1 p (.lst xs))
theorem pe_lstB {es : List Expr} {t : TA} {pos : Pos} (h : PA X es t) : PE X (.List es pos) (tLstB t) := by
  refine ⟨fun pins s σ H Q I hq => ?_⟩
  refine wpAny_List_spliced (thn (h.run pos pins s σ H _ I hq) fun us s1 ⟨xs, H1, I1, r, z, q⟩ => ⟨by rw [← r.length]; exact z, ?_⟩)
  have hf : H1 s1.heap.objs.size = none := I1.hok.fresh (Nat.le_refl _)
  refine ⟨.ref s1.heap.objs.size, upd H1 s1.heap.objs.size (.lst xs), I1.laid (t' := s1.toks) (fun b u e => Heap.get?_push_of_some _ e) (Nat.le_refl _) ?_, rfl, q _ hf (Ne.symm (Nat.ne_of_lt I1.big))⟩
  exact ⟨z, us, 0, r, Heap.get?_push_size _ rfl⟩
end
end XT
/-! draws within comprehensions; the lots that the law draws -/
namespace XT
open PySem PySem.Spec PyProof.Rows L2
/-- the stream's time goes on, all else stays -/
structure Step (S : Sm) (H : Hp) (t : Int) (H' : Hp) (t' : Int) (n : Nat) : Prop where
  keep : Keep S H H'
  st : Strm S H' t'
  lo : t ≤ t'
  hi : t' ≤ t + n
def spDrawN : Sp := fun vs H Q _ => ∃ (S : Sm) (t : Int) (m : Nat), vs = [.ref S.s, .int (m : Int)] ∧ Strm S H t ∧ 0 < m ∧ m ≤ 1000 ∧ t < 100000000 ∧
  ∀ (H' : Hp) (r : Nat) (t' : Int), Step S H t H' t' 1 → r < m → Q (.int (r : Int)) H'
theorem drawN {P : Program} {w : World} {K : PySem.W.Frag} {mg : Str → Option Value} {base : Heap} {k : Nat} {x : Str} (D : DefR P w K mg base k x spDraw) : DefR P w K mg base k x spDrawN := by
  obtain ⟨f, F, h1, h2⟩ := D
  refine ⟨f, F.imp fun vs H Q E ⟨S, t, m, ev, st, m0, m1, t1, q⟩ => ⟨S, t, m, ev, st, by omega, by omega, by omega, fun H' r t' k s a b r0 r1 => ?_⟩, h1, h2⟩
  obtain ⟨n, rfl⟩ := Int.eq_ofNat_of_zero_le r0
  exact q H' n t' ⟨k, s, a, b⟩ (by omega)
theorem Step.refl {S : Sm} {H : Hp} {t : Int} (h : Strm S H t) : Step S H t H t 0 := ⟨Keep.refl S H, h, Int.le_refl _, by omega⟩
theorem Step.trans {S : Sm} {H H1 H2 : Hp} {t t1 t2 : Int} {n m : Nat} (a : Step S H t H1 t1 n) (b : Step S H1 t1 H2 t2 m) : Step S H t H2 t2 (n + m) := ⟨a.keep.trans b.keep, b.st, Int.le_trans a.lo b.lo, by have := a.hi; have := b.hi; omega⟩
theorem Step.same {S : Sm} {H H1 H2 : Hp} {t t1 : Int} {n : Nat} (a : Step S H t H1 t1 n) (b : Same H1 H2) : Step S H t H2 t1 n := ⟨a.keep.trans (Keep.of b), a.st.same b, a.lo, a.hi⟩
theorem Step.mono {S : Sm} {H H1 : Hp} {t t1 : Int} {n m : Nat} (a : Step S H t H1 t1 n) (h : n ≤ m) : Step S H t H1 t1 m := ⟨a.keep, a.st, a.lo, by have := a.hi; omega⟩
section
variable {K : PySem.W.Frag} {a : Addr} {g : TG} {tt : TT} {te : TE} {vs : List Nat} {σ : L2.St} {H1 : Hp} {D : Addr} {Qd : Hp → Prop} {S : Sm} {t0 : Int} {c : Nat}
/-- what one turn must do: the stream is drawn from at most d times, and what is kept is a number below c -/
def TurnS (S : Sm) (c d : Nat) (g : TG) (tt : TT) (te : TE) (vs : List Nat) (σ : L2.St) (x : V) (H : Hp) (t : Int) : Prop :=
  ∀ (R1 : Hp → Prop) (R2 : V → Hp → Prop), (∀ H3 t3, Step S H t H3 t3 d → R1 H3) → (∀ (k : Nat) H4 t4, Step S H t H4 t4 d → k < c → R2 (.int (k : Int)) H4) →
    g x (wipe σ vs) H fun σ2 H2 => wipe σ2 vs = wipe σ vs ∧ tt σ2 H2 fun b H3 => if b = true then te σ2 H3 R2 else R1 H3
def PvS (S : Sm) (c d : Nat) (H1 : Hp) (t0 : Int) (D : Addr) (i : Nat) (H : Hp) : Prop := ∃ (ks : List Nat) (t : Int), Step S H1 t0 H t (d * i) ∧ H D = some (.lst (vm ks)) ∧ (∀ k ∈ ks, k < c) ∧ ks.length ≤ i
theorem pvs_start (st : Strm S H1 t0) (nD : H1 D = none) (d : Nat) : PvS S c d H1 t0 D 0 (upd H1 D (.lst [])) := ⟨[], t0, ((Step.refl st).same (same_new nD)).mono (Nat.zero_le _), upd_same, by simp, by simp⟩
theorem pvs_turn {d i : Nat} {x : V} {H : Hp} (st0 : Strm S H1 t0) (nD : H1 D = none) (hi : i ≤ 1000) (h : PvS S c d H1 t0 D i H) (ht : ∀ t, Step S H1 t0 H t (d * i) → TurnS S c d g tt te vs σ x H t) :
    g x (wipe σ vs) H fun σ2 H2 => wipe σ2 vs = wipe σ vs ∧ tt σ2 H2 fun b H3 =>
      if b = true then te σ2 H3 fun y H4 => ∃ acc, H4 D = some (.lst acc) ∧ acc.length < sizeLine ∧ PvS S c d H1 t0 D (i + 1) (upd H4 D (.lst (acc ++ [y]))) else PvS S c d H1 t0 D (i + 1) H3 := by
  obtain ⟨ks, t, stp, hD, hk, hl⟩ := h
  refine ht t stp _ _ (fun H3 t3 s3 => ?_) (fun k H4 t4 s4 hkc => ?_)
  · exact ⟨ks, t3, (stp.trans s3).mono (by rw [Nat.mul_succ]; exact Nat.le_refl _), s3.keep.mine st0 nD hD, hk, by omega⟩
  · have hD4 := s4.keep.mine st0 nD hD
    refine ⟨_, hD4, small64 (by rw [vm_len]; omega), ks ++ [k], t4, ?_, ?_, ?_, ?_⟩
    · have z := stp.trans s4
      have nDs : D ≠ S.s := fun e => by obtain ⟨_, h⟩ := st0; rw [e, h.hs] at nD; cases nD
      have nDp : D ≠ S.p := fun e => by obtain ⟨_, h⟩ := st0; rw [e, h.hp] at nD; cases nD
      have nDq : D ≠ S.q := fun e => by obtain ⟨_, h⟩ := st0; rw [e, h.hq] at nD; cases nD
      refine ⟨fun b o n1 n2 e => ?_, ?_, z.lo, by have := z.hi; rw [Nat.mul_succ]; exact this⟩
      · rw [upd_ne (ne_of_none e nD)]
        exact z.keep b o n1 n2 e
      · obtain ⟨big, hb⟩ := z.st
        refine ⟨big, ?_, ?_, ?_, hb.sp, hb.sq, hb.pq, hb.ne, hb.t0⟩
        · rw [upd_ne nDs.symm]; exact hb.hs
        · rw [upd_ne nDp.symm]; exact hb.hp
        · rw [upd_ne nDq.symm]; exact hb.hq
    · rw [upd_same]; unfold vm; rw [List.map_append]; rfl
    · intro j hj
      rcases List.mem_append.mp hj with hj | hj
      · exact hk j hj
      · rw [List.mem_singleton.mp hj]; exact hkc
    · rw [List.length_append]; simp; exact hl
theorem lcs_range {n d : Nat} (st0 : Strm S H1 t0) (nD : H1 D = none) (hn : n ≤ 1000) (ht : ∀ (i : Nat) H t, i < n → Step S H1 t0 H t (d * i) → TurnS S c d g tt te vs σ (.int (0 + (i : Int))) H t) (hd : ∀ H, PvS S c d H1 t0 D n H → Qd H) :
    ∃ W : Nat → Nat → Hp → Prop, (∃ m, W 0 m (upd H1 D (.lst []))) ∧ ∀ i m H, W i m H →
      ((Itr 0 n).stop i H ∧ Qd H) ∨ ((Itr 0 n).go i H ∧ ∃ Nx : Hp → Prop, (∀ H', Nx H' → ∃ m', m' < m ∧ W (i + 1) m' H') ∧ ∀ x H', (Itr 0 n).yld i H x H' → g x (wipe σ vs) H' fun σ2 H2 => wipe σ2 vs = wipe σ vs ∧ tt σ2 H2 fun b H3 =>
        if b = true then te σ2 H3 fun y H4 => ∃ acc, H4 D = some (.lst acc) ∧ acc.length < sizeLine ∧ Nx (upd H4 D (.lst (acc ++ [y]))) else Nx H3) :=
  lc_range (lo := 0) (n := n) (fun i H => PvS S c d H1 t0 D i H) (pvs_start st0 nD d) (fun i H hi h => pvs_turn st0 nD (by omega) h fun t s => ht i H t hi s) hd
theorem lcs_list {ms : List Nat} {d : Nat} (st0 : Strm S H1 t0) (nD : H1 D = none) (hA : H1 a = some (.lst (vm ms))) (as : a ≠ S.s) (ap : a ≠ S.p) (hn : ms.length ≤ 1000)
    (ht : ∀ (i : Nat) (m : Nat) H t, ms[i]? = some m → Step S H1 t0 H t (d * i) → TurnS S c d g tt te vs σ (.int (m : Int)) H t) (hd : ∀ H, PvS S c d H1 t0 D ms.length H → Qd H) :
    ∃ W : Nat → Nat → Hp → Prop, (∃ m, W 0 m (upd H1 D (.lst []))) ∧ ∀ i m H, W i m H →
      ((Itl K a).stop i H ∧ Qd H) ∨ ((Itl K a).go i H ∧ ∃ Nx : Hp → Prop, (∀ H', Nx H' → ∃ m', m' < m ∧ W (i + 1) m' H') ∧ ∀ x H', (Itl K a).yld i H x H' → g x (wipe σ vs) H' fun σ2 H2 => wipe σ2 vs = wipe σ vs ∧ tt σ2 H2 fun b H3 =>
        if b = true then te σ2 H3 fun y H4 => ∃ acc, H4 D = some (.lst acc) ∧ acc.length < sizeLine ∧ Nx (upd H4 D (.lst (acc ++ [y]))) else Nx H3) := by
  refine lc_list (xs := vm ms) (fun i H => PvS S c d H1 t0 D i H) (pvs_start st0 nD d) (fun i H _ h => ?_) (fun i x H hx h => ?_) (fun H h => ?_)
  · obtain ⟨_, _, s, _⟩ := h
    exact SqL.of (s.keep a _ as ap hA)
  · obtain ⟨m, hm, rfl⟩ := mem_vm hx
    have hi : i < ms.length := (List.getElem?_eq_some_iff.mp hm).1
    exact pvs_turn st0 nD (by omega) h fun t s => ht i m H t hm s
  · rw [vm_len] at h
    exact hd H h
end
end XT
/-! _law_odd -/
namespace XT
open PySem PySem.Spec PyProof.Rows L2
theorem strm_ne {S : Sm} {H : Hp} {t : Int} {R : Addr} (h : Strm S H t) (n : H R = none) : R ≠ S.s ∧ R ≠ S.p ∧ R ≠ S.q := by
  obtain ⟨big, s⟩ := h
  exact ⟨(ne_of_none s.hs n).symm, (ne_of_none s.hp n).symm, (ne_of_none s.hq n).symm⟩
theorem DzAll.at {K : PySem.W.Frag} {H : Hp} : ∀ {vs : List V} {ds : List PyData}, DzAll K H vs ds → ∀ {i : Nat} {v : V}, vs[i]? = some v → ∃ d, ds[i]? = some d ∧ Dz K H v d
  | _, _, .nil, i, v, h => by simp at h
  | _, _, .cons (d := d) h a, 0, v, e => by
    cases e
    exact ⟨d, rfl, h⟩
  | _, _, .cons h a, i + 1, v, e => DzAll.at a (i := i) e
theorem DzAll.len {K : PySem.W.Frag} {H : Hp} : ∀ {vs : List V} {ds : List PyData}, DzAll K H vs ds → vs.length = ds.length
  | _, _, .nil => rfl
  | _, _, .cons h a => by rw [List.length_cons, List.length_cons, DzAll.len a]
def oddD : List PyData := [.none, .bool true, .bool false, .int (-1), .int 0, .int 1, .int 2, .int 3, .int 6, .int 7, .int 63, .int 64, .int (10 ^ 39), .str "", .str "0", .str "lot", .tuple [], .list [], .dict [], .tuple [.int 0], .list [.int 0], .tuple [.bool true],
  .tuple [.int 2, .tuple [.int 0]], .tuple [.int 0, .int 1], .dict [(.str "a", .int 1)], .str "01"]
section
variable {P : Program} {w : World} {K : PySem.W.Frag} {mg : Str → Option Value} {base : Heap}
abbrev nOd : List Str := ["_law_stream_here", "_law_some"]
theorem scOd : FnScope nOd ["_law_stream_here"] (defScope sOdd) := ⟨rfl, rfl, rfl, by decide +kernel, rfl, by decide +kernel, by decide +kernel⟩
def spOdd (K : PySem.W.Frag) : Sp := fun vs H Q _ => ∃ (S : Sm) (t : Int), vs = [.ref S.s] ∧ Strm S H t ∧ t < 1000000 ∧ ∀ (H' : Hp) (v : V) (d : PyData) (t' : Int), Step S H t H' t' 1 → Dz K H' v d → d ∈ oddD → Q v H'
theorem ok_odd {f : Addr} {fd : FuncData} {k : Nat} (F : Fun K "_law_odd" "_law_odd" sOdd f fd) (dD : DefR P w K mg base 1 "_law_draw" spDrawN) : FnOk P w K mg base CX0 (k + 2) f fd ["_law_stream_here"] (spOdd K) := by
  refine F.ok scOd (fun vs H Q E h => ?_) (fun cdv A outer s H vs Q E hr h => ?_)
  · obtain ⟨S, t, rfl, _⟩ := h
    rfl
  · obtain ⟨S, t, rfl, st, ht, q⟩ := h
    refine ⟨_, pss_cons (ps_set (i := 1) scOd.nd rfl (.inl rfl) (pe_lst (pa_cons pe_non (pa_cons pe_bl (pa_cons pe_bl (pa_cons (pe_un un_neg pe_int) (pa_cons pe_int (pa_cons pe_int (pa_cons pe_int (pa_cons pe_int (pa_cons pe_int (pa_cons pe_int (pa_cons pe_int (pa_cons pe_int
        (pa_cons (pe_op op_pow pe_int pe_int) (pa_cons pe_str (pa_cons pe_str (pa_cons pe_str (pa_cons (pe_tup pa_nil) (pa_cons (pe_lstB pa_nil) (pa_cons pe_dnewK (pa_cons (pe_tup (pa_cons pe_int pa_nil)) (pa_cons (pe_lstB (pa_cons pe_int pa_nil)) (pa_cons (pe_tup (pa_cons pe_bl pa_nil)) pa_nil))))))))))))))))))))))))
      (pss_one (ps_ret (pe_ix ix_list (pe_op op_cat (pv 1) (pe_lst (pa_cons (pe_tup (pa_cons pe_int (pa_cons (pe_tup (pa_cons pe_int pa_nil)) pa_nil))) (pa_cons (pe_tup (pa_cons pe_int (pa_cons pe_int pa_nil))) (pa_cons (pe_disp (pps_cons pe_str pe_int pps_nil) rfl rfl (by decide) (by decide)) (pa_cons pe_str pa_nil))))))
        (pe_def dD (hr.mono (by omega)) (by rfl) (pa_cons (pv 0) (pa_cons pe_int pa_nil))) (fun _ _ => rfl)))), ?_⟩
    refine ⟨1, rfl, 10, 39, rfl, rfl, ⟨by decide, by decide, by decide⟩, sz (n := 0) (by decide), fun T1 nT1 => ⟨sz (n := 0) (by decide), fun L1 nL1 bL1 D1 nD1 => ⟨sz (n := 1) (by decide), fun T2 nT2 => ⟨sz (n := 1) (by decide), fun L2 nL2 bL2 => ⟨sz (n := 1) (by decide), fun T3 nT3 => ⟨sz (n := 22) (by decide), fun S0 nS0 => ?_⟩⟩⟩⟩⟩⟩
    have m1 := same_new (o := .tup []) nT1
    have m2 := same_new (o := .lst []) nL1
    have m3 := same_new (o := .dK []) nD1
    have m4 := same_new (o := .tup [.int 0]) nT2
    have m5 := same_new (o := .lst [.int 0]) nL2
    have m6 := same_new (o := .tup [.bl true]) nT3
    let xs : List V := [.non, .bl true, .bl false, .int (-1), .int 0, .int 1, .int 2, .int 3, .int 6, .int 7, .int 63, .int 64, .int (10 ^ (39 : Int).toNat), .str "", .str "0", .str "lot", .ref T1, .ref L1, .ref D1, .ref T2, .ref L2, .ref T3]
    have m7 := same_new (o := .lst xs) nS0
    refine ⟨.ref S0, rfl, sz (n := 1) (by decide), fun T4 nT4 => ⟨sz (n := 2) (by decide), fun T5 nT5 => ⟨sz (n := 2) (by decide), fun T6 nT6 D2 nD2 => ⟨upd_same, [(.inr "a", .int 1)], rfl, by decide, sz (n := 4) (by decide), fun M nM => ?_⟩⟩⟩⟩
    have m8 := same_new (o := .tup [.int 0]) nT4
    have m9 := same_new (o := .tup [.int 2, .ref T4]) nT5
    have m10 := same_new (o := .tup [.int 0, .int 1]) nT6
    have m11 : Same _ (upd (upd (upd (upd (upd (upd (upd (upd (upd (upd (upd (upd H T1 (.tup [])) L1 (.lst [])) D1 (.dK [])) T2 (.tup [.int 0])) L2 (.lst [.int 0])) T3 (.tup [.bl true])) S0 (.lst xs)) T4 (.tup [.int 0])) T5 (.tup [.int 2, .ref T4])) T6 (.tup [.int 0, .int 1])) D2 (.dK [])) D2 (.dK (mergeK [] [(.inr "a", .int 1)]))) := fun b o e => by
      rw [upd_ne (ne_of_none e nD2), upd_ne (ne_of_none e nD2)]
      exact e
    have m12 := same_new (o := .lst [.ref T5, .ref T6, .ref D2, .str "01"]) nM
    refine ⟨S0, M, _, _, rfl, rfl, m12 _ _ (m11 _ _ (m10 _ _ (m9 _ _ (m8 _ _ upd_same)))), upd_same, (by rw [sizeLine_eq]; show 22 + 4 ≤ 16777216; decide), fun C nC => ?_⟩
    have m13 := same_new (o := .lst (xs ++ [.ref T5, .ref T6, .ref D2, .str "01"])) nC
    have st1 := st.same m1
    have st2 := st1.same m2
    have st3 := st2.same m3
    have st4 := st3.same m4
    have st5 := st4.same m5
    have st6 := st5.same m6
    have st7 := st6.same m7
    have st8 := st7.same m8
    have st9 := st8.same m9
    have st10 := st9.same m10
    have st11 := st10.same m11
    have st12 := st11.same m12
    have st13 := st12.same m13
    refine ⟨.ref S.s, rfl, S, t, 26, rfl, st13, by omega, by omega, by omega, fun H9 r t9 s9 hr26 => ?_⟩
    have c12 := m12.trans m13
    have c11 := m11.trans c12
    have c10 := m10.trans c11
    have c9 := m9.trans c10
    have c8 := m8.trans c9
    have c7 := m7.trans c8
    have c6 := m6.trans c7
    have c5 := m5.trans c6
    have c4 := m4.trans c5
    have c3 := m3.trans c4
    have c2 := m2.trans c3
    have kT : ∀ {b : Addr} {zs : List V}, _ = some (HO.tup zs) → H9 b = some (.tup zs) := fun {b zs} e => s9.keep.tup st13 e
    have gT1 := kT (c2 T1 _ upd_same)
    have gT2 := kT (c5 T2 _ upd_same)
    have gT3 := kT (c7 T3 _ upd_same)
    have gT4 := kT (c9 T4 _ upd_same)
    have gT5 := kT (c10 T5 _ upd_same)
    have gT6 := kT (c11 T6 _ upd_same)
    have nL1s := strm_ne st1 nL1
    have nL2s := strm_ne st4 nL2
    have nD1s := strm_ne st2 nD1
    have nD2s := strm_ne st10 nD2
    have nCs := strm_ne st12 nC
    have gL1 := s9.keep L1 _ nL1s.1 nL1s.2.1 (c3 L1 _ upd_same)
    have gL2 := s9.keep L2 _ nL2s.1 nL2s.2.1 (c6 L2 _ upd_same)
    have gD1 := s9.keep D1 _ nD1s.1 nD1s.2.1 (c4 D1 _ upd_same)
    have gD2 := s9.keep D2 _ nD2s.1 nD2s.2.1 (c12 D2 _ upd_same)
    have gC := s9.keep C _ nCs.1 nCs.2.1 upd_same
    have all : DzAll K H9 (xs ++ [.ref T5, .ref T6, .ref D2, .str "01"]) oddD :=
      .cons .non (.cons (.bl _) (.cons (.bl _) (.cons (.int _) (.cons (.int _) (.cons (.int _) (.cons (.int _) (.cons (.int _) (.cons (.int _) (.cons (.int _) (.cons (.int _) (.cons (.int _) (.cons (.int _) (.cons (.str _) (.cons (.str _) (.cons (.str _)
        (.cons (.tup (SqT.of gT1) .nil) (.cons (.lst (SqL.of gL1) bL1 .nil) (.cons (.dct [] gD1) (.cons (.tup (SqT.of gT2) (.cons (.int _) .nil)) (.cons (.lst (SqL.of gL2) bL2 (.cons (.int _) .nil)) (.cons (.tup (SqT.of gT3) (.cons (.bl _) .nil))
        (.cons (.tup (SqT.of gT5) (.cons (.int _) (.cons (.tup (SqT.of gT4) (.cons (.int _) .nil)) .nil))) (.cons (.tup (SqT.of gT6) (.cons (.int _) (.cons (.int _) .nil))) (.cons (.dct [("a", 1)] gD2) (.cons (.str _) .nil)))))))))))))))))))))))))
    have hlt : r < (xs ++ [V.ref T5, V.ref T6, V.ref D2, V.str "01"]).length := by
      show r < 26
      exact hr26
    obtain ⟨d, hd, hz⟩ := all.at (List.getElem?_eq_getElem hlt)
    refine ⟨C, _, r, _, rfl, rfl, SqL.of gC, atI_nat (List.getElem?_eq_getElem hlt), ?_⟩
    exact q H9 _ d t9 ⟨(Keep.of (((m1.trans c2)))).trans s9.keep, s9.st, s9.lo, s9.hi⟩ hz (List.mem_of_getElem? hd)
end
end XT
/-! an own exception class over any of the built-in ones that have their facts, its __init__ walked as a def -/
namespace XT
open PySem PySem.Spec PyProof.Rows L2
structure OexG (K : PySem.W.Frag) (C : Addr) : Prop where
  cls : ∃ (B newId initId : String) (bmB : List Value) (nm q : Str) (N : Addr) (bs bm : List Value) (sn : List Str) (sub : List Value) (ab : Bool) (col : Option Bool) (dd : Option Addr) (k0 k1 k2 k3 k5 : Option Value),
    ExcBaseFacts B newId initId bmB ∧ K.lookup C = some (excClassObj nm q C N bs bm true sn sub ab col dd k0 k1 k2 k3 k5 newId) ∧ PySem.W.excTail bmB bm = true ∧ (∀ self, refuseLoop self "__setattr__" bmB = pure ()) ∧ bmB.contains (.type "object") = true
  sa : PySem.W.findIn K (.ref C) "__setattr__" = some (some (.builtin "object.__setattr__"))
  exC : PySem.W.subIn K (.ref C) (.type "BaseException") = some true
  tyC : PySem.W.typeIn K (.ref C) = some (.type "type")
  kC : PySem.W.keepIn K (.ref C) = true
section
open Builtin Builtin.ObjectAttr PySem.HandSPX
variable {prog : Program} {w : World} {A : Around} {E : Value → Shared → Prop} {R : Result → Shared → Prop} {hp : Heap} {g : Array GenState} {d : Drawn} {t : Nat} {os : OsState}
/-- the first field of an exception, whatever built-in class stands under its own -/
theorem osaG {K : W.Frag} {name : Str} {tk : Tok} {v : Value} {x C : Addr} {fv : Array Value} {cd : ClassData}
    (X : K.In hp) (hx : hp.get? x = some { cls := .ref C, data := .fields fv }) (hcd : W.clsIn K C = some cd) (ne : cd.mro.isEmpty = false) (hob : cd.mro.contains (.type "object") = true) (hpass : ∀ self, refuseLoop self "__setattr__" cd.mro = pure ()) (hh : cd.hasDict = true) (ha : W.findIn K (.ref C) name = some none)
    (hq : ∀ h' tk' dx, (∀ b o, b ≠ x → hp.get? b = some o → h'.get? b = some o) → hp.objs.size ≤ dx → dx ≠ x → h'.get? x = some { cls := .ref C, dict := some dx, data := .fields fv } →
      h'.Ns1 dx (fun y => if y = name then some v else none) → R (.ok (.ret .none)) ⟨h', g, d, tk', os⟩) :
    codeAny (model prog w) A (.call (.builtin "object.__setattr__") ⟨[.ref x, .str name tk, v], []⟩) R ⟨hp, g, d, t, os⟩ := by
  have I : W.InstAt hp x { cls := .ref C, data := .fields fv } C none := ⟨hx, rfl, rfl, trivial⟩
  have SF := F.store_object
  have hxs : x ≠ hp.objs.size := Nat.ne_of_lt (Heap.lt_size hx)
  have sub : W.Looks (model prog w) hp (isInstance (.ref x) (.type "object")) true := I.type.andThen (W.looks_mroIn X (by unfold W.mroIn; rw [hcd, Option.bind_some, if_neg (by rw [ne]; decide), hob]))
  refine codeAny_call_builtin SF.slot.plain SF.entry (@W.check_slot (model prog w) _ _ ⟨hp, g, d, t, os⟩ "object.__setattr__" "object" "__setattr__" (.ref x) [.str name tk, v] [] _ SF.kind SF.split sub (SF.args (.ref x) (.str name tk) v) ?_)
  have hmr : W.Looks (model prog w) hp (mroOf (.ref C)) cd.mro := (W.looks_clsIn X hcd).andThen .now
  have L3 : W.Looks (model prog w) hp (storeTaker? none) none := .now
  have hcls : W.Looks (model prog w) hp (classData C) cd := W.looks_clsIn X hcd
  rw [W.osa_eq, refuse_eq]
  refine wpAny_bind (wpAny_bind (I.type.at (wpAny_bind (hmr.at ?_))))
  rw [hpass]
  refine wpAny_pure (wpAny_bind (I.type.at (wpAny_bind ((W.looks_findIn X ha).at (wpAny_bind (L3.at ?_))))))
  show wpAny _ _ (storeInOwnDict (.ref x) (.ref C) (.str name tk) name v false) _ _ _
  obtain ⟨nm, bs, mro, ns, qn, hd, sn, sb, ab, col, del⟩ := cd
  dsimp only at hh
  subst hh
  unfold storeInOwnDict ownDictForStores
  repeat (first | with_reducible refine store_in_new ?_ ?_ | with_reducible refine wpAny_loadPart_at hx ?_ | with_reducible refine hcls.at ?_ | wp_step)
  · exact ⟨_, #[], _, (Heap.get?_update_ne _ _ _ _ hxs.symm).trans (Heap.get?_push_at rfl rfl), rfl, fun e he => absurd he (by simp), fun _ => rfl⟩
  · intro h' tk' hn' hs
    have hx₁ : (hp.push { cls := .type "dict", data := .dict #[] }).get? x = some { cls := .ref C, data := .fields fv } := Heap.get?_push_of_some _ hx
    refine hq h' tk' hp.objs.size (fun b o hb ho => ?_) (Nat.le_refl _) hxs.symm ?_ hn'
    · exact (hs.2 b (Nat.ne_of_lt (Heap.lt_size ho))).trans ((Heap.get?_update_ne _ _ _ _ hb).trans (Heap.get?_push_of_some _ ho))
    · exact (hs.2 x hxs).trans (Heap.get?_update_self _ hx₁ rfl)
end
section
variable {X : Cx} {pins : List (Addr × Obj)} {σ : L2.St} {H : Hp} {s : Shared} {a C dx : Addr} {f : Str} {y : V} {u : Value} {fs : List (Str × V)} {Q : Unit → Shared → Prop} {E : Value → Shared → Prop} {A : Around}
theorem ostG (T : OexG X.K C) (I : Inv X pins σ H s) (e : H a = some (exo a C none)) (hno : PySem.W.findIn X.K (.ref C) f = some none) (ry : RelV y u)
    (h : ∀ dx s', H dx = none → dx ≠ a → Inv X pins σ (upd (upd H dx (exd dx [(f, y)])) a (exo a C (some dx))) s' → Q () s') : wpAny (model X.prog X.w) A (setAttr (.ref a) f u) Q E s := by
  obtain ⟨Bn, newId, initId, bmB, nm, q, N, bs, bm, sn, sub, ab, col, dd, k0, k1, k2, k3, k5, FB, hC, hbm, hpass, hob⟩ := T.cls
  have hcl : PySem.W.clsIn X.K C = some { name := nm, bases := bs, mro := .ref C :: bm, ns := N, qualname := q, hasDict := true, slotNames := sn, subclasses := sub, abstract := ab, collection := col, hasDel := false } := by unfold PySem.W.clsIn; rw [hC] <;> rfl
  obtain ⟨t1, ho⟩ := exo_at I.hok e
  obtain ⟨hp, g, d, t, os⟩ := s
  have hT : PySem.W.excTail bmB (.ref C :: bm) = true := hbm
  refine PySem.W.set_plain I.kIn (ox := { cls := .ref C, dict := none, data := .fields #[.ref t1, .none, .none, .none, .bool false, .none] }) (od := none) ⟨ho, rfl, rfl, trivial⟩ T.sa ?_
  refine osaG I.kIn ho hcl rfl ((PySem.W.excTail_contains "object" _ hT).trans hob) (fun self => PySem.W.excTail_pass self (hpass self) _ hT) rfl hno (fun h' tk' dx k dn dne hx hn => ?_)
  have hnd : H dx = none := I.hok.fresh dn
  have nd : ∀ {b : Addr} {o : Obj}, hp.get? b = some o → b ≠ dx := fun {b o} q => Nat.ne_of_lt (Nat.lt_of_lt_of_le (Heap.lt_size q) dn)
  have na : ∀ {b : Addr}, H b = none → b ≠ a := fun {b} n z => by
    rw [z, e] at n
    cases n
  have Un1 : Un X.fs [] H (upd (upd H dx (exd dx [(f, y)])) a (exo a C (some dx))) hp h' := {
    keep := fun b o q n _ _ => k b o (na n) q
    slot := fun b o q n _ _ => ⟨o.slots, k b o (na n) q⟩
    free := fun b o q n _ => by rw [upd_ne (na n), upd_ne (nd q)]; exact n
    there := fun b o q _ => by
      by_cases hb : b = a
      · exact ⟨_, by rw [hb]; exact hx⟩
      · exact ⟨o, k b o hb q⟩
    tups := fun b xs q => by rw [upd_ne (at_ne e q exo_tup), upd_ne (ne_of_none q hnd)]; exact q
    frzs := fun b o v q => by rw [upd_ne (at_ne e q exo_frz), upd_ne (ne_of_none q hnd)]; exact q
    tbls := fun b ps q => ⟨#[], by rw [upd_ne (at_ne e q exo_tbl), upd_ne (ne_of_none q hnd), q]; simp⟩ }
  refine h dx _ hnd dne (I.un (t' := tk') Un1 fun b o q => ?_)
  by_cases hb : b = a
  · subst hb
    rw [upd_same] at q
    cases q
    exact exo_ok hx
  · rw [upd_ne hb] at q
    by_cases hd : b = dx
    · subst hd
      rw [upd_same] at q
      cases q
      exact exd_ok hn (relO_put (fs := []) ry fun g => True.intro)
    · rw [upd_ne hd] at q
      exact (I.hok b o q).stay (fun c v hc z => k c v (by
          rcases hc with hc | hc
          · rw [hc]
            exact hb
          · exact at_ne e hc exo_own) z)
        (fun c hc => by rw [upd_ne (at_ne e hc exo_own), upd_ne (ne_of_none hc hnd)]; exact hc) (fun c xs hc => by rw [upd_ne (at_ne e hc exo_tup), upd_ne (ne_of_none hc hnd)]; exact hc)
end
/-- self.f = e, the first field -/
def tOsG (K : PySem.W.Frag) (f : Str) (to te : TE) : TS := fun D σ H => te σ H fun y H1 => to σ H1 fun x H2 => ∃ a C : Addr, x = .ref a ∧ OexG K C ∧ PySem.W.findIn K (.ref C) f = some none ∧
  H2 a = some (exo a C none) ∧ ∀ dx, H2 dx = none → dx ≠ a → D.nx σ (upd (upd H2 dx (exd dx [(f, y)])) a (exo a C (some dx)))
section
variable {X : Cx} {o e : Expr} {es : List Expr} {to te : TE} {ta : TA} {f : Str} {p p' p1 p2 pos : Pos}
theorem ps_ostG (ho : PE X o to) (he : PE X e te) (hs : swapsWith e (some (.Attribute o f p')) pos.line X.env = pure false := by rfl) : PS X (.Assign [.Attribute o f p'] e pos) (tOsG X.K f to te) := by
  refine ⟨fun pins s σ H D I h => ?_⟩
  refine plainObj_wpAny_Assign_Attribute (thn (he.run pins s σ H _ I h) fun v s1 ⟨y, H1, I1, r1, q1⟩ => thn (ho.run pins s1 σ H1 _ I1 q1) fun u s2 ⟨x, H2, I2, r2, a, C, ex, T, hno, ea, q⟩ => ?_) hs
  subst ex
  obtain rfl : u = Value.ref a := r2
  exact ostG T I2 ea hno r1 fun dx s' n ne J => ⟨σ, _, J, q dx n ne⟩
theorem pmk_oexG {CX : CXT} {x : Str} {C fI : Addr} {k : Nat} {fd : FuncData} {ps : List Str} {sp : Sp} {ds : List Value} {dvs : List V} (T : OexG X.K C) (iC : PySem.W.findIn X.K (.ref C) "__init__" = some (some (.ref fI))) (tI : PySem.W.typeIn X.K (.ref fI) = some (.type "function"))
    (F1 : FnOk X.prog X.w X.K X.mg X.base CX k fI fd ps sp) (hr : Room (k + 1) X.A) (hb : Binds X.K fd ps ds) (hd : Vals dvs ds) (hx : Passes CX X (fun _ _ _ => False)) (hg : Gl X x) (hm : X.mg x = some (.ref C)) (ha : PA X (e :: es) ta)
    (hdb : (x == ("__debug__" : Str)) = false := by decide) (he : starEach (e :: es) X.env = (false, eval e X.env) :: starEach es X.env := by rfl) (hpl : (backTo pos (starEach es X.env)).any (·.1) = false := by rfl) :
    PMk X (.Call (.Name x p) (e :: es) [] pos) (tMkO C sp dvs ta) := by
  intro pins s σ H Q I h
  obtain ⟨Bn, newId, initId, bmB, nm, q, N, bs, bm, sn, sub, ab, col, dd, k0, k1, k2, k3, k5, FB, hC, hbm, hpass, hob⟩ := T.cls
  refine wpAny_Call_Name_kw (ld_glob I hg hm ?_ hdb)
  refine PySem.W.callWith_K (h₀ := X.base) I.ok.mod.kin T.kC (thn (ha.run pos pins s σ H _ I h) fun us s1 ⟨vs, H1, I1, r1, hz, q1⟩ => ⟨I1.kIn, ?_⟩) he hpl
  show wpAny _ _ (call (.ref C) us) _ _ _
  obtain ⟨hp, g, dr, tk, os⟩ := s1
  have hsz : hp.objs.size ≤ hp.objs.size + 1 := Nat.le_succ _
  have hn : H1 (hp.objs.size + 1) = none := I1.hok.fresh hsz
  have hq := q1 (hp.objs.size + 1) hn
  have kk : ∀ b o, hp.get? b = some o → ((hp.push (PySem.W.kdv_tup us)).push (PySem.HandSPX.excO C hp.objs.size)).get? b = some o := fun b o e => Heap.get?_push_of_some _ (Heap.get?_push_of_some _ e)
  have hget : ((hp.push (PySem.W.kdv_tup us)).push (PySem.HandSPX.excO C hp.objs.size)).get? (hp.objs.size + 1) = some (PySem.HandSPX.excO C hp.objs.size) := by heap_get
  have I2 : Inv X pins σ (upd H1 (hp.objs.size + 1) (exo (hp.objs.size + 1) C none)) ⟨(hp.push (PySem.W.kdv_tup us)).push (PySem.HandSPX.excO C hp.objs.size), g, dr, tk, os⟩ :=
    I1.laid (t' := tk) (a := hp.objs.size + 1) (o := exo (hp.objs.size + 1) C none) (h' := (hp.push (PySem.W.kdv_tup us)).push (PySem.HandSPX.excO C hp.objs.size)) kk hsz (exo_ok hget)
  have r2 : Vals (V.ref (hp.objs.size + 1) :: (vs ++ dvs)) (Value.ref (hp.objs.size + 1) :: (us ++ ds)) := .cons rfl (r1.append hd)
  have hl : (Value.ref (hp.objs.size + 1) :: us ++ ds).length = ps.length := by
    have e := r2.length
    rw [F1.len _ _ _ _ hq] at e
    exact e.symm
  have hus : us.length ≤ sizeLine := by
    rw [← Paired.length r1, sizeLine_eq]
    omega
  refine wpAny_call (PySem.HandSPX.call_own FB (fun Y => PySem.W.excTail_contains Y bm hbm) (I1.kIn _ _ hC) (PySem.W.looks_findIn I1.kIn iC) (fun self => PySem.W.bind_fn I1.kIn self tI) hus
    (codeAny_mono (F1.run _ X.stack _ _ ⟨Value.ref (hp.objs.size + 1) :: us, []⟩ (Value.ref (hp.objs.size + 1) :: (us ++ ds)) _ _ (fun _ _ _ => False) (hr.make C us []) (I2.env0.make C us []) (hb _ (Value.ref (hp.objs.size + 1) :: us) I2.kIn hl) r2 hq) fun r s' hq' => ?_))
  cases r with
  | error er => exact hx pins σ _ _ er s' I2 hq'
  | ok fl =>
    cases fl with
    | ret u =>
      obtain ⟨v, H2, os2, bare2, un2, hok2, rv, ev, d, fs, ea, ed, hd1, q2⟩ := hq'
      subst ev
      obtain ⟨h2, g2, d2, t2, os'⟩ := s'
      exact ⟨rv, mk_end (raises_own T.exC T.tyC) I1 hsz kk un2 hok2 os2 bare2 ea ed hd1 q2⟩
    | next => exact False.elim hq'
    | brk => exact False.elim hq'
    | cont => exact False.elim hq'
end
end XT
/-! own errors as values -/
namespace XT
open PySem PySem.Spec PyProof.Rows L2
section
variable {X : Cx} {pins : List (Addr × Obj)} {σ : L2.St} {H : Hp} {s : Shared}
theorem inv_new {e : Addr} {o : HO} {h' : Heap} (I : Inv X pins σ H s) (k : ∀ b u, s.heap.get? b = some u → h'.get? b = some u) (n : s.heap.get? e = none) (ok : ObjOk X.prog X.w (upd H e o) h' e o) : Inv X pins σ (upd H e o) { s with heap := h' } := by
  have hn : H e = none := I.hok.gone n
  have ne : ∀ {b : Addr} {u : Obj}, s.heap.get? b = some u → b ≠ e := fun {b u} q z => by
    rw [z, n] at q
    cases q
  have U : Un X.fs [] H (upd H e o) s.heap h' := {
    keep := fun b u q _ _ _ => k b u q
    slot := fun b u q _ _ _ => ⟨u.slots, k b u q⟩
    free := fun b u q z _ => by rw [upd_ne (ne q)]; exact z
    there := fun b u q _ => ⟨u, k b u q⟩
    tups := fun b xs q => by rw [upd_ne (ne_of_none q hn)]; exact q
    frzs := fun b u v q => by rw [upd_ne (ne_of_none q hn)]; exact q
    tbls := fun b ps q => ⟨#[], by rw [upd_ne (ne_of_none q hn), q]; simp⟩ }
  obtain ⟨hp, g, d, t, os⟩ := s
  refine I.un (t' := t) U fun b u q => ?_
  by_cases hb : b = e
  · subst hb
    rw [upd_same] at q
    cases q
    exact ok
  · rw [upd_ne hb] at q
    exact (I.hok b u q).stay (fun c v _ z => k c v z) (fun c hc => by rw [upd_ne (ne_of_none hc hn)]; exact hc) (fun c xs hc => by rw [upd_ne (ne_of_none hc hn)]; exact hc)
end
/-- an error at r, of the class at C -/
def ErrAt (H : Hp) (r C : Addr) : Prop := ∃ dopt, H r = some (exo r C dopt) ∧ (dopt = none ∨ ∃ d fs, dopt = some d ∧ H d = some (exd d fs))
theorem ErrAt.same {H H' : Hp} {r C : Addr} (h : ErrAt H r C) (e : Same H H') : ErrAt H' r C := by
  obtain ⟨o, h1, h2⟩ := h
  refine ⟨o, e _ _ h1, ?_⟩
  rcases h2 with h2 | ⟨d, fs, h2, h3⟩
  · exact .inl h2
  · exact .inr ⟨d, fs, h2, e _ _ h3⟩
/-- what a class must say for isinstance and for a field -/
structure VC (K : PySem.W.Frag) (D : Addr) : Prop where
  ga : PySem.W.findIn K (.ref D) "__getattribute__" = some (some (.builtin "BaseException.__getattribute__"))
  gg : PySem.W.findIn K (.ref D) "__getattr__" = some none
  sb : PySem.W.subIn K (.ref D) (.type "BaseException") = some true
  hd : PySem.W.hasDictIn K D = true
  ha : PySem.W.findIn K (.ref D) "__class__" = some (some (.builtin "object.__class__"))
  hn : PySem.W.specialIn K (.builtin "object.__class__") "__get__" = some (some (.builtin "getset_descriptor.__get__"))
  ht : PySem.W.takesIn K (.builtin "object.__class__") = some true
  hm : PySem.W.mroIn K D (.type "object") = some true
theorem VC.cl {K : PySem.W.Frag} {D : Addr} (C : VC K D) : (PySem.W.clsIn K D).isSome = true := by
  obtain ⟨cd, hc, _⟩ := PySem.W.any_some C.hd
  rw [hc]
  rfl
section
variable {X : Cx}
/-- C() -/
theorem pe_excN {C : Addr} {x : Str} {bmB : List Value} {B newId initId : String} {p pos : Pos} (F : ExcBaseFacts B newId initId bmB) (q : PySem.W.excIn X.K C bmB newId = true) (gC : X.mg x = some (.ref C)) (kC : PySem.W.keepIn X.K (.ref C) = true) (hg : Gl X x)
    (hdb : (x == ("__debug__" : Str)) = false := by decide) : PE X (.Call (.Name x p) [] [] pos) (fun _ H Q => ∀ a, H a = none → Q (.ref a) (upd H a (exo a C none))) := by
  refine ⟨fun pins s σ H Q I h => ?_⟩
  refine wpAny_Call_Name_kw (ld_glob I hg gC ?_ hdb)
  refine PySem.W.callWith_K0 I.kIn kC ?_
  obtain ⟨bm, N, nm, qn, bs, hdct, sn, sub, ab, col, dd, k0, k1, k2, k3, k5, mN, hC, hN, hni, T⟩ := exc_obj I.kIn q
  obtain ⟨hp, g, dr, tk, os⟩ := s
  refine wpAny_call_exc_subT F T hC hN hni (fun h' e hm => ?_) (by show 0 ≤ sizeLine; omega)
  obtain ⟨t, he, _, _⟩ := hm.there
  exact ⟨.ref e, _, inv_new (o := exo e C none) I hm.keeps hm.new (exo_ok he), rfl, h e (I.hok.gone hm.new)⟩
/-- C(e, ..), its __init__ by its promise -/
def tMkV (C : Addr) (sp : Sp) (ta : TA) : TE := fun σ H Q => ta σ H fun vs H1 => vs.length ≤ 1000 ∧ ∀ a, H1 a = none → sp (.ref a :: vs) (upd H1 a (exo a C none)) (fun v H2 => v = .non ∧ Q (.ref a) H2) E0
theorem pe_excV {x : Str} {C fI : Addr} {k : Nat} {fd : FuncData} {ps : List Str} {sp : Sp} {e : Expr} {es : List Expr} {ta : TA} {p pos : Pos} (T : OexG X.K C) (iC : PySem.W.findIn X.K (.ref C) "__init__" = some (some (.ref fI))) (tI : PySem.W.typeIn X.K (.ref fI) = some (.type "function"))
    (F1 : FnOk X.prog X.w X.K X.mg X.base CX0 k fI fd ps sp) (hr : Room (k + 1) X.A) (hb : Binds X.K fd ps []) (hg : Gl X x) (hm : X.mg x = some (.ref C)) (ha : PA X (e :: es) ta)
    (hdb : (x == ("__debug__" : Str)) = false := by decide) (he : starEach (e :: es) X.env = (false, eval e X.env) :: starEach es X.env := by rfl) (hpl : (backTo pos (starEach es X.env)).any (·.1) = false := by rfl) :
    PE X (.Call (.Name x p) (e :: es) [] pos) (tMkV C sp ta) := by
  refine ⟨fun pins s σ H Q I h => ?_⟩
  obtain ⟨Bn, newId, initId, bmB, nm, q, N, bs, bm, sn, sub, ab, col, dd, k0, k1, k2, k3, k5, FB, hC, hbm, hpass, hob⟩ := T.cls
  refine wpAny_Call_Name_kw (ld_glob I hg hm ?_ hdb)
  refine PySem.W.callWith_K (h₀ := X.base) I.ok.mod.kin T.kC (thn (ha.run pos pins s σ H _ I h) fun us s1 ⟨vs, H1, I1, r1, hz, q1⟩ => ⟨I1.kIn, ?_⟩) he hpl
  show wpAny _ _ (call (.ref C) us) _ _ _
  obtain ⟨hp, g, dr, tk, os⟩ := s1
  have hsz : hp.objs.size ≤ hp.objs.size + 1 := Nat.le_succ _
  have hn : H1 (hp.objs.size + 1) = none := I1.hok.fresh hsz
  have hq := q1 (hp.objs.size + 1) hn
  have kk : ∀ b o, hp.get? b = some o → ((hp.push (PySem.W.kdv_tup us)).push (PySem.HandSPX.excO C hp.objs.size)).get? b = some o := fun b o e => Heap.get?_push_of_some _ (Heap.get?_push_of_some _ e)
  have hget : ((hp.push (PySem.W.kdv_tup us)).push (PySem.HandSPX.excO C hp.objs.size)).get? (hp.objs.size + 1) = some (PySem.HandSPX.excO C hp.objs.size) := by heap_get
  have I2 : Inv X pins σ (upd H1 (hp.objs.size + 1) (exo (hp.objs.size + 1) C none)) ⟨(hp.push (PySem.W.kdv_tup us)).push (PySem.HandSPX.excO C hp.objs.size), g, dr, tk, os⟩ :=
    I1.laid (t' := tk) (a := hp.objs.size + 1) (o := exo (hp.objs.size + 1) C none) (h' := (hp.push (PySem.W.kdv_tup us)).push (PySem.HandSPX.excO C hp.objs.size)) kk hsz (exo_ok hget)
  have r2 : Vals (V.ref (hp.objs.size + 1) :: vs) (Value.ref (hp.objs.size + 1) :: us) := .cons rfl r1
  have hl : (Value.ref (hp.objs.size + 1) :: us).length = ps.length := by
    have e := r2.length
    rw [F1.len _ _ _ _ hq] at e
    exact e.symm
  have hus : us.length ≤ sizeLine := by
    rw [← Paired.length r1, sizeLine_eq]
    omega
  have b0 := hb _ (Value.ref (hp.objs.size + 1) :: us) I2.kIn (by rw [List.append_nil]; exact hl)
  rw [List.append_nil] at b0
  refine wpAny_call (PySem.HandSPX.call_own FB (fun Y => PySem.W.excTail_contains Y bm hbm) (I1.kIn _ _ hC) (PySem.W.looks_findIn I1.kIn iC) (fun self => PySem.W.bind_fn I1.kIn self tI) hus
    (codeAny_mono (F1.run _ X.stack _ _ ⟨Value.ref (hp.objs.size + 1) :: us, []⟩ (Value.ref (hp.objs.size + 1) :: us) _ _ E0 (hr.make C us []) (I2.env0.make C us []) b0 r2 hq) fun r s' hq' => ?_))
  cases r with
  | error er => exact hq'.elim
  | ok fl =>
    cases fl with
    | ret u =>
      obtain ⟨v, H2, os2, bare2, un2, hok2, rv, ev, q2⟩ := hq'
      subst ev
      refine ⟨rv, ?_⟩
      have A := I2.after (Q := fun v H2 => v = .non ∧ Q (.ref (hp.objs.size + 1)) H2) (u := u) (s' := s') ⟨.non, H2, os2, bare2, un2, hok2, rv, rfl, q2⟩
      obtain ⟨v3, H3, I3, rv3, e3, q3⟩ := A
      exact ⟨.ref (hp.objs.size + 1), H3, I3, rfl, q3⟩
    | next => exact False.elim hq'
    | brk => exact False.elim hq'
    | cont => exact False.elim hq'
/-- isinstance(e, c), e such an error -/
def rIsV (K : PySem.W.Frag) : List V → Hp → VK → Prop := fun xs H Q => ∃ (a D : Addr) (c : V) (cv : Value) (b : Bool), xs = [.ref a, c] ∧ ErrAt H a D ∧ VC K D ∧ ClsV c cv ∧ PySem.W.kitOne K (.ref D) cv = some b ∧ Q (.bl b) H
theorem call_isV : CallR X (.builtin "isinstance") (rIsV X.K) := by
  intro pins s σ H xs us Q I r h
  obtain ⟨a, D, c, cv, b, rfl, ⟨dopt, ea, hd⟩, C, kc, e, q⟩ := h
  obtain ⟨u1, u2, rfl, r1, r2⟩ := vals2 r
  cases (show u1 = Value.ref a from r1)
  have e2 := kc.eq r2
  subst e2
  obtain ⟨t1, ho⟩ := exo_at I.hok ea
  rcases hd with rfl | ⟨d, fs, rfl, ed⟩
  · exact PySem.W.kia_one (PySem.W.handS_kitx_exc C.ga C.gg C.sb C.hd C.ha C.hn C.ht C.hm) I.kIn (⟨ho, rfl, rfl, trivial⟩ : PySem.W.InstAt s.heap a _ D none) e (fun z => nomatch z) fun tk => ⟨.bl b, H, I.tok tk, rfl, q⟩
  · obtain ⟨mA, hns, rel⟩ := exd_at I.hok ed
    obtain ⟨oD, _, _, hoD, _, _⟩ := hns.count (within_of rel)
    exact PySem.W.kia_one (PySem.W.kitx_exc C.cl C.ga C.gg C.sb C.ha C.hn C.ht C.hm) I.kIn (⟨ho, rfl, rfl, hoD⟩ : PySem.W.InstAt s.heap a _ D (some oD)) e (fun z => nomatch z) fun tk => ⟨.bl b, H, I.tok tk, rfl, q⟩
/-- e.f, e such an error -/
def tFld (K : PySem.W.Frag) (n : Str) (te : TE) : TE := fun σ H Q => te σ H fun x H1 => ∃ (a D d : Addr) (fs : List (Str × V)) (v : V), x = .ref a ∧ H1 a = some (exo a D (some d)) ∧ H1 d = some (exd d fs) ∧ VC K D ∧ PySem.W.findIn K (.ref D) n = some none ∧ fs.lookup n = some v ∧ Q v H1
theorem pe_fld {e : Expr} {te : TE} {pos : Pos} {n : Str} (he : PE X e te) (hb : attributeBase e n X.env (eval e X.env) = eval e X.env := by rfl) : PE X (.Attribute e n pos) (tFld X.K n te) := by
  refine ⟨fun pins s σ H Q I h => ?_⟩
  refine attr_of hb (thn (he.run pins s σ H _ I h) fun u s1 hh => ?_)
  obtain ⟨x, H1, I1, rx, a, D, d, fs, v, rfl, ea, ed, C, hno, l, q⟩ := hh
  obtain rfl : u = Value.ref a := rx
  obtain ⟨t1, ho⟩ := exo_at I1.hok ea
  obtain ⟨mA, hns, hr⟩ := exd_at I1.hok ed
  obtain ⟨od, hod, hl⟩ := lookIn_ns hns
  obtain ⟨u, hu, ru⟩ := RelO.some_of (v := v) (o := mA n) (by rw [← l]; exact hr n)
  have J : PySem.W.InstAt s1.heap a _ D (some od) := ⟨ho, rfl, rfl, hod⟩
  exact HandSPX.exc_get I1.kIn J C.ga C.gg C.sb (PySem.W.findObj_own C.hd hno rfl (by rw [hl, hu])) (handed_of ru) ⟨v, H1, I1.tok _, ru, q⟩
/-- list + list, list * int: not at the place of sys.modules -/
def rCatB : R2 := fun x y H Q => ∃ l b xs zs, x = .ref l ∧ y = .ref b ∧ H l = some (.lst xs) ∧ H b = some (.lst zs) ∧ xs.length + zs.length ≤ sizeLine ∧ ∀ p, H p = none → p ≠ sysModules → Q (.ref p) (upd H p (.lst (xs ++ zs)))
theorem op_catB : OpR X (binaryOp .Add) rCatB := by
  intro pins s σ H x y v u Q I rx ry h
  obtain ⟨l, b, xs, zs, rfl, rfl, hH, hB, hz, q⟩ := h
  cases rx
  cases ry
  obtain ⟨z, its, n, r, hl, e⟩ := I.lstM hH
  obtain ⟨z2, its2, n2, r2, hl2, e2⟩ := I.lstM hB
  refine PySem.P.add_list e e2 ?_ (by rw [List.size_toArray, List.size_toArray]; omega)
  have ea : its.toArray ++ its2.toArray = (its ++ its2).toArray := by simp
  rw [ea]
  exact ⟨.ref _, _, I.lnew (t' := s.toks) (r.append r2) (by rw [List.length_append]; omega), rfl, q _ I.fresh (Ne.symm (Nat.ne_of_lt I.big))⟩
end
end XT
/-! the 21 classes -/
namespace XT
open PySem PySem.Spec PyProof.Rows L2
def spInitG (C : Addr) (f : Str) : Sp := fun vs H Q _ => ∃ (a : Addr) (y : V), vs = [.ref a, y] ∧ H a = some (exo a C none) ∧ ∀ dx, H dx = none → dx ≠ a → Q .non (upd (upd H dx (exd dx [(f, y)])) a (exo a C (some dx)))
def spInit2 (C : Addr) : Sp := fun vs H Q _ => ∃ (a : Addr) (y z : V), vs = [.ref a, y, z] ∧ H a = some (exo a C none) ∧ ∀ dx, H dx = none → dx ≠ a → Q .non (upd (upd (upd H dx (exd dx [("one", y)])) a (exo a C (some dx))) dx (exd dx [("other", z), ("one", y)]))
section
variable {P : Program} {w : World} {K : PySem.W.Frag} {mg : Str → Option Value} {base : Heap}
theorem sc_1 : FnScope ["self", "index"] ["self", "index"] (defScope sI1) := ⟨rfl, rfl, rfl, by decide +kernel, rfl, by decide +kernel, by decide +kernel⟩
theorem ok_i1 {q : Str} {f C : Addr} {fd : FuncData} {k : Nat} (T : OexG K C) (no : PySem.W.findIn K (.ref C) "index" = some none) (F : Fun K "__init__" q sI1 f fd) : FnOk P w K mg base CX0 (k + 1) f fd ["self", "index"] (spInitG C "index") := by
  refine F.ok sc_1 (fun vs H Q E h => ?_) (fun cdv A outer s H vs Q E hr h => ?_)
  · obtain ⟨a, y, rfl, _⟩ := h
    rfl
  · obtain ⟨a, y, rfl, ha, q⟩ := h
    exact ⟨_, pss_one (ps_ostG (pv 0) (pv 1)), y, rfl, .ref a, rfl, a, C, rfl, T, no, ha, q⟩
theorem sc_2 : FnScope ["self", "name"] ["self", "name"] (defScope sI2) := ⟨rfl, rfl, rfl, by decide +kernel, rfl, by decide +kernel, by decide +kernel⟩
theorem ok_i2 {q : Str} {f C : Addr} {fd : FuncData} {k : Nat} (T : OexG K C) (no : PySem.W.findIn K (.ref C) "name" = some none) (F : Fun K "__init__" q sI2 f fd) : FnOk P w K mg base CX0 (k + 1) f fd ["self", "name"] (spInitG C "name") := by
  refine F.ok sc_2 (fun vs H Q E h => ?_) (fun cdv A outer s H vs Q E hr h => ?_)
  · obtain ⟨a, y, rfl, _⟩ := h
    rfl
  · obtain ⟨a, y, rfl, ha, q⟩ := h
    exact ⟨_, pss_one (ps_ostG (pv 0) (pv 1)), y, rfl, .ref a, rfl, a, C, rfl, T, no, ha, q⟩
theorem sc_3 : FnScope ["self", "value"] ["self", "value"] (defScope sI3) := ⟨rfl, rfl, rfl, by decide +kernel, rfl, by decide +kernel, by decide +kernel⟩
theorem ok_i3 {q : Str} {f C : Addr} {fd : FuncData} {k : Nat} (T : OexG K C) (no : PySem.W.findIn K (.ref C) "value" = some none) (F : Fun K "__init__" q sI3 f fd) : FnOk P w K mg base CX0 (k + 1) f fd ["self", "value"] (spInitG C "value") := by
  refine F.ok sc_3 (fun vs H Q E h => ?_) (fun cdv A outer s H vs Q E hr h => ?_)
  · obtain ⟨a, y, rfl, _⟩ := h
    rfl
  · obtain ⟨a, y, rfl, ha, q⟩ := h
    exact ⟨_, pss_one (ps_ostG (pv 0) (pv 1)), y, rfl, .ref a, rfl, a, C, rfl, T, no, ha, q⟩
theorem sc_5 : FnScope ["self", "limit"] ["self", "limit"] (defScope sI5) := ⟨rfl, rfl, rfl, by decide +kernel, rfl, by decide +kernel, by decide +kernel⟩
theorem ok_i5 {q : Str} {f C : Addr} {fd : FuncData} {k : Nat} (T : OexG K C) (no : PySem.W.findIn K (.ref C) "limit" = some none) (F : Fun K "__init__" q sI5 f fd) : FnOk P w K mg base CX0 (k + 1) f fd ["self", "limit"] (spInitG C "limit") := by
  refine F.ok sc_5 (fun vs H Q E h => ?_) (fun cdv A outer s H vs Q E hr h => ?_)
  · obtain ⟨a, y, rfl, _⟩ := h
    rfl
  · obtain ⟨a, y, rfl, ha, q⟩ := h
    exact ⟨_, pss_one (ps_ostG (pv 0) (pv 1)), y, rfl, .ref a, rfl, a, C, rfl, T, no, ha, q⟩
theorem sc_6 : FnScope ["self", "error"] ["self", "error"] (defScope sI6) := ⟨rfl, rfl, rfl, by decide +kernel, rfl, by decide +kernel, by decide +kernel⟩
theorem ok_i6 {q : Str} {f C : Addr} {fd : FuncData} {k : Nat} (T : OexG K C) (no : PySem.W.findIn K (.ref C) "error" = some none) (F : Fun K "__init__" q sI6 f fd) : FnOk P w K mg base CX0 (k + 1) f fd ["self", "error"] (spInitG C "error") := by
  refine F.ok sc_6 (fun vs H Q E h => ?_) (fun cdv A outer s H vs Q E hr h => ?_)
  · obtain ⟨a, y, rfl, _⟩ := h
    rfl
  · obtain ⟨a, y, rfl, ha, q⟩ := h
    exact ⟨_, pss_one (ps_ostG (pv 0) (pv 1)), y, rfl, .ref a, rfl, a, C, rfl, T, no, ha, q⟩
theorem sc_7 : FnScope ["self", "error"] ["self", "error"] (defScope sI7) := ⟨rfl, rfl, rfl, by decide +kernel, rfl, by decide +kernel, by decide +kernel⟩
theorem ok_i7 {q : Str} {f C : Addr} {fd : FuncData} {k : Nat} (T : OexG K C) (no : PySem.W.findIn K (.ref C) "error" = some none) (F : Fun K "__init__" q sI7 f fd) : FnOk P w K mg base CX0 (k + 1) f fd ["self", "error"] (spInitG C "error") := by
  refine F.ok sc_7 (fun vs H Q E h => ?_) (fun cdv A outer s H vs Q E hr h => ?_)
  · obtain ⟨a, y, rfl, _⟩ := h
    rfl
  · obtain ⟨a, y, rfl, ha, q⟩ := h
    exact ⟨_, pss_one (ps_ostG (pv 0) (pv 1)), y, rfl, .ref a, rfl, a, C, rfl, T, no, ha, q⟩
theorem sc_8 : FnScope ["self", "mask"] ["self", "mask"] (defScope sI8) := ⟨rfl, rfl, rfl, by decide +kernel, rfl, by decide +kernel, by decide +kernel⟩
theorem ok_i8 {q : Str} {f C : Addr} {fd : FuncData} {k : Nat} (T : OexG K C) (no : PySem.W.findIn K (.ref C) "mask" = some none) (F : Fun K "__init__" q sI8 f fd) : FnOk P w K mg base CX0 (k + 1) f fd ["self", "mask"] (spInitG C "mask") := by
  refine F.ok sc_8 (fun vs H Q E h => ?_) (fun cdv A outer s H vs Q E hr h => ?_)
  · obtain ⟨a, y, rfl, _⟩ := h
    rfl
  · obtain ⟨a, y, rfl, ha, q⟩ := h
    exact ⟨_, pss_one (ps_ostG (pv 0) (pv 1)), y, rfl, .ref a, rfl, a, C, rfl, T, no, ha, q⟩
theorem sc_9 : FnScope ["self", "mask"] ["self", "mask"] (defScope sI9) := ⟨rfl, rfl, rfl, by decide +kernel, rfl, by decide +kernel, by decide +kernel⟩
theorem ok_i9 {q : Str} {f C : Addr} {fd : FuncData} {k : Nat} (T : OexG K C) (no : PySem.W.findIn K (.ref C) "mask" = some none) (F : Fun K "__init__" q sI9 f fd) : FnOk P w K mg base CX0 (k + 1) f fd ["self", "mask"] (spInitG C "mask") := by
  refine F.ok sc_9 (fun vs H Q E h => ?_) (fun cdv A outer s H vs Q E hr h => ?_)
  · obtain ⟨a, y, rfl, _⟩ := h
    rfl
  · obtain ⟨a, y, rfl, ha, q⟩ := h
    exact ⟨_, pss_one (ps_ostG (pv 0) (pv 1)), y, rfl, .ref a, rfl, a, C, rfl, T, no, ha, q⟩
theorem sc_14 : FnScope ["self", "index"] ["self", "index"] (defScope sI14) := ⟨rfl, rfl, rfl, by decide +kernel, rfl, by decide +kernel, by decide +kernel⟩
theorem ok_i14 {q : Str} {f C : Addr} {fd : FuncData} {k : Nat} (T : OexG K C) (no : PySem.W.findIn K (.ref C) "index" = some none) (F : Fun K "__init__" q sI14 f fd) : FnOk P w K mg base CX0 (k + 1) f fd ["self", "index"] (spInitG C "index") := by
  refine F.ok sc_14 (fun vs H Q E h => ?_) (fun cdv A outer s H vs Q E hr h => ?_)
  · obtain ⟨a, y, rfl, _⟩ := h
    rfl
  · obtain ⟨a, y, rfl, ha, q⟩ := h
    exact ⟨_, pss_one (ps_ostG (pv 0) (pv 1)), y, rfl, .ref a, rfl, a, C, rfl, T, no, ha, q⟩
theorem sc_15 : FnScope ["self", "index"] ["self", "index"] (defScope sI15) := ⟨rfl, rfl, rfl, by decide +kernel, rfl, by decide +kernel, by decide +kernel⟩
theorem ok_i15 {q : Str} {f C : Addr} {fd : FuncData} {k : Nat} (T : OexG K C) (no : PySem.W.findIn K (.ref C) "index" = some none) (F : Fun K "__init__" q sI15 f fd) : FnOk P w K mg base CX0 (k + 1) f fd ["self", "index"] (spInitG C "index") := by
  refine F.ok sc_15 (fun vs H Q E h => ?_) (fun cdv A outer s H vs Q E hr h => ?_)
  · obtain ⟨a, y, rfl, _⟩ := h
    rfl
  · obtain ⟨a, y, rfl, ha, q⟩ := h
    exact ⟨_, pss_one (ps_ostG (pv 0) (pv 1)), y, rfl, .ref a, rfl, a, C, rfl, T, no, ha, q⟩
theorem sc_17 : FnScope ["self", "index"] ["self", "index"] (defScope sI17) := ⟨rfl, rfl, rfl, by decide +kernel, rfl, by decide +kernel, by decide +kernel⟩
theorem ok_i17 {q : Str} {f C : Addr} {fd : FuncData} {k : Nat} (T : OexG K C) (no : PySem.W.findIn K (.ref C) "index" = some none) (F : Fun K "__init__" q sI17 f fd) : FnOk P w K mg base CX0 (k + 1) f fd ["self", "index"] (spInitG C "index") := by
  refine F.ok sc_17 (fun vs H Q E h => ?_) (fun cdv A outer s H vs Q E hr h => ?_)
  · obtain ⟨a, y, rfl, _⟩ := h
    rfl
  · obtain ⟨a, y, rfl, ha, q⟩ := h
    exact ⟨_, pss_one (ps_ostG (pv 0) (pv 1)), y, rfl, .ref a, rfl, a, C, rfl, T, no, ha, q⟩
theorem sc_18 : FnScope ["self", "value"] ["self", "value"] (defScope sI18) := ⟨rfl, rfl, rfl, by decide +kernel, rfl, by decide +kernel, by decide +kernel⟩
theorem ok_i18 {q : Str} {f C : Addr} {fd : FuncData} {k : Nat} (T : OexG K C) (no : PySem.W.findIn K (.ref C) "value" = some none) (F : Fun K "__init__" q sI18 f fd) : FnOk P w K mg base CX0 (k + 1) f fd ["self", "value"] (spInitG C "value") := by
  refine F.ok sc_18 (fun vs H Q E h => ?_) (fun cdv A outer s H vs Q E hr h => ?_)
  · obtain ⟨a, y, rfl, _⟩ := h
    rfl
  · obtain ⟨a, y, rfl, ha, q⟩ := h
    exact ⟨_, pss_one (ps_ostG (pv 0) (pv 1)), y, rfl, .ref a, rfl, a, C, rfl, T, no, ha, q⟩
theorem sc_19 : FnScope ["self", "value"] ["self", "value"] (defScope sI19) := ⟨rfl, rfl, rfl, by decide +kernel, rfl, by decide +kernel, by decide +kernel⟩
theorem ok_i19 {q : Str} {f C : Addr} {fd : FuncData} {k : Nat} (T : OexG K C) (no : PySem.W.findIn K (.ref C) "value" = some none) (F : Fun K "__init__" q sI19 f fd) : FnOk P w K mg base CX0 (k + 1) f fd ["self", "value"] (spInitG C "value") := by
  refine F.ok sc_19 (fun vs H Q E h => ?_) (fun cdv A outer s H vs Q E hr h => ?_)
  · obtain ⟨a, y, rfl, _⟩ := h
    rfl
  · obtain ⟨a, y, rfl, ha, q⟩ := h
    exact ⟨_, pss_one (ps_ostG (pv 0) (pv 1)), y, rfl, .ref a, rfl, a, C, rfl, T, no, ha, q⟩
theorem sc_20 : FnScope ["self", "value"] ["self", "value"] (defScope sI20) := ⟨rfl, rfl, rfl, by decide +kernel, rfl, by decide +kernel, by decide +kernel⟩
theorem ok_i20 {q : Str} {f C : Addr} {fd : FuncData} {k : Nat} (T : OexG K C) (no : PySem.W.findIn K (.ref C) "value" = some none) (F : Fun K "__init__" q sI20 f fd) : FnOk P w K mg base CX0 (k + 1) f fd ["self", "value"] (spInitG C "value") := by
  refine F.ok sc_20 (fun vs H Q E h => ?_) (fun cdv A outer s H vs Q E hr h => ?_)
  · obtain ⟨a, y, rfl, _⟩ := h
    rfl
  · obtain ⟨a, y, rfl, ha, q⟩ := h
    exact ⟨_, pss_one (ps_ostG (pv 0) (pv 1)), y, rfl, .ref a, rfl, a, C, rfl, T, no, ha, q⟩
theorem sc_10 : FnScope ["self", "one", "other"] ["self", "one", "other"] (defScope sI10) := ⟨rfl, rfl, rfl, by decide +kernel, rfl, by decide +kernel, by decide +kernel⟩
theorem ok_i10 {q : Str} {f C : Addr} {fd : FuncData} {k : Nat} (T : OexC K C) (no : PySem.W.findIn K (.ref C) "one" = some none) (no2 : PySem.W.findIn K (.ref C) "other" = some none) (F : Fun K "__init__" q sI10 f fd) : FnOk P w K mg base CX0 (k + 1) f fd ["self", "one", "other"] (spInit2 C) := by
  refine F.ok sc_10 (fun vs H Q E h => ?_) (fun cdv A outer s H vs Q E hr h => ?_)
  · obtain ⟨a, y, z, rfl, _⟩ := h
    rfl
  · obtain ⟨a, y, z, rfl, ha, q⟩ := h
    refine ⟨_, pss_cons (ps_ost (pv 0) (pv 1)) (pss_one (ps_ost (pv 0) (pv 2))), ?_⟩
    refine ⟨y, rfl, .ref a, rfl, a, C, rfl, T, no, .inl ⟨ha, fun dx nd ne => ?_⟩⟩
    refine ⟨z, rfl, .ref a, rfl, a, C, rfl, T, no2, .inr ⟨dx, [("one", y)], upd_same, ?_, by simp, q dx nd ne⟩⟩
    rw [upd_ne ne, upd_same]
/-- a class without fields, with one, with two -/
structure C0 (K : PySem.W.Frag) (mg : Str → Option Value) (x : Str) (C : Addr) : Prop where
  vc : VC K C
  ex : ∃ (bmB : List Value) (B newId initId : String), ExcBaseFacts B newId initId bmB ∧ PySem.W.excIn K C bmB newId = true
  kC : PySem.W.keepIn K (.ref C) = true
  hm : mg x = some (.ref C)
structure C1 (P : Program) (w : World) (K : PySem.W.Frag) (mg : Str → Option Value) (base : Heap) (x f : Str) (C : Addr) : Prop where
  vc : VC K C
  T : OexG K C
  no : PySem.W.findIn K (.ref C) f = some none
  ini : ∃ (fI : Addr) (fd : FuncData) (ps : List Str), PySem.W.findIn K (.ref C) "__init__" = some (some (.ref fI)) ∧ PySem.W.typeIn K (.ref fI) = some (.type "function") ∧ FnOk P w K mg base CX0 1 fI fd ps (spInitG C f) ∧ Binds K fd ps []
  hm : mg x = some (.ref C)
structure C2 (P : Program) (w : World) (K : PySem.W.Frag) (mg : Str → Option Value) (base : Heap) (x : Str) (C : Addr) : Prop where
  vc : VC K C
  T : OexG K C
  no : PySem.W.findIn K (.ref C) "one" = some none
  no2 : PySem.W.findIn K (.ref C) "other" = some none
  ini : ∃ (fI : Addr) (fd : FuncData) (ps : List Str), PySem.W.findIn K (.ref C) "__init__" = some (some (.ref fI)) ∧ PySem.W.typeIn K (.ref fI) = some (.type "function") ∧ FnOk P w K mg base CX0 1 fI fd ps (spInit2 C) ∧ Binds K fd ps []
  hm : mg x = some (.ref C)
end
theorem same_ex {H : Hp} {a dx C : Addr} {o' : HO} (n : H a = none) (m : H dx = none) : Same H (upd (upd (upd H a (exo a C none)) dx o') a (exo a C (some dx))) := fun b x e => by
  have h1 : b ≠ dx := ne_of_none e m
  have h2 : b ≠ a := ne_of_none e n
  rw [upd_ne h2, upd_ne h1, upd_ne h2]
  exact e
theorem same_ex2 {H : Hp} {a dx C : Addr} {o' o2 : HO} (n : H a = none) (m : H dx = none) : Same H (upd (upd (upd (upd H a (exo a C none)) dx o') a (exo a C (some dx))) dx o2) := fun b x e => by
  rw [upd_ne (ne_of_none e m)]
  exact same_ex n m b x e
section
variable {X : Cx} {C : Addr} {x f : Str} {e e2 : Expr} {ta : TA} {p pos : Pos}
theorem pe_c0 (D : C0 X.K X.mg x C) (hg : Gl X x) (hdb : (x == ("__debug__" : Str)) = false := by decide) : PE X (.Call (.Name x p) [] [] pos) (fun _ H Q => ∀ a, H a = none → Q (.ref a) (upd H a (exo a C none))) := by
  obtain ⟨bmB, B, newId, initId, F, q⟩ := D.ex
  exact pe_excN F q D.hm D.kC hg hdb
theorem pe_c1 (D : C1 X.prog X.w X.K X.mg X.base x f C) (hr : Room 2 X.A) (hg : Gl X x) (ha : PA X [e] ta)
    (hdb : (x == ("__debug__" : Str)) = false := by decide) (he : starEach [e] X.env = (false, eval e X.env) :: starEach [] X.env := by rfl) (hpl : (backTo pos (starEach [] X.env)).any (·.1) = false := by rfl) :
    PE X (.Call (.Name x p) [e] [] pos) (tMkV C (spInitG C f) ta) := by
  obtain ⟨fI, fd, ps, hi, ht, F, hb⟩ := D.ini
  exact pe_excV (k := 1) D.T hi ht F hr hb hg D.hm ha hdb he hpl
theorem pe_c2 (D : C2 X.prog X.w X.K X.mg X.base x C) (hr : Room 2 X.A) (hg : Gl X x) (ha : PA X [e, e2] ta)
    (hdb : (x == ("__debug__" : Str)) = false := by decide) (he : starEach [e, e2] X.env = (false, eval e X.env) :: starEach [e2] X.env := by rfl) (hpl : (backTo pos (starEach [e2] X.env)).any (·.1) = false := by rfl) :
    PE X (.Call (.Name x p) [e, e2] [] pos) (tMkV C (spInit2 C) ta) := by
  obtain ⟨fI, fd, ps, hi, ht, F, hb⟩ := D.ini
  exact pe_excV (k := 1) D.T hi ht F hr hb hg D.hm ha hdb he hpl
theorem mkv_in {H1 : Hp} {Q : VK} {y : V} (h : ∀ H' a d, Same H1 H' → H' a = some (exo a C (some d)) → H' d = some (exd d [(f, y)]) → Q (.ref a) H') :
    [y].length ≤ 1000 ∧ ∀ a, H1 a = none → spInitG C f (.ref a :: [y]) (upd H1 a (exo a C none)) (fun v H2 => v = .non ∧ Q (.ref a) H2) E0 := by
  refine ⟨by simp, fun a n => ⟨a, y, rfl, upd_same, fun dx nd ne => ⟨rfl, h _ a dx ?_ upd_same ?_⟩⟩⟩
  · rw [upd_ne ne] at nd
    exact same_ex n nd
  · rw [upd_ne ne, upd_same]
theorem mkv2_in {H1 : Hp} {Q : VK} {y z : V} (h : ∀ H' a d, Same H1 H' → H' a = some (exo a C (some d)) → H' d = some (exd d [("other", z), ("one", y)]) → Q (.ref a) H') :
    [y, z].length ≤ 1000 ∧ ∀ a, H1 a = none → spInit2 C (.ref a :: [y, z]) (upd H1 a (exo a C none)) (fun v H2 => v = .non ∧ Q (.ref a) H2) E0 := by
  refine ⟨by simp, fun a n => ⟨a, y, z, rfl, upd_same, fun dx nd ne => ⟨rfl, h _ a dx ?_ ?_ upd_same⟩⟩⟩
  · rw [upd_ne ne] at nd
    exact same_ex2 n nd
  · rw [upd_ne (Ne.symm ne), upd_same]
end
/-- all of them -/
structure Env01 (P : Program) (w : World) (K : PySem.W.Frag) (mg : Str → Option Value) (base : Heap) (cs : Nat → Addr) (cT : Addr) : Prop where
  e0 : C0 K mg "NoLots" (cs 0)
  e1 : C1 P w K mg base "OtherWidth" "index" (cs 1)
  e2 : C1 P w K mg base "NoProperty" "name" (cs 2)
  e3 : C1 P w K mg base "BadWish" "value" (cs 3)
  e4 : C0 K mg "EmptyLot" (cs 4)
  e5 : C1 P w K mg base "TooWide" "limit" (cs 5)
  e6 : C1 P w K mg base "BadLot" "error" (cs 6)
  e7 : C1 P w K mg base "BadWide" "error" (cs 7)
  e8 : C1 P w K mg base "Present" "mask" (cs 8)
  e9 : C1 P w K mg base "Missing" "mask" (cs 9)
  e10 : C2 P w K mg base "TooNear" (cs 10)
  e11 : C0 K mg "TooManyEdits" (cs 11)
  e12 : C0 K mg "NothingToUndo" (cs 12)
  e13 : C0 K mg "BadEdits" (cs 13)
  e14 : C1 P w K mg base "BadEdit" "index" (cs 14)
  e15 : C1 P w K mg base "Rejected" "index" (cs 15)
  e16 : C0 K mg "Busy" (cs 16)
  e17 : C1 P w K mg base "BadText" "index" (cs 17)
  e18 : C1 P w K mg base "NoMask" "value" (cs 18)
  e19 : C1 P w K mg base "NoIndex" "value" (cs 19)
  e20 : C1 P w K mg base "NoVersion" "value" (cs 20)
  vc : ∀ i, i < 21 → VC K (cs i)
  kit : ∀ i j, i < 21 → j < 21 → PySem.W.kitOne K (.ref (cs i)) (.ref (cs j)) = some (decide (j = i))
  hT : mg "TurnError" = some (.ref cT)
  kT : ∀ i, i < 21 → PySem.W.kitOne K (.ref (cs i)) (.ref cT) = some (decide (i < 18))
  kV : ∀ i, i < 21 → PySem.W.kitOne K (.ref (cs i)) (.type "ValueError") = some (decide (i < 18))
  kL : ∀ i, i < 21 → PySem.W.kitOne K (.ref (cs i)) (.type "LookupError") = some (decide (17 < i))
end XT
namespace XT
open PySem PySem.Spec PyProof.Rows L2
section
variable {P : Program} {w : World} {K : PySem.W.Frag} {mg : Str → Option Value} {base : Heap} {cs : Nat → Addr} {cT : Addr}
theorem nd_of {H : Hp} {a dx : Addr} {o : HO} (ne : dx ≠ a) (h : upd H a o dx = none) : H dx = none := by
  rw [upd_ne ne] at h
  exact h
theorem scMd : FnScope ["_law_value", "_law_found"] ["_law_value"] (defScope sMade) := ⟨rfl, rfl, rfl, by decide +kernel, rfl, by decide +kernel, by decide +kernel⟩
def spMade (cs : Nat → Addr) : Sp := fun vs H Q _ => ∃ v : V, vs = [v] ∧ ∀ (H' : Hp) (L : Addr) (rs : List Addr), Same H H' → H' L = some (.lst (rs.map V.ref)) → rs.length = 21 → (∀ (i : Nat) (r : Addr), rs[i]? = some r → ErrAt H' r (cs i)) → Q (.ref L) H'
theorem ok_made {f : Addr} {fd : FuncData} {k : Nat} (N : Env01 P w K mg base cs cT) (F : Fun K "_law_made" "_law_made" sMade f fd) : FnOk P w K mg base CX0 (k + 3) f fd ["_law_value"] (spMade cs) := by
  refine F.ok scMd (fun vs H Q E h => ?_) (fun cdv A outer s H vs Q E hr h => ?_)
  · obtain ⟨v, rfl, _⟩ := h
    rfl
  · obtain ⟨v, rfl, q⟩ := h
    have hr2 := hr.mono (show 2 ≤ k + 2 by omega)
    refine ⟨_, pss_cons (ps_set (i := 1) scMd.nd rfl (.inl rfl) (pe_lst (pa_cons (pe_c0 N.e0 (by rfl)) (pa_cons (pe_c1 N.e1 hr2 (by rfl) (pa_cons (pv 0) pa_nil)) (pa_cons (pe_c1 N.e2 hr2 (by rfl) (pa_cons (pv 0) pa_nil)) (pa_cons (pe_c1 N.e3 hr2 (by rfl) (pa_cons (pv 0) pa_nil)) (pa_cons (pe_c0 N.e4 (by rfl)) (pa_cons (pe_c1 N.e5 hr2 (by rfl) (pa_cons (pv 0) pa_nil)) (pa_cons (pe_c1 N.e6 hr2 (by rfl) (pa_cons (pv 0) pa_nil)) pa_nil)))))))))
      (pss_cons (ps_set (i := 1) scMd.nd rfl (.inl rfl) (pe_op op_cat (pv 1) (pe_lst (pa_cons (pe_c1 N.e7 hr2 (by rfl) (pa_cons (pv 0) pa_nil)) (pa_cons (pe_c1 N.e8 hr2 (by rfl) (pa_cons (pv 0) pa_nil)) (pa_cons (pe_c1 N.e9 hr2 (by rfl) (pa_cons (pv 0) pa_nil)) (pa_cons (pe_c2 N.e10 hr2 (by rfl) (pa_cons (pv 0) (pa_cons (pe_lst (pa_cons (pv 0) pa_nil)) pa_nil))) (pa_cons (pe_c0 N.e11 (by rfl)) pa_nil))))))))
      (pss_cons (ps_set (i := 1) scMd.nd rfl (.inl rfl) (pe_op op_cat (pv 1) (pe_lst (pa_cons (pe_c0 N.e12 (by rfl)) (pa_cons (pe_c0 N.e13 (by rfl)) (pa_cons (pe_c1 N.e14 hr2 (by rfl) (pa_cons (pv 0) pa_nil)) (pa_cons (pe_c1 N.e15 hr2 (by rfl) (pa_cons (pv 0) pa_nil)) (pa_cons (pe_c0 N.e16 (by rfl)) (pa_cons (pe_c1 N.e17 hr2 (by rfl) (pa_cons (pv 0) pa_nil)) pa_nil)))))))))
      (pss_one (ps_ret (pe_op op_cat (pv 1) (pe_lst (pa_cons (pe_c1 N.e18 hr2 (by rfl) (pa_cons (pv 0) pa_nil)) (pa_cons (pe_c1 N.e19 hr2 (by rfl) (pa_cons (pv 0) pa_nil)) (pa_cons (pe_c1 N.e20 hr2 (by rfl) (pa_cons (pv 0) pa_nil)) pa_nil))))))))), ?_⟩
    intro a0 n0
    have s0 := same_new (o := exo a0 (cs 0) none) n0
    refine ⟨v, rfl, (by simp), fun a1 n1 => ⟨a1, v, rfl, upd_same, fun d1 nd1 ne1 => ⟨rfl, ?_⟩⟩⟩
    have s1 := same_ex (C := cs 1) (o' := exd d1 [("index", v)]) n1 (nd_of ne1 nd1)
    refine ⟨v, rfl, (by simp), fun a2 n2 => ⟨a2, v, rfl, upd_same, fun d2 nd2 ne2 => ⟨rfl, ?_⟩⟩⟩
    have s2 := same_ex (C := cs 2) (o' := exd d2 [("name", v)]) n2 (nd_of ne2 nd2)
    refine ⟨v, rfl, (by simp), fun a3 n3 => ⟨a3, v, rfl, upd_same, fun d3 nd3 ne3 => ⟨rfl, ?_⟩⟩⟩
    have s3 := same_ex (C := cs 3) (o' := exd d3 [("value", v)]) n3 (nd_of ne3 nd3)
    intro a4 n4
    have s4 := same_new (o := exo a4 (cs 4) none) n4
    refine ⟨v, rfl, (by simp), fun a5 n5 => ⟨a5, v, rfl, upd_same, fun d5 nd5 ne5 => ⟨rfl, ?_⟩⟩⟩
    have s5 := same_ex (C := cs 5) (o' := exd d5 [("limit", v)]) n5 (nd_of ne5 nd5)
    refine ⟨v, rfl, (by simp), fun a6 n6 => ⟨a6, v, rfl, upd_same, fun d6 nd6 ne6 => ⟨rfl, ?_⟩⟩⟩
    have s6 := same_ex (C := cs 6) (o' := exd d6 [("error", v)]) n6 (nd_of ne6 nd6)
    refine ⟨sz (n := 7) (by decide), fun M0 nM0 => ?_⟩
    have sM0 := same_new (o := .lst [.ref a0, .ref a1, .ref a2, .ref a3, .ref a4, .ref a5, .ref a6]) nM0
    refine ⟨.ref M0, rfl, ?_⟩
    refine ⟨v, rfl, (by simp), fun a7 n7 => ⟨a7, v, rfl, upd_same, fun d7 nd7 ne7 => ⟨rfl, ?_⟩⟩⟩
    have s7 := same_ex (C := cs 7) (o' := exd d7 [("error", v)]) n7 (nd_of ne7 nd7)
    refine ⟨v, rfl, (by simp), fun a8 n8 => ⟨a8, v, rfl, upd_same, fun d8 nd8 ne8 => ⟨rfl, ?_⟩⟩⟩
    have s8 := same_ex (C := cs 8) (o' := exd d8 [("mask", v)]) n8 (nd_of ne8 nd8)
    refine ⟨v, rfl, (by simp), fun a9 n9 => ⟨a9, v, rfl, upd_same, fun d9 nd9 ne9 => ⟨rfl, ?_⟩⟩⟩
    have s9 := same_ex (C := cs 9) (o' := exd d9 [("mask", v)]) n9 (nd_of ne9 nd9)
    refine ⟨v, rfl, v, rfl, sz (n := 1) (by decide), fun V10 nV10 => ⟨by simp, fun a10 n10 => ⟨a10, v, .ref V10, rfl, upd_same, fun d10 nd10 ne10 => ⟨rfl, ?_⟩⟩⟩⟩
    have sV10 := same_new (o := .lst [v]) nV10
    have s10 := same_ex2 (C := cs 10) (o' := exd d10 [("one", v)]) (o2 := exd d10 [("other", .ref V10), ("one", v)]) n10 (nd_of ne10 nd10)
    intro a11 n11
    have s11 := same_new (o := exo a11 (cs 11) none) n11
    refine ⟨sz (n := 5) (by decide), fun M1 nM1 => ?_⟩
    have sM1 := same_new (o := .lst [.ref a7, .ref a8, .ref a9, .ref a10, .ref a11]) nM1
    refine ⟨M0, M1, _, _, rfl, rfl, ((((((s7.trans s8).trans s9).trans sV10).trans s10).trans s11).trans sM1) _ _ upd_same, upd_same, (by rw [sizeLine_eq]; show _ ≤ 16777216; simp only [List.length_append, List.length_cons, List.length_nil]; omega), fun L1 nL1 => ?_⟩
    have sL1 := same_new (o := .lst [.ref a0, .ref a1, .ref a2, .ref a3, .ref a4, .ref a5, .ref a6, .ref a7, .ref a8, .ref a9, .ref a10, .ref a11]) nL1
    refine ⟨.ref L1, rfl, ?_⟩
    intro a12 n12
    have s12 := same_new (o := exo a12 (cs 12) none) n12
    intro a13 n13
    have s13 := same_new (o := exo a13 (cs 13) none) n13
    refine ⟨v, rfl, (by simp), fun a14 n14 => ⟨a14, v, rfl, upd_same, fun d14 nd14 ne14 => ⟨rfl, ?_⟩⟩⟩
    have s14 := same_ex (C := cs 14) (o' := exd d14 [("index", v)]) n14 (nd_of ne14 nd14)
    refine ⟨v, rfl, (by simp), fun a15 n15 => ⟨a15, v, rfl, upd_same, fun d15 nd15 ne15 => ⟨rfl, ?_⟩⟩⟩
    have s15 := same_ex (C := cs 15) (o' := exd d15 [("index", v)]) n15 (nd_of ne15 nd15)
    intro a16 n16
    have s16 := same_new (o := exo a16 (cs 16) none) n16
    refine ⟨v, rfl, (by simp), fun a17 n17 => ⟨a17, v, rfl, upd_same, fun d17 nd17 ne17 => ⟨rfl, ?_⟩⟩⟩
    have s17 := same_ex (C := cs 17) (o' := exd d17 [("index", v)]) n17 (nd_of ne17 nd17)
    refine ⟨sz (n := 6) (by decide), fun M2 nM2 => ?_⟩
    have sM2 := same_new (o := .lst [.ref a12, .ref a13, .ref a14, .ref a15, .ref a16, .ref a17]) nM2
    refine ⟨L1, M2, _, _, rfl, rfl, ((((((s12.trans s13).trans s14).trans s15).trans s16).trans s17).trans sM2) _ _ upd_same, upd_same, (by rw [sizeLine_eq]; show _ ≤ 16777216; simp only [List.length_append, List.length_cons, List.length_nil]; omega), fun L2 nL2 => ?_⟩
    have sL2 := same_new (o := .lst [.ref a0, .ref a1, .ref a2, .ref a3, .ref a4, .ref a5, .ref a6, .ref a7, .ref a8, .ref a9, .ref a10, .ref a11, .ref a12, .ref a13, .ref a14, .ref a15, .ref a16, .ref a17]) nL2
    refine ⟨.ref L2, rfl, ?_⟩
    refine ⟨v, rfl, (by simp), fun a18 n18 => ⟨a18, v, rfl, upd_same, fun d18 nd18 ne18 => ⟨rfl, ?_⟩⟩⟩
    have s18 := same_ex (C := cs 18) (o' := exd d18 [("value", v)]) n18 (nd_of ne18 nd18)
    refine ⟨v, rfl, (by simp), fun a19 n19 => ⟨a19, v, rfl, upd_same, fun d19 nd19 ne19 => ⟨rfl, ?_⟩⟩⟩
    have s19 := same_ex (C := cs 19) (o' := exd d19 [("value", v)]) n19 (nd_of ne19 nd19)
    refine ⟨v, rfl, (by simp), fun a20 n20 => ⟨a20, v, rfl, upd_same, fun d20 nd20 ne20 => ⟨rfl, ?_⟩⟩⟩
    have s20 := same_ex (C := cs 20) (o' := exd d20 [("value", v)]) n20 (nd_of ne20 nd20)
    refine ⟨sz (n := 3) (by decide), fun M3 nM3 => ?_⟩
    have sM3 := same_new (o := .lst [.ref a18, .ref a19, .ref a20]) nM3
    refine ⟨L2, M3, _, _, rfl, rfl, (((s18.trans s19).trans s20).trans sM3) _ _ upd_same, upd_same, (by rw [sizeLine_eq]; show _ ≤ 16777216; simp only [List.length_append, List.length_cons, List.length_nil]; omega), fun L3 nL3 => ?_⟩
    have sL3 := same_new (o := .lst [.ref a0, .ref a1, .ref a2, .ref a3, .ref a4, .ref a5, .ref a6, .ref a7, .ref a8, .ref a9, .ref a10, .ref a11, .ref a12, .ref a13, .ref a14, .ref a15, .ref a16, .ref a17, .ref a18, .ref a19, .ref a20]) nL3
    have z27 := sM3.trans sL3
    have z26 := s20.trans z27
    have z25 := s19.trans z26
    have z24 := s18.trans z25
    have z23 := sL2.trans z24
    have z22 := sM2.trans z23
    have z21 := s17.trans z22
    have z20 := s16.trans z21
    have z19 := s15.trans z20
    have z18 := s14.trans z19
    have z17 := s13.trans z18
    have z16 := s12.trans z17
    have z15 := sL1.trans z16
    have z14 := sM1.trans z15
    have z13 := s11.trans z14
    have z12 := s10.trans z13
    have z11 := sV10.trans z12
    have z10 := s9.trans z11
    have z9 := s8.trans z10
    have z8 := s7.trans z9
    have z7 := sM0.trans z8
    have z6 := s6.trans z7
    have z5 := s5.trans z6
    have z4 := s4.trans z5
    have z3 := s3.trans z4
    have z2 := s2.trans z3
    have z1 := s1.trans z2
    have z0 := s0.trans z1
    refine q _ L3 [a0, a1, a2, a3, a4, a5, a6, a7, a8, a9, a10, a11, a12, a13, a14, a15, a16, a17, a18, a19, a20] z0 upd_same rfl fun i r hr => ?_
    match i, hr with
    | 0, hr => cases hr; exact (ErrAt.same ⟨_, upd_same, .inl rfl⟩ z1)
    | 1, hr => cases hr; exact (ErrAt.same ⟨_, upd_same, .inr ⟨_, _, rfl, (upd_ne ne1).trans upd_same⟩⟩ z2)
    | 2, hr => cases hr; exact (ErrAt.same ⟨_, upd_same, .inr ⟨_, _, rfl, (upd_ne ne2).trans upd_same⟩⟩ z3)
    | 3, hr => cases hr; exact (ErrAt.same ⟨_, upd_same, .inr ⟨_, _, rfl, (upd_ne ne3).trans upd_same⟩⟩ z4)
    | 4, hr => cases hr; exact (ErrAt.same ⟨_, upd_same, .inl rfl⟩ z5)
    | 5, hr => cases hr; exact (ErrAt.same ⟨_, upd_same, .inr ⟨_, _, rfl, (upd_ne ne5).trans upd_same⟩⟩ z6)
    | 6, hr => cases hr; exact (ErrAt.same ⟨_, upd_same, .inr ⟨_, _, rfl, (upd_ne ne6).trans upd_same⟩⟩ z7)
    | 7, hr => cases hr; exact (ErrAt.same ⟨_, upd_same, .inr ⟨_, _, rfl, (upd_ne ne7).trans upd_same⟩⟩ z9)
    | 8, hr => cases hr; exact (ErrAt.same ⟨_, upd_same, .inr ⟨_, _, rfl, (upd_ne ne8).trans upd_same⟩⟩ z10)
    | 9, hr => cases hr; exact (ErrAt.same ⟨_, upd_same, .inr ⟨_, _, rfl, (upd_ne ne9).trans upd_same⟩⟩ z11)
    | 10, hr => cases hr; exact (ErrAt.same ⟨_, (upd_ne (Ne.symm ne10)).trans upd_same, .inr ⟨_, _, rfl, upd_same⟩⟩ z13)
    | 11, hr => cases hr; exact (ErrAt.same ⟨_, upd_same, .inl rfl⟩ z14)
    | 12, hr => cases hr; exact (ErrAt.same ⟨_, upd_same, .inl rfl⟩ z17)
    | 13, hr => cases hr; exact (ErrAt.same ⟨_, upd_same, .inl rfl⟩ z18)
    | 14, hr => cases hr; exact (ErrAt.same ⟨_, upd_same, .inr ⟨_, _, rfl, (upd_ne ne14).trans upd_same⟩⟩ z19)
    | 15, hr => cases hr; exact (ErrAt.same ⟨_, upd_same, .inr ⟨_, _, rfl, (upd_ne ne15).trans upd_same⟩⟩ z20)
    | 16, hr => cases hr; exact (ErrAt.same ⟨_, upd_same, .inl rfl⟩ z21)
    | 17, hr => cases hr; exact (ErrAt.same ⟨_, upd_same, .inr ⟨_, _, rfl, (upd_ne ne17).trans upd_same⟩⟩ z22)
    | 18, hr => cases hr; exact (ErrAt.same ⟨_, upd_same, .inr ⟨_, _, rfl, (upd_ne ne18).trans upd_same⟩⟩ z25)
    | 19, hr => cases hr; exact (ErrAt.same ⟨_, upd_same, .inr ⟨_, _, rfl, (upd_ne ne19).trans upd_same⟩⟩ z26)
    | 20, hr => cases hr; exact (ErrAt.same ⟨_, upd_same, .inr ⟨_, _, rfl, (upd_ne ne20).trans upd_same⟩⟩ z27)
    | i + 21, hr => cases hr
end
end XT
namespace XT
open PySem PySem.Spec PyProof.Rows L2
section
variable {P : Program} {w : World} {K : PySem.W.Frag} {mg : Str → Option Value} {base : Heap} {cs : Nat → Addr} {cT : Addr}
theorem scFd : FnScope ["_law_value", "_law_found"] ["_law_value"] (defScope sFields) := ⟨rfl, rfl, rfl, by decide +kernel, rfl, by decide +kernel, by decide +kernel⟩
def spFields : Sp := fun vs H Q _ => ∃ v : V, vs = [v] ∧ ∀ (H' : Hp) (L : Addr), Same H H' → H' L = some (.lst (List.replicate 16 v)) → L ≠ sysModules → Q (.ref L) H'
theorem ok_fields {f : Addr} {fd : FuncData} {k : Nat} (N : Env01 P w K mg base cs cT) (F : Fun K "_law_fields" "_law_fields" sFields f fd) : FnOk P w K mg base CX0 (k + 3) f fd ["_law_value"] spFields := by
  refine F.ok scFd (fun vs H Q E h => ?_) (fun cdv A outer s H vs Q E hr h => ?_)
  · obtain ⟨v, rfl, _⟩ := h
    rfl
  · obtain ⟨v, rfl, q⟩ := h
    have hr2 := hr.mono (show 2 ≤ k + 2 by omega)
    refine ⟨_, pss_cons (ps_set (i := 1) scFd.nd rfl (.inl rfl) (pe_lst (pa_cons (pe_fld (pe_c1 N.e1 hr2 (by rfl) (pa_cons (pv 0) pa_nil))) (pa_cons (pe_fld (pe_c1 N.e2 hr2 (by rfl) (pa_cons (pv 0) pa_nil))) (pa_cons (pe_fld (pe_c1 N.e3 hr2 (by rfl) (pa_cons (pv 0) pa_nil))) (pa_cons (pe_fld (pe_c1 N.e5 hr2 (by rfl) (pa_cons (pv 0) pa_nil))) pa_nil))))))
      (pss_cons (ps_set (i := 1) scFd.nd rfl (.inl rfl) (pe_op op_cat (pv 1) (pe_lst (pa_cons (pe_fld (pe_c1 N.e6 hr2 (by rfl) (pa_cons (pv 0) pa_nil))) (pa_cons (pe_fld (pe_c1 N.e7 hr2 (by rfl) (pa_cons (pv 0) pa_nil))) (pa_cons (pe_fld (pe_c1 N.e8 hr2 (by rfl) (pa_cons (pv 0) pa_nil))) (pa_cons (pe_fld (pe_c1 N.e9 hr2 (by rfl) (pa_cons (pv 0) pa_nil))) pa_nil)))))))
      (pss_cons (ps_set (i := 1) scFd.nd rfl (.inl rfl) (pe_op op_cat (pv 1) (pe_lst (pa_cons (pe_fld (pe_c2 N.e10 hr2 (by rfl) (pa_cons (pv 0) (pa_cons pe_int pa_nil)))) (pa_cons (pe_fld (pe_c2 N.e10 hr2 (by rfl) (pa_cons pe_int (pa_cons (pv 0) pa_nil)))) (pa_cons (pe_fld (pe_c1 N.e14 hr2 (by rfl) (pa_cons (pv 0) pa_nil))) (pa_cons (pe_fld (pe_c1 N.e15 hr2 (by rfl) (pa_cons (pv 0) pa_nil))) pa_nil)))))))
      (pss_one (ps_ret (pe_op op_catB (pv 1) (pe_lst (pa_cons (pe_fld (pe_c1 N.e17 hr2 (by rfl) (pa_cons (pv 0) pa_nil))) (pa_cons (pe_fld (pe_c1 N.e18 hr2 (by rfl) (pa_cons (pv 0) pa_nil))) (pa_cons (pe_fld (pe_c1 N.e19 hr2 (by rfl) (pa_cons (pv 0) pa_nil))) (pa_cons (pe_fld (pe_c1 N.e20 hr2 (by rfl) (pa_cons (pv 0) pa_nil))) pa_nil)))))))))), ?_⟩
    refine ⟨v, rfl, (by simp), fun a1 n1 => ⟨a1, v, rfl, upd_same, fun d1 nd1 ne1 => ⟨rfl, a1, cs 1, d1, _, v, rfl, upd_same, (upd_ne ne1).trans upd_same, N.e1.vc, N.e1.no, rfl, ?_⟩⟩⟩
    have s1 := same_ex (C := cs 1) (o' := exd d1 [("index", v)]) n1 (nd_of ne1 nd1)
    refine ⟨v, rfl, (by simp), fun a2 n2 => ⟨a2, v, rfl, upd_same, fun d2 nd2 ne2 => ⟨rfl, a2, cs 2, d2, _, v, rfl, upd_same, (upd_ne ne2).trans upd_same, N.e2.vc, N.e2.no, rfl, ?_⟩⟩⟩
    have s2 := same_ex (C := cs 2) (o' := exd d2 [("name", v)]) n2 (nd_of ne2 nd2)
    refine ⟨v, rfl, (by simp), fun a3 n3 => ⟨a3, v, rfl, upd_same, fun d3 nd3 ne3 => ⟨rfl, a3, cs 3, d3, _, v, rfl, upd_same, (upd_ne ne3).trans upd_same, N.e3.vc, N.e3.no, rfl, ?_⟩⟩⟩
    have s3 := same_ex (C := cs 3) (o' := exd d3 [("value", v)]) n3 (nd_of ne3 nd3)
    refine ⟨v, rfl, (by simp), fun a5 n5 => ⟨a5, v, rfl, upd_same, fun d5 nd5 ne5 => ⟨rfl, a5, cs 5, d5, _, v, rfl, upd_same, (upd_ne ne5).trans upd_same, N.e5.vc, N.e5.no, rfl, ?_⟩⟩⟩
    have s5 := same_ex (C := cs 5) (o' := exd d5 [("limit", v)]) n5 (nd_of ne5 nd5)
    refine ⟨sz (n := 4) (by decide), fun M0 nM0 => ?_⟩
    have sM0 := same_new (o := .lst [v, v, v, v]) nM0
    refine ⟨.ref M0, rfl, ?_⟩
    refine ⟨v, rfl, (by simp), fun a6 n6 => ⟨a6, v, rfl, upd_same, fun d6 nd6 ne6 => ⟨rfl, a6, cs 6, d6, _, v, rfl, upd_same, (upd_ne ne6).trans upd_same, N.e6.vc, N.e6.no, rfl, ?_⟩⟩⟩
    have s6 := same_ex (C := cs 6) (o' := exd d6 [("error", v)]) n6 (nd_of ne6 nd6)
    refine ⟨v, rfl, (by simp), fun a7 n7 => ⟨a7, v, rfl, upd_same, fun d7 nd7 ne7 => ⟨rfl, a7, cs 7, d7, _, v, rfl, upd_same, (upd_ne ne7).trans upd_same, N.e7.vc, N.e7.no, rfl, ?_⟩⟩⟩
    have s7 := same_ex (C := cs 7) (o' := exd d7 [("error", v)]) n7 (nd_of ne7 nd7)
    refine ⟨v, rfl, (by simp), fun a8 n8 => ⟨a8, v, rfl, upd_same, fun d8 nd8 ne8 => ⟨rfl, a8, cs 8, d8, _, v, rfl, upd_same, (upd_ne ne8).trans upd_same, N.e8.vc, N.e8.no, rfl, ?_⟩⟩⟩
    have s8 := same_ex (C := cs 8) (o' := exd d8 [("mask", v)]) n8 (nd_of ne8 nd8)
    refine ⟨v, rfl, (by simp), fun a9 n9 => ⟨a9, v, rfl, upd_same, fun d9 nd9 ne9 => ⟨rfl, a9, cs 9, d9, _, v, rfl, upd_same, (upd_ne ne9).trans upd_same, N.e9.vc, N.e9.no, rfl, ?_⟩⟩⟩
    have s9 := same_ex (C := cs 9) (o' := exd d9 [("mask", v)]) n9 (nd_of ne9 nd9)
    refine ⟨sz (n := 4) (by decide), fun M1 nM1 => ?_⟩
    have sM1 := same_new (o := .lst [v, v, v, v]) nM1
    refine ⟨M0, M1, _, _, rfl, rfl, ((((s6.trans s7).trans s8).trans s9).trans sM1) _ _ upd_same, upd_same, (by rw [sizeLine_eq]; show _ ≤ 16777216; simp only [List.length_append, List.length_cons, List.length_nil]; omega), fun L1 nL1 => ?_⟩
    have sL1 := same_new (o := .lst (List.replicate 8 v)) nL1
    refine ⟨.ref L1, rfl, ?_⟩
    refine ⟨v, rfl, (by simp), fun a10a n10a => ⟨a10a, v, .int 5, rfl, upd_same, fun d10a nd10a ne10a => ⟨rfl, a10a, cs 10, d10a, _, v, rfl, (upd_ne (Ne.symm ne10a)).trans upd_same, upd_same, N.e10.vc, N.e10.no, rfl, ?_⟩⟩⟩
    have s10a := same_ex2 (C := cs 10) (o' := exd d10a [("one", v)]) (o2 := exd d10a [("other", .int 5), ("one", v)]) n10a (nd_of ne10a nd10a)
    refine ⟨v, rfl, (by simp), fun a10b n10b => ⟨a10b, .int 5, v, rfl, upd_same, fun d10b nd10b ne10b => ⟨rfl, a10b, cs 10, d10b, _, v, rfl, (upd_ne (Ne.symm ne10b)).trans upd_same, upd_same, N.e10.vc, N.e10.no2, rfl, ?_⟩⟩⟩
    have s10b := same_ex2 (C := cs 10) (o' := exd d10b [("one", .int 5)]) (o2 := exd d10b [("other", v), ("one", .int 5)]) n10b (nd_of ne10b nd10b)
    refine ⟨v, rfl, (by simp), fun a14 n14 => ⟨a14, v, rfl, upd_same, fun d14 nd14 ne14 => ⟨rfl, a14, cs 14, d14, _, v, rfl, upd_same, (upd_ne ne14).trans upd_same, N.e14.vc, N.e14.no, rfl, ?_⟩⟩⟩
    have s14 := same_ex (C := cs 14) (o' := exd d14 [("index", v)]) n14 (nd_of ne14 nd14)
    refine ⟨v, rfl, (by simp), fun a15 n15 => ⟨a15, v, rfl, upd_same, fun d15 nd15 ne15 => ⟨rfl, a15, cs 15, d15, _, v, rfl, upd_same, (upd_ne ne15).trans upd_same, N.e15.vc, N.e15.no, rfl, ?_⟩⟩⟩
    have s15 := same_ex (C := cs 15) (o' := exd d15 [("index", v)]) n15 (nd_of ne15 nd15)
    refine ⟨sz (n := 4) (by decide), fun M2 nM2 => ?_⟩
    have sM2 := same_new (o := .lst [v, v, v, v]) nM2
    refine ⟨L1, M2, _, _, rfl, rfl, ((((s10a.trans s10b).trans s14).trans s15).trans sM2) _ _ upd_same, upd_same, (by rw [sizeLine_eq]; show _ ≤ 16777216; simp only [List.length_append, List.length_cons, List.length_nil]; omega), fun L2 nL2 => ?_⟩
    have sL2 := same_new (o := .lst (List.replicate 12 v)) nL2
    refine ⟨.ref L2, rfl, ?_⟩
    refine ⟨v, rfl, (by simp), fun a17 n17 => ⟨a17, v, rfl, upd_same, fun d17 nd17 ne17 => ⟨rfl, a17, cs 17, d17, _, v, rfl, upd_same, (upd_ne ne17).trans upd_same, N.e17.vc, N.e17.no, rfl, ?_⟩⟩⟩
    have s17 := same_ex (C := cs 17) (o' := exd d17 [("index", v)]) n17 (nd_of ne17 nd17)
    refine ⟨v, rfl, (by simp), fun a18 n18 => ⟨a18, v, rfl, upd_same, fun d18 nd18 ne18 => ⟨rfl, a18, cs 18, d18, _, v, rfl, upd_same, (upd_ne ne18).trans upd_same, N.e18.vc, N.e18.no, rfl, ?_⟩⟩⟩
    have s18 := same_ex (C := cs 18) (o' := exd d18 [("value", v)]) n18 (nd_of ne18 nd18)
    refine ⟨v, rfl, (by simp), fun a19 n19 => ⟨a19, v, rfl, upd_same, fun d19 nd19 ne19 => ⟨rfl, a19, cs 19, d19, _, v, rfl, upd_same, (upd_ne ne19).trans upd_same, N.e19.vc, N.e19.no, rfl, ?_⟩⟩⟩
    have s19 := same_ex (C := cs 19) (o' := exd d19 [("value", v)]) n19 (nd_of ne19 nd19)
    refine ⟨v, rfl, (by simp), fun a20 n20 => ⟨a20, v, rfl, upd_same, fun d20 nd20 ne20 => ⟨rfl, a20, cs 20, d20, _, v, rfl, upd_same, (upd_ne ne20).trans upd_same, N.e20.vc, N.e20.no, rfl, ?_⟩⟩⟩
    have s20 := same_ex (C := cs 20) (o' := exd d20 [("value", v)]) n20 (nd_of ne20 nd20)
    refine ⟨sz (n := 4) (by decide), fun M3 nM3 => ?_⟩
    have sM3 := same_new (o := .lst [v, v, v, v]) nM3
    refine ⟨L2, M3, _, _, rfl, rfl, ((((s17.trans s18).trans s19).trans s20).trans sM3) _ _ upd_same, upd_same, (by rw [sizeLine_eq]; show _ ≤ 16777216; simp only [List.length_append, List.length_cons, List.length_nil]; omega), fun L3 nL3 bL3 => ?_⟩
    have sL3 := same_new (o := .lst (List.replicate 16 v)) nL3
    exact q _ L3 ((((((((((((((((((((((s1.trans s2).trans s3).trans s5).trans sM0).trans s6).trans s7).trans s8).trans s9).trans sM1).trans sL1).trans s10a).trans s10b).trans s14).trans s15).trans sM2).trans sL2).trans s17).trans s18).trans s19).trans s20).trans sM3).trans sL3) upd_same bL3
end
end XT
namespace XT
open PySem PySem.Spec PyProof.Rows L2
section
variable {P : Program} {w : World} {K : PySem.W.Frag} {mg : Str → Option Value} {base : Heap} {cs : Nat → Addr} {cT : Addr}
theorem scFl : FnScope ["_law_error", "_law_found"] ["_law_error"] (defScope sFlags) := ⟨rfl, rfl, rfl, by decide +kernel, rfl, by decide +kernel, by decide +kernel⟩
def flagsOf (i : Nat) : List V := [.bl (decide (0 = i)), .bl (decide (1 = i)), .bl (decide (2 = i)), .bl (decide (3 = i)), .bl (decide (4 = i)), .bl (decide (5 = i)), .bl (decide (6 = i)), .bl (decide (7 = i)), .bl (decide (8 = i)), .bl (decide (9 = i)), .bl (decide (10 = i)), .bl (decide (11 = i)), .bl (decide (12 = i)), .bl (decide (13 = i)), .bl (decide (14 = i)), .bl (decide (15 = i)), .bl (decide (16 = i)), .bl (decide (17 = i)), .bl (decide (18 = i)), .bl (decide (19 = i)), .bl (decide (20 = i))]
def spFlags (cs : Nat → Addr) : Sp := fun vs H Q _ => ∃ (r : Addr) (i : Nat), vs = [.ref r] ∧ i < 21 ∧ ErrAt H r (cs i) ∧ ∀ H' L, Same H H' → H' L = some (.lst (flagsOf i)) → Q (.ref L) H'
theorem ok_flags {f : Addr} {fd : FuncData} {k : Nat} (B : Bl mg) (N : Env01 P w K mg base cs cT) (F : Fun K "_law_flags" "_law_flags" sFlags f fd) : FnOk P w K mg base CX0 (k + 1) f fd ["_law_error"] (spFlags cs) := by
  refine F.ok scFl (fun vs H Q E h => ?_) (fun cdv A outer s H vs Q E hr h => ?_)
  · obtain ⟨r, i, rfl, _⟩ := h
    rfl
  · obtain ⟨r, i, rfl, hi, E0, q⟩ := h
    refine ⟨_, pss_cons (ps_set (i := 1) scFl.nd rfl (.inl rfl) (pe_lst (pa_cons (pe_callB call_isV (by rfl) B.isinstance bI (pa_cons (pv 0) (pa_cons (pe_glob (v := .ref (cs 0)) (by rfl) N.e0.hm rfl) pa_nil))) (pa_cons (pe_callB call_isV (by rfl) B.isinstance bI (pa_cons (pv 0) (pa_cons (pe_glob (v := .ref (cs 1)) (by rfl) N.e1.hm rfl) pa_nil))) (pa_cons (pe_callB call_isV (by rfl) B.isinstance bI (pa_cons (pv 0) (pa_cons (pe_glob (v := .ref (cs 2)) (by rfl) N.e2.hm rfl) pa_nil))) pa_nil)))))
      (pss_cons (ps_set (i := 1) scFl.nd rfl (.inl rfl) (pe_op op_cat (pv 1) (pe_lst (pa_cons (pe_callB call_isV (by rfl) B.isinstance bI (pa_cons (pv 0) (pa_cons (pe_glob (v := .ref (cs 3)) (by rfl) N.e3.hm rfl) pa_nil))) (pa_cons (pe_callB call_isV (by rfl) B.isinstance bI (pa_cons (pv 0) (pa_cons (pe_glob (v := .ref (cs 4)) (by rfl) N.e4.hm rfl) pa_nil))) (pa_cons (pe_callB call_isV (by rfl) B.isinstance bI (pa_cons (pv 0) (pa_cons (pe_glob (v := .ref (cs 5)) (by rfl) N.e5.hm rfl) pa_nil))) pa_nil))))))
      (pss_cons (ps_set (i := 1) scFl.nd rfl (.inl rfl) (pe_op op_cat (pv 1) (pe_lst (pa_cons (pe_callB call_isV (by rfl) B.isinstance bI (pa_cons (pv 0) (pa_cons (pe_glob (v := .ref (cs 6)) (by rfl) N.e6.hm rfl) pa_nil))) (pa_cons (pe_callB call_isV (by rfl) B.isinstance bI (pa_cons (pv 0) (pa_cons (pe_glob (v := .ref (cs 7)) (by rfl) N.e7.hm rfl) pa_nil))) (pa_cons (pe_callB call_isV (by rfl) B.isinstance bI (pa_cons (pv 0) (pa_cons (pe_glob (v := .ref (cs 8)) (by rfl) N.e8.hm rfl) pa_nil))) pa_nil))))))
      (pss_cons (ps_set (i := 1) scFl.nd rfl (.inl rfl) (pe_op op_cat (pv 1) (pe_lst (pa_cons (pe_callB call_isV (by rfl) B.isinstance bI (pa_cons (pv 0) (pa_cons (pe_glob (v := .ref (cs 9)) (by rfl) N.e9.hm rfl) pa_nil))) (pa_cons (pe_callB call_isV (by rfl) B.isinstance bI (pa_cons (pv 0) (pa_cons (pe_glob (v := .ref (cs 10)) (by rfl) N.e10.hm rfl) pa_nil))) (pa_cons (pe_callB call_isV (by rfl) B.isinstance bI (pa_cons (pv 0) (pa_cons (pe_glob (v := .ref (cs 11)) (by rfl) N.e11.hm rfl) pa_nil))) pa_nil))))))
      (pss_cons (ps_set (i := 1) scFl.nd rfl (.inl rfl) (pe_op op_cat (pv 1) (pe_lst (pa_cons (pe_callB call_isV (by rfl) B.isinstance bI (pa_cons (pv 0) (pa_cons (pe_glob (v := .ref (cs 12)) (by rfl) N.e12.hm rfl) pa_nil))) (pa_cons (pe_callB call_isV (by rfl) B.isinstance bI (pa_cons (pv 0) (pa_cons (pe_glob (v := .ref (cs 13)) (by rfl) N.e13.hm rfl) pa_nil))) (pa_cons (pe_callB call_isV (by rfl) B.isinstance bI (pa_cons (pv 0) (pa_cons (pe_glob (v := .ref (cs 14)) (by rfl) N.e14.hm rfl) pa_nil))) pa_nil))))))
      (pss_cons (ps_set (i := 1) scFl.nd rfl (.inl rfl) (pe_op op_cat (pv 1) (pe_lst (pa_cons (pe_callB call_isV (by rfl) B.isinstance bI (pa_cons (pv 0) (pa_cons (pe_glob (v := .ref (cs 15)) (by rfl) N.e15.hm rfl) pa_nil))) (pa_cons (pe_callB call_isV (by rfl) B.isinstance bI (pa_cons (pv 0) (pa_cons (pe_glob (v := .ref (cs 16)) (by rfl) N.e16.hm rfl) pa_nil))) (pa_cons (pe_callB call_isV (by rfl) B.isinstance bI (pa_cons (pv 0) (pa_cons (pe_glob (v := .ref (cs 17)) (by rfl) N.e17.hm rfl) pa_nil))) pa_nil))))))
      (pss_one (ps_ret (pe_op op_cat (pv 1) (pe_lst (pa_cons (pe_callB call_isV (by rfl) B.isinstance bI (pa_cons (pv 0) (pa_cons (pe_glob (v := .ref (cs 18)) (by rfl) N.e18.hm rfl) pa_nil))) (pa_cons (pe_callB call_isV (by rfl) B.isinstance bI (pa_cons (pv 0) (pa_cons (pe_glob (v := .ref (cs 19)) (by rfl) N.e19.hm rfl) pa_nil))) (pa_cons (pe_callB call_isV (by rfl) B.isinstance bI (pa_cons (pv 0) (pa_cons (pe_glob (v := .ref (cs 20)) (by rfl) N.e20.hm rfl) pa_nil))) pa_nil)))))))))))), ?_⟩
    refine ⟨.ref r, rfl, r, cs i, .ref (cs 0), .ref (cs 0), decide (0 = i), rfl, E0, N.vc i hi, .own _, N.kit i 0 hi (by decide), ?_⟩
    refine ⟨.ref r, rfl, r, cs i, .ref (cs 1), .ref (cs 1), decide (1 = i), rfl, E0, N.vc i hi, .own _, N.kit i 1 hi (by decide), ?_⟩
    refine ⟨.ref r, rfl, r, cs i, .ref (cs 2), .ref (cs 2), decide (2 = i), rfl, E0, N.vc i hi, .own _, N.kit i 2 hi (by decide), ?_⟩
    refine ⟨sz (n := 3) (by decide), fun M0 nM0 => ?_⟩
    have sM0 := same_new (o := .lst [.bl (decide (0 = i)), .bl (decide (1 = i)), .bl (decide (2 = i))]) nM0
    have E1 := E0.same sM0
    refine ⟨.ref M0, rfl, ?_⟩
    refine ⟨.ref r, rfl, r, cs i, .ref (cs 3), .ref (cs 3), decide (3 = i), rfl, E1, N.vc i hi, .own _, N.kit i 3 hi (by decide), ?_⟩
    refine ⟨.ref r, rfl, r, cs i, .ref (cs 4), .ref (cs 4), decide (4 = i), rfl, E1, N.vc i hi, .own _, N.kit i 4 hi (by decide), ?_⟩
    refine ⟨.ref r, rfl, r, cs i, .ref (cs 5), .ref (cs 5), decide (5 = i), rfl, E1, N.vc i hi, .own _, N.kit i 5 hi (by decide), ?_⟩
    refine ⟨sz (n := 3) (by decide), fun M1 nM1 => ?_⟩
    have sM1 := same_new (o := .lst [.bl (decide (3 = i)), .bl (decide (4 = i)), .bl (decide (5 = i))]) nM1
    refine ⟨M0, M1, _, _, rfl, rfl, sM1 _ _ upd_same, upd_same, (by rw [sizeLine_eq]; show _ ≤ 16777216; simp only [List.length_append, List.length_cons, List.length_nil]; omega), fun L1 nL1 => ?_⟩
    have sL1 := same_new (o := .lst [.bl (decide (0 = i)), .bl (decide (1 = i)), .bl (decide (2 = i)), .bl (decide (3 = i)), .bl (decide (4 = i)), .bl (decide (5 = i))]) nL1
    have E2 := (E1.same sM1).same sL1
    refine ⟨.ref L1, rfl, ?_⟩
    refine ⟨.ref r, rfl, r, cs i, .ref (cs 6), .ref (cs 6), decide (6 = i), rfl, E2, N.vc i hi, .own _, N.kit i 6 hi (by decide), ?_⟩
    refine ⟨.ref r, rfl, r, cs i, .ref (cs 7), .ref (cs 7), decide (7 = i), rfl, E2, N.vc i hi, .own _, N.kit i 7 hi (by decide), ?_⟩
    refine ⟨.ref r, rfl, r, cs i, .ref (cs 8), .ref (cs 8), decide (8 = i), rfl, E2, N.vc i hi, .own _, N.kit i 8 hi (by decide), ?_⟩
    refine ⟨sz (n := 3) (by decide), fun M2 nM2 => ?_⟩
    have sM2 := same_new (o := .lst [.bl (decide (6 = i)), .bl (decide (7 = i)), .bl (decide (8 = i))]) nM2
    refine ⟨L1, M2, _, _, rfl, rfl, sM2 _ _ upd_same, upd_same, (by rw [sizeLine_eq]; show _ ≤ 16777216; simp only [List.length_append, List.length_cons, List.length_nil]; omega), fun L2 nL2 => ?_⟩
    have sL2 := same_new (o := .lst [.bl (decide (0 = i)), .bl (decide (1 = i)), .bl (decide (2 = i)), .bl (decide (3 = i)), .bl (decide (4 = i)), .bl (decide (5 = i)), .bl (decide (6 = i)), .bl (decide (7 = i)), .bl (decide (8 = i))]) nL2
    have E3 := (E2.same sM2).same sL2
    refine ⟨.ref L2, rfl, ?_⟩
    refine ⟨.ref r, rfl, r, cs i, .ref (cs 9), .ref (cs 9), decide (9 = i), rfl, E3, N.vc i hi, .own _, N.kit i 9 hi (by decide), ?_⟩
    refine ⟨.ref r, rfl, r, cs i, .ref (cs 10), .ref (cs 10), decide (10 = i), rfl, E3, N.vc i hi, .own _, N.kit i 10 hi (by decide), ?_⟩
    refine ⟨.ref r, rfl, r, cs i, .ref (cs 11), .ref (cs 11), decide (11 = i), rfl, E3, N.vc i hi, .own _, N.kit i 11 hi (by decide), ?_⟩
    refine ⟨sz (n := 3) (by decide), fun M3 nM3 => ?_⟩
    have sM3 := same_new (o := .lst [.bl (decide (9 = i)), .bl (decide (10 = i)), .bl (decide (11 = i))]) nM3
    refine ⟨L2, M3, _, _, rfl, rfl, sM3 _ _ upd_same, upd_same, (by rw [sizeLine_eq]; show _ ≤ 16777216; simp only [List.length_append, List.length_cons, List.length_nil]; omega), fun L3 nL3 => ?_⟩
    have sL3 := same_new (o := .lst [.bl (decide (0 = i)), .bl (decide (1 = i)), .bl (decide (2 = i)), .bl (decide (3 = i)), .bl (decide (4 = i)), .bl (decide (5 = i)), .bl (decide (6 = i)), .bl (decide (7 = i)), .bl (decide (8 = i)), .bl (decide (9 = i)), .bl (decide (10 = i)), .bl (decide (11 = i))]) nL3
    have E4 := (E3.same sM3).same sL3
    refine ⟨.ref L3, rfl, ?_⟩
    refine ⟨.ref r, rfl, r, cs i, .ref (cs 12), .ref (cs 12), decide (12 = i), rfl, E4, N.vc i hi, .own _, N.kit i 12 hi (by decide), ?_⟩
    refine ⟨.ref r, rfl, r, cs i, .ref (cs 13), .ref (cs 13), decide (13 = i), rfl, E4, N.vc i hi, .own _, N.kit i 13 hi (by decide), ?_⟩
    refine ⟨.ref r, rfl, r, cs i, .ref (cs 14), .ref (cs 14), decide (14 = i), rfl, E4, N.vc i hi, .own _, N.kit i 14 hi (by decide), ?_⟩
    refine ⟨sz (n := 3) (by decide), fun M4 nM4 => ?_⟩
    have sM4 := same_new (o := .lst [.bl (decide (12 = i)), .bl (decide (13 = i)), .bl (decide (14 = i))]) nM4
    refine ⟨L3, M4, _, _, rfl, rfl, sM4 _ _ upd_same, upd_same, (by rw [sizeLine_eq]; show _ ≤ 16777216; simp only [List.length_append, List.length_cons, List.length_nil]; omega), fun L4 nL4 => ?_⟩
    have sL4 := same_new (o := .lst [.bl (decide (0 = i)), .bl (decide (1 = i)), .bl (decide (2 = i)), .bl (decide (3 = i)), .bl (decide (4 = i)), .bl (decide (5 = i)), .bl (decide (6 = i)), .bl (decide (7 = i)), .bl (decide (8 = i)), .bl (decide (9 = i)), .bl (decide (10 = i)), .bl (decide (11 = i)), .bl (decide (12 = i)), .bl (decide (13 = i)), .bl (decide (14 = i))]) nL4
    have E5 := (E4.same sM4).same sL4
    refine ⟨.ref L4, rfl, ?_⟩
    refine ⟨.ref r, rfl, r, cs i, .ref (cs 15), .ref (cs 15), decide (15 = i), rfl, E5, N.vc i hi, .own _, N.kit i 15 hi (by decide), ?_⟩
    refine ⟨.ref r, rfl, r, cs i, .ref (cs 16), .ref (cs 16), decide (16 = i), rfl, E5, N.vc i hi, .own _, N.kit i 16 hi (by decide), ?_⟩
    refine ⟨.ref r, rfl, r, cs i, .ref (cs 17), .ref (cs 17), decide (17 = i), rfl, E5, N.vc i hi, .own _, N.kit i 17 hi (by decide), ?_⟩
    refine ⟨sz (n := 3) (by decide), fun M5 nM5 => ?_⟩
    have sM5 := same_new (o := .lst [.bl (decide (15 = i)), .bl (decide (16 = i)), .bl (decide (17 = i))]) nM5
    refine ⟨L4, M5, _, _, rfl, rfl, sM5 _ _ upd_same, upd_same, (by rw [sizeLine_eq]; show _ ≤ 16777216; simp only [List.length_append, List.length_cons, List.length_nil]; omega), fun L5 nL5 => ?_⟩
    have sL5 := same_new (o := .lst [.bl (decide (0 = i)), .bl (decide (1 = i)), .bl (decide (2 = i)), .bl (decide (3 = i)), .bl (decide (4 = i)), .bl (decide (5 = i)), .bl (decide (6 = i)), .bl (decide (7 = i)), .bl (decide (8 = i)), .bl (decide (9 = i)), .bl (decide (10 = i)), .bl (decide (11 = i)), .bl (decide (12 = i)), .bl (decide (13 = i)), .bl (decide (14 = i)), .bl (decide (15 = i)), .bl (decide (16 = i)), .bl (decide (17 = i))]) nL5
    have E6 := (E5.same sM5).same sL5
    refine ⟨.ref L5, rfl, ?_⟩
    refine ⟨.ref r, rfl, r, cs i, .ref (cs 18), .ref (cs 18), decide (18 = i), rfl, E6, N.vc i hi, .own _, N.kit i 18 hi (by decide), ?_⟩
    refine ⟨.ref r, rfl, r, cs i, .ref (cs 19), .ref (cs 19), decide (19 = i), rfl, E6, N.vc i hi, .own _, N.kit i 19 hi (by decide), ?_⟩
    refine ⟨.ref r, rfl, r, cs i, .ref (cs 20), .ref (cs 20), decide (20 = i), rfl, E6, N.vc i hi, .own _, N.kit i 20 hi (by decide), ?_⟩
    refine ⟨sz (n := 3) (by decide), fun M6 nM6 => ?_⟩
    have sM6 := same_new (o := .lst [.bl (decide (18 = i)), .bl (decide (19 = i)), .bl (decide (20 = i))]) nM6
    refine ⟨L5, M6, _, _, rfl, rfl, sM6 _ _ upd_same, upd_same, (by rw [sizeLine_eq]; show _ ≤ 16777216; simp only [List.length_append, List.length_cons, List.length_nil]; omega), fun L6 nL6 => ?_⟩
    have sL6 := same_new (o := .lst [.bl (decide (0 = i)), .bl (decide (1 = i)), .bl (decide (2 = i)), .bl (decide (3 = i)), .bl (decide (4 = i)), .bl (decide (5 = i)), .bl (decide (6 = i)), .bl (decide (7 = i)), .bl (decide (8 = i)), .bl (decide (9 = i)), .bl (decide (10 = i)), .bl (decide (11 = i)), .bl (decide (12 = i)), .bl (decide (13 = i)), .bl (decide (14 = i)), .bl (decide (15 = i)), .bl (decide (16 = i)), .bl (decide (17 = i)), .bl (decide (18 = i)), .bl (decide (19 = i)), .bl (decide (20 = i))]) nL6
    exact q _ L6 ((((((((((((sM0.trans sM1).trans sL1).trans sM2).trans sL2).trans sM3).trans sL3).trans sM4).trans sL4).trans sM5).trans sL5).trans sM6).trans sL6) upd_same
end
end XT
/-! _law_shared_right -/
namespace XT
open PySem PySem.Spec PyProof.Rows L2
section
variable {P : Program} {w : World} {K : PySem.W.Frag} {mg : Str → Option Value} {base : Heap} {cs : Nat → Addr} {cT : Addr}
theorem scSr : FnScope ["_law_value", "_law_fields_here"] [] (defScope sShR) := ⟨rfl, rfl, rfl, by decide +kernel, rfl, by decide +kernel, by decide +kernel⟩
def spSr : Sp := fun vs H Q _ => vs = [] ∧ ∀ H', Q (.bl true) H'
theorem dpRep {H : Hp} {v : V} {d : PyData} (h : Dp K H v d) : ∀ n, DpAll K H (List.replicate n v) (List.replicate n d)
  | 0 => .nil
  | n + 1 => .cons h (dpRep h n)
theorem ok_sr {f : Addr} {fd : FuncData} {k : Nat} (F : Fun K "_law_shared_right" "_law_shared_right" sShR f fd) (dF : DefR P w K mg base 3 "_law_fields" spFields) : FnOk P w K mg base CX0 (k + 4) f fd [] spSr := by
  refine F.ok scSr (fun vs H Q E h => ?_) (fun cdv A outer s H vs Q E hr h => ?_)
  · obtain ⟨rfl, _⟩ := h
    rfl
  · obtain ⟨rfl, q⟩ := h
    refine ⟨_, pss_cons (ps_set (i := 0) scSr.nd rfl (.inl rfl) (pe_lst (pa_cons pe_int pa_nil)))
      (pss_cons (ps_set (i := 1) scSr.nd rfl (.inl rfl) (pe_def dF (hr.mono (by omega)) (by rfl) (pa_cons (pv 0) pa_nil)))
      (pss_cons (ps_expr (pe_bm PySem.F.plainAttrs_list PySem.F.slot_list_append PySem.F.type_list_append mt_append (pv 0) (pa_cons pe_int pa_nil)))
      (pss_one (ps_ret (pe_cmpR (op_eqD hr.units) (pv 1) (pe_op op_rep (pe_lst (pa_cons (pe_lst (pa_cons pe_int (pa_cons pe_int pa_nil))) pa_nil)) pe_int) (nomark _)))))), ?_⟩
    refine ⟨sz (n := 1) (by decide), fun L nL => ⟨.ref L, rfl, .ref L, rfl, fun H2 M s2 hM bM => ?_⟩⟩
    have hL2 := s2 _ _ (upd_same (H := H) (a := L) (o := .lst [.int 0]))
    refine ⟨.ref L, rfl, .inl ⟨rfl, _, SqL.of hL2⟩, L, _, .int 1, rfl, rfl, hL2, small64 (by decide), ?_⟩
    have hML : M ≠ L := fun z => by
      rw [z, hL2] at hM
      have e : (1 : Nat) = 16 := congrArg (fun o : Option HO => match o with | some (.lst xs) => xs.length | _ => 0) hM
      omega
    have hM3 : upd H2 L (.lst ([.int 0] ++ [.int 1])) M = some (.lst (List.replicate 16 (.ref L))) := (upd_ne hML).trans hM
    refine ⟨.ref M, rfl, sz (n := 2) (by decide), fun A1 nA1 => ⟨sz (n := 1) (by decide), fun B1 nB1 => ⟨B1, 16, _, rfl, rfl, upd_same, by decide, by decide, (by rw [sizeLine_eq]; show 1 * 16 ≤ 16777216; decide), fun R nR => ?_⟩⟩⟩
    have m1 := same_new (o := .lst [.int 0, .int 1]) nA1
    have m2 := same_new (o := .lst [.ref A1]) nB1
    have m3 := same_new (o := .lst (List.replicate (16 : Int).toNat [V.ref A1]).flatten) nR
    have mA := (m1.trans m2).trans m3
    have d0 : PyData := .list [.int 0, .int 1]
    have hA : Dp K _ (.ref A1) (.list [.int 0, .int 1]) := .lst (SqL.of ((m2.trans m3) _ _ upd_same)) (.cons (.int _) (.cons (.int _) .nil))
    have hL : Dp K _ (.ref L) (.list [.int 0, .int 1]) := .lst (SqL.of (mA _ _ upd_same)) (.cons (.int _) (.cons (.int _) .nil))
    refine ⟨.list (List.replicate 16 (.list [.int 0, .int 1])), .list (List.replicate 16 (.list [.int 0, .int 1])), .lst (SqL.of (mA _ _ hM3)) (dpRep hL 16), .lst (SqL.of upd_same) (dpRep hA 16), by decide +kernel, by decide +kernel, ?_⟩
    have e : PyData.eqv (.list (List.replicate 16 (.list [.int 0, .int 1]))) (.list (List.replicate 16 (.list [.int 0, .int 1]))) = true := by decide +kernel
    rw [e]
    exact q _
end
end XT
/-! how long data are when shown -/
namespace XT
open PySem PySem.Spec PyProof.Rows L2
structure Shw (d : PyData) (n k : Nat) : Prop where
  lay : PyData.canLay0 d = true
  dep : PyData.depth d ≤ k
  shw : PyData.showable d = true
  len : (PyData.shown d).length ≤ n
structure ShwAll (ds : List PyData) (n k : Nat) : Prop where
  lay : PyData.canLayAll0 ds = true
  dep : PyData.depthAll ds ≤ k
  shw : PyData.showableAll ds = true
  len : ((PyData.shownAll ds).map (·.length)).sum + 2 * (PyData.shownAll ds).length ≤ n
theorem ShwAll.nil {k : Nat} : ShwAll [] 0 k := ⟨rfl, Nat.zero_le _, rfl, Nat.le_refl _⟩
theorem ShwAll.cons {d : PyData} {ds : List PyData} {n m k : Nat} (h : Shw d n k) (t : ShwAll ds m k) : ShwAll (d :: ds) (n + 2 + m) k := by
  refine ⟨?_, ?_, ?_, ?_⟩
  · simp only [PyData.canLayAll0, h.lay, t.lay, Bool.and_self]
  · simp only [PyData.depthAll]
    exact Nat.max_le.mpr ⟨h.dep, t.dep⟩
  · simp only [PyData.showableAll, h.shw, t.shw, Bool.and_self]
  · have h1 := h.len
    have h2 := t.len
    simp only [PyData.shownAll, List.map_cons, List.sum_cons, List.length_cons]
    omega
theorem Shw.mono {d : PyData} {n m k j : Nat} (h : Shw d n k) (a : n ≤ m) (b : k ≤ j) : Shw d m j := ⟨h.lay, Nat.le_trans h.dep b, h.shw, Nat.le_trans h.len a⟩
theorem ShwAll.mono {d : List PyData} {n m k j : Nat} (h : ShwAll d n k) (a : n ≤ m) (b : k ≤ j) : ShwAll d m j := ⟨h.lay, Nat.le_trans h.dep b, h.shw, Nat.le_trans h.len a⟩
theorem ShwAll.list {ds : List PyData} {n k : Nat} (h : ShwAll ds n k) : Shw (.list ds) (n + 3) (k + 1) := by
  refine ⟨by simpa only [PyData.canLay0] using h.lay, ?_, by simpa only [PyData.showable] using h.shw, ?_⟩
  · simp only [PyData.depth]
    have := h.dep
    omega
  · simp only [PyData.shown]
    have := listText_len_le (PyData.shownAll ds)
    have := h.len
    omega
theorem ShwAll.tuple {ds : List PyData} {n k : Nat} (h : ShwAll ds n k) : Shw (.tuple ds) (n + 3) (k + 1) := by
  refine ⟨by simpa only [PyData.canLay0] using h.lay, ?_, by simpa only [PyData.showable] using h.shw, ?_⟩
  · simp only [PyData.depth]
    have := h.dep
    omega
  · simp only [PyData.shown]
    have := tupleText_len_le (PyData.shownAll ds)
    have := h.len
    omega
theorem shw_nat {m : Nat} (h : m < 1000000) : Shw (.int (m : Int)) 13 0 := by
  refine ⟨rfl, Nat.le_refl _, ?_, PyData.shown_int_le (by omega)⟩
  show decide ((m : Int).natAbs.log2 < 1920) = true
  rw [decide_eq_true_iff, Int.natAbs_natCast]
  by_cases h0 : m = 0
  · subst h0; decide
  · exact Nat.lt_of_lt_of_le ((Nat.log2_lt h0).mpr (show m < 2 ^ 20 by omega)) (by decide)
theorem shw_nats : ∀ {ms : List Nat}, (∀ m ∈ ms, m < 1000000) → ShwAll (ms.map fun (m : Nat) => PyData.int (m : Int)) (15 * ms.length) 0
  | [], _ => ShwAll.nil
  | m :: ms, h => by
    have := ShwAll.cons (shw_nat (h m List.mem_cons_self)) (shw_nats (ms := ms) fun x hx => h x (List.mem_cons_of_mem _ hx))
    exact this.mono (by rw [List.length_cons]; omega) (Nat.le_refl _)
theorem shw_two {a b : PyData} {n m k : Nat} (ha : Shw a n k) (hb : Shw b m k) : Shw (.list [a, b]) (n + m + 7) (k + 1) := (ShwAll.cons ha (ShwAll.cons hb ShwAll.nil)).list.mono (by omega) (by omega)
theorem Shw.shaped {d : PyData} {n k : Nat} (hs : Shw d n k) (hk : k ≤ 64) : SeqAt.shaped d = true := by
  unfold SeqAt.shaped
  rw [hs.lay, decide_eq_true (Nat.le_trans hs.dep hk)]
  rfl
theorem Shw.sz {d : PyData} {n k : Nat} (hs : Shw d n k) (hn : n ≤ 10000000) : d.shown.length ≤ sizeLine := by
  rw [sizeLine_eq]
  have := hs.len
  omega

/-! the same with dicts -/
structure ShZ (d : PyData) (n k : Nat) : Prop where
  dep : PyData.depth d ≤ k
  shw : PyData.showable d = true
  len : (PyData.shown d).length ≤ n
theorem Shw.z {d : PyData} {n k : Nat} (h : Shw d n k) : ShZ d n k := ⟨h.dep, h.shw, h.len⟩
structure ShZAll (ds : List PyData) (n k : Nat) : Prop where
  dep : PyData.depthAll ds ≤ k
  shw : PyData.showableAll ds = true
  len : ((PyData.shownAll ds).map (·.length)).sum + 2 * (PyData.shownAll ds).length ≤ n
theorem ShZAll.nil {k : Nat} : ShZAll [] 0 k := ⟨Nat.zero_le _, rfl, Nat.le_refl _⟩
theorem ShZAll.cons {d : PyData} {ds : List PyData} {n m k : Nat} (h : ShZ d n k) (t : ShZAll ds m k) : ShZAll (d :: ds) (n + 2 + m) k := by
  refine ⟨?_, ?_, ?_⟩
  · simp only [PyData.depthAll]
    exact Nat.max_le.mpr ⟨h.dep, t.dep⟩
  · simp only [PyData.showableAll, h.shw, t.shw, Bool.and_self]
  · have h1 := h.len
    have h2 := t.len
    simp only [PyData.shownAll, List.map_cons, List.sum_cons, List.length_cons]
    omega
theorem ShZ.mono {d : PyData} {n m k j : Nat} (h : ShZ d n k) (a : n ≤ m) (b : k ≤ j) : ShZ d m j := ⟨Nat.le_trans h.dep b, h.shw, Nat.le_trans h.len a⟩
theorem ShZAll.list {ds : List PyData} {n k : Nat} (h : ShZAll ds n k) : ShZ (.list ds) (n + 3) (k + 1) := by
  refine ⟨?_, by simpa only [PyData.showable] using h.shw, ?_⟩
  · simp only [PyData.depth]
    have := h.dep
    omega
  · simp only [PyData.shown]
    have := listText_len_le (PyData.shownAll ds)
    have := h.len
    omega
theorem ShZ.sz {d : PyData} {n k : Nat} (hs : ShZ d n k) (hn : n ≤ 10000000) : d.shown.length ≤ sizeLine := by
  rw [sizeLine_eq]
  have := hs.len
  omega
theorem shz_odd : ∀ d ∈ oddD, ShZ d 100 3 := by
  have h : oddD.all (fun d => decide (d.depth ≤ 3) && (d.showable && decide (d.shown.length ≤ 100))) = true := by decide +kernel
  intro d hd
  have := List.all_eq_true.mp h d hd
  rw [Bool.and_eq_true, Bool.and_eq_true, decide_eq_true_iff, decide_eq_true_iff] at this
  exact ⟨this.1, this.2.1, this.2.2⟩
theorem shz_two {a b : PyData} {n m k : Nat} (ha : ShZ a n k) (hb : ShZ b m k) : ShZ (.list [a, b]) (n + m + 7) (k + 1) := (ShZAll.cons ha (ShZAll.cons hb ShZAll.nil)).list.mono (by omega) (by omega)
end XT
namespace L2
open PySem PySem.Spec PyProof.Rows
section
variable {X : Cx}
/-- a list times an int: not at the place of sys.modules -/
def rRepB : R2 := fun x y H Q => ∃ l k xs, x = .ref l ∧ y = .int k ∧ H l = some (.lst xs) ∧ -(2 ^ 63) ≤ k ∧ k < 2 ^ 63 ∧ xs.length * k.toNat ≤ sizeLine ∧
  ∀ p, H p = none → p ≠ sysModules → Q (.ref p) (upd H p (.lst (List.replicate k.toNat xs).flatten))
theorem op_repB : OpR X (binaryOp .Mult) rRepB := by
  intro pins s σ H x y v u Q I rx ry h
  obtain ⟨l, k, xs, rfl, rfl, hH, h1, h2, hz, q⟩ := h
  cases rx
  obtain ⟨t, rfl⟩ := ry
  obtain ⟨z, its, n, r, hl, e⟩ := I.lstM hH
  have hlen : its.toArray.size * k.toNat ≤ sizeLine := by rw [List.size_toArray, ← hl]; exact hz
  have hcap : ¬ its.toArray.size * k.toNat > (2 ^ 63 - 1) / 8 := by
    have : (sizeLine : Nat) ≤ (2 ^ 63 - 1) / 8 := by decide
    omega
  have hfit : ¬ (!Builtin.List.listFitsIndex k) = true := by
    rw [fitsIndex_both h1 h2]
    exact Bool.false_ne_true
  have hlong : ¬ Builtin.List.listTooLong (its.toArray.size * k.toNat) = true := by
    rw [notLongL hlen]
    exact Bool.false_ne_true
  have hnew : List.foldl (fun x1 x2 => x1 ++ x2) #[] (List.replicate (if its.toArray.isEmpty = true then 0 else k.toNat) its.toArray) = (List.replicate k.toNat its).flatten.toArray := by
    have f0 : ∀ m : Nat, List.foldl (fun x1 x2 => x1 ++ x2) #[] (List.replicate m its.toArray) = (List.replicate m its).flatten.toArray := fun m => by
      have := foldl_rep its m []
      rw [List.nil_append] at this
      exact this
    rw [f0]
    cases its with
    | nil => simp
    | cons a r' => rw [if_neg (by simp)]
  refine wpAny_binaryOp_repeat_ref (T := "list") (U := "int") (by decide) ⟨_, e, rfl⟩ (fun s' => typeIs_int s' k t) noFill_list_mul F.fills_int_mul F.slot_int_rmul repeat_list F.slot_int_index.lookup
    (call_meets F.slot_int_rmul (typeIs_int s k t) F.entry_int_rmul (F.args_int_rmul_2 _ _) (int___rmul___int_list k t l its.toArray n)
      ⟨e, rfl, ⟨_, e, rfl⟩, call_meets F.slot_list_mul ⟨_, e, rfl⟩ F.entry_list_mul (F.args_list_mul_2 _ _) (AutoListH.list___mul___list_int_3 l its.toArray n k t hfit hcap hlong) ⟨e, ?_⟩⟩)
  rw [hnew]
  exact ⟨.ref _, _, I.lnew (t' := s.toks) (r.rep k.toNat) (by rw [PyProof.Rows.lm_len_rep_flat, Nat.mul_comm]; exact hz), rfl, q _ I.fresh (Ne.symm (Nat.ne_of_lt I.big))⟩
end
end L2
namespace XT
open PySem PySem.Spec PyProof.Rows L2
section
variable {X : Cx}
/-- f() -/
theorem pe_def0 {j : Nat} {x : Str} {sp : Sp} {p pos : Pos} (D : DefR X.prog X.w X.K X.mg X.base j x sp) (hr : Room j X.A) (hg : Gl X x) (hdb : (x == ("__debug__" : Str)) = false := by decide) :
    PE X (.Call (.Name x p) [] [] pos) (fun σ H Q => sp [] H Q E0) := by
  obtain ⟨f, F, hm, hk⟩ := D
  refine ⟨fun pins s σ H Q I h => wpAny_Call_Name_kw (ld_glob I hg hm ?_ hdb)⟩
  refine PySem.W.callWith_K0 I.kIn hk ?_
  refine wpAny_call (codeAny_mono (run_fnR (us := []) F hr pass0 I .nil h) fun r s2 z => ?_)
  match r, z with
  | .ok (.ret v), z => exact z
  | .ok .next, z => exact z.elim
  | .ok .brk, z => exact z.elim
  | .ok .cont, z => exact z.elim
  | .error e, z => exact z
end
/-- for i, x in enumerate(l) -/
theorem for_enumL {K : PySem.W.Frag} {a : Addr} {xs : List V} {g : TG} {tb : TS} {D : Ends} {σ : L2.St} {H : Hp} (Pv : Nat → L2.St → Hp → Prop) (h0 : Pv 0 σ H) (hl : ∀ i σ H, i ≤ xs.length → Pv i σ H → SqL K H a xs)
    (hs : ∀ i x σ H T, xs[i]? = some x → Pv i σ H → H T = none → g (.ref T) σ (upd H T (.tup [.int (i : Nat), x])) fun σ2 H2 => tb { D with nx := Pv (i + 1), ct := Pv (i + 1), bk := D.nx } σ2 H2) (hd : ∀ σ H, Pv xs.length σ H → D.nx σ H) :
    ∃ W : Nat → Nat → L2.St → Hp → Prop, (∃ m, W 0 m σ H) ∧ ∀ i m σ H, W i m σ H →
      ((Ite K a).stop i H ∧ D.nx σ H) ∨ ((Ite K a).go i H ∧ ∃ N : L2.St → Hp → Prop, (∀ σ' H', N σ' H' → ∃ m', m' < m ∧ W (i + 1) m' σ' H') ∧ ∀ x H', (Ite K a).yld i H x H' → g x σ H' fun σ2 H2 => tb { D with nx := N, ct := N, bk := D.nx } σ2 H2) := by
  refine ⟨fun i m σ H => m = xs.length - i ∧ i ≤ xs.length ∧ Pv i σ H, ⟨xs.length, by simp, Nat.zero_le _, h0⟩, ?_⟩
  rintro i m σ H ⟨rfl, hi, p⟩
  have q := hl i σ H hi p
  rcases Nat.lt_or_ge i xs.length with lt | ge
  · refine .inr ⟨⟨xs, xs[i], q, List.getElem?_eq_getElem lt⟩, Pv (i + 1), fun σ' H' p' => ⟨xs.length - (i + 1), by omega, rfl, lt, p'⟩, fun v H' y => ?_⟩
    obtain ⟨T, x, rfl, nT, rfl, fx⟩ := y
    exact hs i x σ H T (fx xs q) p nT
  · have e : i = xs.length := by omega
    subst e
    exact .inl ⟨⟨xs, q, Nat.le_refl _⟩, hd σ H p⟩
theorem dpB {K : PySem.W.Frag} {H : Hp} : ∀ bs : List Bool, DpAll K H (bs.map V.bl) (bs.map PyData.bool)
  | [] => .nil
  | b :: bs => .cons (.bl b) (dpB bs)
theorem eqvB : ∀ bs : List Bool, PyData.eqvAll (bs.map PyData.bool) (bs.map PyData.bool) = true
  | [] => rfl
  | b :: bs => by
    have h := eqvB bs
    simp [PyData.eqvAll, PyData.eqv, h]
theorem shB : ∀ bs : List Bool, PyData.canLayAll0 (bs.map PyData.bool) = true ∧ PyData.depthAll (bs.map PyData.bool) = 0
  | [] => ⟨rfl, rfl⟩
  | b :: bs => by
    obtain ⟨h1, h2⟩ := shB bs
    simp [PyData.canLayAll0, PyData.canLay0, PyData.depthAll, PyData.depth, h1, h2]
/-- two lists of the same truths -/
theorem ne_bools {K : PySem.W.Frag} {H : Hp} {a b : Addr} {xs ys : List V} {bs : List Bool} {Q : VK} (ha : H a = some (.lst xs)) (hb : H b = some (.lst ys)) (ex : xs = bs.map V.bl) (ey : ys = bs.map V.bl) (q : Q (.bl false) H) : rNeD K (.ref a) (.ref b) H Q := by
  subst ex ey
  have sh : SeqAt.shaped (.list (bs.map PyData.bool)) = true := by
    unfold SeqAt.shaped
    obtain ⟨h1, h2⟩ := shB bs
    simp [PyData.canLay0, PyData.depth, h1, h2]
  refine ⟨.list (bs.map PyData.bool), .list (bs.map PyData.bool), .lst (SqL.of ha) (dpB bs), .lst (SqL.of hb) (dpB bs), sh, sh, ?_⟩
  have e : PyData.eqv (.list (bs.map PyData.bool)) (.list (bs.map PyData.bool)) = true := by
    simp [PyData.eqv, eqvB]
  rw [e]
  exact q
theorem dzRep {K : PySem.W.Frag} {H : Hp} {v : V} {d : PyData} (h : Dz K H v d) : ∀ n, DzAll K H (List.replicate n v) (List.replicate n d)
  | 0 => .nil
  | n + 1 => .cons h (dzRep h n)
theorem shz_rep {d : PyData} {n k : Nat} (h : ShZ d n k) : ∀ m, ShZAll (List.replicate m d) (m * (n + 2)) k
  | 0 => by
    have := ShZAll.nil (k := k)
    rw [Nat.zero_mul]
    exact this
  | m + 1 => by
    have := ShZAll.cons h (shz_rep h m)
    have e : (m + 1) * (n + 2) = n + 2 + m * (n + 2) := by rw [Nat.add_mul, Nat.one_mul, Nat.add_comm]
    rw [e]
    exact this
end XT
namespace XT
open PySem PySem.Spec PyProof.Rows L2
abbrev nLw : List Str := ["_law_script", "_law_stream_here", "_law_turn", "_law_value", "_law_spot", "_law_error", "_law_bases", "_law_limits", "_law_k"]
theorem scLw : FnScope nLw ["_law_script"] (defScope sLaw) := ⟨rfl, rfl, rfl, by decide +kernel, rfl, by decide +kernel, by decide +kernel⟩
theorem bVE : bootBuiltins "ValueError" = some (.type "ValueError") := by decide +kernel
theorem bLE : bootBuiltins "LookupError" = some (.type "LookupError") := by decide +kernel
section
variable {P : Program} {w : World} {K : PySem.W.Frag} {mg : Str → Option Value} {base : Heap} {cs : Nat → Addr} {cT : Addr}
structure Defs (P : Program) (w : World) (K : PySem.W.Frag) (mg : Str → Option Value) (base : Heap) (cs : Nat → Addr) : Prop where
  stream : DefR P w K mg base 5 "_law_stream" (spStream K)
  odd : DefR P w K mg base 5 "_law_odd" (spOdd K)
  made : DefR P w K mg base 5 "_law_made" (spMade cs)
  flags : DefR P w K mg base 5 "_law_flags" (spFlags cs)
  fields : DefR P w K mg base 5 "_law_fields" spFields
  sr : DefR P w K mg base 5 "_law_shared_right" spSr
def spLaw (K : PySem.W.Frag) : Sp := fun vs H Q _ => ∃ (a : Addr) (ns : List Int), vs = [.ref a] ∧ SqL K H a (ns.map V.int) ∧ ns.length ≤ 63 ∧ ∀ H', Q (.bl true) H'
theorem run_k01 {f : Addr} {fd : FuncData} {t1 t2 t3 t4 t5 : Tok} (B : Bl mg) (mR : mg "repr" = none) (mV : mg "ValueError" = none) (mL : mg "LookupError" = none) (g1 : mg "MAX_WIDTH" = some (.int 6 t1)) (g2 : mg "MAX_SIGNS" = some (.int 40 t2)) (g3 : mg "MAX_PATTERNS" = some (.int 6 t3)) (g4 : mg "MAX_EDITS" = some (.int 60 t4)) (g5 : mg "BATCH" = some (.int 20 t5))
    (N : Env01 P w K mg base cs cT) (F : Fun K "law" "law" sLaw f fd) (d : Defs P w K mg base cs) : RunC P w K mg base 6 f (spLaw K) := by
  refine run_law (k := 5) F scLw (fun _ _ _ _ _ _ _ => rfl) (fun cdv s H v Q hr h => ?_)
  obtain ⟨a0, ns, ev, hA, hlen, q⟩ := h
  cases ev
  have hun : (callerA.deeper (envOfC "law" (defScope sLaw) s.heap.objs.size f cdv)).units + 128 < cLine := by have := hr.un; omega
  have hgd : (callerA.deeper (envOfC "law" (defScope sLaw) s.heap.objs.size f cdv)).guards = some [] := rfl
  refine ⟨_, pss_cons (ps_set (i := 1) scLw.nd rfl (.inl rfl) (pe_def d.stream hr (by rfl) (pa_cons (pv 0) pa_nil)))
    (pss_cons (ps_for PassesOwn.never rfl (pi_range1 (by rfl) B.range (pa_cons pe_int pa_nil)) (pg_name (i := 2) scLw.nd rfl (.inl rfl))
      (pss_cons (ps_set (i := 3) scLw.nd rfl (.inl rfl) (pe_def d.odd hr (by rfl) (pa_cons (pv 1) pa_nil)))
      (pss_cons (ps_for PassesOwn.never rfl (pi_enum (by rfl) B.enumerate (pa_cons (pe_def d.made hr (by rfl) (pa_cons (pv 3) pa_nil)) pa_nil)) (pg_tup rfl (pgs_cons (pg_name (i := 4) scLw.nd rfl (.inr rfl)) (pgs_cons (pg_name (i := 5) scLw.nd rfl (.inl rfl)) pgs_nil)))
        (pss_cons (ps_set (i := 6) scLw.nd rfl (.inl rfl) (pe_lst (pa_cons (pe_callB call_isV (by rfl) B.isinstance bI (pa_cons (pv 5) (pa_cons (pe_glob (v := .ref cT) (by rfl) N.hT rfl) pa_nil))) (pa_cons (pe_callB call_isV (by rfl) B.isinstance bI (pa_cons (pv 5) (pa_cons (pe_bltn (v := .ty "ValueError") (by rfl) mV bVE rfl) pa_nil))) (pa_cons (pe_callB call_isV (by rfl) B.isinstance bI (pa_cons (pv 5) (pa_cons (pe_bltn (v := .ty "LookupError") (by rfl) mL bLE rfl) pa_nil))) pa_nil)))))
        (pss_one (ps_if (PW.pt (pw_or (pt_cmpR (op_neD hr.units) (pe_def d.flags hr (by rfl) (pa_cons (pv 5) pa_nil))
            (pe_lc (own := [("_law_k", 8)]) (g := gName 8) (tt := tYes) (te := tOp rEq (tVar 8) (tVar 4)) rfl scLw.nd (pi_range1 (by rfl) B.range (pa_cons pe_int pa_nil)) (blkOk_by (own := [("_law_k", 8)]) (N := nLw) (sc := defScope sLaw) (by decide +kernel))
              (fun _ _ _ _ _ => pg_name (i := 8) scLw.nd rfl (Or.inl rfl)) (fun _ _ _ _ _ => pts_nil) (fun _ _ _ _ _ => pe_cmpR op_eq (pv 8) (pv 4) (nomark _))) (nomark _))
          (pw_or1 (pt_cmpR (op_neD hr.units) (pv 6) (pe_lst (pa_cons (pe_cmpR op_lt (pv 4) pe_int (nomark _)) (pa_cons (pe_cmpR op_lt (pv 4) pe_int (nomark _)) (pa_cons (pe_cmpR op_gt (pv 4) pe_int (nomark _)) pa_nil)))) (nomark _))))) pss_never pss_nil))))
      (pss_one (ps_if (pt_cmpR op_ne (pe_callB (cr_reprZ hgd hun) (by rfl) mR boot_repr (pa_cons (pe_def d.fields hr (by rfl) (pa_cons (pv 3) pa_nil)) pa_nil)) (pe_callB (cr_reprZ hgd hun) (by rfl) mR boot_repr (pa_cons (pe_op op_repB (pe_lst (pa_cons (pv 3) pa_nil)) pe_int) pa_nil)) (nomark _)) pss_never pss_nil)))))
    (pss_cons (ps_set (i := 7) scLw.nd rfl (.inl rfl) (pe_lst (pa_cons (pe_glob (v := .int 6) (by rfl) g1 ⟨_, rfl⟩) (pa_cons (pe_glob (v := .int 40) (by rfl) g2 ⟨_, rfl⟩) (pa_cons (pe_glob (v := .int 6) (by rfl) g3 ⟨_, rfl⟩) (pa_cons (pe_glob (v := .int 60) (by rfl) g4 ⟨_, rfl⟩) (pa_cons (pe_glob (v := .int 20) (by rfl) g5 ⟨_, rfl⟩) pa_nil)))))))
    (pss_one (ps_ret (pe_and (pe_cmpR op_eq (pe_callB (cr_repr hgd hun) (by rfl) mR boot_repr (pa_cons (pv 7) pa_nil)) (pe_callB (cr_repr hgd hun) (by rfl) mR boot_repr (pa_cons (pe_lst (pa_cons pe_int (pa_cons pe_int (pa_cons pe_int (pa_cons pe_int (pa_cons pe_int pa_nil)))))) pa_nil)) (nomark _)) (pe_one (pe_def0 d.sr hr (by rfl)))))))), ?_⟩
  refine ⟨.ref a0, rfl, a0, ns, rfl, hA, hlen, fun H1 S s1 st1 => ?_⟩
  refine ⟨12, rfl, by decide, by decide, for_range (lo := 0) (n := 12) (fun i σ H' => ∃ (t : Int) (z2 z3 z4 z5 z6 : Option V), σ = [some (.ref a0), some (.ref S.s), z2, z3, z4, z5, z6, none, none] ∧ Strm S H' t ∧ t ≤ 10 * i) ⟨0, none, none, none, none, none, rfl, st1, by omega⟩ (fun i σ H2 hi h => ?_) (fun σ H2 h => ?_)⟩
  · obtain ⟨t, z2, z3, z4, z5, z6, rfl, st, ht⟩ := h
    refine ⟨.ref S.s, rfl, S, t, rfl, st, by omega, fun H3 v dd t3 s3 hv hodd => ?_⟩
    have hi3 := s3.hi
    have sh1 := shz_odd dd hodd
    refine ⟨v, rfl, v, rfl, fun H4 L rs s4 hL hlr hE => ?_⟩
    refine ⟨L, _, rfl, SqL.of hL, for_enumL (K := K) (xs := rs.map V.ref) (fun j σ H' => ∃ z4 z5 z6, σ = [some (.ref a0), some (.ref S.s), some (.int (0 + (i : Int))), some v, z4, z5, z6, none, none] ∧ Same H4 H') ⟨_, _, _, rfl, Same.refl _⟩ (fun j σ H' _ h => ?_) (fun j x σ H5 T hx h nT => ?_) (fun σ H5 h => ?_)⟩
    · obtain ⟨_, _, _, _, sm⟩ := h
      exact sm.seq (SqL.of hL)
    · obtain ⟨z4, z5, z6, rfl, sm⟩ := h
      rw [List.getElem?_map] at hx
      obtain ⟨r, hr1, rfl⟩ := Option.map_eq_some_iff.mp hx
      have hj : j < 21 := by
        have := (List.getElem?_eq_some_iff.mp hr1).1
        omega
      have sT := same_new (o := .tup [.int (j : Nat), .ref r]) nT
      have er := ((hE j r hr1).same sm).same sT
      have vc := N.vc j hj
      refine ⟨T, _, rfl, SqT.of upd_same, rfl, _, _, rfl, _, _, rfl, rfl, ?_⟩
      refine ⟨.ref r, rfl, r, cs j, .ref cT, .ref cT, _, rfl, er, vc, .own _, N.kT j hj, .ref r, rfl, r, cs j, .ty "ValueError", .type "ValueError", _, rfl, er, vc, .ty _, N.kV j hj, .ref r, rfl, r, cs j, .ty "LookupError", .type "LookupError", _, rfl, er, vc, .ty _, N.kL j hj, sz (n := 3) (by decide), fun A1 nA1 => ?_⟩
      have sA := same_new (o := .lst [.bl (decide (j < 18)), .bl (decide (j < 18)), .bl (decide (17 < j))]) nA1
      refine ⟨.ref r, rfl, r, j, rfl, hj, er.same sA, fun H6 F1 s6 hF => ?_⟩
      refine ⟨21, rfl, by decide, by decide, fun D nD => ?_⟩
      refine lcp_range (n := 21) (p := fun _ => true) (f := fun k => .bl (decide (V.int (k : Int) = V.int (j : Int)))) nD (small64 (by decide)) (fun k H7 hk s7 => ?_) (fun H7 s7 hD => ?_)
      · intro R1 R2 h1 h2
        refine ⟨rfl, iteT (B := R1 H7) ⟨_, rfl, _, rfl, rfl, ?_⟩⟩
        rw [Int.zero_add]
        exact h2 rfl _ (Same.refl _)
      · have dec : ∀ k : Nat, decide (V.int (k : Int) = V.int (j : Int)) = decide (k = j) := fun k => by
          rw [Bool.eq_iff_iff, decide_eq_true_iff, decide_eq_true_iff]
          exact ⟨fun h => by have := V.int.inj h; omega, fun h => by rw [h]⟩
        refine ne_bools (bs := (List.range 21).map fun k => decide (k = j)) (s7 _ _ hF) hD ?_ ?_ ⟨false, rfl, iteF ?_⟩
        · rw [List.map_map]
          rfl
        · rw [List.filter_eq_self.mpr (fun _ _ => rfl), List.map_map]
          exact List.map_congr_left fun k _ => congrArg V.bl (dec k)
        refine ⟨.ref A1, rfl, .int (j : Nat), rfl, j, 18, rfl, rfl, .int (j : Nat), rfl, j, 18, rfl, rfl, .int (j : Nat), rfl, j, 17, rfl, rfl, sz (n := 3) (by decide), fun A2 nA2 => ?_⟩
        have sA2 := same_new (o := .lst [.bl (decide ((j : Int) < 18)), .bl (decide ((j : Int) < 18)), .bl (decide (17 < (j : Int)))]) nA2
        have e1 : decide ((j : Int) < 18) = decide (j < 18) := by rw [Bool.eq_iff_iff, decide_eq_true_iff, decide_eq_true_iff]; omega
        have e2 : decide (17 < (j : Int)) = decide (17 < j) := by rw [Bool.eq_iff_iff, decide_eq_true_iff, decide_eq_true_iff]; omega
        refine ne_bools (bs := [decide (j < 18), decide (j < 18), decide (17 < j)]) (sA2 _ _ ((s6.trans s7) _ _ upd_same)) upd_same rfl (by show [V.bl (decide ((j : Int) < 18)), V.bl (decide ((j : Int) < 18)), V.bl (decide (17 < (j : Int)))] = _; rw [e1, e2]; rfl) ⟨false, rfl, iteF ?_⟩
        exact ⟨_, _, _, rfl, (((((sm.trans sT).trans sA).trans s6).trans s7).trans sA2)⟩
    · obtain ⟨z4, z5, z6, rfl, sm⟩ := h
      have hv5 := (hv.same s4).same sm
      have sR := (shz_rep sh1 16).list
      obtain ⟨txt, htxt⟩ : ∃ txt : Str, txt = (PyData.list (List.replicate 16 dd)).shown := ⟨_, rfl⟩
      refine ⟨v, rfl, v, rfl, fun H6 F1 s6 hF bF => ⟨F1, .list (List.replicate 16 dd), rfl, .lst (SqL.of hF) bF (dzRep (hv5.same s6) 16), Nat.le_trans sR.dep (by omega), sR.shw, sR.sz (by omega), ?_⟩⟩
      rw [← htxt]
      refine ⟨v, rfl, sz (n := 1) (by decide), fun A1 nA1 => ⟨A1, 16, _, rfl, rfl, upd_same, by decide, by decide, (by rw [sizeLine_eq]; show 1 * 16 ≤ 16777216; decide), fun R nR bR => ?_⟩⟩
      have sA := same_new (o := .lst [v]) nA1
      have sR2 := same_new (o := .lst (List.replicate (16 : Int).toNat [v]).flatten) nR
      refine ⟨R, .list (List.replicate 16 dd), rfl, .lst (SqL.of upd_same) bR (dzRep (((hv5.same s6).same sA).same sR2) 16), Nat.le_trans sR.dep (by omega), sR.shw, sR.sz (by omega), ?_⟩
      rw [← htxt]
      refine ⟨rfl, _, rfl, iteNS rfl ?_⟩
      exact ⟨t3, _, _, _, _, _, rfl, ((((s3.st.same s4).same sm).same s6).same sA).same sR2, by omega⟩
  · obtain ⟨t, z2, z3, z4, z5, z6, rfl, st, ht⟩ := h
    refine ⟨sz (n := 5) (by decide), fun A1 nA1 => ?_⟩
    have shI : Shw (.list [.int 6, .int 40, .int 6, .int 60, .int 20]) 1000 1 := ((shw_nats (ms := [6, 40, 6, 60, 20]) (by decide)).list).mono (by decide) (by decide)
    obtain ⟨txt, htxt⟩ : ∃ txt : Str, txt = (PyData.list [.int 6, .int 40, .int 6, .int 60, .int 20]).shown := ⟨_, rfl⟩
    refine ⟨.ref A1, rfl, A1, .list [.int 6, .int 40, .int 6, .int 60, .int 20], rfl, .lst (SqL.of upd_same) (.cons (.int _) (.cons (.int _) (.cons (.int _) (.cons (.int _) (.cons (.int _) .nil))))), shI.shaped (by omega), shI.shw, shI.sz (by omega), ?_⟩
    rw [← htxt]
    refine ⟨sz (n := 5) (by decide), fun A2 nA2 => ⟨A2, .list [.int 6, .int 40, .int 6, .int 60, .int 20], rfl, .lst (SqL.of upd_same) (.cons (.int _) (.cons (.int _) (.cons (.int _) (.cons (.int _) (.cons (.int _) .nil))))), shI.shaped (by omega), shI.shw, shI.sz (by omega), ?_⟩⟩
    rw [← htxt]
    refine ⟨rfl, true, ?_, iteT ⟨rfl, q⟩⟩
    exact congrArg V.bl (decide_eq_true rfl)
end
end XT
/-! from what k_is answers to what the classes must say -/
namespace XT
open PySem PySem.Spec PyProof.Rows L2
section
variable {K : PySem.W.Frag} {C D : Addr} {b : Bool}
theorem kit_ref (hd : PySem.W.hasDictIn K C = true) (ht : PySem.W.typeIn K (.ref C) = some (.type "type")) (hs : PySem.W.subIn K (.ref D) (.ref C) = some b) (hne : (Value.ref D == Value.ref C) = false) : PySem.W.kitOne K (.ref D) (.ref C) = some b := by
  obtain ⟨cd, hc, _⟩ := PySem.W.any_some hd
  have e2 : ((PySem.W.clsIn K C).isSome && PySem.W.typeIn K (.ref C) == some (.type "type")) = true := by rw [hc, ht] <;> rfl
  unfold PySem.W.kitOne PySem.W.kitCls
  rw [hne]
  show (if ((PySem.W.clsIn K C).isSome && PySem.W.typeIn K (.ref C) == some (.type "type")) = true then PySem.W.subIn K (.ref D) (.ref C) else none) = some b
  rw [if_pos e2]
  exact hs
theorem kit_bt {T : String} (hs : PySem.W.subIn K (.ref D) (.type T) = some b) (hm : PySem.W.kitMeta T = true) : PySem.W.kitOne K (.ref D) (.type T) = some b := by
  unfold PySem.W.kitOne PySem.W.kitCls
  rw [if_neg (by simp)]
  show (if PySem.W.kitMeta T = true then PySem.W.subIn K (.ref D) (.type T) else none) = some b
  rw [if_pos hm]
  exact hs
def strKey (e : DictEntry) : Bool := match e.key with | .str _ _ => true | _ => false
theorem nsOk_of {N : Addr} {oc : Value} {od : Option Addr} {es : Array DictEntry} {ep : Nat} {sl : Array (Option Value)} (l : K.lookup N = some ⟨oc, od, .dict es ep, sl⟩) (h : es.toList.all strKey = true) : PySem.W.nsOkIn K N = true := by
  unfold PySem.W.nsOkIn
  rw [l]
  rw [Array.all_toList] at h
  exact h
abbrev veTl : List Value := [.type "ValueError", .type "Exception", .type "BaseException", .type "object"]
theorem excIn_of {cN cT NSn NSt : Addr} {nm qn nt qt : Str} {bs sub bst subt mt : List Value} {hd hdt : Bool} {sn snt : List Str} {ab abt del : Bool} {col colt : Option Bool} {dd od : Option Addr} {q0 q1 q2 q3 q5 : Option Value} {oc : Value} {sl : Array (Option Value)}
    (lN : K.lookup cN = some (excClassObj nm qn cN NSn bs [.ref cT, .type "ValueError", .type "Exception", .type "BaseException", .type "object"] hd sn sub ab col dd q0 q1 q2 q3 q5 "ValueError.__new__")) (oN : PySem.W.nsOkIn K NSn = true) (iN : PySem.W.nsIn K NSn "__init__" = some none)
    (lT : K.lookup cT = some ⟨oc, od, .cls { name := nt, bases := bst, mro := mt, ns := NSt, qualname := qt, hasDict := hdt, slotNames := snt, subclasses := subt, abstract := abt, collection := colt, hasDel := del }, sl⟩) (oT : PySem.W.nsOkIn K NSt = true) (iT : PySem.W.nsIn K NSt "__init__" = some none) :
    PySem.W.excIn K cN [.type "ValueError", .type "Exception", .type "BaseException", .type "object"] "ValueError.__new__" = true := by
  have e1 : PySem.W.tailIn K veTl veTl = true := by
    unfold PySem.W.tailIn
    simp
  have e2 : PySem.W.tailIn K veTl (.ref cT :: veTl) = true := by
    unfold PySem.W.tailIn
    dsimp only
    rw [lT]
    simp [oT, iT, e1]
  unfold PySem.W.excIn
  rw [lN]
  simp [oN, iN, e2]
section
variable {nm q : Str} {N : Addr} {bs bm : List Value} {sn : List Str} {sub : List Value} {ab hd : Bool} {col : Option Bool} {dd : Option Addr} {k0 k1 k2 k3 k5 : Option Value} {newId : String}
theorem sub_of (o : K.lookup C = some (excClassObj nm q C N bs bm hd sn sub ab col dd k0 k1 k2 k3 k5 newId)) (x : Value) : PySem.W.subIn K (.ref C) x = some ((Value.ref C :: bm).contains x) := by
  have hcl : PySem.W.clsIn K C = some { name := nm, bases := bs, mro := .ref C :: bm, ns := N, qualname := q, hasDict := hd, slotNames := sn, subclasses := sub, abstract := ab, collection := col, hasDel := false } := by unfold PySem.W.clsIn; rw [o] <;> rfl
  show PySem.W.mroIn K C x = _
  unfold PySem.W.mroIn
  rw [hcl, Option.bind_some]
  rfl
theorem dict_of (o : K.lookup C = some (excClassObj nm q C N bs bm true sn sub ab col dd k0 k1 k2 k3 k5 newId)) : PySem.W.hasDictIn K C = true := by
  have hcl : PySem.W.clsIn K C = some { name := nm, bases := bs, mro := .ref C :: bm, ns := N, qualname := q, hasDict := true, slotNames := sn, subclasses := sub, abstract := ab, collection := col, hasDel := false } := by unfold PySem.W.clsIn; rw [o] <;> rfl
  unfold PySem.W.hasDictIn
  rw [hcl]
  rfl
theorem vc_of (o : K.lookup C = some (excClassObj nm q C N bs bm true sn sub ab col dd k0 k1 k2 k3 k5 newId)) (hb : (Value.ref C :: bm).contains (.type "BaseException") = true) (ho : (Value.ref C :: bm).contains (.type "object") = true)
    (ga : PySem.W.findIn K (.ref C) "__getattribute__" = some (some (.builtin "BaseException.__getattribute__"))) (gg : PySem.W.findIn K (.ref C) "__getattr__" = some none) (ha : PySem.W.findIn K (.ref C) "__class__" = some (some (.builtin "object.__class__")))
    (hn : PySem.W.specialIn K (.builtin "object.__class__") "__get__" = some (some (.builtin "getset_descriptor.__get__"))) (ht : PySem.W.takesIn K (.builtin "object.__class__") = some true) : VC K C :=
  ⟨ga, gg, by rw [sub_of o, hb], dict_of o, ha, hn, ht, by have := sub_of o (.type "object"); rw [ho] at this; exact this⟩
end
end
/-- what stands behind the i-th class -/
def bmOf (cT : Addr) (i : Nat) : List Value := if i < 18 then [.ref cT, .type "ValueError", .type "Exception", .type "BaseException", .type "object"] else [.type "LookupError", .type "Exception", .type "BaseException", .type "object"]
section
variable {K : PySem.W.Frag} {cs : Nat → Addr} {cT : Addr}
theorem kit_all (S : ∀ i, i < 21 → ∀ x, PySem.W.subIn K (.ref (cs i)) x = some ((Value.ref (cs i) :: bmOf cT i).contains x)) (hd : ∀ i, i < 21 → PySem.W.hasDictIn K (cs i) = true) (ty : ∀ i, i < 21 → PySem.W.typeIn K (.ref (cs i)) = some (.type "type"))
    (dst : ∀ i j, i < 21 → j < 21 → cs i = cs j → i = j) (nT : ∀ i, i < 21 → cs i ≠ cT) (i j : Nat) (hi : i < 21) (hj : j < 21) : PySem.W.kitOne K (.ref (cs i)) (.ref (cs j)) = some (decide (j = i)) := by
  by_cases e : j = i
  · subst e
    unfold PySem.W.kitOne
    rw [if_pos (by simp)]
    simp
  · have hne : cs i ≠ cs j := fun z => e (dst i j hi hj z).symm
    have h := S i hi (.ref (cs j))
    have c : (Value.ref (cs i) :: bmOf cT i).contains (.ref (cs j)) = false := by
      unfold bmOf
      split <;> simp [Ne.symm hne, nT j hj]
    rw [c] at h
    rw [decide_eq_false e]
    exact kit_ref (hd j hj) (ty j hj) h (by simpa using hne)
theorem kit_T (S : ∀ i, i < 21 → ∀ x, PySem.W.subIn K (.ref (cs i)) x = some ((Value.ref (cs i) :: bmOf cT i).contains x)) (hd : PySem.W.hasDictIn K cT = true) (ty : PySem.W.typeIn K (.ref cT) = some (.type "type")) (nT : ∀ i, i < 21 → cs i ≠ cT) (i : Nat) (hi : i < 21) :
    PySem.W.kitOne K (.ref (cs i)) (.ref cT) = some (decide (i < 18)) := by
  have h := S i hi (.ref cT)
  have c : (Value.ref (cs i) :: bmOf cT i).contains (.ref cT) = decide (i < 18) := by
    unfold bmOf
    by_cases e : i < 18
    · rw [if_pos e]; simp [e]
    · rw [if_neg e]; simp [e, Ne.symm (nT i hi)]
  rw [c] at h
  exact kit_ref hd ty h (by simpa using nT i hi)
theorem kit_V (S : ∀ i, i < 21 → ∀ x, PySem.W.subIn K (.ref (cs i)) x = some ((Value.ref (cs i) :: bmOf cT i).contains x)) (i : Nat) (hi : i < 21) : PySem.W.kitOne K (.ref (cs i)) (.type "ValueError") = some (decide (i < 18)) := by
  have h := S i hi (.type "ValueError")
  have c : (Value.ref (cs i) :: bmOf cT i).contains (.type "ValueError") = decide (i < 18) := by
    unfold bmOf
    by_cases e : i < 18
    · rw [if_pos e]; simp [e]
    · rw [if_neg e]; simp [e]
  rw [c] at h
  exact kit_bt h (by decide +kernel)
theorem kit_L (S : ∀ i, i < 21 → ∀ x, PySem.W.subIn K (.ref (cs i)) x = some ((Value.ref (cs i) :: bmOf cT i).contains x)) (i : Nat) (hi : i < 21) : PySem.W.kitOne K (.ref (cs i)) (.type "LookupError") = some (decide (17 < i)) := by
  have h := S i hi (.type "LookupError")
  have c : (Value.ref (cs i) :: bmOf cT i).contains (.type "LookupError") = decide (17 < i) := by
    unfold bmOf
    by_cases e : i < 18
    · rw [if_pos e, decide_eq_false (by omega)]; simp
    · rw [if_neg e, decide_eq_true (by omega)]; simp
  rw [c] at h
  exact kit_bt h (by decide +kernel)
theorem getD_at {l : List Addr} {i : Nat} (h : i < l.length) : l.getD i 0 = l[i] := by
  rw [List.getD_eq_getElem?_getD, List.getElem?_eq_getElem h]
  rfl
theorem cs_dst {l : List Addr} (h : (l ++ [cT]).Nodup) (hl : l.length = 21) (i j : Nat) (hi : i < 21) (hj : j < 21) (e : l.getD i 0 = l.getD j 0) : i = j := by
  have h1 : l.Nodup := (List.nodup_append.mp h).1
  have hi' : i < l.length := by omega
  have hj' : j < l.length := by omega
  rw [getD_at hi', getD_at hj'] at e
  rcases Nat.lt_trichotomy i j with z | z | z
  · exact absurd e (List.pairwise_iff_getElem.mp h1 i j hi' hj' z)
  · exact z
  · exact absurd e.symm (List.pairwise_iff_getElem.mp h1 j i hj' hi' z)
theorem cs_nT {l : List Addr} (h : (l ++ [cT]).Nodup) (hl : l.length = 21) (i : Nat) (hi : i < 21) : l.getD i 0 ≠ cT := by
  have hi' : i < l.length := by omega
  rw [getD_at hi']
  exact (List.nodup_append.mp h).2.2 _ (List.getElem_mem hi') _ List.mem_cons_self
end
end XT
namespace XT
open PySem PySem.Spec PyProof.Rows L2
/-! what the top has written -/
theorem all_mk {l : PySem.W.OpenLaw} {w : World} {K : PySem.W.Frag} {h : Heap} {mg : Str → Option Value} {fa : Addr} (X : K.In h) (G : h.Ns mainGlobals mg) (hfa : mg "law" = some (.ref fa))
    {f1 : Addr} {od1 an1 : Option Addr} {sl1 : Array (Option Value)} {oc1 kV1 dc1 pm1 cd1 ct1 : Value}
    (a1 : PySem.W.nsIn K mainGlobals "_law_stream" = some (some (.ref f1))) (l1 : K.lookup f1 = some ⟨oc1, od1, .func (PySem.W.fnOf "_law_stream" "_law_stream" (defArgs sStream) (defBody sStream) (defScope sStream) .none kV1 dc1 pm1 an1 cd1 ct1), sl1⟩) (c1 : PySem.W.codeIn K cd1 "_law_stream" = true) (k1 : PySem.W.keepIn K (.ref f1) = true)
    {f2 : Addr} {od2 an2 : Option Addr} {sl2 : Array (Option Value)} {oc2 kV2 dc2 pm2 cd2 ct2 : Value}
    (a2 : PySem.W.nsIn K mainGlobals "_law_draw" = some (some (.ref f2))) (l2 : K.lookup f2 = some ⟨oc2, od2, .func (PySem.W.fnOf "_law_draw" "_law_draw" (defArgs sDraw) (defBody sDraw) (defScope sDraw) .none kV2 dc2 pm2 an2 cd2 ct2), sl2⟩) (c2 : PySem.W.codeIn K cd2 "_law_draw" = true) (k2 : PySem.W.keepIn K (.ref f2) = true)
    {f3 : Addr} {od3 an3 : Option Addr} {sl3 : Array (Option Value)} {oc3 kV3 dc3 pm3 cd3 ct3 : Value}
    (a3 : PySem.W.nsIn K mainGlobals "_law_odd" = some (some (.ref f3))) (l3 : K.lookup f3 = some ⟨oc3, od3, .func (PySem.W.fnOf "_law_odd" "_law_odd" (defArgs sOdd) (defBody sOdd) (defScope sOdd) .none kV3 dc3 pm3 an3 cd3 ct3), sl3⟩) (c3 : PySem.W.codeIn K cd3 "_law_odd" = true) (k3 : PySem.W.keepIn K (.ref f3) = true)
    {f4 : Addr} {od4 an4 : Option Addr} {sl4 : Array (Option Value)} {oc4 kV4 dc4 pm4 cd4 ct4 : Value}
    (a4 : PySem.W.nsIn K mainGlobals "_law_made" = some (some (.ref f4))) (l4 : K.lookup f4 = some ⟨oc4, od4, .func (PySem.W.fnOf "_law_made" "_law_made" (defArgs sMade) (defBody sMade) (defScope sMade) .none kV4 dc4 pm4 an4 cd4 ct4), sl4⟩) (c4 : PySem.W.codeIn K cd4 "_law_made" = true) (k4 : PySem.W.keepIn K (.ref f4) = true)
    {f5 : Addr} {od5 an5 : Option Addr} {sl5 : Array (Option Value)} {oc5 kV5 dc5 pm5 cd5 ct5 : Value}
    (a5 : PySem.W.nsIn K mainGlobals "_law_flags" = some (some (.ref f5))) (l5 : K.lookup f5 = some ⟨oc5, od5, .func (PySem.W.fnOf "_law_flags" "_law_flags" (defArgs sFlags) (defBody sFlags) (defScope sFlags) .none kV5 dc5 pm5 an5 cd5 ct5), sl5⟩) (c5 : PySem.W.codeIn K cd5 "_law_flags" = true) (k5 : PySem.W.keepIn K (.ref f5) = true)
    {f6 : Addr} {od6 an6 : Option Addr} {sl6 : Array (Option Value)} {oc6 kV6 dc6 pm6 cd6 ct6 : Value}
    (a6 : PySem.W.nsIn K mainGlobals "_law_fields" = some (some (.ref f6))) (l6 : K.lookup f6 = some ⟨oc6, od6, .func (PySem.W.fnOf "_law_fields" "_law_fields" (defArgs sFields) (defBody sFields) (defScope sFields) .none kV6 dc6 pm6 an6 cd6 ct6), sl6⟩) (c6 : PySem.W.codeIn K cd6 "_law_fields" = true) (k6 : PySem.W.keepIn K (.ref f6) = true)
    {f7 : Addr} {od7 an7 : Option Addr} {sl7 : Array (Option Value)} {oc7 kV7 dc7 pm7 cd7 ct7 : Value}
    (a7 : PySem.W.nsIn K mainGlobals "_law_shared_right" = some (some (.ref f7))) (l7 : K.lookup f7 = some ⟨oc7, od7, .func (PySem.W.fnOf "_law_shared_right" "_law_shared_right" (defArgs sShR) (defBody sShR) (defScope sShR) .none kV7 dc7 pm7 an7 cd7 ct7), sl7⟩) (c7 : PySem.W.codeIn K cd7 "_law_shared_right" = true) (k7 : PySem.W.keepIn K (.ref f7) = true)
    {f8 : Addr} {od8 an8 : Option Addr} {sl8 : Array (Option Value)} {oc8 kV8 dc8 pm8 cd8 ct8 : Value}
    (a8 : PySem.W.nsIn K mainGlobals "law" = some (some (.ref f8))) (l8 : K.lookup f8 = some ⟨oc8, od8, .func (PySem.W.fnOf "law" "law" (defArgs sLaw) (defBody sLaw) (defScope sLaw) .none kV8 dc8 pm8 an8 cd8 ct8), sl8⟩) (c8 : PySem.W.codeIn K cd8 "law" = true) (k8 : PySem.W.keepIn K (.ref f8) = true)
    {tk1 : Tok} (w1 : PySem.W.nsIn K mainGlobals "MAX_WIDTH" = some (some (.int 6 tk1)))
    {tk2 : Tok} (w2 : PySem.W.nsIn K mainGlobals "MAX_SIGNS" = some (some (.int 40 tk2)))
    {tk3 : Tok} (w3 : PySem.W.nsIn K mainGlobals "MAX_PATTERNS" = some (some (.int 6 tk3)))
    {tk4 : Tok} (w4 : PySem.W.nsIn K mainGlobals "MAX_EDITS" = some (some (.int 60 tk4)))
    {tk5 : Tok} (w5 : PySem.W.nsIn K mainGlobals "BATCH" = some (some (.int 20 tk5)))
    {cT NT : Addr} {ocT : Value} {odT : Option Addr} {slT : Array (Option Value)} {nmT qnT : Str} {bsT subT mtT : List Value} {hdT abT delT : Bool} {snT : List Str} {colT : Option Bool} {ocTd : Value} {odTd : Option Addr} {esT : Array DictEntry} {epT : Nat} {slTd : Array (Option Value)} {gc0 N0 : Addr} {nm0 qn0 : Str} {bs0 sb0 : List Value} {sn0 : List Str} {ab0 : Bool} {co0 : Option Bool} {dd0 : Option Addr} {p0 q0 r0 s0 u0 : Option Value} {do0 : Value} {dp0 : Option Addr} {de0 : Array DictEntry} {dn0 : Nat} {ds0 : Array (Option Value)} {gc1 N1 : Addr} {nm1 qn1 : Str} {bs1 sb1 : List Value} {sn1 : List Str} {ab1 : Bool} {co1 : Option Bool} {dd1 : Option Addr} {p1 q1 r1 s1 u1 : Option Value} {fI1 : Addr} {io1 : Value} {id1 ia1 : Option Addr} {iV1 ic1 ip1 iv1 it1 : Value} {il1 : Array (Option Value)} {gc2 N2 : Addr} {nm2 qn2 : Str} {bs2 sb2 : List Value} {sn2 : List Str} {ab2 : Bool} {co2 : Option Bool} {dd2 : Option Addr} {p2 q2 r2 s2 u2 : Option Value} {fI2 : Addr} {io2 : Value} {id2 ia2 : Option Addr} {iV2 ic2 ip2 iv2 it2 : Value} {il2 : Array (Option Value)} {gc3 N3 : Addr} {nm3 qn3 : Str} {bs3 sb3 : List Value} {sn3 : List Str} {ab3 : Bool} {co3 : Option Bool} {dd3 : Option Addr} {p3 q3 r3 s3 u3 : Option Value} {fI3 : Addr} {io3 : Value} {id3 ia3 : Option Addr} {iV3 ic3 ip3 iv3 it3 : Value} {il3 : Array (Option Value)} {gc4 N4 : Addr} {nm4 qn4 : Str} {bs4 sb4 : List Value} {sn4 : List Str} {ab4 : Bool} {co4 : Option Bool} {dd4 : Option Addr} {p4 q4 r4 s4 u4 : Option Value} {do4 : Value} {dp4 : Option Addr} {de4 : Array DictEntry} {dn4 : Nat} {ds4 : Array (Option Value)} {gc5 N5 : Addr} {nm5 qn5 : Str} {bs5 sb5 : List Value} {sn5 : List Str} {ab5 : Bool} {co5 : Option Bool} {dd5 : Option Addr} {p5 q5 r5 s5 u5 : Option Value} {fI5 : Addr} {io5 : Value} {id5 ia5 : Option Addr} {iV5 ic5 ip5 iv5 it5 : Value} {il5 : Array (Option Value)} {gc6 N6 : Addr} {nm6 qn6 : Str} {bs6 sb6 : List Value} {sn6 : List Str} {ab6 : Bool} {co6 : Option Bool} {dd6 : Option Addr} {p6 q6 r6 s6 u6 : Option Value} {fI6 : Addr} {io6 : Value} {id6 ia6 : Option Addr} {iV6 ic6 ip6 iv6 it6 : Value} {il6 : Array (Option Value)} {gc7 N7 : Addr} {nm7 qn7 : Str} {bs7 sb7 : List Value} {sn7 : List Str} {ab7 : Bool} {co7 : Option Bool} {dd7 : Option Addr} {p7 q7 r7 s7 u7 : Option Value} {fI7 : Addr} {io7 : Value} {id7 ia7 : Option Addr} {iV7 ic7 ip7 iv7 it7 : Value} {il7 : Array (Option Value)} {gc8 N8 : Addr} {nm8 qn8 : Str} {bs8 sb8 : List Value} {sn8 : List Str} {ab8 : Bool} {co8 : Option Bool} {dd8 : Option Addr} {p8 q8 r8 s8 u8 : Option Value} {fI8 : Addr} {io8 : Value} {id8 ia8 : Option Addr} {iV8 ic8 ip8 iv8 it8 : Value} {il8 : Array (Option Value)} {gc9 N9 : Addr} {nm9 qn9 : Str} {bs9 sb9 : List Value} {sn9 : List Str} {ab9 : Bool} {co9 : Option Bool} {dd9 : Option Addr} {p9 q9 r9 s9 u9 : Option Value} {fI9 : Addr} {io9 : Value} {id9 ia9 : Option Addr} {iV9 ic9 ip9 iv9 it9 : Value} {il9 : Array (Option Value)} {gc10 N10 : Addr} {nm10 qn10 : Str} {bs10 sb10 : List Value} {sn10 : List Str} {ab10 : Bool} {co10 : Option Bool} {dd10 : Option Addr} {p10 q10 r10 s10 u10 : Option Value} {fI10 : Addr} {io10 : Value} {id10 ia10 : Option Addr} {iV10 ic10 ip10 iv10 it10 : Value} {il10 : Array (Option Value)} {gc11 N11 : Addr} {nm11 qn11 : Str} {bs11 sb11 : List Value} {sn11 : List Str} {ab11 : Bool} {co11 : Option Bool} {dd11 : Option Addr} {p11 q11 r11 s11 u11 : Option Value} {do11 : Value} {dp11 : Option Addr} {de11 : Array DictEntry} {dn11 : Nat} {ds11 : Array (Option Value)} {gc12 N12 : Addr} {nm12 qn12 : Str} {bs12 sb12 : List Value} {sn12 : List Str} {ab12 : Bool} {co12 : Option Bool} {dd12 : Option Addr} {p12 q12 r12 s12 u12 : Option Value} {do12 : Value} {dp12 : Option Addr} {de12 : Array DictEntry} {dn12 : Nat} {ds12 : Array (Option Value)} {gc13 N13 : Addr} {nm13 qn13 : Str} {bs13 sb13 : List Value} {sn13 : List Str} {ab13 : Bool} {co13 : Option Bool} {dd13 : Option Addr} {p13 q13 r13 s13 u13 : Option Value} {do13 : Value} {dp13 : Option Addr} {de13 : Array DictEntry} {dn13 : Nat} {ds13 : Array (Option Value)} {gc14 N14 : Addr} {nm14 qn14 : Str} {bs14 sb14 : List Value} {sn14 : List Str} {ab14 : Bool} {co14 : Option Bool} {dd14 : Option Addr} {p14 q14 r14 s14 u14 : Option Value} {fI14 : Addr} {io14 : Value} {id14 ia14 : Option Addr} {iV14 ic14 ip14 iv14 it14 : Value} {il14 : Array (Option Value)} {gc15 N15 : Addr} {nm15 qn15 : Str} {bs15 sb15 : List Value} {sn15 : List Str} {ab15 : Bool} {co15 : Option Bool} {dd15 : Option Addr} {p15 q15 r15 s15 u15 : Option Value} {fI15 : Addr} {io15 : Value} {id15 ia15 : Option Addr} {iV15 ic15 ip15 iv15 it15 : Value} {il15 : Array (Option Value)} {gc16 N16 : Addr} {nm16 qn16 : Str} {bs16 sb16 : List Value} {sn16 : List Str} {ab16 : Bool} {co16 : Option Bool} {dd16 : Option Addr} {p16 q16 r16 s16 u16 : Option Value} {do16 : Value} {dp16 : Option Addr} {de16 : Array DictEntry} {dn16 : Nat} {ds16 : Array (Option Value)} {gc17 N17 : Addr} {nm17 qn17 : Str} {bs17 sb17 : List Value} {sn17 : List Str} {ab17 : Bool} {co17 : Option Bool} {dd17 : Option Addr} {p17 q17 r17 s17 u17 : Option Value} {fI17 : Addr} {io17 : Value} {id17 ia17 : Option Addr} {iV17 ic17 ip17 iv17 it17 : Value} {il17 : Array (Option Value)} {gc18 N18 : Addr} {nm18 qn18 : Str} {bs18 sb18 : List Value} {sn18 : List Str} {ab18 : Bool} {co18 : Option Bool} {dd18 : Option Addr} {p18 q18 r18 s18 u18 : Option Value} {fI18 : Addr} {io18 : Value} {id18 ia18 : Option Addr} {iV18 ic18 ip18 iv18 it18 : Value} {il18 : Array (Option Value)} {gc19 N19 : Addr} {nm19 qn19 : Str} {bs19 sb19 : List Value} {sn19 : List Str} {ab19 : Bool} {co19 : Option Bool} {dd19 : Option Addr} {p19 q19 r19 s19 u19 : Option Value} {fI19 : Addr} {io19 : Value} {id19 ia19 : Option Addr} {iV19 ic19 ip19 iv19 it19 : Value} {il19 : Array (Option Value)} {gc20 N20 : Addr} {nm20 qn20 : Str} {bs20 sb20 : List Value} {sn20 : List Str} {ab20 : Bool} {co20 : Option Bool} {dd20 : Option Addr} {p20 q20 r20 s20 u20 : Option Value} {fI20 : Addr} {io20 : Value} {id20 ia20 : Option Addr} {iV20 ic20 ip20 iv20 it20 : Value} {il20 : Array (Option Value)}
    (xT : PySem.W.nsIn K mainGlobals "TurnError" = some (some (.ref cT)))
    (xTl : K.lookup cT = some ⟨ocT, odT, .cls { name := nmT, bases := bsT, mro := mtT, ns := NT, qualname := qnT, hasDict := hdT, slotNames := snT, subclasses := subT, abstract := abT, collection := colT, hasDel := delT }, slT⟩)
    (xTd : K.lookup NT = some ⟨ocTd, odTd, .dict esT epT, slTd⟩)
    (xTe : esT.toList.all strKey = true)
    (xTi : PySem.W.nsIn K NT "__init__" = some none)
    (xTt : PySem.W.typeIn K (.ref cT) = some (.type "type"))
    (xTh : PySem.W.hasDictIn K cT = true)
    (xhn : PySem.W.specialIn K (.builtin "object.__class__") "__get__" = some (some (.builtin "getset_descriptor.__get__")))
    (xht : PySem.W.takesIn K (.builtin "object.__class__") = some true)
    (n0_ : PySem.W.nsIn K mainGlobals "NoLots" = some (some (.ref gc0)))
    (o0_ : K.lookup gc0 = some (excClassObj nm0 qn0 gc0 N0 bs0 [.ref cT, .type "ValueError", .type "Exception", .type "BaseException", .type "object"] true sn0 sb0 ab0 co0 dd0 p0 q0 r0 s0 u0 "ValueError.__new__"))
    (ga0_ : PySem.W.findIn K (.ref gc0) "__getattribute__" = some (some (.builtin "BaseException.__getattribute__")))
    (gg0_ : PySem.W.findIn K (.ref gc0) "__getattr__" = some none)
    (ha0_ : PySem.W.findIn K (.ref gc0) "__class__" = some (some (.builtin "object.__class__")))
    (ty0_ : PySem.W.typeIn K (.ref gc0) = some (.type "type"))
    (kk0_ : PySem.W.keepIn K (.ref gc0) = true)
    (nd0_ : K.lookup N0 = some ⟨do0, dp0, .dict de0 dn0, ds0⟩)
    (ne0_ : de0.toList.all strKey = true)
    (ni0_ : PySem.W.nsIn K N0 "__init__" = some none)
    (n1_ : PySem.W.nsIn K mainGlobals "OtherWidth" = some (some (.ref gc1)))
    (o1_ : K.lookup gc1 = some (excClassObj nm1 qn1 gc1 N1 bs1 [.ref cT, .type "ValueError", .type "Exception", .type "BaseException", .type "object"] true sn1 sb1 ab1 co1 dd1 p1 q1 r1 s1 u1 "ValueError.__new__"))
    (ga1_ : PySem.W.findIn K (.ref gc1) "__getattribute__" = some (some (.builtin "BaseException.__getattribute__")))
    (gg1_ : PySem.W.findIn K (.ref gc1) "__getattr__" = some none)
    (ha1_ : PySem.W.findIn K (.ref gc1) "__class__" = some (some (.builtin "object.__class__")))
    (ty1_ : PySem.W.typeIn K (.ref gc1) = some (.type "type"))
    (kk1_ : PySem.W.keepIn K (.ref gc1) = true)
    (sa1_ : PySem.W.findIn K (.ref gc1) "__setattr__" = some (some (.builtin "object.__setattr__")))
    (ii1_ : PySem.W.findIn K (.ref gc1) "__init__" = some (some (.ref fI1)))
    (it1_ : PySem.W.typeIn K (.ref fI1) = some (.type "function"))
    (il1_ : K.lookup fI1 = some ⟨io1, id1, .func (PySem.W.fnOf "__init__" "OtherWidth.__init__" (defArgs sI1) (defBody sI1) (defScope sI1) .none iV1 ic1 ip1 ia1 iv1 it1), il1⟩)
    (ic1_ : PySem.W.codeIn K iv1 "OtherWidth.__init__" = true)
    (ik1_ : PySem.W.keepIn K (.ref fI1) = true)
    (no1_ : PySem.W.findIn K (.ref gc1) "index" = some none)
    (n2_ : PySem.W.nsIn K mainGlobals "NoProperty" = some (some (.ref gc2)))
    (o2_ : K.lookup gc2 = some (excClassObj nm2 qn2 gc2 N2 bs2 [.ref cT, .type "ValueError", .type "Exception", .type "BaseException", .type "object"] true sn2 sb2 ab2 co2 dd2 p2 q2 r2 s2 u2 "ValueError.__new__"))
    (ga2_ : PySem.W.findIn K (.ref gc2) "__getattribute__" = some (some (.builtin "BaseException.__getattribute__")))
    (gg2_ : PySem.W.findIn K (.ref gc2) "__getattr__" = some none)
    (ha2_ : PySem.W.findIn K (.ref gc2) "__class__" = some (some (.builtin "object.__class__")))
    (ty2_ : PySem.W.typeIn K (.ref gc2) = some (.type "type"))
    (kk2_ : PySem.W.keepIn K (.ref gc2) = true)
    (sa2_ : PySem.W.findIn K (.ref gc2) "__setattr__" = some (some (.builtin "object.__setattr__")))
    (ii2_ : PySem.W.findIn K (.ref gc2) "__init__" = some (some (.ref fI2)))
    (it2_ : PySem.W.typeIn K (.ref fI2) = some (.type "function"))
    (il2_ : K.lookup fI2 = some ⟨io2, id2, .func (PySem.W.fnOf "__init__" "NoProperty.__init__" (defArgs sI2) (defBody sI2) (defScope sI2) .none iV2 ic2 ip2 ia2 iv2 it2), il2⟩)
    (ic2_ : PySem.W.codeIn K iv2 "NoProperty.__init__" = true)
    (ik2_ : PySem.W.keepIn K (.ref fI2) = true)
    (no2_ : PySem.W.findIn K (.ref gc2) "name" = some none)
    (n3_ : PySem.W.nsIn K mainGlobals "BadWish" = some (some (.ref gc3)))
    (o3_ : K.lookup gc3 = some (excClassObj nm3 qn3 gc3 N3 bs3 [.ref cT, .type "ValueError", .type "Exception", .type "BaseException", .type "object"] true sn3 sb3 ab3 co3 dd3 p3 q3 r3 s3 u3 "ValueError.__new__"))
    (ga3_ : PySem.W.findIn K (.ref gc3) "__getattribute__" = some (some (.builtin "BaseException.__getattribute__")))
    (gg3_ : PySem.W.findIn K (.ref gc3) "__getattr__" = some none)
    (ha3_ : PySem.W.findIn K (.ref gc3) "__class__" = some (some (.builtin "object.__class__")))
    (ty3_ : PySem.W.typeIn K (.ref gc3) = some (.type "type"))
    (kk3_ : PySem.W.keepIn K (.ref gc3) = true)
    (sa3_ : PySem.W.findIn K (.ref gc3) "__setattr__" = some (some (.builtin "object.__setattr__")))
    (ii3_ : PySem.W.findIn K (.ref gc3) "__init__" = some (some (.ref fI3)))
    (it3_ : PySem.W.typeIn K (.ref fI3) = some (.type "function"))
    (il3_ : K.lookup fI3 = some ⟨io3, id3, .func (PySem.W.fnOf "__init__" "BadWish.__init__" (defArgs sI3) (defBody sI3) (defScope sI3) .none iV3 ic3 ip3 ia3 iv3 it3), il3⟩)
    (ic3_ : PySem.W.codeIn K iv3 "BadWish.__init__" = true)
    (ik3_ : PySem.W.keepIn K (.ref fI3) = true)
    (no3_ : PySem.W.findIn K (.ref gc3) "value" = some none)
    (n4_ : PySem.W.nsIn K mainGlobals "EmptyLot" = some (some (.ref gc4)))
    (o4_ : K.lookup gc4 = some (excClassObj nm4 qn4 gc4 N4 bs4 [.ref cT, .type "ValueError", .type "Exception", .type "BaseException", .type "object"] true sn4 sb4 ab4 co4 dd4 p4 q4 r4 s4 u4 "ValueError.__new__"))
    (ga4_ : PySem.W.findIn K (.ref gc4) "__getattribute__" = some (some (.builtin "BaseException.__getattribute__")))
    (gg4_ : PySem.W.findIn K (.ref gc4) "__getattr__" = some none)
    (ha4_ : PySem.W.findIn K (.ref gc4) "__class__" = some (some (.builtin "object.__class__")))
    (ty4_ : PySem.W.typeIn K (.ref gc4) = some (.type "type"))
    (kk4_ : PySem.W.keepIn K (.ref gc4) = true)
    (nd4_ : K.lookup N4 = some ⟨do4, dp4, .dict de4 dn4, ds4⟩)
    (ne4_ : de4.toList.all strKey = true)
    (ni4_ : PySem.W.nsIn K N4 "__init__" = some none)
    (n5_ : PySem.W.nsIn K mainGlobals "TooWide" = some (some (.ref gc5)))
    (o5_ : K.lookup gc5 = some (excClassObj nm5 qn5 gc5 N5 bs5 [.ref cT, .type "ValueError", .type "Exception", .type "BaseException", .type "object"] true sn5 sb5 ab5 co5 dd5 p5 q5 r5 s5 u5 "ValueError.__new__"))
    (ga5_ : PySem.W.findIn K (.ref gc5) "__getattribute__" = some (some (.builtin "BaseException.__getattribute__")))
    (gg5_ : PySem.W.findIn K (.ref gc5) "__getattr__" = some none)
    (ha5_ : PySem.W.findIn K (.ref gc5) "__class__" = some (some (.builtin "object.__class__")))
    (ty5_ : PySem.W.typeIn K (.ref gc5) = some (.type "type"))
    (kk5_ : PySem.W.keepIn K (.ref gc5) = true)
    (sa5_ : PySem.W.findIn K (.ref gc5) "__setattr__" = some (some (.builtin "object.__setattr__")))
    (ii5_ : PySem.W.findIn K (.ref gc5) "__init__" = some (some (.ref fI5)))
    (it5_ : PySem.W.typeIn K (.ref fI5) = some (.type "function"))
    (il5_ : K.lookup fI5 = some ⟨io5, id5, .func (PySem.W.fnOf "__init__" "TooWide.__init__" (defArgs sI5) (defBody sI5) (defScope sI5) .none iV5 ic5 ip5 ia5 iv5 it5), il5⟩)
    (ic5_ : PySem.W.codeIn K iv5 "TooWide.__init__" = true)
    (ik5_ : PySem.W.keepIn K (.ref fI5) = true)
    (no5_ : PySem.W.findIn K (.ref gc5) "limit" = some none)
    (n6_ : PySem.W.nsIn K mainGlobals "BadLot" = some (some (.ref gc6)))
    (o6_ : K.lookup gc6 = some (excClassObj nm6 qn6 gc6 N6 bs6 [.ref cT, .type "ValueError", .type "Exception", .type "BaseException", .type "object"] true sn6 sb6 ab6 co6 dd6 p6 q6 r6 s6 u6 "ValueError.__new__"))
    (ga6_ : PySem.W.findIn K (.ref gc6) "__getattribute__" = some (some (.builtin "BaseException.__getattribute__")))
    (gg6_ : PySem.W.findIn K (.ref gc6) "__getattr__" = some none)
    (ha6_ : PySem.W.findIn K (.ref gc6) "__class__" = some (some (.builtin "object.__class__")))
    (ty6_ : PySem.W.typeIn K (.ref gc6) = some (.type "type"))
    (kk6_ : PySem.W.keepIn K (.ref gc6) = true)
    (sa6_ : PySem.W.findIn K (.ref gc6) "__setattr__" = some (some (.builtin "object.__setattr__")))
    (ii6_ : PySem.W.findIn K (.ref gc6) "__init__" = some (some (.ref fI6)))
    (it6_ : PySem.W.typeIn K (.ref fI6) = some (.type "function"))
    (il6_ : K.lookup fI6 = some ⟨io6, id6, .func (PySem.W.fnOf "__init__" "BadLot.__init__" (defArgs sI6) (defBody sI6) (defScope sI6) .none iV6 ic6 ip6 ia6 iv6 it6), il6⟩)
    (ic6_ : PySem.W.codeIn K iv6 "BadLot.__init__" = true)
    (ik6_ : PySem.W.keepIn K (.ref fI6) = true)
    (no6_ : PySem.W.findIn K (.ref gc6) "error" = some none)
    (n7_ : PySem.W.nsIn K mainGlobals "BadWide" = some (some (.ref gc7)))
    (o7_ : K.lookup gc7 = some (excClassObj nm7 qn7 gc7 N7 bs7 [.ref cT, .type "ValueError", .type "Exception", .type "BaseException", .type "object"] true sn7 sb7 ab7 co7 dd7 p7 q7 r7 s7 u7 "ValueError.__new__"))
    (ga7_ : PySem.W.findIn K (.ref gc7) "__getattribute__" = some (some (.builtin "BaseException.__getattribute__")))
    (gg7_ : PySem.W.findIn K (.ref gc7) "__getattr__" = some none)
    (ha7_ : PySem.W.findIn K (.ref gc7) "__class__" = some (some (.builtin "object.__class__")))
    (ty7_ : PySem.W.typeIn K (.ref gc7) = some (.type "type"))
    (kk7_ : PySem.W.keepIn K (.ref gc7) = true)
    (sa7_ : PySem.W.findIn K (.ref gc7) "__setattr__" = some (some (.builtin "object.__setattr__")))
    (ii7_ : PySem.W.findIn K (.ref gc7) "__init__" = some (some (.ref fI7)))
    (it7_ : PySem.W.typeIn K (.ref fI7) = some (.type "function"))
    (il7_ : K.lookup fI7 = some ⟨io7, id7, .func (PySem.W.fnOf "__init__" "BadWide.__init__" (defArgs sI7) (defBody sI7) (defScope sI7) .none iV7 ic7 ip7 ia7 iv7 it7), il7⟩)
    (ic7_ : PySem.W.codeIn K iv7 "BadWide.__init__" = true)
    (ik7_ : PySem.W.keepIn K (.ref fI7) = true)
    (no7_ : PySem.W.findIn K (.ref gc7) "error" = some none)
    (n8_ : PySem.W.nsIn K mainGlobals "Present" = some (some (.ref gc8)))
    (o8_ : K.lookup gc8 = some (excClassObj nm8 qn8 gc8 N8 bs8 [.ref cT, .type "ValueError", .type "Exception", .type "BaseException", .type "object"] true sn8 sb8 ab8 co8 dd8 p8 q8 r8 s8 u8 "ValueError.__new__"))
    (ga8_ : PySem.W.findIn K (.ref gc8) "__getattribute__" = some (some (.builtin "BaseException.__getattribute__")))
    (gg8_ : PySem.W.findIn K (.ref gc8) "__getattr__" = some none)
    (ha8_ : PySem.W.findIn K (.ref gc8) "__class__" = some (some (.builtin "object.__class__")))
    (ty8_ : PySem.W.typeIn K (.ref gc8) = some (.type "type"))
    (kk8_ : PySem.W.keepIn K (.ref gc8) = true)
    (sa8_ : PySem.W.findIn K (.ref gc8) "__setattr__" = some (some (.builtin "object.__setattr__")))
    (ii8_ : PySem.W.findIn K (.ref gc8) "__init__" = some (some (.ref fI8)))
    (it8_ : PySem.W.typeIn K (.ref fI8) = some (.type "function"))
    (il8_ : K.lookup fI8 = some ⟨io8, id8, .func (PySem.W.fnOf "__init__" "Present.__init__" (defArgs sI8) (defBody sI8) (defScope sI8) .none iV8 ic8 ip8 ia8 iv8 it8), il8⟩)
    (ic8_ : PySem.W.codeIn K iv8 "Present.__init__" = true)
    (ik8_ : PySem.W.keepIn K (.ref fI8) = true)
    (no8_ : PySem.W.findIn K (.ref gc8) "mask" = some none)
    (n9_ : PySem.W.nsIn K mainGlobals "Missing" = some (some (.ref gc9)))
    (o9_ : K.lookup gc9 = some (excClassObj nm9 qn9 gc9 N9 bs9 [.ref cT, .type "ValueError", .type "Exception", .type "BaseException", .type "object"] true sn9 sb9 ab9 co9 dd9 p9 q9 r9 s9 u9 "ValueError.__new__"))
    (ga9_ : PySem.W.findIn K (.ref gc9) "__getattribute__" = some (some (.builtin "BaseException.__getattribute__")))
    (gg9_ : PySem.W.findIn K (.ref gc9) "__getattr__" = some none)
    (ha9_ : PySem.W.findIn K (.ref gc9) "__class__" = some (some (.builtin "object.__class__")))
    (ty9_ : PySem.W.typeIn K (.ref gc9) = some (.type "type"))
    (kk9_ : PySem.W.keepIn K (.ref gc9) = true)
    (sa9_ : PySem.W.findIn K (.ref gc9) "__setattr__" = some (some (.builtin "object.__setattr__")))
    (ii9_ : PySem.W.findIn K (.ref gc9) "__init__" = some (some (.ref fI9)))
    (it9_ : PySem.W.typeIn K (.ref fI9) = some (.type "function"))
    (il9_ : K.lookup fI9 = some ⟨io9, id9, .func (PySem.W.fnOf "__init__" "Missing.__init__" (defArgs sI9) (defBody sI9) (defScope sI9) .none iV9 ic9 ip9 ia9 iv9 it9), il9⟩)
    (ic9_ : PySem.W.codeIn K iv9 "Missing.__init__" = true)
    (ik9_ : PySem.W.keepIn K (.ref fI9) = true)
    (no9_ : PySem.W.findIn K (.ref gc9) "mask" = some none)
    (n10_ : PySem.W.nsIn K mainGlobals "TooNear" = some (some (.ref gc10)))
    (o10_ : K.lookup gc10 = some (excClassObj nm10 qn10 gc10 N10 bs10 [.ref cT, .type "ValueError", .type "Exception", .type "BaseException", .type "object"] true sn10 sb10 ab10 co10 dd10 p10 q10 r10 s10 u10 "ValueError.__new__"))
    (ga10_ : PySem.W.findIn K (.ref gc10) "__getattribute__" = some (some (.builtin "BaseException.__getattribute__")))
    (gg10_ : PySem.W.findIn K (.ref gc10) "__getattr__" = some none)
    (ha10_ : PySem.W.findIn K (.ref gc10) "__class__" = some (some (.builtin "object.__class__")))
    (ty10_ : PySem.W.typeIn K (.ref gc10) = some (.type "type"))
    (kk10_ : PySem.W.keepIn K (.ref gc10) = true)
    (sa10_ : PySem.W.findIn K (.ref gc10) "__setattr__" = some (some (.builtin "object.__setattr__")))
    (ii10_ : PySem.W.findIn K (.ref gc10) "__init__" = some (some (.ref fI10)))
    (it10_ : PySem.W.typeIn K (.ref fI10) = some (.type "function"))
    (il10_ : K.lookup fI10 = some ⟨io10, id10, .func (PySem.W.fnOf "__init__" "TooNear.__init__" (defArgs sI10) (defBody sI10) (defScope sI10) .none iV10 ic10 ip10 ia10 iv10 it10), il10⟩)
    (ic10_ : PySem.W.codeIn K iv10 "TooNear.__init__" = true)
    (ik10_ : PySem.W.keepIn K (.ref fI10) = true)
    (no10_ : PySem.W.findIn K (.ref gc10) "one" = some none)
    (np10_ : PySem.W.findIn K (.ref gc10) "other" = some none)
    (n11_ : PySem.W.nsIn K mainGlobals "TooManyEdits" = some (some (.ref gc11)))
    (o11_ : K.lookup gc11 = some (excClassObj nm11 qn11 gc11 N11 bs11 [.ref cT, .type "ValueError", .type "Exception", .type "BaseException", .type "object"] true sn11 sb11 ab11 co11 dd11 p11 q11 r11 s11 u11 "ValueError.__new__"))
    (ga11_ : PySem.W.findIn K (.ref gc11) "__getattribute__" = some (some (.builtin "BaseException.__getattribute__")))
    (gg11_ : PySem.W.findIn K (.ref gc11) "__getattr__" = some none)
    (ha11_ : PySem.W.findIn K (.ref gc11) "__class__" = some (some (.builtin "object.__class__")))
    (ty11_ : PySem.W.typeIn K (.ref gc11) = some (.type "type"))
    (kk11_ : PySem.W.keepIn K (.ref gc11) = true)
    (nd11_ : K.lookup N11 = some ⟨do11, dp11, .dict de11 dn11, ds11⟩)
    (ne11_ : de11.toList.all strKey = true)
    (ni11_ : PySem.W.nsIn K N11 "__init__" = some none)
    (n12_ : PySem.W.nsIn K mainGlobals "NothingToUndo" = some (some (.ref gc12)))
    (o12_ : K.lookup gc12 = some (excClassObj nm12 qn12 gc12 N12 bs12 [.ref cT, .type "ValueError", .type "Exception", .type "BaseException", .type "object"] true sn12 sb12 ab12 co12 dd12 p12 q12 r12 s12 u12 "ValueError.__new__"))
    (ga12_ : PySem.W.findIn K (.ref gc12) "__getattribute__" = some (some (.builtin "BaseException.__getattribute__")))
    (gg12_ : PySem.W.findIn K (.ref gc12) "__getattr__" = some none)
    (ha12_ : PySem.W.findIn K (.ref gc12) "__class__" = some (some (.builtin "object.__class__")))
    (ty12_ : PySem.W.typeIn K (.ref gc12) = some (.type "type"))
    (kk12_ : PySem.W.keepIn K (.ref gc12) = true)
    (nd12_ : K.lookup N12 = some ⟨do12, dp12, .dict de12 dn12, ds12⟩)
    (ne12_ : de12.toList.all strKey = true)
    (ni12_ : PySem.W.nsIn K N12 "__init__" = some none)
    (n13_ : PySem.W.nsIn K mainGlobals "BadEdits" = some (some (.ref gc13)))
    (o13_ : K.lookup gc13 = some (excClassObj nm13 qn13 gc13 N13 bs13 [.ref cT, .type "ValueError", .type "Exception", .type "BaseException", .type "object"] true sn13 sb13 ab13 co13 dd13 p13 q13 r13 s13 u13 "ValueError.__new__"))
    (ga13_ : PySem.W.findIn K (.ref gc13) "__getattribute__" = some (some (.builtin "BaseException.__getattribute__")))
    (gg13_ : PySem.W.findIn K (.ref gc13) "__getattr__" = some none)
    (ha13_ : PySem.W.findIn K (.ref gc13) "__class__" = some (some (.builtin "object.__class__")))
    (ty13_ : PySem.W.typeIn K (.ref gc13) = some (.type "type"))
    (kk13_ : PySem.W.keepIn K (.ref gc13) = true)
    (nd13_ : K.lookup N13 = some ⟨do13, dp13, .dict de13 dn13, ds13⟩)
    (ne13_ : de13.toList.all strKey = true)
    (ni13_ : PySem.W.nsIn K N13 "__init__" = some none)
    (n14_ : PySem.W.nsIn K mainGlobals "BadEdit" = some (some (.ref gc14)))
    (o14_ : K.lookup gc14 = some (excClassObj nm14 qn14 gc14 N14 bs14 [.ref cT, .type "ValueError", .type "Exception", .type "BaseException", .type "object"] true sn14 sb14 ab14 co14 dd14 p14 q14 r14 s14 u14 "ValueError.__new__"))
    (ga14_ : PySem.W.findIn K (.ref gc14) "__getattribute__" = some (some (.builtin "BaseException.__getattribute__")))
    (gg14_ : PySem.W.findIn K (.ref gc14) "__getattr__" = some none)
    (ha14_ : PySem.W.findIn K (.ref gc14) "__class__" = some (some (.builtin "object.__class__")))
    (ty14_ : PySem.W.typeIn K (.ref gc14) = some (.type "type"))
    (kk14_ : PySem.W.keepIn K (.ref gc14) = true)
    (sa14_ : PySem.W.findIn K (.ref gc14) "__setattr__" = some (some (.builtin "object.__setattr__")))
    (ii14_ : PySem.W.findIn K (.ref gc14) "__init__" = some (some (.ref fI14)))
    (it14_ : PySem.W.typeIn K (.ref fI14) = some (.type "function"))
    (il14_ : K.lookup fI14 = some ⟨io14, id14, .func (PySem.W.fnOf "__init__" "BadEdit.__init__" (defArgs sI14) (defBody sI14) (defScope sI14) .none iV14 ic14 ip14 ia14 iv14 it14), il14⟩)
    (ic14_ : PySem.W.codeIn K iv14 "BadEdit.__init__" = true)
    (ik14_ : PySem.W.keepIn K (.ref fI14) = true)
    (no14_ : PySem.W.findIn K (.ref gc14) "index" = some none)
    (n15_ : PySem.W.nsIn K mainGlobals "Rejected" = some (some (.ref gc15)))
    (o15_ : K.lookup gc15 = some (excClassObj nm15 qn15 gc15 N15 bs15 [.ref cT, .type "ValueError", .type "Exception", .type "BaseException", .type "object"] true sn15 sb15 ab15 co15 dd15 p15 q15 r15 s15 u15 "ValueError.__new__"))
    (ga15_ : PySem.W.findIn K (.ref gc15) "__getattribute__" = some (some (.builtin "BaseException.__getattribute__")))
    (gg15_ : PySem.W.findIn K (.ref gc15) "__getattr__" = some none)
    (ha15_ : PySem.W.findIn K (.ref gc15) "__class__" = some (some (.builtin "object.__class__")))
    (ty15_ : PySem.W.typeIn K (.ref gc15) = some (.type "type"))
    (kk15_ : PySem.W.keepIn K (.ref gc15) = true)
    (sa15_ : PySem.W.findIn K (.ref gc15) "__setattr__" = some (some (.builtin "object.__setattr__")))
    (ii15_ : PySem.W.findIn K (.ref gc15) "__init__" = some (some (.ref fI15)))
    (it15_ : PySem.W.typeIn K (.ref fI15) = some (.type "function"))
    (il15_ : K.lookup fI15 = some ⟨io15, id15, .func (PySem.W.fnOf "__init__" "Rejected.__init__" (defArgs sI15) (defBody sI15) (defScope sI15) .none iV15 ic15 ip15 ia15 iv15 it15), il15⟩)
    (ic15_ : PySem.W.codeIn K iv15 "Rejected.__init__" = true)
    (ik15_ : PySem.W.keepIn K (.ref fI15) = true)
    (no15_ : PySem.W.findIn K (.ref gc15) "index" = some none)
    (n16_ : PySem.W.nsIn K mainGlobals "Busy" = some (some (.ref gc16)))
    (o16_ : K.lookup gc16 = some (excClassObj nm16 qn16 gc16 N16 bs16 [.ref cT, .type "ValueError", .type "Exception", .type "BaseException", .type "object"] true sn16 sb16 ab16 co16 dd16 p16 q16 r16 s16 u16 "ValueError.__new__"))
    (ga16_ : PySem.W.findIn K (.ref gc16) "__getattribute__" = some (some (.builtin "BaseException.__getattribute__")))
    (gg16_ : PySem.W.findIn K (.ref gc16) "__getattr__" = some none)
    (ha16_ : PySem.W.findIn K (.ref gc16) "__class__" = some (some (.builtin "object.__class__")))
    (ty16_ : PySem.W.typeIn K (.ref gc16) = some (.type "type"))
    (kk16_ : PySem.W.keepIn K (.ref gc16) = true)
    (nd16_ : K.lookup N16 = some ⟨do16, dp16, .dict de16 dn16, ds16⟩)
    (ne16_ : de16.toList.all strKey = true)
    (ni16_ : PySem.W.nsIn K N16 "__init__" = some none)
    (n17_ : PySem.W.nsIn K mainGlobals "BadText" = some (some (.ref gc17)))
    (o17_ : K.lookup gc17 = some (excClassObj nm17 qn17 gc17 N17 bs17 [.ref cT, .type "ValueError", .type "Exception", .type "BaseException", .type "object"] true sn17 sb17 ab17 co17 dd17 p17 q17 r17 s17 u17 "ValueError.__new__"))
    (ga17_ : PySem.W.findIn K (.ref gc17) "__getattribute__" = some (some (.builtin "BaseException.__getattribute__")))
    (gg17_ : PySem.W.findIn K (.ref gc17) "__getattr__" = some none)
    (ha17_ : PySem.W.findIn K (.ref gc17) "__class__" = some (some (.builtin "object.__class__")))
    (ty17_ : PySem.W.typeIn K (.ref gc17) = some (.type "type"))
    (kk17_ : PySem.W.keepIn K (.ref gc17) = true)
    (sa17_ : PySem.W.findIn K (.ref gc17) "__setattr__" = some (some (.builtin "object.__setattr__")))
    (ii17_ : PySem.W.findIn K (.ref gc17) "__init__" = some (some (.ref fI17)))
    (it17_ : PySem.W.typeIn K (.ref fI17) = some (.type "function"))
    (il17_ : K.lookup fI17 = some ⟨io17, id17, .func (PySem.W.fnOf "__init__" "BadText.__init__" (defArgs sI17) (defBody sI17) (defScope sI17) .none iV17 ic17 ip17 ia17 iv17 it17), il17⟩)
    (ic17_ : PySem.W.codeIn K iv17 "BadText.__init__" = true)
    (ik17_ : PySem.W.keepIn K (.ref fI17) = true)
    (no17_ : PySem.W.findIn K (.ref gc17) "index" = some none)
    (n18_ : PySem.W.nsIn K mainGlobals "NoMask" = some (some (.ref gc18)))
    (o18_ : K.lookup gc18 = some (excClassObj nm18 qn18 gc18 N18 bs18 [.type "LookupError", .type "Exception", .type "BaseException", .type "object"] true sn18 sb18 ab18 co18 dd18 p18 q18 r18 s18 u18 "LookupError.__new__"))
    (ga18_ : PySem.W.findIn K (.ref gc18) "__getattribute__" = some (some (.builtin "BaseException.__getattribute__")))
    (gg18_ : PySem.W.findIn K (.ref gc18) "__getattr__" = some none)
    (ha18_ : PySem.W.findIn K (.ref gc18) "__class__" = some (some (.builtin "object.__class__")))
    (ty18_ : PySem.W.typeIn K (.ref gc18) = some (.type "type"))
    (kk18_ : PySem.W.keepIn K (.ref gc18) = true)
    (sa18_ : PySem.W.findIn K (.ref gc18) "__setattr__" = some (some (.builtin "object.__setattr__")))
    (ii18_ : PySem.W.findIn K (.ref gc18) "__init__" = some (some (.ref fI18)))
    (it18_ : PySem.W.typeIn K (.ref fI18) = some (.type "function"))
    (il18_ : K.lookup fI18 = some ⟨io18, id18, .func (PySem.W.fnOf "__init__" "NoMask.__init__" (defArgs sI18) (defBody sI18) (defScope sI18) .none iV18 ic18 ip18 ia18 iv18 it18), il18⟩)
    (ic18_ : PySem.W.codeIn K iv18 "NoMask.__init__" = true)
    (ik18_ : PySem.W.keepIn K (.ref fI18) = true)
    (no18_ : PySem.W.findIn K (.ref gc18) "value" = some none)
    (n19_ : PySem.W.nsIn K mainGlobals "NoIndex" = some (some (.ref gc19)))
    (o19_ : K.lookup gc19 = some (excClassObj nm19 qn19 gc19 N19 bs19 [.type "LookupError", .type "Exception", .type "BaseException", .type "object"] true sn19 sb19 ab19 co19 dd19 p19 q19 r19 s19 u19 "LookupError.__new__"))
    (ga19_ : PySem.W.findIn K (.ref gc19) "__getattribute__" = some (some (.builtin "BaseException.__getattribute__")))
    (gg19_ : PySem.W.findIn K (.ref gc19) "__getattr__" = some none)
    (ha19_ : PySem.W.findIn K (.ref gc19) "__class__" = some (some (.builtin "object.__class__")))
    (ty19_ : PySem.W.typeIn K (.ref gc19) = some (.type "type"))
    (kk19_ : PySem.W.keepIn K (.ref gc19) = true)
    (sa19_ : PySem.W.findIn K (.ref gc19) "__setattr__" = some (some (.builtin "object.__setattr__")))
    (ii19_ : PySem.W.findIn K (.ref gc19) "__init__" = some (some (.ref fI19)))
    (it19_ : PySem.W.typeIn K (.ref fI19) = some (.type "function"))
    (il19_ : K.lookup fI19 = some ⟨io19, id19, .func (PySem.W.fnOf "__init__" "NoIndex.__init__" (defArgs sI19) (defBody sI19) (defScope sI19) .none iV19 ic19 ip19 ia19 iv19 it19), il19⟩)
    (ic19_ : PySem.W.codeIn K iv19 "NoIndex.__init__" = true)
    (ik19_ : PySem.W.keepIn K (.ref fI19) = true)
    (no19_ : PySem.W.findIn K (.ref gc19) "value" = some none)
    (n20_ : PySem.W.nsIn K mainGlobals "NoVersion" = some (some (.ref gc20)))
    (o20_ : K.lookup gc20 = some (excClassObj nm20 qn20 gc20 N20 bs20 [.type "LookupError", .type "Exception", .type "BaseException", .type "object"] true sn20 sb20 ab20 co20 dd20 p20 q20 r20 s20 u20 "LookupError.__new__"))
    (ga20_ : PySem.W.findIn K (.ref gc20) "__getattribute__" = some (some (.builtin "BaseException.__getattribute__")))
    (gg20_ : PySem.W.findIn K (.ref gc20) "__getattr__" = some none)
    (ha20_ : PySem.W.findIn K (.ref gc20) "__class__" = some (some (.builtin "object.__class__")))
    (ty20_ : PySem.W.typeIn K (.ref gc20) = some (.type "type"))
    (kk20_ : PySem.W.keepIn K (.ref gc20) = true)
    (sa20_ : PySem.W.findIn K (.ref gc20) "__setattr__" = some (some (.builtin "object.__setattr__")))
    (ii20_ : PySem.W.findIn K (.ref gc20) "__init__" = some (some (.ref fI20)))
    (it20_ : PySem.W.typeIn K (.ref fI20) = some (.type "function"))
    (il20_ : K.lookup fI20 = some ⟨io20, id20, .func (PySem.W.fnOf "__init__" "NoVersion.__init__" (defArgs sI20) (defBody sI20) (defScope sI20) .none iV20 ic20 ip20 ia20 iv20 it20), il20⟩)
    (ic20_ : PySem.W.codeIn K iv20 "NoVersion.__init__" = true)
    (ik20_ : PySem.W.keepIn K (.ref fI20) = true)
    (no20_ : PySem.W.findIn K (.ref gc20) "value" = some none)
    (nod : ([gc0, gc1, gc2, gc3, gc4, gc5, gc6, gc7, gc8, gc9, gc10, gc11, gc12, gc13, gc14, gc15, gc16, gc17, gc18, gc19, gc20] ++ [cT]).Nodup)
    (y1 : PySem.W.nsIn K mainGlobals "repr" = some none)
    (y2 : PySem.W.nsIn K mainGlobals "ValueError" = some none)
    (y3 : PySem.W.nsIn K mainGlobals "LookupError" = some none)
    (z1 : PySem.W.nsIn K mainGlobals "len" = some none) (z2 : PySem.W.nsIn K mainGlobals "abs" = some none) (z3 : PySem.W.nsIn K mainGlobals "tuple" = some none) (z4 : PySem.W.nsIn K mainGlobals "sorted" = some none) (z5 : PySem.W.nsIn K mainGlobals "isinstance" = some none) (z6 : PySem.W.nsIn K mainGlobals "int" = some none) (z7 : PySem.W.nsIn K mainGlobals "bool" = some none) (z8 : PySem.W.nsIn K mainGlobals "set" = some none) (z9 : PySem.W.nsIn K mainGlobals "all" = some none) (z10 : PySem.W.nsIn K mainGlobals "range" = some none) (z11 : PySem.W.nsIn K mainGlobals "enumerate" = some none) :
    ∀ base : Heap, K.In base → base.Ns mainGlobals mg → RunC l.prog w K mg base 6 fa (spLaw K) := by
  cases hfa.symm.trans (PySem.W.mg_of X G a8)
  have F1 := fun_mk (st := sStream) l1 c1 k1
  have F2 := fun_mk (st := sDraw) l2 c2 k2
  have F3 := fun_mk (st := sOdd) l3 c3 k3
  have F4 := fun_mk (st := sMade) l4 c4 k4
  have F5 := fun_mk (st := sFlags) l5 c5 k5
  have F6 := fun_mk (st := sFields) l6 c6 k6
  have F7 := fun_mk (st := sShR) l7 c7 k7
  have F8 := fun_mk (st := sLaw) l8 c8 k8
  have b1 := F1.binds (ps := ["_law_script"]) fun _ _ _ _ _ _ us hl => match us, hl with | [_], _ => rfl
  have b2 := F2.binds (ps := ["_law_stream_here", "_law_many"]) fun _ _ _ _ _ _ us hl => match us, hl with | [_, _], _ => rfl
  have b3 := F3.binds (ps := ["_law_stream_here"]) fun _ _ _ _ _ _ us hl => match us, hl with | [_], _ => rfl
  have b4 := F4.binds (ps := ["_law_value"]) fun _ _ _ _ _ _ us hl => match us, hl with | [_], _ => rfl
  have b5 := F5.binds (ps := ["_law_error"]) fun _ _ _ _ _ _ us hl => match us, hl with | [_], _ => rfl
  have b6 := F6.binds (ps := ["_law_value"]) fun _ _ _ _ _ _ us hl => match us, hl with | [_], _ => rfl
  have B : Bl mg := ⟨PySem.W.mg_none_of X G z1, PySem.W.mg_none_of X G z2, PySem.W.mg_none_of X G z3, PySem.W.mg_none_of X G z4, PySem.W.mg_none_of X G z5, PySem.W.mg_none_of X G z6, PySem.W.mg_none_of X G z7, PySem.W.mg_none_of X G z8, PySem.W.mg_none_of X G z9, PySem.W.mg_none_of X G z10, PySem.W.mg_none_of X G z11⟩
  intro base _ _
  have v0 : VC K gc0 := vc_of o0_ (by simp) (by simp) ga0_ gg0_ ha0_ xhn xht
  have e0 : C0 K mg "NoLots" gc0 := ⟨v0, ⟨_, _, _, _, PySem.F.excBase_ValueError, excIn_of o0_ (nsOk_of nd0_ ne0_) ni0_ xTl (nsOk_of xTd xTe) xTi⟩, kk0_, (PySem.W.mg_of X G n0_)⟩
  have v1 : VC K gc1 := vc_of o1_ (by simp) (by simp) ga1_ gg1_ ha1_ xhn xht
  have T1 : OexG K gc1 := ⟨⟨_, _, _, _, _, _, _, _, _, _, _, _, _, _, _, _, _, _, _, PySem.F.excBase_ValueError, o1_, rfl, fun self => PySem.F.store_ValueError.passes self, by decide⟩, sa1_, v1.sb, ty1_, kk1_⟩
  have G1 := fun_mk (st := sI1) il1_ ic1_ ik1_
  have h1 := G1.binds (ps := ["self", "index"]) fun _ _ _ _ _ _ us hl => match us, hl with | [_, _], _ => rfl
  have e1 : C1 l.prog w K mg base "OtherWidth" "index" gc1 := ⟨v1, T1, no1_, ⟨fI1, _, _, ii1_, it1_, ok_i1 T1 no1_ G1, h1⟩, (PySem.W.mg_of X G n1_)⟩
  have v2 : VC K gc2 := vc_of o2_ (by simp) (by simp) ga2_ gg2_ ha2_ xhn xht
  have T2 : OexG K gc2 := ⟨⟨_, _, _, _, _, _, _, _, _, _, _, _, _, _, _, _, _, _, _, PySem.F.excBase_ValueError, o2_, rfl, fun self => PySem.F.store_ValueError.passes self, by decide⟩, sa2_, v2.sb, ty2_, kk2_⟩
  have G2 := fun_mk (st := sI2) il2_ ic2_ ik2_
  have h2 := G2.binds (ps := ["self", "name"]) fun _ _ _ _ _ _ us hl => match us, hl with | [_, _], _ => rfl
  have e2 : C1 l.prog w K mg base "NoProperty" "name" gc2 := ⟨v2, T2, no2_, ⟨fI2, _, _, ii2_, it2_, ok_i2 T2 no2_ G2, h2⟩, (PySem.W.mg_of X G n2_)⟩
  have v3 : VC K gc3 := vc_of o3_ (by simp) (by simp) ga3_ gg3_ ha3_ xhn xht
  have T3 : OexG K gc3 := ⟨⟨_, _, _, _, _, _, _, _, _, _, _, _, _, _, _, _, _, _, _, PySem.F.excBase_ValueError, o3_, rfl, fun self => PySem.F.store_ValueError.passes self, by decide⟩, sa3_, v3.sb, ty3_, kk3_⟩
  have G3 := fun_mk (st := sI3) il3_ ic3_ ik3_
  have h3 := G3.binds (ps := ["self", "value"]) fun _ _ _ _ _ _ us hl => match us, hl with | [_, _], _ => rfl
  have e3 : C1 l.prog w K mg base "BadWish" "value" gc3 := ⟨v3, T3, no3_, ⟨fI3, _, _, ii3_, it3_, ok_i3 T3 no3_ G3, h3⟩, (PySem.W.mg_of X G n3_)⟩
  have v4 : VC K gc4 := vc_of o4_ (by simp) (by simp) ga4_ gg4_ ha4_ xhn xht
  have e4 : C0 K mg "EmptyLot" gc4 := ⟨v4, ⟨_, _, _, _, PySem.F.excBase_ValueError, excIn_of o4_ (nsOk_of nd4_ ne4_) ni4_ xTl (nsOk_of xTd xTe) xTi⟩, kk4_, (PySem.W.mg_of X G n4_)⟩
  have v5 : VC K gc5 := vc_of o5_ (by simp) (by simp) ga5_ gg5_ ha5_ xhn xht
  have T5 : OexG K gc5 := ⟨⟨_, _, _, _, _, _, _, _, _, _, _, _, _, _, _, _, _, _, _, PySem.F.excBase_ValueError, o5_, rfl, fun self => PySem.F.store_ValueError.passes self, by decide⟩, sa5_, v5.sb, ty5_, kk5_⟩
  have G5 := fun_mk (st := sI5) il5_ ic5_ ik5_
  have h5 := G5.binds (ps := ["self", "limit"]) fun _ _ _ _ _ _ us hl => match us, hl with | [_, _], _ => rfl
  have e5 : C1 l.prog w K mg base "TooWide" "limit" gc5 := ⟨v5, T5, no5_, ⟨fI5, _, _, ii5_, it5_, ok_i5 T5 no5_ G5, h5⟩, (PySem.W.mg_of X G n5_)⟩
  have v6 : VC K gc6 := vc_of o6_ (by simp) (by simp) ga6_ gg6_ ha6_ xhn xht
  have T6 : OexG K gc6 := ⟨⟨_, _, _, _, _, _, _, _, _, _, _, _, _, _, _, _, _, _, _, PySem.F.excBase_ValueError, o6_, rfl, fun self => PySem.F.store_ValueError.passes self, by decide⟩, sa6_, v6.sb, ty6_, kk6_⟩
  have G6 := fun_mk (st := sI6) il6_ ic6_ ik6_
  have h6 := G6.binds (ps := ["self", "error"]) fun _ _ _ _ _ _ us hl => match us, hl with | [_, _], _ => rfl
  have e6 : C1 l.prog w K mg base "BadLot" "error" gc6 := ⟨v6, T6, no6_, ⟨fI6, _, _, ii6_, it6_, ok_i6 T6 no6_ G6, h6⟩, (PySem.W.mg_of X G n6_)⟩
  have v7 : VC K gc7 := vc_of o7_ (by simp) (by simp) ga7_ gg7_ ha7_ xhn xht
  have T7 : OexG K gc7 := ⟨⟨_, _, _, _, _, _, _, _, _, _, _, _, _, _, _, _, _, _, _, PySem.F.excBase_ValueError, o7_, rfl, fun self => PySem.F.store_ValueError.passes self, by decide⟩, sa7_, v7.sb, ty7_, kk7_⟩
  have G7 := fun_mk (st := sI7) il7_ ic7_ ik7_
  have h7 := G7.binds (ps := ["self", "error"]) fun _ _ _ _ _ _ us hl => match us, hl with | [_, _], _ => rfl
  have e7 : C1 l.prog w K mg base "BadWide" "error" gc7 := ⟨v7, T7, no7_, ⟨fI7, _, _, ii7_, it7_, ok_i7 T7 no7_ G7, h7⟩, (PySem.W.mg_of X G n7_)⟩
  have v8 : VC K gc8 := vc_of o8_ (by simp) (by simp) ga8_ gg8_ ha8_ xhn xht
  have T8 : OexG K gc8 := ⟨⟨_, _, _, _, _, _, _, _, _, _, _, _, _, _, _, _, _, _, _, PySem.F.excBase_ValueError, o8_, rfl, fun self => PySem.F.store_ValueError.passes self, by decide⟩, sa8_, v8.sb, ty8_, kk8_⟩
  have G8 := fun_mk (st := sI8) il8_ ic8_ ik8_
  have h8 := G8.binds (ps := ["self", "mask"]) fun _ _ _ _ _ _ us hl => match us, hl with | [_, _], _ => rfl
  have e8 : C1 l.prog w K mg base "Present" "mask" gc8 := ⟨v8, T8, no8_, ⟨fI8, _, _, ii8_, it8_, ok_i8 T8 no8_ G8, h8⟩, (PySem.W.mg_of X G n8_)⟩
  have v9 : VC K gc9 := vc_of o9_ (by simp) (by simp) ga9_ gg9_ ha9_ xhn xht
  have T9 : OexG K gc9 := ⟨⟨_, _, _, _, _, _, _, _, _, _, _, _, _, _, _, _, _, _, _, PySem.F.excBase_ValueError, o9_, rfl, fun self => PySem.F.store_ValueError.passes self, by decide⟩, sa9_, v9.sb, ty9_, kk9_⟩
  have G9 := fun_mk (st := sI9) il9_ ic9_ ik9_
  have h9 := G9.binds (ps := ["self", "mask"]) fun _ _ _ _ _ _ us hl => match us, hl with | [_, _], _ => rfl
  have e9 : C1 l.prog w K mg base "Missing" "mask" gc9 := ⟨v9, T9, no9_, ⟨fI9, _, _, ii9_, it9_, ok_i9 T9 no9_ G9, h9⟩, (PySem.W.mg_of X G n9_)⟩
  have v10 : VC K gc10 := vc_of o10_ (by simp) (by simp) ga10_ gg10_ ha10_ xhn xht
  have T10 : OexG K gc10 := ⟨⟨_, _, _, _, _, _, _, _, _, _, _, _, _, _, _, _, _, _, _, PySem.F.excBase_ValueError, o10_, rfl, fun self => PySem.F.store_ValueError.passes self, by decide⟩, sa10_, v10.sb, ty10_, kk10_⟩
  have G10 := fun_mk (st := sI10) il10_ ic10_ ik10_
  have h10 := G10.binds (ps := ["self", "one", "other"]) fun _ _ _ _ _ _ us hl => match us, hl with | [_, _, _], _ => rfl
  have U10 : OexC K gc10 := ⟨⟨_, _, _, _, _, _, _, _, _, _, _, _, _, _, _, o10_, rfl⟩, sa10_, v10.sb, ty10_, kk10_⟩
  have e10 : C2 l.prog w K mg base "TooNear" gc10 := ⟨v10, T10, no10_, np10_, ⟨fI10, _, _, ii10_, it10_, ok_i10 U10 no10_ np10_ G10, h10⟩, (PySem.W.mg_of X G n10_)⟩
  have v11 : VC K gc11 := vc_of o11_ (by simp) (by simp) ga11_ gg11_ ha11_ xhn xht
  have e11 : C0 K mg "TooManyEdits" gc11 := ⟨v11, ⟨_, _, _, _, PySem.F.excBase_ValueError, excIn_of o11_ (nsOk_of nd11_ ne11_) ni11_ xTl (nsOk_of xTd xTe) xTi⟩, kk11_, (PySem.W.mg_of X G n11_)⟩
  have v12 : VC K gc12 := vc_of o12_ (by simp) (by simp) ga12_ gg12_ ha12_ xhn xht
  have e12 : C0 K mg "NothingToUndo" gc12 := ⟨v12, ⟨_, _, _, _, PySem.F.excBase_ValueError, excIn_of o12_ (nsOk_of nd12_ ne12_) ni12_ xTl (nsOk_of xTd xTe) xTi⟩, kk12_, (PySem.W.mg_of X G n12_)⟩
  have v13 : VC K gc13 := vc_of o13_ (by simp) (by simp) ga13_ gg13_ ha13_ xhn xht
  have e13 : C0 K mg "BadEdits" gc13 := ⟨v13, ⟨_, _, _, _, PySem.F.excBase_ValueError, excIn_of o13_ (nsOk_of nd13_ ne13_) ni13_ xTl (nsOk_of xTd xTe) xTi⟩, kk13_, (PySem.W.mg_of X G n13_)⟩
  have v14 : VC K gc14 := vc_of o14_ (by simp) (by simp) ga14_ gg14_ ha14_ xhn xht
  have T14 : OexG K gc14 := ⟨⟨_, _, _, _, _, _, _, _, _, _, _, _, _, _, _, _, _, _, _, PySem.F.excBase_ValueError, o14_, rfl, fun self => PySem.F.store_ValueError.passes self, by decide⟩, sa14_, v14.sb, ty14_, kk14_⟩
  have G14 := fun_mk (st := sI14) il14_ ic14_ ik14_
  have h14 := G14.binds (ps := ["self", "index"]) fun _ _ _ _ _ _ us hl => match us, hl with | [_, _], _ => rfl
  have e14 : C1 l.prog w K mg base "BadEdit" "index" gc14 := ⟨v14, T14, no14_, ⟨fI14, _, _, ii14_, it14_, ok_i14 T14 no14_ G14, h14⟩, (PySem.W.mg_of X G n14_)⟩
  have v15 : VC K gc15 := vc_of o15_ (by simp) (by simp) ga15_ gg15_ ha15_ xhn xht
  have T15 : OexG K gc15 := ⟨⟨_, _, _, _, _, _, _, _, _, _, _, _, _, _, _, _, _, _, _, PySem.F.excBase_ValueError, o15_, rfl, fun self => PySem.F.store_ValueError.passes self, by decide⟩, sa15_, v15.sb, ty15_, kk15_⟩
  have G15 := fun_mk (st := sI15) il15_ ic15_ ik15_
  have h15 := G15.binds (ps := ["self", "index"]) fun _ _ _ _ _ _ us hl => match us, hl with | [_, _], _ => rfl
  have e15 : C1 l.prog w K mg base "Rejected" "index" gc15 := ⟨v15, T15, no15_, ⟨fI15, _, _, ii15_, it15_, ok_i15 T15 no15_ G15, h15⟩, (PySem.W.mg_of X G n15_)⟩
  have v16 : VC K gc16 := vc_of o16_ (by simp) (by simp) ga16_ gg16_ ha16_ xhn xht
  have e16 : C0 K mg "Busy" gc16 := ⟨v16, ⟨_, _, _, _, PySem.F.excBase_ValueError, excIn_of o16_ (nsOk_of nd16_ ne16_) ni16_ xTl (nsOk_of xTd xTe) xTi⟩, kk16_, (PySem.W.mg_of X G n16_)⟩
  have v17 : VC K gc17 := vc_of o17_ (by simp) (by simp) ga17_ gg17_ ha17_ xhn xht
  have T17 : OexG K gc17 := ⟨⟨_, _, _, _, _, _, _, _, _, _, _, _, _, _, _, _, _, _, _, PySem.F.excBase_ValueError, o17_, rfl, fun self => PySem.F.store_ValueError.passes self, by decide⟩, sa17_, v17.sb, ty17_, kk17_⟩
  have G17 := fun_mk (st := sI17) il17_ ic17_ ik17_
  have h17 := G17.binds (ps := ["self", "index"]) fun _ _ _ _ _ _ us hl => match us, hl with | [_, _], _ => rfl
  have e17 : C1 l.prog w K mg base "BadText" "index" gc17 := ⟨v17, T17, no17_, ⟨fI17, _, _, ii17_, it17_, ok_i17 T17 no17_ G17, h17⟩, (PySem.W.mg_of X G n17_)⟩
  have v18 : VC K gc18 := vc_of o18_ (by simp) (by simp) ga18_ gg18_ ha18_ xhn xht
  have T18 : OexG K gc18 := ⟨⟨_, _, _, _, _, _, _, _, _, _, _, _, _, _, _, _, _, _, _, PySem.F.excBase_LookupError, o18_, rfl, fun self => PySem.F.store_LookupError.passes self, by decide⟩, sa18_, v18.sb, ty18_, kk18_⟩
  have G18 := fun_mk (st := sI18) il18_ ic18_ ik18_
  have h18 := G18.binds (ps := ["self", "value"]) fun _ _ _ _ _ _ us hl => match us, hl with | [_, _], _ => rfl
  have e18 : C1 l.prog w K mg base "NoMask" "value" gc18 := ⟨v18, T18, no18_, ⟨fI18, _, _, ii18_, it18_, ok_i18 T18 no18_ G18, h18⟩, (PySem.W.mg_of X G n18_)⟩
  have v19 : VC K gc19 := vc_of o19_ (by simp) (by simp) ga19_ gg19_ ha19_ xhn xht
  have T19 : OexG K gc19 := ⟨⟨_, _, _, _, _, _, _, _, _, _, _, _, _, _, _, _, _, _, _, PySem.F.excBase_LookupError, o19_, rfl, fun self => PySem.F.store_LookupError.passes self, by decide⟩, sa19_, v19.sb, ty19_, kk19_⟩
  have G19 := fun_mk (st := sI19) il19_ ic19_ ik19_
  have h19 := G19.binds (ps := ["self", "value"]) fun _ _ _ _ _ _ us hl => match us, hl with | [_, _], _ => rfl
  have e19 : C1 l.prog w K mg base "NoIndex" "value" gc19 := ⟨v19, T19, no19_, ⟨fI19, _, _, ii19_, it19_, ok_i19 T19 no19_ G19, h19⟩, (PySem.W.mg_of X G n19_)⟩
  have v20 : VC K gc20 := vc_of o20_ (by simp) (by simp) ga20_ gg20_ ha20_ xhn xht
  have T20 : OexG K gc20 := ⟨⟨_, _, _, _, _, _, _, _, _, _, _, _, _, _, _, _, _, _, _, PySem.F.excBase_LookupError, o20_, rfl, fun self => PySem.F.store_LookupError.passes self, by decide⟩, sa20_, v20.sb, ty20_, kk20_⟩
  have G20 := fun_mk (st := sI20) il20_ ic20_ ik20_
  have h20 := G20.binds (ps := ["self", "value"]) fun _ _ _ _ _ _ us hl => match us, hl with | [_, _], _ => rfl
  have e20 : C1 l.prog w K mg base "NoVersion" "value" gc20 := ⟨v20, T20, no20_, ⟨fI20, _, _, ii20_, it20_, ok_i20 T20 no20_ G20, h20⟩, (PySem.W.mg_of X G n20_)⟩
  let cs : Nat → Addr := fun i => ([gc0, gc1, gc2, gc3, gc4, gc5, gc6, gc7, gc8, gc9, gc10, gc11, gc12, gc13, gc14, gc15, gc16, gc17, gc18, gc19, gc20]).getD i 0
  have hS : ∀ i, i < 21 → ∀ x, PySem.W.subIn K (.ref (cs i)) x = some ((Value.ref (cs i) :: bmOf cT i).contains x) := fun i hi => match i, hi with | 0, _ => sub_of o0_ | 1, _ => sub_of o1_ | 2, _ => sub_of o2_ | 3, _ => sub_of o3_ | 4, _ => sub_of o4_ | 5, _ => sub_of o5_ | 6, _ => sub_of o6_ | 7, _ => sub_of o7_ | 8, _ => sub_of o8_ | 9, _ => sub_of o9_ | 10, _ => sub_of o10_ | 11, _ => sub_of o11_ | 12, _ => sub_of o12_ | 13, _ => sub_of o13_ | 14, _ => sub_of o14_ | 15, _ => sub_of o15_ | 16, _ => sub_of o16_ | 17, _ => sub_of o17_ | 18, _ => sub_of o18_ | 19, _ => sub_of o19_ | 20, _ => sub_of o20_ | i + 21, h => absurd h (by omega)
  have hD : ∀ i, i < 21 → PySem.W.hasDictIn K (cs i) = true := fun i hi => match i, hi with | 0, _ => dict_of o0_ | 1, _ => dict_of o1_ | 2, _ => dict_of o2_ | 3, _ => dict_of o3_ | 4, _ => dict_of o4_ | 5, _ => dict_of o5_ | 6, _ => dict_of o6_ | 7, _ => dict_of o7_ | 8, _ => dict_of o8_ | 9, _ => dict_of o9_ | 10, _ => dict_of o10_ | 11, _ => dict_of o11_ | 12, _ => dict_of o12_ | 13, _ => dict_of o13_ | 14, _ => dict_of o14_ | 15, _ => dict_of o15_ | 16, _ => dict_of o16_ | 17, _ => dict_of o17_ | 18, _ => dict_of o18_ | 19, _ => dict_of o19_ | 20, _ => dict_of o20_ | i + 21, h => absurd h (by omega)
  have hY : ∀ i, i < 21 → PySem.W.typeIn K (.ref (cs i)) = some (.type "type") := fun i hi => match i, hi with | 0, _ => ty0_ | 1, _ => ty1_ | 2, _ => ty2_ | 3, _ => ty3_ | 4, _ => ty4_ | 5, _ => ty5_ | 6, _ => ty6_ | 7, _ => ty7_ | 8, _ => ty8_ | 9, _ => ty9_ | 10, _ => ty10_ | 11, _ => ty11_ | 12, _ => ty12_ | 13, _ => ty13_ | 14, _ => ty14_ | 15, _ => ty15_ | 16, _ => ty16_ | 17, _ => ty17_ | 18, _ => ty18_ | 19, _ => ty19_ | 20, _ => ty20_ | i + 21, h => absurd h (by omega)
  have hv : ∀ i, i < 21 → VC K (cs i) := fun i hi => match i, hi with | 0, _ => v0 | 1, _ => v1 | 2, _ => v2 | 3, _ => v3 | 4, _ => v4 | 5, _ => v5 | 6, _ => v6 | 7, _ => v7 | 8, _ => v8 | 9, _ => v9 | 10, _ => v10 | 11, _ => v11 | 12, _ => v12 | 13, _ => v13 | 14, _ => v14 | 15, _ => v15 | 16, _ => v16 | 17, _ => v17 | 18, _ => v18 | 19, _ => v19 | 20, _ => v20 | i + 21, h => absurd h (by omega)
  have dst : ∀ i j, i < 21 → j < 21 → cs i = cs j → i = j := cs_dst nod rfl
  have nT : ∀ i, i < 21 → cs i ≠ cT := cs_nT nod rfl
  have Nv : Env01 l.prog w K mg base cs cT := ⟨e0, e1, e2, e3, e4, e5, e6, e7, e8, e9, e10, e11, e12, e13, e14, e15, e16, e17, e18, e19, e20, hv, kit_all hS hD hY dst nT, (PySem.W.mg_of X G xT), kit_T hS xTh xTt nT, kit_V hS, kit_L hS⟩
  have dD1 : DefR l.prog w K mg base 1 "_law_draw" spDrawN := drawN (.of (ok_draw F2 B.len) b2 (PySem.W.mg_of X G a2) k2)
  have dF : DefR l.prog w K mg base 3 "_law_fields" spFields := .of (ok_fields Nv F6) b6 (PySem.W.mg_of X G a6) k6
  have bS := F7.binds (ps := []) fun _ _ _ _ _ _ us hl => match us, hl with | [], _ => rfl
  exact run_k01 B (PySem.W.mg_none_of X G y1) (PySem.W.mg_none_of X G y2) (PySem.W.mg_none_of X G y3) (PySem.W.mg_of X G w1) (PySem.W.mg_of X G w2) (PySem.W.mg_of X G w3) (PySem.W.mg_of X G w4) (PySem.W.mg_of X G w5) Nv F8 ⟨.of (ok_stream F1 B.len B.abs) b1 (PySem.W.mg_of X G a1) k1, .of (ok_odd F3 dD1) b3 (PySem.W.mg_of X G a3) k3, .of (ok_made Nv F4) b4 (PySem.W.mg_of X G a4) k4, .of (ok_flags B Nv F5) b5 (PySem.W.mg_of X G a5) k5, .of (ok_fields Nv F6) b6 (PySem.W.mg_of X G a6) k6, .of (ok_sr F7 dF) bS (PySem.W.mg_of X G a7) k7⟩
end XT
open PySem PySem.W PyProof.Rows
set_option maxHeartbeats 0 in
theorem PySem.Challenge.cw_xorturns_k01_bounds_and_errors_holds : PySem.Challenge.rw_xorturns_k01_bounds_and_errors.Holds := by
  w_on; o_law; k_head; (case hw => w_witness2)
  k_fill
  refine XT.walk_ofC (l := PySem.Challenge.rw_xorturns_k01_bounds_and_errors) (n := 63) (k := 6) (sp := fun w => XT.spLaw _) rfl (by decide) rfl ⟨rfl, by decide, by decide⟩ (fun w h Y => PySem.W.kIn_of Y) ?F (fun _ _ a ns hl hS => ⟨a, ns, rfl, hS, hl, fun _ => rfl⟩)
  case F =>
    intro w mg fa h KX G hmg
    refine' XT.all_mk KX G hmg ?a1 ?l1 ?c1 ?k1 ?a2 ?l2 ?c2 ?k2 ?a3 ?l3 ?c3 ?k3 ?a4 ?l4 ?c4 ?k4 ?a5 ?l5 ?c5 ?k5 ?a6 ?l6 ?c6 ?k6 ?a7 ?l7 ?c7 ?k7 ?a8 ?l8 ?c8 ?k8 ?w1 ?w2 ?w3 ?w4 ?w5 ?xT ?xTl ?xTd ?xTe ?xTi ?xTt ?xTh ?xhn ?xht ?n0_ ?o0_ ?ga0_ ?gg0_ ?ha0_ ?ty0_ ?kk0_ ?nd0_ ?ne0_ ?ni0_ ?n1_ ?o1_ ?ga1_ ?gg1_ ?ha1_ ?ty1_ ?kk1_ ?sa1_ ?ii1_ ?it1_ ?il1_ ?ic1_ ?ik1_ ?no1_ ?n2_ ?o2_ ?ga2_ ?gg2_ ?ha2_ ?ty2_ ?kk2_ ?sa2_ ?ii2_ ?it2_ ?il2_ ?ic2_ ?ik2_ ?no2_ ?n3_ ?o3_ ?ga3_ ?gg3_ ?ha3_ ?ty3_ ?kk3_ ?sa3_ ?ii3_ ?it3_ ?il3_ ?ic3_ ?ik3_ ?no3_ ?n4_ ?o4_ ?ga4_ ?gg4_ ?ha4_ ?ty4_ ?kk4_ ?nd4_ ?ne4_ ?ni4_ ?n5_ ?o5_ ?ga5_ ?gg5_ ?ha5_ ?ty5_ ?kk5_ ?sa5_ ?ii5_ ?it5_ ?il5_ ?ic5_ ?ik5_ ?no5_ ?n6_ ?o6_ ?ga6_ ?gg6_ ?ha6_ ?ty6_ ?kk6_ ?sa6_ ?ii6_ ?it6_ ?il6_ ?ic6_ ?ik6_ ?no6_ ?n7_ ?o7_ ?ga7_ ?gg7_ ?ha7_ ?ty7_ ?kk7_ ?sa7_ ?ii7_ ?it7_ ?il7_ ?ic7_ ?ik7_ ?no7_ ?n8_ ?o8_ ?ga8_ ?gg8_ ?ha8_ ?ty8_ ?kk8_ ?sa8_ ?ii8_ ?it8_ ?il8_ ?ic8_ ?ik8_ ?no8_ ?n9_ ?o9_ ?ga9_ ?gg9_ ?ha9_ ?ty9_ ?kk9_ ?sa9_ ?ii9_ ?it9_ ?il9_ ?ic9_ ?ik9_ ?no9_ ?n10_ ?o10_ ?ga10_ ?gg10_ ?ha10_ ?ty10_ ?kk10_ ?sa10_ ?ii10_ ?it10_ ?il10_ ?ic10_ ?ik10_ ?no10_ ?np10_ ?n11_ ?o11_ ?ga11_ ?gg11_ ?ha11_ ?ty11_ ?kk11_ ?nd11_ ?ne11_ ?ni11_ ?n12_ ?o12_ ?ga12_ ?gg12_ ?ha12_ ?ty12_ ?kk12_ ?nd12_ ?ne12_ ?ni12_ ?n13_ ?o13_ ?ga13_ ?gg13_ ?ha13_ ?ty13_ ?kk13_ ?nd13_ ?ne13_ ?ni13_ ?n14_ ?o14_ ?ga14_ ?gg14_ ?ha14_ ?ty14_ ?kk14_ ?sa14_ ?ii14_ ?it14_ ?il14_ ?ic14_ ?ik14_ ?no14_ ?n15_ ?o15_ ?ga15_ ?gg15_ ?ha15_ ?ty15_ ?kk15_ ?sa15_ ?ii15_ ?it15_ ?il15_ ?ic15_ ?ik15_ ?no15_ ?n16_ ?o16_ ?ga16_ ?gg16_ ?ha16_ ?ty16_ ?kk16_ ?nd16_ ?ne16_ ?ni16_ ?n17_ ?o17_ ?ga17_ ?gg17_ ?ha17_ ?ty17_ ?kk17_ ?sa17_ ?ii17_ ?it17_ ?il17_ ?ic17_ ?ik17_ ?no17_ ?n18_ ?o18_ ?ga18_ ?gg18_ ?ha18_ ?ty18_ ?kk18_ ?sa18_ ?ii18_ ?it18_ ?il18_ ?ic18_ ?ik18_ ?no18_ ?n19_ ?o19_ ?ga19_ ?gg19_ ?ha19_ ?ty19_ ?kk19_ ?sa19_ ?ii19_ ?it19_ ?il19_ ?ic19_ ?ik19_ ?no19_ ?n20_ ?o20_ ?ga20_ ?gg20_ ?ha20_ ?ty20_ ?kk20_ ?sa20_ ?ii20_ ?it20_ ?il20_ ?ic20_ ?ik20_ ?no20_ ?nod ?y1 ?y2 ?y3 ?z1 ?z2 ?z3 ?z4 ?z5 ?z6 ?z7 ?z8 ?z9 ?z10 ?z11
    (case a1 => k_is); (case l1 => k_is); (case c1 => k_is); (case k1 => k_is); (case a2 => k_is); (case l2 => k_is); (case c2 => k_is); (case k2 => k_is); (case a3 => k_is); (case l3 => k_is); (case c3 => k_is); (case k3 => k_is); (case a4 => k_is); (case l4 => k_is); (case c4 => k_is); (case k4 => k_is); (case a5 => k_is); (case l5 => k_is); (case c5 => k_is); (case k5 => k_is); (case a6 => k_is); (case l6 => k_is); (case c6 => k_is); (case k6 => k_is); (case a7 => k_is); (case l7 => k_is); (case c7 => k_is); (case k7 => k_is); (case a8 => k_is); (case l8 => k_is); (case c8 => k_is); (case k8 => k_is); (case w1 => k_is); (case w2 => k_is); (case w3 => k_is); (case w4 => k_is); (case w5 => k_is); (case xT => k_is); (case xTl => k_is); (case xTd => k_is); (case xTe => rfl); (case xTi => k_is); (case xTt => k_is); (case xTh => k_is); (case xhn => k_is); (case xht => k_is); (case n0_ => k_is); (case o0_ => k_is); (case ga0_ => k_is); (case gg0_ => k_is); (case ha0_ => k_is); (case ty0_ => k_is); (case kk0_ => k_is); (case nd0_ => k_is); (case ne0_ => rfl); (case ni0_ => k_is); (case n1_ => k_is); (case o1_ => k_is); (case ga1_ => k_is); (case gg1_ => k_is); (case ha1_ => k_is); (case ty1_ => k_is); (case kk1_ => k_is); (case sa1_ => k_is); (case ii1_ => k_is); (case it1_ => k_is); (case il1_ => k_is); (case ic1_ => k_is); (case ik1_ => k_is); (case no1_ => k_is); (case n2_ => k_is); (case o2_ => k_is); (case ga2_ => k_is); (case gg2_ => k_is); (case ha2_ => k_is); (case ty2_ => k_is); (case kk2_ => k_is); (case sa2_ => k_is); (case ii2_ => k_is); (case it2_ => k_is); (case il2_ => k_is); (case ic2_ => k_is); (case ik2_ => k_is); (case no2_ => k_is); (case n3_ => k_is); (case o3_ => k_is); (case ga3_ => k_is); (case gg3_ => k_is); (case ha3_ => k_is); (case ty3_ => k_is); (case kk3_ => k_is); (case sa3_ => k_is); (case ii3_ => k_is); (case it3_ => k_is); (case il3_ => k_is); (case ic3_ => k_is); (case ik3_ => k_is); (case no3_ => k_is); (case n4_ => k_is); (case o4_ => k_is); (case ga4_ => k_is); (case gg4_ => k_is); (case ha4_ => k_is); (case ty4_ => k_is); (case kk4_ => k_is); (case nd4_ => k_is); (case ne4_ => rfl); (case ni4_ => k_is); (case n5_ => k_is); (case o5_ => k_is); (case ga5_ => k_is); (case gg5_ => k_is); (case ha5_ => k_is); (case ty5_ => k_is); (case kk5_ => k_is); (case sa5_ => k_is); (case ii5_ => k_is); (case it5_ => k_is); (case il5_ => k_is); (case ic5_ => k_is); (case ik5_ => k_is); (case no5_ => k_is); (case n6_ => k_is); (case o6_ => k_is); (case ga6_ => k_is); (case gg6_ => k_is); (case ha6_ => k_is); (case ty6_ => k_is); (case kk6_ => k_is); (case sa6_ => k_is); (case ii6_ => k_is); (case it6_ => k_is); (case il6_ => k_is); (case ic6_ => k_is); (case ik6_ => k_is); (case no6_ => k_is); (case n7_ => k_is); (case o7_ => k_is); (case ga7_ => k_is); (case gg7_ => k_is); (case ha7_ => k_is); (case ty7_ => k_is); (case kk7_ => k_is); (case sa7_ => k_is); (case ii7_ => k_is); (case it7_ => k_is); (case il7_ => k_is); (case ic7_ => k_is); (case ik7_ => k_is); (case no7_ => k_is); (case n8_ => k_is); (case o8_ => k_is); (case ga8_ => k_is); (case gg8_ => k_is); (case ha8_ => k_is); (case ty8_ => k_is); (case kk8_ => k_is); (case sa8_ => k_is); (case ii8_ => k_is); (case it8_ => k_is); (case il8_ => k_is); (case ic8_ => k_is); (case ik8_ => k_is); (case no8_ => k_is); (case n9_ => k_is); (case o9_ => k_is); (case ga9_ => k_is); (case gg9_ => k_is); (case ha9_ => k_is); (case ty9_ => k_is); (case kk9_ => k_is); (case sa9_ => k_is); (case ii9_ => k_is); (case it9_ => k_is); (case il9_ => k_is); (case ic9_ => k_is); (case ik9_ => k_is); (case no9_ => k_is); (case n10_ => k_is); (case o10_ => k_is); (case ga10_ => k_is); (case gg10_ => k_is); (case ha10_ => k_is); (case ty10_ => k_is); (case kk10_ => k_is); (case sa10_ => k_is); (case ii10_ => k_is); (case it10_ => k_is); (case il10_ => k_is); (case ic10_ => k_is); (case ik10_ => k_is); (case no10_ => k_is); (case np10_ => k_is); (case n11_ => k_is); (case o11_ => k_is); (case ga11_ => k_is); (case gg11_ => k_is); (case ha11_ => k_is); (case ty11_ => k_is); (case kk11_ => k_is); (case nd11_ => k_is); (case ne11_ => rfl); (case ni11_ => k_is); (case n12_ => k_is); (case o12_ => k_is); (case ga12_ => k_is); (case gg12_ => k_is); (case ha12_ => k_is); (case ty12_ => k_is); (case kk12_ => k_is); (case nd12_ => k_is); (case ne12_ => rfl); (case ni12_ => k_is); (case n13_ => k_is); (case o13_ => k_is); (case ga13_ => k_is); (case gg13_ => k_is); (case ha13_ => k_is); (case ty13_ => k_is); (case kk13_ => k_is); (case nd13_ => k_is); (case ne13_ => rfl); (case ni13_ => k_is); (case n14_ => k_is); (case o14_ => k_is); (case ga14_ => k_is); (case gg14_ => k_is); (case ha14_ => k_is); (case ty14_ => k_is); (case kk14_ => k_is); (case sa14_ => k_is); (case ii14_ => k_is); (case it14_ => k_is); (case il14_ => k_is); (case ic14_ => k_is); (case ik14_ => k_is); (case no14_ => k_is); (case n15_ => k_is); (case o15_ => k_is); (case ga15_ => k_is); (case gg15_ => k_is); (case ha15_ => k_is); (case ty15_ => k_is); (case kk15_ => k_is); (case sa15_ => k_is); (case ii15_ => k_is); (case it15_ => k_is); (case il15_ => k_is); (case ic15_ => k_is); (case ik15_ => k_is); (case no15_ => k_is); (case n16_ => k_is); (case o16_ => k_is); (case ga16_ => k_is); (case gg16_ => k_is); (case ha16_ => k_is); (case ty16_ => k_is); (case kk16_ => k_is); (case nd16_ => k_is); (case ne16_ => rfl); (case ni16_ => k_is); (case n17_ => k_is); (case o17_ => k_is); (case ga17_ => k_is); (case gg17_ => k_is); (case ha17_ => k_is); (case ty17_ => k_is); (case kk17_ => k_is); (case sa17_ => k_is); (case ii17_ => k_is); (case it17_ => k_is); (case il17_ => k_is); (case ic17_ => k_is); (case ik17_ => k_is); (case no17_ => k_is); (case n18_ => k_is); (case o18_ => k_is); (case ga18_ => k_is); (case gg18_ => k_is); (case ha18_ => k_is); (case ty18_ => k_is); (case kk18_ => k_is); (case sa18_ => k_is); (case ii18_ => k_is); (case it18_ => k_is); (case il18_ => k_is); (case ic18_ => k_is); (case ik18_ => k_is); (case no18_ => k_is); (case n19_ => k_is); (case o19_ => k_is); (case ga19_ => k_is); (case gg19_ => k_is); (case ha19_ => k_is); (case ty19_ => k_is); (case kk19_ => k_is); (case sa19_ => k_is); (case ii19_ => k_is); (case it19_ => k_is); (case il19_ => k_is); (case ic19_ => k_is); (case ik19_ => k_is); (case no19_ => k_is); (case n20_ => k_is); (case o20_ => k_is); (case ga20_ => k_is); (case gg20_ => k_is); (case ha20_ => k_is); (case ty20_ => k_is); (case kk20_ => k_is); (case sa20_ => k_is); (case ii20_ => k_is); (case it20_ => k_is); (case il20_ => k_is); (case ic20_ => k_is); (case ik20_ => k_is); (case no20_ => k_is); (case nod => decide); (case y1 => k_is); (case y2 => k_is); (case y3 => k_is); (case z1 => k_is); (case z2 => k_is); (case z3 => k_is); (case z4 => k_is); (case z5 => k_is); (case z6 => k_is); (case z7 => k_is); (case z8 => k_is); (case z9 => k_is); (case z10 => k_is); (case z11 => k_is)
