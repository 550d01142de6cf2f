import PyProof.Rows.All
import Wide.All
import OpenK.AllK
import Wide.FinOn
import PyProof.EqAt
import PyProof.EqKinds
import PyProof.TupleCall
import HandS.ForMost
import HandS.Strs
import HandS.SetFor
import HandS.SortInts
import HandS.Star
import HandS.IsInst
import KE.GoesMore
import HandS.Codes
import PyProof.ReprRoads
import PyProof.StrLawsRepr
import PyProof.ReprLen
import HandS.Conv
import HandS.Zip
import KE.GoesEnum
import PyProof.FString3
import PyProof.Rows.StrBin
import PyProof.Rows.StrIntSpec
import HandS.FStr
import PyProof.StrBlock
import HandS.Dict
import PyProof.StrCaseBound
import PyProof.FitsInt
import HandS.TupAny
import KE.KRevSl
import PyProof.Rows.IntBool
import PyProof.Rows.EqBoolInt
import HandS.Text
import HandS.RaiseMore
import KE.KUnpackStar
import PyProof.Conv_int_bool
import PyProof.NeKinds
import HandS.TupMul
import HandS.Property
import KE.KOpsOwn
import KE.KCallOwn
import OpenK.KMeth
import OpenK.KOps
import HandS.SetBool
import HandS.SetKeys
import PyProof.Rows.SortShellAny
import KE.KDictKeyed
import HandS.ForExc
import HandS.ExcInit
import KE.KExcInit
import HandS.ExcField
import HandS.CallSlots
import HandS.HotCalls
import KE.KExcIs
import HandS.StrMore
import PyProof.WalksMore
import PyProof.StrLawsOcc
import HandS.Replace
import HandS.Style
import HandS.Wide
import HandS.SetIn
import KE.KDictZip
import HandS.OwnIter
import HandS.Iter
import HandS.ExcIs
import HandS.TupLe
import PySem.Challenge.RW_xorturns_k67_masks_that_keep_wide_lots
set_option Elab.async false
set_option linter.all false
set_option maxRecDepth 100000
set_option maxHeartbeats 4000000
namespace XT
open PySem PySem.Spec PyProof.Rows L2
/-! heaps -/
theorem same_new {H : Hp} {p : Addr} {o : HO} (h : H p = none) : Same H (upd H p o) := fun b x e => by
  rw [upd_ne (ne_of_none e h)]; exact e

/-- a stream: its own list, the list of its great cells, the list of its cells -/
structure Sm where
  s : Addr
  p : Addr
  q : Addr
  cs : List Int
structure StrmB (S : Sm) (H : Hp) (t : Int) (big : List Int) : Prop where
  hs : H S.s = some (.lst [.ref S.p, .ref S.q, .int t])
  hp : H S.p = some (.lst (big.map V.int))
  hq : H S.q = some (.lst (S.cs.map V.int))
  sp : S.s ≠ S.p
  sq : S.s ≠ S.q
  pq : S.p ≠ S.q
  ne : 0 < S.cs.length
  t0 : 0 ≤ t
def Strm (S : Sm) (H : Hp) (t : Int) : Prop := ∃ big, StrmB S H t big
def Keep (S : Sm) (H H' : Hp) : Prop := ∀ b o, b ≠ S.s → b ≠ S.p → H b = some o → H' b = some o
theorem Keep.refl (S : Sm) (H : Hp) : Keep S H H := fun _ _ _ _ h => h
theorem Keep.trans {S : Sm} {H H1 H2 : Hp} (a : Keep S H H1) (b : Keep S H1 H2) : Keep S H H2 := fun c o n1 n2 h => b c o n1 n2 (a c o n1 n2 h)
theorem Keep.of {S : Sm} {H H' : Hp} (a : Same H H') : Keep S H H' := fun c o _ _ h => a c o h
theorem StrmB.same {S : Sm} {H H' : Hp} {t : Int} {big : List Int} (h : StrmB S H t big) (e : Same H H') : StrmB S H' t big :=
  ⟨e _ _ h.hs, e _ _ h.hp, e _ _ h.hq, h.sp, h.sq, h.pq, h.ne, h.t0⟩
theorem Strm.same {S : Sm} {H H' : Hp} {t : Int} (h : Strm S H t) (e : Same H H') : Strm S H' t := let ⟨b, h⟩ := h; ⟨b, h.same e⟩
theorem Strm.ns {S : Sm} {H : Hp} {t : Int} {b : Addr} {xs : List V} (h : Strm S H t) (e : H b = some (.tup xs)) : b ≠ S.s := by
  obtain ⟨_, h⟩ := h
  exact ne_of e h.hs (by intro z; cases z)
theorem Strm.np {S : Sm} {H : Hp} {t : Int} {b : Addr} {xs : List V} (h : Strm S H t) (e : H b = some (.tup xs)) : b ≠ S.p := by
  obtain ⟨_, h⟩ := h
  exact ne_of e h.hp (by intro z; cases z)
theorem Keep.tup {S : Sm} {H H' : Hp} {t : Int} {b : Addr} {xs : List V} (k : Keep S H H') (h : Strm S H t) (e : H b = some (.tup xs)) : H' b = some (.tup xs) :=
  k b _ (h.ns e) (h.np e) e
theorem Keep.free {S : Sm} {H H' : Hp} {t : Int} {x : Addr} (k : Keep S H H') (h : Strm S H' t) (e : H' x = none) : H x = none := by
  obtain ⟨_, h⟩ := h
  cases q : H x with
  | none => rfl
  | some o =>
    by_cases h1 : x = S.s
    · rw [h1, h.hs] at e; cases e
    · by_cases h2 : x = S.p
      · rw [h2, h.hp] at e; cases e
      · rw [k x o h1 h2 q] at e; cases e
/-- a list of one's own, new behind H, is neither of the stream's -/
theorem Keep.mine {S : Sm} {H H' H2 : Hp} {t : Int} {x : Addr} {o : HO} (k : Keep S H' H2) (h : Strm S H t) (n : H x = none) (e : H' x = some o) : H2 x = some o := by
  obtain ⟨_, h⟩ := h
  refine k x o (fun z => ?_) (fun z => ?_) e
  · rw [z, h.hs] at n; cases n
  · rw [z, h.hp] at n; cases n

theorem dpInts {K : PySem.W.Frag} {H : Hp} : ∀ ns : List Int, DpAll K H (ns.map V.int) (ns.map PyData.int)
  | [] => .nil
  | n :: ns => .cons (.int n) (dpInts ns)
theorem ke_shaped (ns : List Int) : SeqAt.shaped (.list (ns.map PyData.int)) = true := by
  have h1 : ∀ ns : List Int, PyData.canLay0 (.list (ns.map PyData.int)) = true := by
    intro ns
    induction ns with
    | nil => rfl
    | cons n ns ih => simpa [PyData.canLay0, PyData.canLayAll0] using ih
  have h2 : ∀ ns : List Int, PyData.depth (.list (ns.map PyData.int)) ≤ 2 := by
    intro ns
    induction ns with
    | nil => decide
    | cons n ns ih => simp only [PyData.depth, PyData.depthAll, List.map] at ih ⊢; omega
  unfold SeqAt.shaped
  rw [h1 ns, decide_eq_true (Nat.le_trans (h2 ns) (by decide))]
  rfl
theorem ix0 {n : Nat} (h : 0 < n) : ixN n 0 = some 0 := by
  have h2 : (0 : Int) < n := by omega
  simp [ixN]; omega
theorem sq0 {n : Nat} (h : 0 < n) : seqIndex? 0 n = some 0 := (ixN_seq (ix0 h)).1
theorem pm31 {x : Int} : x % 2147483647 < 2147483647 ∧ 0 ≤ x % 2147483647 := ⟨Int.emod_lt_of_pos _ (by decide), Int.emod_nonneg _ (by decide)⟩
theorem pm87 {x : Int} : x % 2147483587 < 2147483587 ∧ 0 ≤ x % 2147483587 := ⟨Int.emod_lt_of_pos _ (by decide), Int.emod_nonneg _ (by decide)⟩

def spDraw : Sp := fun vs H Q _ => ∃ (S : Sm) (t m : Int), vs = [.ref S.s, .int m] ∧ Strm S H t ∧ 0 < m ∧ m < 1073741824 ∧ t < 1000000000000 ∧
  ∀ (H' : Hp) (r t' : Int), Keep S H H' → Strm S H' t' → t ≤ t' → t' ≤ t + 1 → 0 ≤ r → r < m → Q (.int r) H'
theorem sz {n : Nat} (h : n ≤ 1000) : n ≤ sizeLine := Nat.le_trans h (by decide)
theorem small64 {n : Nat} (h : n ≤ 1000) : n < sizeLine := Nat.lt_of_le_of_lt h (by decide)
def ab (i : Int) : Int := if i < 0 then -i else i
def spStream (K : PySem.W.Frag) : Sp := fun vs H Q _ => ∃ (a : Addr) (ns : List Int), vs = [.ref a] ∧ SqL K H a (ns.map V.int) ∧ ns.length ≤ 63 ∧
  ∀ (H' : Hp) (S : Sm), Same H H' → Strm S H' 0 → Q (.ref S.s) H'
end XT
namespace XT
open PySem PySem.Spec PyProof.Rows L2

def topS (i : Nat) : Stmt := PySem.Challenge.pw_xorturns_k67_masks_that_keep_wide_lots.main.body.getD i (.Pass ⟨0, 0, 0, 0⟩)
def sOW : Stmt := match topS 2 with | .ClassDef _ _ _ (s :: _) .. => s | _ => topS 2
abbrev sNum : Stmt := topS 7
abbrev sMask : Stmt := topS 8
abbrev sWidthOf : Stmt := topS 10
abbrev sDigitsOf : Stmt := topS 11
abbrev sRestsAfter : Stmt := topS 12
abbrev sAllowsAll : Stmt := topS 13
abbrev sWideTurned : Stmt := topS 14
abbrev sCombined : Stmt := topS 15
abbrev sCombinedCharacter : Stmt := topS 16
abbrev sCheckWidths : Stmt := topS 17
abbrev sFirstDifference : Stmt := topS 18
abbrev sDifferenceBelow : Stmt := topS 19
abbrev sWideKeeps : Stmt := topS 20
abbrev sStream : Stmt := topS 22
abbrev sDraw : Stmt := topS 23
abbrev sLPick : Stmt := topS 24
abbrev sLWide : Stmt := topS 25
abbrev sLDigits : Stmt := topS 26
abbrev sLFits : Stmt := topS 27
abbrev sLMaskOf : Stmt := topS 28
abbrev sLListed : Stmt := topS 29
abbrev sLCommon : Stmt := topS 30
abbrev sLCount : Stmt := topS 31
abbrev sLOnly : Stmt := topS 32
abbrev sTold : Stmt := topS 33
abbrev sLMoved : Stmt := topS 34
abbrev sLSomeMasks : Stmt := topS 35
abbrev sLSixRight : Stmt := topS 36
abbrev sLaw : Stmt := topS 37

theorem scD : FnScope ["_law_stream_here", "_law_many", "_law_rest", "_law_turn", "_law_cell", "_law_mixed"] ["_law_stream_here", "_law_many"] (defScope sDraw) := ⟨rfl, rfl, rfl, by decide +kernel, rfl, by decide +kernel, by decide +kernel⟩
section
variable {P : Program} {w : World} {K : PySem.W.Frag} {mg : Str → Option Value} {base : Heap}
theorem ok_draw {f : Addr} {fd : FuncData} {k : Nat} (F : Fun K "_law_draw" "_law_draw" sDraw f fd) (ml : mg "len" = none) : FnOk P w K mg base CX0 (k + 1) f fd ["_law_stream_here", "_law_many"] spDraw := by
  refine F.ok scD (fun vs H Q E h => ?_) (fun cdv A outer s H vs Q E hr h => ?_)
  · obtain ⟨S, t, m, rfl, _⟩ := h
    rfl
  · obtain ⟨S, t, m, rfl, ⟨big0, hS0⟩, m0, m1, t1, q⟩ := h
    refine ⟨_, pss_cons (ps_while PassesOwn.never
        (pt_cmpR (op_neD hr.units) (pe_ix ix_list (pv 0) pe_int (fun _ _ => rfl)) (pe_lst pa_nil) (nomark _))
        (pss_cons (ps_set (i := 2) scD.nd rfl (.inl rfl) (pe_ix ix_list (pe_ix ix_list (pv 0) pe_int (fun _ _ => rfl)) pe_int (fun _ _ => rfl)))
        (pss_cons (ps_if (pt_cmpR op_gt (pv 2) pe_int (nomark _))
          (pss_cons (ps_asg (pe_op op_fdiv (pv 2) (pv 1)) (pg_sub (pe_ix ix_list (pv 0) pe_int (fun _ _ => rfl)) pe_int set_list))
          (pss_one (ps_ret (pe_op op_mod (pv 2) (pv 1))))) pss_nil)
        (pss_one (ps_expr (pe_bm PySem.F.plainAttrs_list PySem.F.slot_list_pop PySem.F.type_list_pop mt_popAt (pe_ix ix_list (pv 0) pe_int (fun _ _ => rfl)) (pa_cons pe_int pa_nil)))))))
      (pss_cons (ps_set (i := 3) scD.nd rfl (.inl rfl) (pe_op op_add (pe_ix ix_list (pv 0) pe_int (fun _ _ => rfl)) pe_int))
      (pss_cons (ps_asg (pv 3) (pg_sub (pv 0) pe_int set_list))
      (pss_cons (ps_set (i := 4) scD.nd rfl (.inl rfl) (pe_op op_mod (pe_ix ix_list (pe_ix ix_list (pv 0) pe_int (fun _ _ => rfl)) (pe_op op_mod (pv 3) (pe_callB call_len_seq (by rfl) ml PySem.boot_len (pa_cons (pe_ix ix_list (pv 0) pe_int (fun _ _ => rfl)) pa_nil))) (fun _ _ => rfl)) pe_int))
      (pss_cons (ps_set (i := 5) scD.nd rfl (.inl rfl) (pe_op op_mod (pe_op op_add (pe_op op_add (pe_op op_mul (pv 4) (pe_op op_add pe_int (pe_op op_mul pe_int (pv 3)))) (pe_op op_mul (pe_op op_mul pe_int (pv 3)) (pv 3))) pe_int) pe_int))
      (pss_one (ps_ret (pe_op op_mod (pe_op op_fdiv (pe_op op_mod (pe_op op_mul (pv 5) (pv 5)) pe_int) pe_int) (pv 1)))))))), ?_⟩
    refine ⟨fun n σ H1 => ∃ big y2, σ = [some (.ref S.s), some (.int m), y2, none, none, none] ∧ n = big.length ∧ StrmB S H1 t big ∧ Keep S H H1,
      ⟨big0.length, big0, none, rfl, rfl, hS0, Keep.refl S H⟩, ?_⟩
    rintro n σ H1 ⟨big, y2, rfl, rfl, hS, hk⟩
    -- while stream[0] != []
    refine ⟨.ref S.s, rfl, S.s, _, 0, .ref S.p, rfl, rfl, SqL.of hS.hs, rfl, Nat.zero_le _, fun z nz => ?_⟩
    have sm : Same H1 (upd H1 z (.lst [])) := same_new nz
    have hz : (upd H1 z (.lst [])) z = some (.lst []) := upd_same
    have hS' := hS.same sm
    have hk' : Keep S H (upd H1 z (.lst [])) := hk.trans (Keep.of sm)
    generalize upd H1 z (.lst []) = H2 at *
    clear hS hk sm nz
    refine ⟨_, _, .lst (SqL.of hS'.hp) (dpInts big), .lst (SqL.of hz) .nil, ke_shaped big, rfl, _, rfl, ?_⟩
    cases big with
    | cons x rest =>
      have e : (!PyData.eqv (.list ((x :: rest).map PyData.int)) (.list [])) = true := rfl
      rw [e]
      refine iteT ?_
      refine ⟨fun σ' H' => ∃ y2, σ' = [some (.ref S.s), some (.int m), y2, none, none, none] ∧ StrmB S H' t rest ∧ Keep S H H', ?_, ?_⟩
      · rintro σ' H' ⟨y, rfl, h1, h2⟩
        exact ⟨rest.length, Nat.lt_succ_self _, rest, y, rfl, rfl, h1, h2⟩
      · refine ⟨.ref S.s, rfl, S.s, _, 0, .ref S.p, rfl, rfl, SqL.of hS'.hs, rfl, S.p, _, 0, .int x, rfl, rfl, SqL.of hS'.hp, atI_nat (j := 0) rfl, ?_⟩
        refine ⟨.int x, rfl, x, 0, rfl, rfl, _, rfl, ite2 (fun hx => ?_) (fun hx => ?_)⟩
        · refine ⟨.int x, rfl, .int m, rfl, x, m, rfl, rfl, ⟨m0, m1⟩, ?_⟩
          refine ⟨.ref S.s, rfl, S.s, _, 0, .ref S.p, rfl, rfl, SqL.of hS'.hs, rfl, S.p, _, 0, 0, rfl, rfl, hS'.hp, ix0 (Nat.succ_pos _), ?_⟩
          refine ⟨.int x, rfl, .int m, rfl, x, m, rfl, rfl, m0, ?_⟩
          refine q _ _ t (fun b o n1 n2 eb => ?_) ⟨(x / m) :: rest, ?_⟩ (Int.le_refl _) (by omega) (Int.emod_nonneg _ (by omega)) (Int.emod_lt_of_pos _ m0)
          · rw [upd_ne n2]; exact hk' b o n1 n2 eb
          · refine ⟨?_, upd_same, ?_, hS'.sp, hS'.sq, hS'.pq, hS'.ne, hS'.t0⟩
            · rw [upd_ne hS'.sp]; exact hS'.hs
            · rw [upd_ne hS'.pq.symm]; exact hS'.hq
        · refine ⟨.ref S.s, rfl, S.s, _, 0, .ref S.p, rfl, rfl, SqL.of hS'.hs, rfl, .inl ⟨rfl, _, SqL.of hS'.hp⟩, S.p, _, 0, 0, .int x, rfl, rfl, hS'.hp, by decide, by decide, sq0 (Nat.succ_pos _), rfl, ?_⟩
          refine ⟨_, rfl, ⟨?_, upd_same, ?_, hS'.sp, hS'.sq, hS'.pq, hS'.ne, hS'.t0⟩, fun b o n1 n2 eb => ?_⟩
          · rw [upd_ne hS'.sp]; exact hS'.hs
          · rw [upd_ne hS'.pq.symm]; exact hS'.hq
          · rw [upd_ne n2]; exact hk' b o n1 n2 eb
    | nil =>
      have e : (!PyData.eqv (.list (([] : List Int).map PyData.int)) (.list [])) = false := rfl
      rw [e]
      refine iteF ?_
      have t0 := hS'.t0
      -- turn = stream[2] + 1; stream[2] = turn
      refine ⟨.ref S.s, rfl, S.s, _, 2, .int t, rfl, rfl, SqL.of hS'.hs, rfl, t, 1, rfl, rfl, ?_⟩
      refine ⟨.int (t + 1), rfl, .ref S.s, rfl, S.s, _, 2, 2, rfl, rfl, hS'.hs, rfl, ?_⟩
      generalize hH3 : upd H2 S.s (.lst ([V.ref S.p, .ref S.q, .int t].set 2 (.int (t + 1)))) = H3
      have hS3 : StrmB S H3 (t + 1) [] := by
        subst hH3
        refine ⟨upd_same, ?_, ?_, hS'.sp, hS'.sq, hS'.pq, hS'.ne, by omega⟩
        · rw [upd_ne hS'.sp.symm]; exact hS'.hp
        · rw [upd_ne hS'.sq.symm]; exact hS'.hq
      have hk3 : Keep S H H3 := fun b o n1 n2 eb => by
        subst hH3
        rw [upd_ne n1]; exact hk' b o n1 n2 eb
      clear hH3
      -- cell
      have hl : (0 : Int) < ((S.cs.map V.int).length : Nat) := by rw [List.length_map]; have := hS'.ne; omega
      have hm1 : (t + 1) % ((S.cs.map V.int).length : Nat) < ((S.cs.map V.int).length : Nat) := Int.emod_lt_of_pos _ hl
      have hm0 : 0 ≤ (t + 1) % ((S.cs.map V.int).length : Nat) := Int.emod_nonneg _ (by omega)
      obtain ⟨j, hj⟩ : ∃ j : Nat, (t + 1) % ((S.cs.map V.int).length : Nat) = j := ⟨_, (Int.toNat_of_nonneg hm0).symm⟩
      have hjl : j < S.cs.length := by rw [List.length_map] at hm1 hj; omega
      have hat : atI (S.cs.map V.int) ((t + 1) % ((S.cs.map V.int).length : Nat)) = some (.int S.cs[j]) := by
        rw [hj]
        refine atI_nat ?_
        rw [List.getElem?_map, List.getElem?_eq_getElem hjl]
        rfl
      refine ⟨.ref S.s, rfl, S.s, _, 1, .ref S.q, rfl, rfl, SqL.of hS3.hs, rfl, .int (t + 1), rfl, .ref S.s, rfl, S.s, _, 1, .ref S.q, rfl, rfl, SqL.of hS3.hs, rfl, S.q, _, rfl, .inl (SqL.of hS3.hq), _, _, rfl, rfl, hl, ?_⟩
      have k87 : (0 : Int) < 2147483587 := by decide
      have k47 : (0 : Int) < 2147483647 := by decide
      have k29 : (0 : Int) < 2147483629 := by decide
      refine ⟨S.q, _, _, .int S.cs[j], rfl, rfl, SqL.of hS3.hq, hat, S.cs[j], _, rfl, rfl, k87, ?_⟩
      obtain ⟨c1, c0⟩ := pm87 (x := S.cs[j])
      obtain ⟨c, hc⟩ : ∃ c, S.cs[j] % 2147483587 = c := ⟨_, rfl⟩
      rw [hc] at c1 c0
      -- mixed
      refine ⟨.int c, congrArg (fun x => some (some (V.int x))) hc, .int (t + 1), rfl, 40692, t + 1, rfl, rfl, .inl ⟨by decide, by decide⟩, 69621, 40692 * (t + 1), rfl, rfl, c, 69621 + 40692 * (t + 1), rfl, rfl, .inl ⟨by omega, by omega⟩, ?_⟩
      refine ⟨.int (t + 1), rfl, 48271, t + 1, rfl, rfl, .inl ⟨by decide, by decide⟩, .int (t + 1), rfl, 48271 * (t + 1), t + 1, rfl, rfl, .inr ⟨by omega, by omega⟩, c * (69621 + 40692 * (t + 1)), 48271 * (t + 1) * (t + 1), rfl, rfl, _, 47, rfl, rfl, c * (69621 + 40692 * (t + 1)) + 48271 * (t + 1) * (t + 1) + 47, 2147483647, rfl, rfl, k47, ?_⟩
      obtain ⟨d1, d0⟩ := pm31 (x := c * (69621 + 40692 * (t + 1)) + 48271 * (t + 1) * (t + 1) + 47)
      obtain ⟨d, hd⟩ : ∃ d, (c * (69621 + 40692 * (t + 1)) + 48271 * (t + 1) * (t + 1) + 47) % 2147483647 = d := ⟨_, rfl⟩
      rw [hd] at d1 d0
      have ed : some (some (V.int ((c * (69621 + 40692 * (t + 1)) + 48271 * (t + 1) * (t + 1) + 47) % 2147483647))) = some (some (V.int d)) := congrArg (fun x => some (some (V.int x))) hd
      refine ⟨.int d, ed, .int d, ed, d, d, rfl, rfl, .inl ⟨by omega, by omega⟩, d * d, 2147483629, rfl, rfl, k29, d * d % 2147483629, 16, rfl, rfl, ⟨by decide, by decide⟩, .int m, rfl, _, m, rfl, rfl, m0, ?_⟩
      exact q _ _ (t + 1) hk3 ⟨_, hS3⟩ (by omega) (Int.le_refl _) (Int.emod_nonneg _ (by omega)) (Int.emod_lt_of_pos _ m0)
end
end XT
namespace XT
open PySem PySem.Spec PyProof.Rows L2

/-! comprehensions whose turns only lay new things -/
theorem take_one {α β : Type} (f : α → β) (p : α → Bool) {xs : List α} {i : Nat} {x : α} (h : xs[i]? = some x) :
    ((xs.take (i + 1)).filter p).map f = ((xs.take i).filter p).map f ++ (if p x = true then [f x] else []) := by
  rw [List.take_add_one, h, List.filter_append, List.map_append]
  by_cases hp : p x = true
  · simp [hp]
  · simp [hp]
theorem flt_len {α β : Type} (f : α → β) (p : α → Bool) (xs : List α) (i : Nat) : (((xs.take i).filter p).map f).length ≤ i := by
  rw [List.length_map]
  exact Nat.le_trans (List.length_filter_le _ _) (by rw [List.length_take]; exact Nat.min_le_left _ _)

section
variable {K : PySem.W.Frag} {a : Addr} {g : TG} {tt : TT} {te : TE} {vs : List Nat} {σ : L2.St} {H1 : Hp} {D : Addr} {Qd : Hp → Prop}
/-- what one turn must do -/
def TurnP (g : TG) (tt : TT) (te : TE) (vs : List Nat) (σ : L2.St) (x y : V) (keep : Bool) (H : Hp) : Prop :=
  ∀ (R1 : Hp → Prop) (R2 : V → Hp → Prop), (keep = false → ∀ H3, Same H H3 → R1 H3) → (keep = true → ∀ H4, Same H H4 → R2 y H4) →
    g x (wipe σ vs) H fun σ2 H2 => wipe σ2 vs = wipe σ vs ∧ tt σ2 H2 fun b H3 => if b = true then te σ2 H3 R2 else R1 H3
/-- the invariant -/
def PvP (H1 : Hp) (D : Addr) (ys : List V) (H : Hp) : Prop := Same H1 H ∧ H D = some (.lst ys)
theorem pvp_turn {x y : V} {keep : Bool} {H : Hp} {ys : List V} (nD : H1 D = none) (h : PvP H1 D ys H) (hl : ys.length < sizeLine) (ht : TurnP g tt te vs σ x y keep H) (zs : List V) (ez : zs = ys ++ (if keep = true then [y] else [])) :
    g x (wipe σ vs) H fun σ2 H2 => wipe σ2 vs = wipe σ vs ∧ tt σ2 H2 fun b H3 =>
      if b = true then te σ2 H3 fun y H4 => ∃ acc, H4 D = some (.lst acc) ∧ acc.length < sizeLine ∧ PvP H1 D zs (upd H4 D (.lst (acc ++ [y]))) else PvP H1 D zs H3 := by
  obtain ⟨sm, hD⟩ := h
  refine ht _ _ (fun hk H3 s3 => ?_) (fun hk H4 s4 => ?_)
  · subst hk
    refine ⟨sm.trans s3, ?_⟩
    rw [ez, s3 _ _ hD]
    simp
  · subst hk
    refine ⟨ys, s4 _ _ hD, hl, fun b o e => ?_, ?_⟩
    · rw [upd_ne (ne_of_none e nD)]
      exact s4 _ _ (sm _ _ e)
    · rw [upd_same, ez]
      rfl
theorem lcp_list {xs : List V} (p : V → Bool) (f : V → V) (nD : H1 D = none) (hA : SqL K H1 a xs) (hz : xs.length < sizeLine) (ht : ∀ (i : Nat) x H, xs[i]? = some x → Same H1 H → TurnP g tt te vs σ x (f x) (p x) H)
    (hd : ∀ H, Same H1 H → H D = some (.lst ((xs.filter p).map f)) → Qd H) :
    ∃ W : Nat → Nat → Hp → Prop, (∃ m, W 0 m (upd H1 D (.lst []))) ∧ ∀ i m H, W i m H →
      ((Itl K a).stop i H ∧ Qd H) ∨ ((Itl K a).go i H ∧ ∃ Nx : Hp → Prop, (∀ H', Nx H' → ∃ m', m' < m ∧ W (i + 1) m' H') ∧ ∀ x H', (Itl K a).yld i H x H' → g x (wipe σ vs) H' fun σ2 H2 => wipe σ2 vs = wipe σ vs ∧ tt σ2 H2 fun b H3 =>
        if b = true then te σ2 H3 fun y H4 => ∃ acc, H4 D = some (.lst acc) ∧ acc.length < sizeLine ∧ Nx (upd H4 D (.lst (acc ++ [y]))) else Nx H3) := by
  refine lc_list (xs := xs) (fun i H => PvP H1 D (((xs.take i).filter p).map f) H) ⟨same_new nD, upd_same⟩ (fun i H _ h => h.1.seq hA) (fun i x H hx h => ?_) (fun H h => ?_)
  · have hi : i < xs.length := (List.getElem?_eq_some_iff.mp hx).1
    exact pvp_turn nD h (Nat.lt_of_le_of_lt (flt_len f p xs i) (Nat.lt_trans hi hz)) (ht i x H hx h.1) _ (take_one f p hx)
  · have h2 := h.2
    rw [List.take_length] at h2
    exact hd H h.1 h2
theorem Same.sqT {H H' : Hp} {a : Addr} {xs : List V} (e : Same H H') (h : SqT K H a xs) : SqT K H' a xs := by
  rcases h with (h | ⟨o, h⟩) | h
  · exact .inl (.inl (e _ _ h))
  · exact .inl (.inr ⟨o, e _ _ h⟩)
  · exact .inr h
theorem lcp_tup {xs : List V} (p : V → Bool) (f : V → V) (nD : H1 D = none) (hA : SqT K H1 a xs) (hz : xs.length < sizeLine) (ht : ∀ (i : Nat) x H, xs[i]? = some x → Same H1 H → TurnP g tt te vs σ x (f x) (p x) H)
    (hd : ∀ H, Same H1 H → H D = some (.lst ((xs.filter p).map f)) → Qd H) :
    ∃ W : Nat → Nat → Hp → Prop, (∃ m, W 0 m (upd H1 D (.lst []))) ∧ ∀ i m H, W i m H →
      ((Itt K a).stop i H ∧ Qd H) ∨ ((Itt K a).go i H ∧ ∃ Nx : Hp → Prop, (∀ H', Nx H' → ∃ m', m' < m ∧ W (i + 1) m' H') ∧ ∀ x H', (Itt K a).yld i H x H' → g x (wipe σ vs) H' fun σ2 H2 => wipe σ2 vs = wipe σ vs ∧ tt σ2 H2 fun b H3 =>
        if b = true then te σ2 H3 fun y H4 => ∃ acc, H4 D = some (.lst acc) ∧ acc.length < sizeLine ∧ Nx (upd H4 D (.lst (acc ++ [y]))) else Nx H3) := by
  refine lc_tup (xs := xs) (fun i H => PvP H1 D (((xs.take i).filter p).map f) H) ⟨same_new nD, upd_same⟩ (fun i H _ h => Same.sqT h.1 hA) (fun i x H hx h => ?_) (fun H h => ?_)
  · have hi : i < xs.length := (List.getElem?_eq_some_iff.mp hx).1
    exact pvp_turn nD h (Nat.lt_of_le_of_lt (flt_len f p xs i) (Nat.lt_trans hi hz)) (ht i x H hx h.1) _ (take_one f p hx)
  · have h2 := h.2
    rw [List.take_length] at h2
    exact hd H h.1 h2
theorem lcp_range {n : Nat} (p : Nat → Bool) (f : Nat → V) (nD : H1 D = none) (hz : n < sizeLine) (ht : ∀ (i : Nat) H, i < n → Same H1 H → TurnP g tt te vs σ (.int (0 + (i : Int))) (f i) (p i) H)
    (hd : ∀ H, Same H1 H → H D = some (.lst (((List.range n).filter p).map f)) → Qd H) :
    ∃ W : Nat → Nat → Hp → Prop, (∃ m, W 0 m (upd H1 D (.lst []))) ∧ ∀ i m H, W i m H →
      ((Itr 0 n).stop i H ∧ Qd H) ∨ ((Itr 0 n).go i H ∧ ∃ Nx : Hp → Prop, (∀ H', Nx H' → ∃ m', m' < m ∧ W (i + 1) m' H') ∧ ∀ x H', (Itr 0 n).yld i H x H' → g x (wipe σ vs) H' fun σ2 H2 => wipe σ2 vs = wipe σ vs ∧ tt σ2 H2 fun b H3 =>
        if b = true then te σ2 H3 fun y H4 => ∃ acc, H4 D = some (.lst acc) ∧ acc.length < sizeLine ∧ Nx (upd H4 D (.lst (acc ++ [y]))) else Nx H3) := by
  refine lc_range (lo := 0) (n := n) (fun i H => PvP H1 D ((((List.range n).take i).filter p).map f) H) ⟨same_new nD, upd_same⟩ (fun i H hi h => ?_) (fun H h => ?_)
  · have hx : (List.range n)[i]? = some i := List.getElem?_range hi
    exact pvp_turn nD h (Nat.lt_of_le_of_lt (flt_len f p _ i) (Nat.lt_trans hi hz)) (ht i H hi h.1) _ (take_one f p hx)
  · have h2 := h.2
    rw [List.take_of_length_le (by rw [List.length_range]; exact Nat.le_refl _)] at h2
    exact hd H h.1 h2
end
end XT
/-! set(list of ints); sorted(set of ints) of any number -/
namespace XT
open PySem PySem.Spec PyProof.Rows L2
abbrev newS (w : World) : Obj := { cls := .type "set", dict := none, data := .set #[] 0 (.fresh 0 0 (!w.params.followText "set-order")) }
section
variable {P : Program} {w : World} {A : Around} {E : Value → Shared → Prop} {s : Shared}
abbrev afterS (w : World) (s : Shared) (ns : List Int) (r : Value) (s2 : Shared) : Prop :=
  r = .none ∧ ∃ (hp : Heap) (tk c : Nat), s2 = { s with heap := hp, toks := tk } ∧ SetR w hp s.heap.objs.size (fun j => decide (j ∈ ns)) c ∧ c ≤ ns.length ∧ (∀ b o, s.heap.get? b = some o → hp.get? b = some o)
abbrev withS (w : World) (s : Shared) : Shared := { s with heap := s.heap.push (newS w) }
theorem items_at {items : Array Value} {ns : List Int} (hit : IntsAre items.toList ns) (hz : items.size = ns.length) (i : Nat) (v : Value) (hv : items[i]? = some v) : ∃ k t, ns[i]? = some k ∧ v = .int k t := by
  have hi : i < ns.length := by rw [← hz]; exact (Array.getElem?_eq_some_iff.mp hv).1
  obtain ⟨t, e⟩ := IntsAre.int_at hit i v (by rw [Array.getElem?_toList]; exact hv)
  exact ⟨ns[i], t, List.getElem?_eq_getElem hi, by rw [e, List.getD_eq_getElem?_getD, List.getElem?_eq_getElem hi] <;> rfl⟩
theorem set_listI {l : Addr} {items : Array Value} (ns : List Int) {Q : Value → Shared → Prop} (hh : A.handled = none) (hl : s.heap.IsList l items) (hit : IntsAre items.toList ns) (hb : ns.length + 1 < scanBound)
    (h : ∀ (hp : Heap) (tk c : Nat), SetR w hp s.heap.objs.size (fun j => decide (j ∈ ns)) c → c ≤ ns.length → (∀ b o, s.heap.get? b = some o → hp.get? b = some o) → Q (.ref s.heap.objs.size) { s with heap := hp, toks := tk }) :
    wpAny (model P w) A (call (.type "set") [.ref l]) Q E s := by
  have hz : items.size = ns.length := by
    have e := IntsAre.length hit
    rwa [Array.length_toList] at e
  obtain ⟨mc, mt, m0⟩ := F.called_set.mro
  have m1 := F.called_set.made
  have m2 := F.called_set.sub
  have m3 := F.called_set.notType
  have m4 := F.called_set.canCreate
  have m5 := F.typeCall_set_1 (.ref l)
  refine wpAny_call (codeAny_of_tree ?_)
  show wpAny _ _ (callAny (.type "set") _) _ _ _
  refine wpAny_pure ⟨Code.quiet_builtin _ (by decide +kernel), codeAny_builtin F.entry_type_call ?_⟩
  rw [Around.under_plain (weight_type_call_type "set" [.ref l] []) rfl]
  repeat (any_goals (first | assumption | wp_step))
  refine codeAny_mono (code_set_led1 (.ref l) (E := E) (Q₁ := fun v s1 => v = .ref s.heap.objs.size ∧ s1 = withS w s) ⟨rfl, rfl⟩) fun r s1 hr => ?_
  match r, hr with
  | .error e, hr => exact hr
  | .ok .next, hr => exact hr.elim
  | .ok .brk, hr => exact hr.elim
  | .ok .cont, hr => exact hr.elim
  | .ok (.ret v), hr =>
    obtain ⟨rfl, rfl⟩ := hr
    have g0 : (s.heap.push (newS w)).get? s.heap.objs.size = some (newS w) := Heap.get?_push_size _ rfl
    have g1 : Shared.TypeIs (withS w s) (.ref s.heap.objs.size) "set" := ⟨_, g0, rfl⟩
    have g2 := F.called_set.init.lookup
    have g3 := F.called_set.init.bind (.ref s.heap.objs.size)
    repeat (any_goals (first | assumption | wp_step))
    refine codeAny_mono (codeAny_call_builtin (R := wants (afterS w s ns) E) F.called_set.init.plain F.entry_set_init (check_set_init_1 g1 ?_)) fun r2 s2 hr2 => ?_
    · obtain ⟨ol, hol, hcl, nl, hdl⟩ := hl
      obtain ⟨oc, od, odt, osl⟩ := ol
      simp only at hcl hdl
      subst hcl hdl
      have hol1 : (s.heap.push (newS w)).get? l = some { cls := .type "list", dict := od, data := .seq items nl, slots := osl } := Heap.get?_push_of_some _ hol
      have n1 := F.sub_list_set
      have n2 := F.sub_list_frozenset
      have n3 : (Value.type "list" == Value.type "dict") = false := by decide
      have hl1 : (s.heap.push (newS w)).IsList l items := ⟨_, hol1, rfl, nl, rfl⟩
      have lS : l < s.heap.objs.size := Heap.lt_size hol
      have z1 : (s.heap.push (newS w)).objs.size = s.heap.objs.size + 1 := Heap.size_push ..
      unfold Builtin.«set.__init__» noKeywords Builtin.Frozenset.updateFrom
      generalize hPI : pyIter = PI
      wp_walk
      subst hPI
      refine wpAny_pyIter_list hl1 (wpAny_bind (wpAny_runValue ?_))
      refine set_update_ints ((Walks.list (by simp [hh]) _ l (by rw [z1]; exact Nat.ne_of_lt (Nat.lt_succ_of_lt lS)) items).toS) s.heap.objs.size (by rw [z1]; simp only [List.mem_cons, List.not_mem_nil, or_false, not_or]; exact ⟨Nat.ne_of_lt (Nat.lt_succ_self _), Nat.ne_of_gt lS⟩) ns hz hb (items_at hit hz) (items.size - 0) 0 _ (by omega) (Nat.zero_le _)
        ⟨⟨_, Heap.get?_push_size _ rfl, rfl, rfl⟩, hl1.push _⟩ ⟨0, Nat.le_refl 0, setR_new_at (Heap.get?_push_of_some _ g0)⟩ ?_
      intro s3 c hm hc hS
      obtain ⟨h3, ge, dr, tk, os⟩ := s3
      obtain rfl : ge = s.gens := hm.gens
      obtain rfl : dr = s.drawn := hm.drawn
      obtain rfl : os = s.os := hm.os
      show wpAny _ _ _ _ _ _
      refine wpAny_pure ?_
      show wpAny _ _ (ret Value.none) _ _ _
      rw [hz] at hc
      refine wpAny_pure ⟨rfl, h3, tk, c, rfl, hS, hc, fun b o e => ?_⟩
      have b0 : b < s.heap.objs.size := Heap.lt_size e
      exact hm.heap b o (by rw [z1]; simp only [List.mem_cons, List.not_mem_nil, or_false, not_or]; exact ⟨Nat.ne_of_lt b0, Nat.ne_of_lt (Nat.lt_succ_of_lt b0)⟩) (Heap.get?_push_of_some _ (Heap.get?_push_of_some _ e))
    · match r2, hr2 with
      | .error e, hr2 => exact hr2
      | .ok .next, hr2 => exact hr2.elim
      | .ok .brk, hr2 => exact hr2.elim
      | .ok .cont, hr2 => exact hr2.elim
      | .ok (.ret v), hr2 =>
        obtain ⟨rfl, hp, tk, c, rfl, hS, hc, hk⟩ := hr2
        repeat (any_goals (first | assumption | wp_step))
        exact h _ _ _ hS hc hk
end
end XT
namespace XT
open PySem PySem.Spec PyProof.Rows L2
section
variable {P : Program} {w : World} {A : Around} {E : Value → Shared → Prop} {s : Shared} {a : Addr}
theorem iv_raw (v : Value) (h : ∃ k t, v = Value.int k t) : SrtO.iv v = Builtin.Re.reRawOf v := by
  obtain ⟨k, t, rfl⟩ := h
  rfl
/-- sorted(set of ints), however many -/
theorem sorted_setN {S : Int → Bool} {n : Nat} {Q : Value → Shared → Prop} (R : SetR w s.heap a S n) (hh : A.handled = none)
    (hQ : ∀ s2 p (out : List Value) (c : Nat) (ns : List Int), (∀ b o, s.heap.get? b = some o → s2.heap.get? b = some o) → s2.gens = s.gens → s2.os = s.os → s.heap.objs.size ≤ p →
      s2.heap.get? p = some (seqObj "list" out.toArray c) → IntsAre out ns → ns.Pairwise (· < ·) → (∀ k, k ∈ ns ↔ S k = true) → ns.length = n → Q (.ref p) s2) :
    wpAny (model P w) A (call (.builtin "sorted") [.ref a]) Q E s := by
  obtain ⟨o, es, ep, t, ho, hex, hd, g, nd, hm, hb, hf, hn, hr, hl⟩ := R
  refine Calls.call_function_entry kind_sorted plain_sorted entry_sorted (args_sorted1 _) ?_
  unfold Builtin.«sorted»
  refine wpAny_bind (m := checkCount "sorted" 1 1 _) (wpAny_pure (wpAny_bind (collect_set (A := A.in1) hh ⟨o, ho, hex.1, hd⟩ hf hb hr hl fun s1 vs k1 hz g1 o1 pm => ?_)))
  have vl : vs.length = n := by rw [pm.length_eq, List.length_map, Array.length_toList]; exact hn
  have n0 : n ≤ sizeLine := by rw [sizeLine_eq]; unfold scanBound at hb; omega
  have allI : ∀ v ∈ vs, ∃ k t, v = Value.int k t := fun v hv => by
    obtain ⟨e, he, q⟩ := List.mem_map.mp (pm.mem_iff.mp hv)
    obtain ⟨k, tk, h1, _⟩ := g e he
    exact ⟨k, tk, by rw [← q]; exact h1⟩
  have hI : IntsAre vs (vs.map SrtO.iv) := SrtO.ints_iv allI
  have pk : (vs.map SrtO.iv).Perm (es.toList.map keyOf) := by
    have e1 : vs.map SrtO.iv = vs.map Builtin.Re.reRawOf := List.map_congr_left fun v hv => iv_raw v (allI v hv)
    have q := pm.map Builtin.Re.reRawOf
    rw [List.map_map] at q
    rw [e1]
    exact q
  refine wpAny_bind (wpAny_newList ?_ (by rw [vl]; exact n0))
  have hoL : (s1.heap.push (seqObj "list" vs.toArray 0)).get? s1.heap.objs.size = some (seqObj "list" vs.toArray 0) := Heap.get?_push_size _ rfl
  refine wpAny_bind (wpAny_holding (wpAny_call_entry slot_list_sort ⟨_, hoL, rfl⟩ entry_list_sort (SrtO.list_sort_ord SrtO.swo_int hoL (by rw [vl]; exact n0) (fun h2 => SrtO.ints_sortable hI h2) fun out a1 a2 => ⟨_, rfl, ?_⟩) (args_list_sort _)))
  obtain ⟨j1, j2, j3⟩ := SrtO.ints_out hI a1 a2
  obtain ⟨c, hc⟩ := sortedHeap_at (vs := vs) (out := out.toArray) hoL
  have pn := j2.trans pk
  refine wpAny_pure ⟨_, rfl, hQ _ s1.heap.objs.size out c _ (fun b u e => ?_) g1 o1 hz hc j1 (lt_of_le_nodup _ j3 (pn.nodup_iff.mpr nd)) (fun k => by rw [pn.mem_iff, ← hm k]) ?_⟩
  · have q := k1 b u e
    have lt := Heap.lt_size q
    show (sortedHeap (s1.heap.push (seqObj "list" vs.toArray 0)) s1.heap.objs.size vs out.toArray).get? b = some u
    rw [sortedHeap_old (Nat.ne_of_lt lt) (by rw [size_push']; exact Nat.lt_succ_of_lt lt)]
    exact Heap.get?_push_of_some _ q
  · rw [pn.length_eq, List.length_map, Array.length_toList]; exact hn
end
section
variable {X : Cx}
/-- set(xs), a list of ints -/
def rSetL (K : PySem.W.Frag) (w : World) : List V → Hp → VK → Prop := fun vs H Q => ∃ (a : Addr) (ns : List Int), vs = [V.ref a] ∧ SqL K H a (ns.map V.int) ∧ ns.length ≤ 1000 ∧
  ∀ (p : Addr) (c : Nat), H p = none → Q (.ref p) (upd H p (SetO w p (fun j => decide (j ∈ ns)) c))
theorem cr_setL (hc : X.calm = true) : CallR X (.type "set") (XT.rSetL X.K X.w) := by
  intro pins s σ H vs us Q I r h
  obtain ⟨a, ns, rfl, hs, hn, q⟩ := h
  obtain ⟨its, rv, hl, hz⟩ := I.list hs
  rw [Vals.ref1 r]
  refine set_listI ns (I.ok.hd hc) hl.isList (by simpa using rv.ints) (by unfold scanBound; omega) fun hp tk c hS hcn hk => ?_
  exact ⟨.ref _, _, I.laid (t' := tk) hk (Nat.le_refl _) (setO_new hS), rfl, q _ c (I.hok.fresh (Nat.le_refl _))⟩
/-- sorted(found) -/
def rSortS (w : World) : List V → Hp → VK → Prop := fun vs H Q => ∃ (a : Addr) (S : Int → Bool) (n : Nat), vs = [V.ref a] ∧ H a = some (SetO w a S n) ∧
  ∀ (ns : List Int) (p : Addr), ns.Pairwise (· < ·) → (∀ k : Int, k ∈ ns ↔ S k = true) → H p = none → Q (.ref p) (upd H p (.lst (ns.map V.int)))
theorem cr_sortS (hc : X.calm = true) : CallR X (.builtin "sorted") (rSortS X.w) := by
  intro pins s σ H vs us Q I r h
  obtain ⟨a, S, n, rfl, ha, q⟩ := h
  have R := setO_get I ha
  have n0 : n ≤ sizeLine := by
    obtain ⟨_, _, _, _, _, _, _, _, _, _, hb, _, hn, _⟩ := R
    rw [sizeLine_eq]; unfold scanBound at hb; omega
  rw [Vals.ref1 r]
  refine sorted_setN R (I.ok.hd hc) fun s2 p out c ns k g o hp hg hi hs hm hl => ?_
  have hn : H p = none := I.hok.fresh hp
  have J : Inv X pins σ (upd H p (.lst (ns.map V.int))) { s with heap := s2.heap, gens := s2.gens, drawn := s2.drawn, toks := s2.toks } :=
    I.call (ch := []) (Un.laid k hp hn) (I.hok.laid k hp ⟨by rw [List.length_map, hl]; exact n0, out, c, vals_of_ints hi, hg⟩) (by rw [g]; exact I.bare) (fun _ z => nomatch z)
  have e : s2 = { s with heap := s2.heap, gens := s2.gens, drawn := s2.drawn, toks := s2.toks } := by
    cases s2; cases s; cases o; rfl
  rw [e]
  exact ⟨.ref p, _, J, rfl, q ns p hs hm hn⟩
end
end XT
/-! for i, x in enumerate(t), t a tuple -/
namespace XT
open PySem PySem.Spec PyProof.Rows L2
abbrev enO (it : Addr) : Obj := { cls := .type "enumerate", data := .fields #[.none, .bool false, .ref it, rawInt 0, .none, .none] }
abbrev tiO (t : Addr) : Obj := { cls := .type "tuple_iterator", data := .fields #[.ref t, .int 0 0] }
theorem newEnumT (t : Addr) (items : Array Value) : Meets (Builtin.«enumerate.__new__» ⟨[.type "enumerate", .ref t], []⟩)
    (fun _ R s => s.heap.IsTuple t items ∧ R (.ok (.ret (.ref (s.heap.push (tiO t)).objs.size))) { s with heap := (s.heap.push (tiO t)).push (enO s.heap.objs.size) }) :=
  .of_wp fun prog w A R s h => by
    obtain ⟨hp, ge, dr, tk, os⟩ := s
    obtain ⟨h1, h2⟩ := h
    have sb := sub_enumerate
    have q : ∀ {A2 : Around} {E : Value → Shared → Prop} {Q : Value → Shared → Prop}, Q (.ref hp.objs.size) ⟨hp.push (tiO t), ge, dr, tk, os⟩ → wpAny (model prog w) A2 (pyIter (.ref t)) Q E ⟨hp, ge, dr, tk, os⟩ :=
      fun z => wpAny_pyIter_tuple (s := ⟨hp, ge, dr, tk, os⟩) h1 z
    wp_walk using q
    refine wpAny_stack_any fun st => wpAny_pure ?_
    split
    · rename_i c _ _ _ _ _
      cases (c == Value.type "enumerate") <;> (wp_walk using q; exact ⟨_, rfl, h2⟩)
    · wp_walk using q
      exact ⟨_, rfl, h2⟩
section
variable {prog : Program} {w : World} {A : Around} {E : Value → Shared → Prop} {s : Shared}
theorem call_enumT {t : Addr} {items : Array Value} {Q : Value → Shared → Prop} (hT : s.heap.IsTuple t items)
    (h : ∀ hp, IsEnum hp (s.heap.objs.size + 1) s.heap.objs.size 0 .none → hp.IsTupleIter s.heap.objs.size t 0 → (∀ b o, s.heap.get? b = some o → hp.get? b = some o) → Q (.ref (s.heap.objs.size + 1)) { s with heap := hp }) :
    wpAny (model prog w) A (call (.type "enumerate") [.ref t]) Q E s := by
  refine callType_new F.called_enumerate (by decide) (F.typeCall_enumerate_1 _) (F.newCall_enumerate_1 _) (fun obj => F.args_object_init_2 obj _) F.entry_enumerate_new (newEnumT t items) ⟨hT, ?_⟩
  have z : (s.heap.push (tiO t)).objs.size = s.heap.objs.size + 1 := Heap.size_push ..
  have e0 := Heap.get?_push_size (s.heap.push (tiO t)) (o := enO s.heap.objs.size) rfl
  rw [z] at e0
  show _ ∧ _
  rw [z]
  exact ⟨⟨_, e0, rfl⟩, h _ e0 ⟨_, Heap.get?_push_of_some _ (Heap.get?_push_size _ rfl), rfl, rfl⟩ fun b o x => Heap.get?_push_of_some _ (Heap.get?_push_of_some _ x)⟩
end
/-- the tuple at a, its items in new pairs with their places -/
def ItT (K : PySem.W.Frag) (a : Addr) : It :=
  ⟨fun i H => ∃ (xs : List V) (x : V), SqT K H a xs ∧ xs[i]? = some x,
   fun i H v H2 => ∃ T x, v = .ref T ∧ H T = none ∧ H2 = upd H T (.tup [.int (i : Nat), x]) ∧ ∀ xs, SqT K H a xs → xs[i]? = some x,
   fun i H => ∃ xs : List V, SqT K H a xs ∧ xs.length = i⟩
theorem turn_enumT {P : Program} {w : World} {K : PySem.W.Frag} {elts : List Expr} {kk : Nat} {tpos : Pos} (a e it : Addr) (hne : e ≠ it) (hai : a ≠ it) (hae : e ≠ a) :
    Turn P w K (.Tuple elts kk tpos) (ItT K a) [e, it] e (fun i h => (∃ old, IsEnum h e it ((i : Nat) : Int) old) ∧ h.IsTupleIter it a i) where
  mem := List.mem_cons_self
  obj := fun i h st b hb => by
    obtain ⟨⟨old, he⟩, ⟨o, ho, hc, hd⟩⟩ := st
    rcases List.mem_cons.mp hb with z | z
    · rw [z]; exact ⟨_, he, fun v q => nomatch q⟩
    · rw [List.mem_singleton.mp z]; exact ⟨o, ho, fun v q => by rw [hd] at q; cases q⟩
  keep := fun i h h2 st k => ⟨let ⟨old, he⟩ := st.1; ⟨old, k e (by simp) _ he⟩, st.2.at fun o q => k it (by simp) o q⟩
  item := by
    intro X hP hw hK hc i pins s σ H E I hf st hg
    subst hP hw hK
    obtain ⟨⟨old, he⟩, hit⟩ := st
    obtain ⟨xs, x, hq, hx⟩ := hg
    obtain ⟨its, rv, p, hz⟩ := I.tuple hq
    obtain ⟨u, hu, ru⟩ := rv.get hx
    have p' : s.heap.IsTuple a its.toArray := p
    have el : e < s.heap.objs.size := Heap.lt_size he
    have il : it < s.heap.objs.size := by obtain ⟨_, q, _⟩ := hit; exact Heap.lt_size q
    have hi : i < its.toArray.size := by
      rw [List.size_toArray]; exact (List.getElem?_eq_some_iff.mp hu).1
    refine wpAny_pyNext_enum_itemD (Draws.tuple (A := X.A.in1) (I.ok.hd hc) it a hai its.toArray) he ⟨hit, p'⟩ hi hne (by simp [hne, hae]) fun y h1 tk hy ho hit1 hT hsz hk => ?_
    have ey : y = u := by
      have q : its.toArray[i]? = some u := by simpa using hu
      exact Option.some.inj (hy.symm.trans q)
    subst ey
    refine ⟨_, rfl, wpAny_letOwnedTupleGo_enum (s := { s with heap := h1, toks := tk + 1 }) ho fun h2 he2 sb => ?_⟩
    have gT : h2.get? s.heap.objs.size = some { cls := .type "tuple", data := .seq #[.int i tk, y] } := (sb.2 _ (Nat.ne_of_gt el)).trans hT
    have new : ObjOk X.prog X.w (upd H s.heap.objs.size (.tup [.int (i : Nat), x])) h2 s.heap.objs.size (.tup [.int (i : Nat), x]) :=
      ⟨sz (n := 2) (by decide), [.int i tk, y], .cons ⟨_, rfl⟩ (.cons ru .nil), ⟨_, gT, rfl, _, rfl⟩⟩
    have J := I.turnedNew (t' := tk + 1) (ch := [e, it]) (fun b ob hb q => (sb.2 b (fun z => hb (by simp [z]))).trans (hk b ob (fun z => hb (by simp [z])) (fun z => hb (by simp [z])) q)) hf (Nat.le_refl _) new
    refine ⟨.ref s.heap.objs.size, _, J, rfl, ⟨_, x, rfl, I.hok.fresh (Nat.le_refl _), rfl, fun ys hy => by rw [I.tuple_inj hy hq]; exact hx⟩, ⟨⟨y, ?_⟩, hit1.1.at fun o q => (sb.2 it (Ne.symm hne)).trans q⟩, fun b hb => ?_⟩
    · rw [show ((i + 1 : Nat) : Int) = (i : Int) + 1 by omega]; exact he2
    · have hb2 : b < s.heap.objs.size := by
        rcases List.mem_cons.mp hb with z | z
        · rw [z]; exact el
        · rw [List.mem_singleton.mp z]; exact il
      rw [upd_ne (Nat.ne_of_lt hb2)]
      exact (hf b hb).1
  done := by
    intro X hP hw hK hc i pins s σ H E I hf st hg
    subst hP hw hK
    obtain ⟨⟨old, he⟩, hit⟩ := st
    obtain ⟨xs, hq, hx⟩ := hg
    obtain ⟨its, rv, p, hz⟩ := I.tuple hq
    obtain ⟨f0, f1, f2, f3, f4, f5⟩ := hf it (by simp)
    have hl : its.toArray.size = i := by rw [List.size_toArray, ← rv.length]; exact hx
    have D := Draws.tuple (prog := X.prog) (w := X.w) (A := X.A.in1) (I.ok.hd hc) it a hai its.toArray
    rw [hl] at D
    exact wpAny_pyNext_enum_endD D he ⟨hit, p⟩ fun h2 eb => ⟨rfl, I.turned (t' := s.toks) (fun b o hb q => eb b o hb q) f0 f1 f3 f4 f5⟩
  self := fun A i s Q E st h => let ⟨⟨_, he⟩, _⟩ := st; wpAny_pyIter_enum he h
def iEnT (K : PySem.W.Frag) (ta : TA) : TI := fun σ H R => ta σ H fun vs H1 => ∃ a xs, vs = [.ref a] ∧ SqT K H1 a xs ∧ R (ItT K a) H1
theorem pi_enumT {X : Cx} {e : Expr} {ta : TA} {p pos tpos : Pos} {elts : List Expr} {kk : Nat} (hg : Gl X "enumerate") (hm : X.mg "enumerate" = none) (ha : PA X [e] ta) (hs : starEach [e] X.env = [(false, eval e X.env)] := by rfl) :
    PI X (.Tuple elts kk tpos) (.Call (.Name "enumerate" p) [e] [] pos) (iEnT X.K ta) := by
  refine ⟨fun pins s σ H R I h => Call_ (ld_blt I hg hm boot_enumerate (callWith_type1 (thn (ha.run pos pins s σ H _ I h) fun us s1 ⟨vs, H1, I1, r1, q1⟩ => ?_) hs rfl))⟩
  obtain ⟨a, xs, ex, hq, q⟩ := q1
  subst ex
  obtain ⟨u, rfl, ru⟩ := vals1 r1
  cases (show u = Value.ref a from ru)
  obtain ⟨its, rv, p2, hz⟩ := I1.tuple hq
  have al : a < s1.heap.objs.size := by obtain ⟨o, ho, _⟩ := p2; exact Heap.lt_size ho
  refine call_enumT (items := its.toArray) p2 fun hp he hit hk => wpAny_pyIter_enum he ?_
  have I2 : Inv X pins σ H1 { s1 with heap := hp } := I1.kept (t' := s1.toks) hk
  refine ⟨s1.heap.objs.size + 1, [s1.heap.objs.size + 1, s1.heap.objs.size], _, _, H1, rfl, I2, turn_enumT a (s1.heap.objs.size + 1) s1.heap.objs.size (Nat.succ_ne_self _) (Nat.ne_of_lt al) (Nat.ne_of_gt (Nat.lt_succ_of_lt al)), ⟨⟨.none, he⟩, hit⟩, fun b hb => ?_, q⟩
  have hle : s1.heap.objs.size ≤ b := by
    rcases List.mem_cons.mp hb with z | z
    · rw [z]; exact Nat.le_succ _
    · rw [List.mem_singleton.mp z]; exact Nat.le_refl _
  exact I1.fpOk hle (I1.hok.fresh hle)
end XT
/-! lots as lists of numbers -/
namespace XT
open PySem PySem.Spec PyProof.Rows L2
def lotOf (w : Nat) (P : Nat → Bool) : List Nat := (List.range (2 ^ w)).filter P
def vm (ms : List Nat) : List V := ms.map fun (m : Nat) => V.int (m : Int)
theorem mem_lot {w : Nat} {P : Nat → Bool} {m : Nat} : m ∈ lotOf w P ↔ m < 2 ^ w ∧ P m = true := by
  unfold lotOf
  rw [List.mem_filter, List.mem_range]
theorem lot_congr {w : Nat} {P P' : Nat → Bool} (h : ∀ m, m < 2 ^ w → P m = P' m) : lotOf w P = lotOf w P' := by
  unfold lotOf
  exact List.filter_congr fun m hm => h m (List.mem_range.mp hm)
theorem pow6 {w : Nat} (h : w ≤ 6) : 2 ^ w ≤ 64 := by
  have : w = 0 ∨ w = 1 ∨ w = 2 ∨ w = 3 ∨ w = 4 ∨ w = 5 ∨ w = 6 := by omega
  rcases this with rfl | rfl | rfl | rfl | rfl | rfl | rfl <;> decide
theorem pow0 (w : Nat) : 0 < 2 ^ w := Nat.pow_pos (by decide)
theorem lot_len {w : Nat} (h : w ≤ 6) (P : Nat → Bool) : (lotOf w P).length ≤ 64 := by
  refine Nat.le_trans (List.length_filter_le _ _) ?_
  rw [List.length_range]
  exact pow6 h
theorem vm_len (ms : List Nat) : (vm ms).length = ms.length := List.length_map _
/-- two rising lists with the same members are one -/
theorem rising_eq : ∀ {l m : List Int}, l.Pairwise (· < ·) → m.Pairwise (· < ·) → (∀ k, k ∈ l ↔ k ∈ m) → l = m
  | [], [], _, _, _ => rfl
  | [], b :: m, _, _, h => absurd ((h b).mpr List.mem_cons_self) (by simp)
  | a :: l, [], _, _, h => absurd ((h a).mp List.mem_cons_self) (by simp)
  | a :: l, b :: m, hl, hm, h => by
    obtain ⟨l1, l2⟩ := List.pairwise_cons.mp hl
    obtain ⟨m1, m2⟩ := List.pairwise_cons.mp hm
    have e : a = b := by
      rcases List.mem_cons.mp ((h a).mp List.mem_cons_self) with e | e
      · exact e
      · rcases List.mem_cons.mp ((h b).mpr List.mem_cons_self) with e' | e'
        · exact e'.symm
        · have := m1 a e
          have := l1 b e'
          omega
    subst e
    congr 1
    refine rising_eq l2 m2 fun k => ⟨fun hk => ?_, fun hk => ?_⟩
    · rcases List.mem_cons.mp ((h k).mp (List.mem_cons_of_mem _ hk)) with e | e
      · have := l1 k hk
        omega
      · exact e
    · rcases List.mem_cons.mp ((h k).mpr (List.mem_cons_of_mem _ hk)) with e | e
      · have := m1 k hk
        omega
      · exact e
theorem range_rising (n : Nat) : ((List.range n).map fun (m : Nat) => (m : Int)).Pairwise (· < ·) := by
  rw [List.pairwise_map]
  exact List.pairwise_lt_range.imp fun h => by omega
theorem lot_rising (w : Nat) (P : Nat → Bool) : ((lotOf w P).map fun (m : Nat) => (m : Int)).Pairwise (· < ·) := by
  unfold lotOf
  have h := List.pairwise_map.mp (range_rising (2 ^ w))
  rw [List.pairwise_map]
  exact h.filter _
theorem rising_lot {w : Nat} {P : Nat → Bool} {ns : List Int} (h : ns.Pairwise (· < ·)) (hm : ∀ k, k ∈ ns ↔ ∃ m : Nat, k = m ∧ m < 2 ^ w ∧ P m = true) : ns.map V.int = vm (lotOf w P) := by
  have e : ns = (lotOf w P).map fun (m : Nat) => (m : Int) := rising_eq h (lot_rising w P) fun k => by
    rw [hm k, List.mem_map]
    constructor
    · rintro ⟨m, rfl, h1, h2⟩
      exact ⟨m, mem_lot.mpr ⟨h1, h2⟩, rfl⟩
    · rintro ⟨m, h1, rfl⟩
      exact ⟨m, rfl, mem_lot.mp h1⟩
  rw [e, List.map_map]
  rfl
theorem vm_ints (ms : List Nat) : vm ms = (ms.map fun (m : Nat) => (m : Int)).map V.int := by
  unfold vm
  rw [List.map_map]
  rfl
theorem vm_flat (ms : List Nat) : (vm ms).all flatV = true := by
  rw [List.all_eq_true]
  intro v hv
  obtain ⟨m, _, rfl⟩ := List.mem_map.mp hv
  rfl
theorem in_vm (k : Nat) (ms : List Nat) : inV (.int (k : Int)) (vm ms) = decide (k ∈ ms) := by
  rw [Bool.eq_iff_iff, decide_eq_true_iff]
  unfold inV
  rw [List.any_eq_true]
  constructor
  · rintro ⟨v, hv, e⟩
    obtain ⟨m, hm, rfl⟩ := List.mem_map.mp hv
    have e' : ((m : Int) == (k : Int)) = true := e
    have : (m : Int) = k := by simpa using e'
    have : m = k := by omega
    rw [← this]
    exact hm
  · intro h
    exact ⟨_, List.mem_map.mpr ⟨k, h, rfl⟩, by show ((k : Int) == (k : Int)) = true; simp⟩
theorem in_lot {w : Nat} {P : Nat → Bool} {k : Nat} (hk : k < 2 ^ w) : inV (.int (k : Int)) (vm (lotOf w P)) = P k := by
  rw [in_vm, Bool.eq_iff_iff, decide_eq_true_iff, mem_lot]
  exact ⟨fun h => h.2, fun h => ⟨hk, h⟩⟩
/-- a lot -/
def LotAt (H : Hp) (v : V) (w : Nat) (P : Nat → Bool) : Prop := ∃ p q, v = .ref p ∧ H p = some (.tup [.int (w : Int), .ref q]) ∧ H q = some (.tup (vm (lotOf w P)))
theorem LotAt.same {H H' : Hp} {v : V} {w : Nat} {P : Nat → Bool} (h : LotAt H v w P) (e : Same H H') : LotAt H' v w P := by
  obtain ⟨p, q, rfl, h1, h2⟩ := h
  exact ⟨p, q, rfl, e _ _ h1, e _ _ h2⟩
theorem LotAt.keep {S : Sm} {H H' : Hp} {t : Int} {v : V} {w : Nat} {P : Nat → Bool} (h : LotAt H v w P) (k : Keep S H H') (st : Strm S H t) : LotAt H' v w P := by
  obtain ⟨p, q, rfl, h1, h2⟩ := h
  exact ⟨p, q, rfl, k.tup st h1, k.tup st h2⟩
theorem LotAt.congr {H : Hp} {v : V} {w : Nat} {P P' : Nat → Bool} (h : LotAt H v w P) (e : ∀ m, m < 2 ^ w → P m = P' m) : LotAt H v w P' := by
  obtain ⟨p, q, rfl, h1, h2⟩ := h
  exact ⟨p, q, rfl, h1, by rw [← lot_congr e]; exact h2⟩
def dLot (w : Nat) (P : Nat → Bool) : PyData := .tuple [.int (w : Int), .tuple ((lotOf w P).map fun (m : Nat) => .int (m : Int))]
theorem dpVm {K : PySem.W.Frag} {H : Hp} : ∀ ms : List Nat, DpAll K H (vm ms) (ms.map fun (m : Nat) => .int (m : Int))
  | [] => .nil
  | m :: ms => .cons (.int m) (dpVm ms)
theorem LotAt.dp {K : PySem.W.Frag} {H : Hp} {v : V} {w : Nat} {P : Nat → Bool} (h : LotAt H v w P) : Dp K H v (dLot w P) := by
  obtain ⟨p, q, rfl, h1, h2⟩ := h
  exact .tup (SqT.of h1) (.cons (.int _) (.cons (.tup (SqT.of h2) (dpVm _)) .nil))
theorem ints_lay : ∀ ms : List Nat, PyData.canLayAll0 (ms.map fun (m : Nat) => PyData.int (m : Int)) = true
  | [] => rfl
  | m :: ms => by
    have h := ints_lay ms
    simpa [PyData.canLayAll0, PyData.canLay0] using h
theorem ints_depth : ∀ ms : List Nat, PyData.depthAll (ms.map fun (m : Nat) => PyData.int (m : Int)) ≤ 1
  | [] => by decide
  | m :: ms => by
    have h := ints_depth ms
    simp only [PyData.depthAll, PyData.depth, List.map] at h ⊢
    omega
theorem dLot_shaped (w : Nat) (P : Nat → Bool) : SeqAt.shaped (dLot w P) = true := by
  have h1 : PyData.canLay0 (dLot w P) = true := by
    have h := ints_lay (lotOf w P)
    simp [dLot, PyData.canLay0, PyData.canLayAll0, h]
  have h2 : PyData.depth (dLot w P) ≤ 64 := by
    have h := ints_depth (lotOf w P)
    simp only [dLot, PyData.depth, PyData.depthAll]
    omega
  unfold SeqAt.shaped
  rw [h1, decide_eq_true h2]
  rfl
theorem eqv_ints : ∀ ms : List Nat, PyData.eqvAll (ms.map fun (m : Nat) => PyData.int (m : Int)) (ms.map fun (m : Nat) => PyData.int (m : Int)) = true
  | [] => rfl
  | m :: ms => by
    have h := eqv_ints ms
    simp [PyData.eqvAll, PyData.eqv, h]
theorem eqv_lot {w : Nat} {P P' : Nat → Bool} (h : ∀ m, m < 2 ^ w → P m = P' m) : PyData.eqv (dLot w P) (dLot w P') = true := by
  unfold dLot
  rw [lot_congr h]
  simp [PyData.eqv, PyData.eqvAll, eqv_ints]
/-- a != b, two lots that are one -/
theorem ne_lot {K : PySem.W.Frag} {H : Hp} {x y : V} {w : Nat} {P P' : Nat → Bool} {Q : VK} (hx : LotAt H x w P) (hy : LotAt H y w P') (h : ∀ m, m < 2 ^ w → P m = P' m) (q : Q (.bl false) H) : rNeD K x y H Q := by
  refine ⟨_, _, hx.dp, hy.dp, dLot_shaped _ _, dLot_shaped _ _, ?_⟩
  rw [eqv_lot h]
  exact q
end XT
/-! the program's own defs -/
namespace XT
open PySem PySem.Spec PyProof.Rows L2
def DefR (P : Program) (w : World) (K : PySem.W.Frag) (mg : Str → Option Value) (base : Heap) (k : Nat) (x : Str) (sp : Sp) : Prop :=
  ∃ f, FnR P w K mg base CX0 k f sp ∧ mg x = some (.ref f) ∧ PySem.W.keepIn K (.ref f) = true
theorem DefR.of {P : Program} {w : World} {K : PySem.W.Frag} {mg : Str → Option Value} {base : Heap} {k : Nat} {x : Str} {sp : Sp} {f : Addr} {fd : FuncData} {ps : List Str}
    (F : FnOk P w K mg base CX0 k f fd ps sp) (b : Binds K fd ps []) (hm : mg x = some (.ref f)) (hk : PySem.W.keepIn K (.ref f) = true) : DefR P w K mg base k x sp :=
  ⟨f, (FnOk.raw F b .nil).imp fun vs H Q E h => by rw [List.append_nil]; exact h, hm, hk⟩
section
variable {X : Cx}
/-- f(e, ..) -/
theorem pe_def {j : Nat} {x : Str} {sp : Sp} {e : Expr} {es : List Expr} {t : TA} {p pos : Pos} (D : DefR X.prog X.w X.K X.mg X.base j x sp) (hr : Room j X.A) (hg : Gl X x) (ha : PA X (e :: es) t)
    (hdb : (x == ("__debug__" : Str)) = false := by decide) (he : starEach (e :: es) X.env = (false, eval e X.env) :: starEach es X.env := by rfl) (hpl : (backTo pos (starEach es X.env)).any (·.1) = false := by rfl) :
    PE X (.Call (.Name x p) (e :: es) [] pos) (fun σ H Q => t σ H fun vs H1 => sp vs H1 Q E0) := by
  obtain ⟨f, F, hm, hk⟩ := D
  refine ⟨fun pins s σ H Q I h => wpAny_Call_Name_kw (ld_glob I hg hm ?_ hdb)⟩
  refine PySem.W.callWith_K (h₀ := X.base) I.ok.mod.kin hk (thn (ha.run pos pins s σ H _ I h) fun us s1 ⟨vs, H1, I1, r, q⟩ => ⟨I1.kIn, ?_⟩) he hpl
  refine wpAny_call (codeAny_mono (run_fnR F hr pass0 I1 r q) fun r s2 z => ?_)
  match r, z with
  | .ok (.ret v), z => exact z
  | .ok .next, z => exact z.elim
  | .ok .brk, z => exact z.elim
  | .ok .cont, z => exact z.elim
  | .error e, z => exact z
end
theorem bT : bootBuiltins "tuple" = some (.type "tuple") := by decide +kernel
theorem bS : bootBuiltins "sorted" = some (.builtin "sorted") := by decide +kernel
theorem bI : bootBuiltins "isinstance" = some (.builtin "isinstance") := by decide +kernel
theorem bInt : bootBuiltins "int" = some (.type "int") := by decide +kernel
theorem bBool : bootBuiltins "bool" = some (.type "bool") := by decide +kernel
theorem bSet : bootBuiltins "set" = some (.type "set") := by decide +kernel
theorem bAll : bootBuiltins "all" = some (.builtin "all") := by decide +kernel

section
variable {P : Program} {w : World} {K : PySem.W.Frag} {mg : Str → Option Value} {base : Heap}
/-- the module's names that are still the built-in ones -/
structure Bl (mg : Str → Option Value) : Prop where
  len : mg "len" = none
  abs : mg "abs" = none
  tuple : mg "tuple" = none
  sorted : mg "sorted" = none
  isinstance : mg "isinstance" = none
  int : mg "int" = none
  bool : mg "bool" = none
  set : mg "set" = none
  all : mg "all" = none
  range : mg "range" = none
  enumerate : mg "enumerate" = none

theorem shl1 (n : Nat) : (1 : Int) * 2 ^ ((n : Int).toNat) = ((2 ^ n : Nat) : Int) := by
  rw [Int.toNat_natCast, Int.one_mul]
  norm_cast
theorem cpow {n : Nat} (h : n ≤ 6) : CPow 1 (n : Int) := ⟨by omega, by omega, by decide⟩
theorem xor_lt {a b n : Nat} (ha : a < 2 ^ n) (hb : b < 2 ^ n) : a ^^^ b < 2 ^ n := Nat.xor_lt_two_pow ha hb
theorem bx (a b : Nat) : Builtin.bitXor (a : Int) (b : Int) = ((a ^^^ b : Nat) : Int) := by
  rw [Bits.bitXor_pp (by omega) (by omega)]
  rfl
end
end XT
namespace XT
open PySem PySem.Spec PyProof.Rows L2
theorem lot_filter (n : Nat) (p q : Nat → Bool) : (lotOf n p).filter q = lotOf n (fun m => p m && q m) := by
  unfold lotOf
  rw [List.filter_filter]
  refine List.filter_congr fun m _ => ?_
  rw [Bool.and_comm]
theorem vm_filter (ms : List Nat) (q : Nat → Bool) (r : V → Bool) (h : ∀ m ∈ ms, r (.int (m : Int)) = q m) : ((vm ms).filter r).map id = vm (ms.filter q) := by
  unfold vm
  rw [List.map_id, List.filter_map]
  congr 1
  exact List.filter_congr fun m hm => h m hm
theorem mem_vm {ms : List Nat} {i : Nat} {v : V} (h : (vm ms)[i]? = some v) : ∃ m, ms[i]? = some m ∧ v = .int (m : Int) := by
  unfold vm at h
  rw [List.getElem?_map] at h
  obtain ⟨m, h1, h2⟩ := Option.map_eq_some_iff.mp h
  exact ⟨m, h1, h2.symm⟩
/-- for i, x in enumerate(t) -/
theorem for_enumT {K : PySem.W.Frag} {a : Addr} {xs : List V} {g : TG} {tb : TS} {D : Ends} {σ : L2.St} {H : Hp} (Pv : Nat → L2.St → Hp → Prop) (h0 : Pv 0 σ H) (hl : ∀ i σ H, i ≤ xs.length → Pv i σ H → SqT K H a xs)
    (hs : ∀ i x σ H T, xs[i]? = some x → Pv i σ H → H T = none → g (.ref T) σ (upd H T (.tup [.int (i : Nat), x])) fun σ2 H2 => tb { D with nx := Pv (i + 1), ct := Pv (i + 1), bk := D.nx } σ2 H2) (hd : ∀ σ H, Pv xs.length σ H → D.nx σ H) :
    ∃ W : Nat → Nat → L2.St → Hp → Prop, (∃ m, W 0 m σ H) ∧ ∀ i m σ H, W i m σ H →
      ((ItT K a).stop i H ∧ D.nx σ H) ∨ ((ItT K a).go i H ∧ ∃ N : L2.St → Hp → Prop, (∀ σ' H', N σ' H' → ∃ m', m' < m ∧ W (i + 1) m' σ' H') ∧ ∀ x H', (ItT K a).yld i H x H' → g x σ H' fun σ2 H2 => tb { D with nx := N, ct := N, bk := D.nx } σ2 H2) := by
  refine ⟨fun i m σ H => m = xs.length - i ∧ i ≤ xs.length ∧ Pv i σ H, ⟨xs.length, by simp, Nat.zero_le _, h0⟩, ?_⟩
  rintro i m σ H ⟨rfl, hi, p⟩
  have q := hl i σ H hi p
  rcases Nat.lt_or_ge i xs.length with lt | ge
  · refine .inr ⟨⟨xs, xs[i], q, List.getElem?_eq_getElem lt⟩, Pv (i + 1), fun σ' H' p' => ⟨xs.length - (i + 1), by omega, rfl, lt, p'⟩, fun v H' y => ?_⟩
    obtain ⟨T, x, rfl, nT, rfl, fx⟩ := y
    exact hs i x σ H T (fx xs q) p nT
  · have e : i = xs.length := by omega
    subst e
    exact .inl ⟨⟨xs, q, rfl⟩, hd σ H p⟩
theorem r62 {n : Nat} (h : n ≤ 6) : ((2 ^ n : Nat) : Int) < 2 ^ 62 := by
  have := pow6 h
  omega
theorem l62 {n : Nat} : -(2 ^ 62) ≤ ((2 ^ n : Nat) : Int) := Int.le_trans (by decide : -(2 ^ 62) ≤ (0 : Int)) (Int.natCast_nonneg _)
end XT
/-! draws within comprehensions; the lots that the law draws -/
namespace XT
open PySem PySem.Spec PyProof.Rows L2
/-- the stream's time goes on, all else stays -/
structure Step (S : Sm) (H : Hp) (t : Int) (H' : Hp) (t' : Int) (n : Nat) : Prop where
  keep : Keep S H H'
  st : Strm S H' t'
  lo : t ≤ t'
  hi : t' ≤ t + n
def spDrawN : Sp := fun vs H Q _ => ∃ (S : Sm) (t : Int) (m : Nat), vs = [.ref S.s, .int (m : Int)] ∧ Strm S H t ∧ 0 < m ∧ m ≤ 1000 ∧ t < 100000000 ∧
  ∀ (H' : Hp) (r : Nat) (t' : Int), Step S H t H' t' 1 → r < m → Q (.int (r : Int)) H'
theorem drawN {P : Program} {w : World} {K : PySem.W.Frag} {mg : Str → Option Value} {base : Heap} {k : Nat} {x : Str} (D : DefR P w K mg base k x spDraw) : DefR P w K mg base k x spDrawN := by
  obtain ⟨f, F, h1, h2⟩ := D
  refine ⟨f, F.imp fun vs H Q E ⟨S, t, m, ev, st, m0, m1, t1, q⟩ => ⟨S, t, m, ev, st, by omega, by omega, by omega, fun H' r t' k s a b r0 r1 => ?_⟩, h1, h2⟩
  obtain ⟨n, rfl⟩ := Int.eq_ofNat_of_zero_le r0
  exact q H' n t' ⟨k, s, a, b⟩ (by omega)
theorem Step.refl {S : Sm} {H : Hp} {t : Int} (h : Strm S H t) : Step S H t H t 0 := ⟨Keep.refl S H, h, Int.le_refl _, by omega⟩
theorem Step.trans {S : Sm} {H H1 H2 : Hp} {t t1 t2 : Int} {n m : Nat} (a : Step S H t H1 t1 n) (b : Step S H1 t1 H2 t2 m) : Step S H t H2 t2 (n + m) := ⟨a.keep.trans b.keep, b.st, Int.le_trans a.lo b.lo, by have := a.hi; have := b.hi; omega⟩
theorem Step.same {S : Sm} {H H1 H2 : Hp} {t t1 : Int} {n : Nat} (a : Step S H t H1 t1 n) (b : Same H1 H2) : Step S H t H2 t1 n := ⟨a.keep.trans (Keep.of b), a.st.same b, a.lo, a.hi⟩
theorem Step.mono {S : Sm} {H H1 : Hp} {t t1 : Int} {n m : Nat} (a : Step S H t H1 t1 n) (h : n ≤ m) : Step S H t H1 t1 m := ⟨a.keep, a.st, a.lo, by have := a.hi; omega⟩
section
variable {K : PySem.W.Frag} {a : Addr} {g : TG} {tt : TT} {te : TE} {vs : List Nat} {σ : L2.St} {H1 : Hp} {D : Addr} {Qd : Hp → Prop} {S : Sm} {t0 : Int} {c : Nat}
/-- what one turn must do: the stream is drawn from at most d times, and what is kept is a number below c -/
def TurnS (S : Sm) (c d : Nat) (g : TG) (tt : TT) (te : TE) (vs : List Nat) (σ : L2.St) (x : V) (H : Hp) (t : Int) : Prop :=
  ∀ (R1 : Hp → Prop) (R2 : V → Hp → Prop), (∀ H3 t3, Step S H t H3 t3 d → R1 H3) → (∀ (k : Nat) H4 t4, Step S H t H4 t4 d → k < c → R2 (.int (k : Int)) H4) →
    g x (wipe σ vs) H fun σ2 H2 => wipe σ2 vs = wipe σ vs ∧ tt σ2 H2 fun b H3 => if b = true then te σ2 H3 R2 else R1 H3
def PvS (S : Sm) (c d : Nat) (H1 : Hp) (t0 : Int) (D : Addr) (i : Nat) (H : Hp) : Prop := ∃ (ks : List Nat) (t : Int), Step S H1 t0 H t (d * i) ∧ H D = some (.lst (vm ks)) ∧ (∀ k ∈ ks, k < c) ∧ ks.length ≤ i
theorem pvs_start (st : Strm S H1 t0) (nD : H1 D = none) (d : Nat) : PvS S c d H1 t0 D 0 (upd H1 D (.lst [])) := ⟨[], t0, ((Step.refl st).same (same_new nD)).mono (Nat.zero_le _), upd_same, by simp, by simp⟩
theorem pvs_turn {d i : Nat} {x : V} {H : Hp} (st0 : Strm S H1 t0) (nD : H1 D = none) (hi : i ≤ 1000) (h : PvS S c d H1 t0 D i H) (ht : ∀ t, Step S H1 t0 H t (d * i) → TurnS S c d g tt te vs σ x H t) :
    g x (wipe σ vs) H fun σ2 H2 => wipe σ2 vs = wipe σ vs ∧ tt σ2 H2 fun b H3 =>
      if b = true then te σ2 H3 fun y H4 => ∃ acc, H4 D = some (.lst acc) ∧ acc.length < sizeLine ∧ PvS S c d H1 t0 D (i + 1) (upd H4 D (.lst (acc ++ [y]))) else PvS S c d H1 t0 D (i + 1) H3 := by
  obtain ⟨ks, t, stp, hD, hk, hl⟩ := h
  refine ht t stp _ _ (fun H3 t3 s3 => ?_) (fun k H4 t4 s4 hkc => ?_)
  · exact ⟨ks, t3, (stp.trans s3).mono (by rw [Nat.mul_succ]; exact Nat.le_refl _), s3.keep.mine st0 nD hD, hk, by omega⟩
  · have hD4 := s4.keep.mine st0 nD hD
    refine ⟨_, hD4, small64 (by rw [vm_len]; omega), ks ++ [k], t4, ?_, ?_, ?_, ?_⟩
    · have z := stp.trans s4
      have nDs : D ≠ S.s := fun e => by obtain ⟨_, h⟩ := st0; rw [e, h.hs] at nD; cases nD
      have nDp : D ≠ S.p := fun e => by obtain ⟨_, h⟩ := st0; rw [e, h.hp] at nD; cases nD
      have nDq : D ≠ S.q := fun e => by obtain ⟨_, h⟩ := st0; rw [e, h.hq] at nD; cases nD
      refine ⟨fun b o n1 n2 e => ?_, ?_, z.lo, by have := z.hi; rw [Nat.mul_succ]; exact this⟩
      · rw [upd_ne (ne_of_none e nD)]
        exact z.keep b o n1 n2 e
      · obtain ⟨big, hb⟩ := z.st
        refine ⟨big, ?_, ?_, ?_, hb.sp, hb.sq, hb.pq, hb.ne, hb.t0⟩
        · rw [upd_ne nDs.symm]; exact hb.hs
        · rw [upd_ne nDp.symm]; exact hb.hp
        · rw [upd_ne nDq.symm]; exact hb.hq
    · rw [upd_same]; unfold vm; rw [List.map_append]; rfl
    · intro j hj
      rcases List.mem_append.mp hj with hj | hj
      · exact hk j hj
      · rw [List.mem_singleton.mp hj]; exact hkc
    · rw [List.length_append]; simp; exact hl
theorem lcs_range {n d : Nat} (st0 : Strm S H1 t0) (nD : H1 D = none) (hn : n ≤ 1000) (ht : ∀ (i : Nat) H t, i < n → Step S H1 t0 H t (d * i) → TurnS S c d g tt te vs σ (.int (0 + (i : Int))) H t) (hd : ∀ H, PvS S c d H1 t0 D n H → Qd H) :
    ∃ W : Nat → Nat → Hp → Prop, (∃ m, W 0 m (upd H1 D (.lst []))) ∧ ∀ i m H, W i m H →
      ((Itr 0 n).stop i H ∧ Qd H) ∨ ((Itr 0 n).go i H ∧ ∃ Nx : Hp → Prop, (∀ H', Nx H' → ∃ m', m' < m ∧ W (i + 1) m' H') ∧ ∀ x H', (Itr 0 n).yld i H x H' → g x (wipe σ vs) H' fun σ2 H2 => wipe σ2 vs = wipe σ vs ∧ tt σ2 H2 fun b H3 =>
        if b = true then te σ2 H3 fun y H4 => ∃ acc, H4 D = some (.lst acc) ∧ acc.length < sizeLine ∧ Nx (upd H4 D (.lst (acc ++ [y]))) else Nx H3) :=
  lc_range (lo := 0) (n := n) (fun i H => PvS S c d H1 t0 D i H) (pvs_start st0 nD d) (fun i H hi h => pvs_turn st0 nD (by omega) h fun t s => ht i H t hi s) hd
theorem lcs_list {ms : List Nat} {d : Nat} (st0 : Strm S H1 t0) (nD : H1 D = none) (hA : H1 a = some (.lst (vm ms))) (as : a ≠ S.s) (ap : a ≠ S.p) (hn : ms.length ≤ 1000)
    (ht : ∀ (i : Nat) (m : Nat) H t, ms[i]? = some m → Step S H1 t0 H t (d * i) → TurnS S c d g tt te vs σ (.int (m : Int)) H t) (hd : ∀ H, PvS S c d H1 t0 D ms.length H → Qd H) :
    ∃ W : Nat → Nat → Hp → Prop, (∃ m, W 0 m (upd H1 D (.lst []))) ∧ ∀ i m H, W i m H →
      ((Itl K a).stop i H ∧ Qd H) ∨ ((Itl K a).go i H ∧ ∃ Nx : Hp → Prop, (∀ H', Nx H' → ∃ m', m' < m ∧ W (i + 1) m' H') ∧ ∀ x H', (Itl K a).yld i H x H' → g x (wipe σ vs) H' fun σ2 H2 => wipe σ2 vs = wipe σ vs ∧ tt σ2 H2 fun b H3 =>
        if b = true then te σ2 H3 fun y H4 => ∃ acc, H4 D = some (.lst acc) ∧ acc.length < sizeLine ∧ Nx (upd H4 D (.lst (acc ++ [y]))) else Nx H3) := by
  refine lc_list (xs := vm ms) (fun i H => PvS S c d H1 t0 D i H) (pvs_start st0 nD d) (fun i H _ h => ?_) (fun i x H hx h => ?_) (fun H h => ?_)
  · obtain ⟨_, _, s, _⟩ := h
    exact SqL.of (s.keep a _ as ap hA)
  · obtain ⟨m, hm, rfl⟩ := mem_vm hx
    have hi : i < ms.length := (List.getElem?_eq_some_iff.mp hm).1
    exact pvs_turn st0 nD (by omega) h fun t s => ht i m H t hm s
  · rw [vm_len] at h
    exact hd H h
end
end XT
/-! the law's own call, where no repr is under way; repr of data -/
namespace XT
open PySem PySem.Spec PyProof.Rows L2
def RunC (P : Program) (w : World) (K : PySem.W.Frag) (mg : Str → Option Value) (base : Heap) (k : Nat) (f : Addr) (sp : Sp) : Prop :=
  ∀ (s : Shared) (H : Hp) (u : Value) (v : V) (Q : VK), Room k callerA → Env0 P w K mg base callerA [] s H → RelV v u → sp [v] H Q E0 → codeAny (model P w) callerA (.call (.ref f) ⟨[u], []⟩) (CR CX0 [] P w H s Q E0) s
section
variable {P : Program} {w : World} {K : PySem.W.Frag} {mg : Str → Option Value} {base : Heap}
theorem run_law {x par : Str} {st : Stmt} {f : Addr} {fd : FuncData} {N : List Str} {k : Nat} {sp : Sp} (F : Fun K x x st f fd) (S : FnScope N [par] (defScope st))
    (hb : ∀ (kV doc pm : Value) (an : Option Addr) (cdv ct u : Value), bindArgs (PySem.W.fnOf x x (defArgs st) (defBody st) (defScope st) .none kV doc pm an cdv ct) ⟨[u], []⟩ = pure [(par, u)])
    (hbody : ∀ (cdv : Value) (s : Shared) (H : Hp) (v : V) (Q : VK), Room k (callerA.deeper (envOfC x (defScope st) s.heap.objs.size f cdv)) → sp [v] H Q E0 →
      ∃ t, PSs (cxOf CX0 P w K mg base N x (defScope st) f cdv callerA [] s H E0).nox (defBody st) t ∧ t { nx := fun _ H' => Q .non H', rt := Q } (start N [v]) H) : RunC P w K mg base (k + 1) f sp := by
  obtain ⟨oc, od, kV, doc, pm, an, cdv, ct, osl, rfl, lk, hcd⟩ := F.ex
  intro s H u v Q hr e0 rv hsp
  refine StX.run_bnd lk hcd S hr e0 (G := fun vs H2 => vs = [v] ∧ H2 = H) (fun A2 Ex Q2 h => ?_) fun s2 H2 vs ⟨ev, eH⟩ hr2 => ?_
  · rw [hb kV doc pm an cdv ct u]
    exact wpAny_pure (h s H [v] [u] e0 Un.refl rfl (fun _ _ z => z) (.cons rv .nil) rfl ⟨rfl, rfl⟩)
  · subst ev eH
    obtain ⟨t, h1, h2⟩ := hbody cdv s2 H2 v Q hr2 hsp
    exact ⟨t, h1.nox, h2⟩
/-- from the law's promise to what the row asks of its call -/
theorem law_end {mb : Str → Option Value} {k : Nat} {fa a : Addr} {sp : Sp} {s1 : Shared} {vs : List Value} {ns : List Int} (KX : K.In s1.heap) (hns : s1.heap.Ns mainGlobals mg) (hb : s1.heap.Ns builtinsNs mb)
    (hbb : ∀ x : Str, x ≠ "__name__" → mb x = bootBuiltins x) (hlim : s1.heap.NoLimit) (hg : s1.gens = #[]) (ha : s1.heap.get? a = some { cls := .type "list", data := .seq vs.toArray }) (hi : IntsAre vs ns) (hl : ns.length ≤ sizeLine)
    (hr : Room k callerA) (F : ∀ base : Heap, K.In base → base.Ns mainGlobals mg → RunC P w K mg base k fa sp) (hsp : ∀ H : Hp, SqL K H a (ns.map V.int) → sp [.ref a] H (fun v _ => v = .bl true) E0) :
    codeAny (model P w) callerA (.call (.ref fa) ⟨[.ref a], []⟩) (fun r s2 => r = .ok (.ret (.bool true)) ∧ OldK s1.heap s2.heap ∧ s2.os = s1.os ∧ AllBare s2.gens) s1 := by
  have rv : Vals (ns.map V.int) vs := vals_of_ints hi
  have nl := hi.length
  have go : ∀ H : Hp, SqL K H a (ns.map V.int) → HOk P w H s1.heap → (∀ b, H b = none ∨ (b = a ∧ K.lookup a = none ∧ ∃ o xs, H b = some (.frz o (.lst xs)))) →
      codeAny (model P w) callerA (.call (.ref fa) ⟨[.ref a], []⟩) (fun r s2 => r = .ok (.ret (.bool true)) ∧ OldK s1.heap s2.heap ∧ s2.os = s1.os ∧ AllBare s2.gens) s1 := by
    intro H hS hok hO
    have nsK : ∀ {b : Addr} {m : Str → Option Value}, s1.heap.Ns b m → (hidT s1.heap H).Ns b m := fun {b m} ⟨o, es, ep, e, d, r⟩ => by
      refine ⟨o, es, ep, hidT_get e ?_, d, r⟩
      rcases hO b with z | ⟨z, _, _⟩
      · exact z
      · rw [z, ha] at e
        cases e
        have d2 : Data.seq vs.toArray _ = Data.dict es ep := d
        cases d2
    have kb : K.In (hidT s1.heap H) := fun b o e => by
      refine hidT_get (KX b o e) ?_
      rcases hO b with z | ⟨z, y, _⟩
      · exact z
      · rw [z, y] at e; cases e
    have M : Mod K mg (hidT s1.heap H) := ⟨kb, nsK hns, ⟨mb, nsK hb, hbb⟩, let ⟨mc, h1, h2⟩ := hlim; ⟨mc, nsK h1, h2⟩⟩
    have e0 : Env0 P w K mg (hidT s1.heap H) callerA [] s1 H := ⟨rfl, M, fun b o e => of_hidT e, Nat.le_of_eq (hidT_size _ _), trivial, fun b z => absurd (show b ∈ ([] : List Addr) from z) (by simp), hok, .of_eq hg⟩
    refine codeAny_mono (F _ kb (nsK hns) s1 H (.ref a) (.ref a) _ hr e0 rfl (hsp H hS)) fun r s2 z => ?_
    match r, z with
    | .error e, z => exact z.elim
    | .ok .next, z => exact z.elim
    | .ok .brk, z => exact z.elim
    | .ok .cont, z => exact z.elim
    | .ok (.ret u), z =>
      obtain ⟨v, H2, os, bare, un, hok2, rr, q⟩ := z
      have q : v = .bl true := q
      subst q
      obtain rfl : u = Value.bool true := rr
      refine ⟨rfl, OldK.of_keep fun b o e => ?_, os, bare⟩
      rcases hO b with y | ⟨_, _, ob, xs, y⟩
      · exact un.keep b o e y (fun z => absurd (show b ∈ ([] : List Addr) from z) (by simp)) (by simp)
      · obtain ⟨g1, _⟩ := hok b _ y
        obtain ⟨g2, _⟩ := hok2 b _ (un.frzs b ob _ y)
        rw [e] at g1
        cases g1
        exact g2
  cases hk : K.lookup a with
  | some o =>
    have e := KX a o hk
    rw [ha] at e
    cases e
    exact go (fun _ => none) (.inr ⟨_, vs.toArray, _, hk, rfl, rfl, rfl, by rw [List.size_toArray, nl]; exact hl, by simpa using rv⟩) (fun b u z => nomatch z) fun _ => .inl rfl
  | none =>
    refine go (upd (fun _ => none) a (.frz { cls := .type "list", data := .seq vs.toArray } (.lst (ns.map V.int)))) (.inl (.inr ⟨_, upd_same⟩)) (fun b u z => ?_) fun b => ?_
    · by_cases e : b = a
      · subst e
        rw [upd_same] at z
        cases z
        exact ⟨ha, by rw [List.length_map]; exact hl, vs, _, rv, ha⟩
      · rw [upd_ne e] at z
        cases z
    · by_cases e : b = a
      · exact .inr ⟨e, hk, _, _, by rw [e]; exact upd_same⟩
      · exact .inl (upd_ne e)
end
theorem walk_ofC {l : PySem.W.OpenLaw} {n k : Nat} {q : Program} {loose : List Str} {XP : (Str → Option Value) → Heap → Prop} {YP : World → Heap → Prop} {d : DefRec} {K : Params → PySem.W.Frag} {sp : World → Sp}
    (hn : l.most = some n) (hn2 : n ≤ sizeLine) (hdf : d.params.defaults = []) (hr : Room k callerA) (hY : ∀ (w : World) (h : Heap), YP w h → (K w.params).In h)
    (F : ∀ (w : World) (mg : Str → Option Value) (fa : Addr) (h : Heap), (K w.params).In h → h.Ns mainGlobals mg → mg d.name = some (.ref fa) → ∀ base : Heap, (K w.params).In base → base.Ns mainGlobals mg → RunC l.prog w (K w.params) mg base k fa (sp w))
    (hsp : ∀ (w : World) (H : Hp) (a : Addr) (ns : List Int), ns.length ≤ n → SqL (K w.params) H a (ns.map V.int) → sp w [.ref a] H (fun v _ => v = .bl true) E0) :
    PySem.W.WalkO q loose XP YP l.row.toRowW d [] (fun f vs => PySem.call f vs) :=
  Att.attach_call hn hdf fun w s0 s1 mg mb fa o pm cd doc a vs ns G Y ho hd hcd hmg hobj hints hlen hg =>
    law_end (hY w _ Y) G.T.g G.T.b G.T.builtins G.T.nolimit hg hobj hints (Nat.le_trans hlen hn2) hr (F w mg fa _ (hY w _ Y) G.T.g hmg) fun H hS => hsp w H a ns hlen hS
/-! repr -/
section
variable {X : Cx}
def rRepr (K : PySem.W.Frag) : List V → Hp → VK → Prop := fun xs H Q => ∃ (a : Addr) (d : PyData), xs = [.ref a] ∧ Dp K H (.ref a) d ∧ SeqAt.shaped d = true ∧ d.showable = true ∧ d.shown.length ≤ sizeLine ∧ Q (.str d.shown) H
theorem cr_repr (hg : X.A.guards = some []) (hu : X.A.units + 128 < cLine) : CallR X (.builtin "repr") (rRepr X.K) := by
  intro pins s σ H xs us Q I r h
  obtain ⟨a, d, rfl, hd, hs, hw, hz, q⟩ := h
  rw [Vals.ref1 r]
  obtain ⟨as, rd⟩ := Dp.reads I d (.ref a) (.ref a) hd rfl
  have nd : d.hasDict = false := PyData.hasDict_of_canLay d (SeqAt.canLay_of_shaped hs)
  have dp := SeqAt.depth_of_shaped hs
  refine repr_of_reads' rd hw (PyData.noDict_hsm nd) hg (by omega) (fun _ _ e => e) (fun h2 u tk k => ?_) hz
  exact ⟨.str d.shown, H, I.kept (t' := tk) k, ⟨u, rfl⟩, q⟩
end
end XT
/-! how long data are when shown -/
namespace XT
open PySem PySem.Spec PyProof.Rows L2
structure Shw (d : PyData) (n k : Nat) : Prop where
  lay : PyData.canLay0 d = true
  dep : PyData.depth d ≤ k
  shw : PyData.showable d = true
  len : (PyData.shown d).length ≤ n
structure ShwAll (ds : List PyData) (n k : Nat) : Prop where
  lay : PyData.canLayAll0 ds = true
  dep : PyData.depthAll ds ≤ k
  shw : PyData.showableAll ds = true
  len : ((PyData.shownAll ds).map (·.length)).sum + 2 * (PyData.shownAll ds).length ≤ n
theorem ShwAll.nil {k : Nat} : ShwAll [] 0 k := ⟨rfl, Nat.zero_le _, rfl, Nat.le_refl _⟩
theorem ShwAll.cons {d : PyData} {ds : List PyData} {n m k : Nat} (h : Shw d n k) (t : ShwAll ds m k) : ShwAll (d :: ds) (n + 2 + m) k := by
  refine ⟨?_, ?_, ?_, ?_⟩
  · simp only [PyData.canLayAll0, h.lay, t.lay, Bool.and_self]
  · simp only [PyData.depthAll]
    exact Nat.max_le.mpr ⟨h.dep, t.dep⟩
  · simp only [PyData.showableAll, h.shw, t.shw, Bool.and_self]
  · have h1 := h.len
    have h2 := t.len
    simp only [PyData.shownAll, List.map_cons, List.sum_cons, List.length_cons]
    omega
theorem Shw.mono {d : PyData} {n m k j : Nat} (h : Shw d n k) (a : n ≤ m) (b : k ≤ j) : Shw d m j := ⟨h.lay, Nat.le_trans h.dep b, h.shw, Nat.le_trans h.len a⟩
theorem ShwAll.mono {d : List PyData} {n m k j : Nat} (h : ShwAll d n k) (a : n ≤ m) (b : k ≤ j) : ShwAll d m j := ⟨h.lay, Nat.le_trans h.dep b, h.shw, Nat.le_trans h.len a⟩
theorem ShwAll.list {ds : List PyData} {n k : Nat} (h : ShwAll ds n k) : Shw (.list ds) (n + 3) (k + 1) := by
  refine ⟨by simpa only [PyData.canLay0] using h.lay, ?_, by simpa only [PyData.showable] using h.shw, ?_⟩
  · simp only [PyData.depth]
    have := h.dep
    omega
  · simp only [PyData.shown]
    have := listText_len_le (PyData.shownAll ds)
    have := h.len
    omega
theorem ShwAll.tuple {ds : List PyData} {n k : Nat} (h : ShwAll ds n k) : Shw (.tuple ds) (n + 3) (k + 1) := by
  refine ⟨by simpa only [PyData.canLay0] using h.lay, ?_, by simpa only [PyData.showable] using h.shw, ?_⟩
  · simp only [PyData.depth]
    have := h.dep
    omega
  · simp only [PyData.shown]
    have := tupleText_len_le (PyData.shownAll ds)
    have := h.len
    omega
theorem shw_nat {m : Nat} (h : m < 1000000) : Shw (.int (m : Int)) 13 0 := by
  refine ⟨rfl, Nat.le_refl _, ?_, PyData.shown_int_le (by omega)⟩
  show decide ((m : Int).natAbs.log2 < 1920) = true
  rw [decide_eq_true_iff, Int.natAbs_natCast]
  by_cases h0 : m = 0
  · subst h0; decide
  · exact Nat.lt_of_lt_of_le ((Nat.log2_lt h0).mpr (show m < 2 ^ 20 by omega)) (by decide)
theorem shw_nats : ∀ {ms : List Nat}, (∀ m ∈ ms, m < 1000000) → ShwAll (ms.map fun (m : Nat) => PyData.int (m : Int)) (15 * ms.length) 0
  | [], _ => ShwAll.nil
  | m :: ms, h => by
    have := ShwAll.cons (shw_nat (h m List.mem_cons_self)) (shw_nats (ms := ms) fun x hx => h x (List.mem_cons_of_mem _ hx))
    exact this.mono (by rw [List.length_cons]; omega) (Nat.le_refl _)
theorem shw_lot {n : Nat} (hn : n ≤ 6) (p : Nat → Bool) : Shw (dLot n p) 1000 2 := by
  have h6 := pow6 (w := n) hn
  have hl := lot_len hn p
  have h := (shw_nats (ms := lotOf n p) fun m hm => by have := (mem_lot.mp hm).1; omega).tuple
  have := (ShwAll.cons ((shw_nat (m := n) (by omega)).mono (Nat.le_refl _) (Nat.zero_le 1)) (ShwAll.cons (h.mono (Nat.le_refl _) (by omega)) ShwAll.nil)).tuple
  exact this.mono (by omega) (by omega)
theorem shw_width (i : Nat) (h : i < 1000000) : Shw (.list [.str "width", .int (i : Int)]) 1000 2 := by
  have hs : Shw (.str "width") 10 0 := ⟨by decide +kernel, Nat.le_refl _, rfl, by decide +kernel⟩
  exact (ShwAll.cons hs (ShwAll.cons (shw_nat h) ShwAll.nil)).list.mono (by omega) (by omega)
theorem shw_two {a b : PyData} {n m k : Nat} (ha : Shw a n k) (hb : Shw b m k) : Shw (.list [a, b]) (n + m + 7) (k + 1) := (ShwAll.cons ha (ShwAll.cons hb ShwAll.nil)).list.mono (by omega) (by omega)
theorem Shw.shaped {d : PyData} {n k : Nat} (hs : Shw d n k) (hk : k ≤ 64) : SeqAt.shaped d = true := by
  unfold SeqAt.shaped
  rw [hs.lay, decide_eq_true (Nat.le_trans hs.dep hk)]
  rfl
theorem Shw.sz {d : PyData} {n k : Nat} (hs : Shw d n k) (hn : n ≤ 10000000) : d.shown.length ≤ sizeLine := by
  rw [sizeLine_eq]
  have := hs.len
  omega
end XT
/-! lots with their widths; a comprehension of drawn lots; when two lots are equal -/
namespace XT
open PySem PySem.Spec PyProof.Rows L2
abbrev rXor : R2 := rI0 fun i j => .int (Builtin.bitXor i j)
/-- f(..) by its promise, as pe_def reads it -/
abbrev tDf (sp : Sp) (t : TA) : TE := fun σ H Q => t σ H fun vs H1 => sp vs H1 Q E0
structure Lt where
  v : V
  n : Nat
  p : Nat → Bool
def LtAt (H : Hp) (l : Lt) : Prop := LotAt H l.v l.n l.p ∧ 1 ≤ l.n ∧ l.n ≤ 6
theorem LtAt.same {H H' : Hp} {l : Lt} (h : LtAt H l) (e : Same H H') : LtAt H' l := ⟨h.1.same e, h.2⟩
theorem lt_keep {S : Sm} {H H' : Hp} {t : Int} {l : Lt} (h : LtAt H l) (k : Keep S H H') (st : Strm S H t) : LtAt H' l := ⟨h.1.keep k st, h.2⟩
theorem at_ne' {H : Hp} {a b : Addr} {x y : HO} (h1 : H a = some x) (h2 : H b = some y) (n : x ≠ y) : b ≠ a := fun e => by
  rw [e, h1] at h2
  exact n (Option.some.inj h2)
theorem lot_upd {H : Hp} {R : Addr} {xs ys : List V} {v : V} {n : Nat} {p : Nat → Bool} (hR : H R = some (.lst xs)) (h : LotAt H v n p) : LotAt (upd H R (.lst ys)) v n p := by
  obtain ⟨x, y, rfl, hx, hy⟩ := h
  exact ⟨x, y, rfl, by rw [upd_ne (at_ne' hR hx (by simp))]; exact hx, by rw [upd_ne (at_ne' hR hy (by simp))]; exact hy⟩
theorem strm_upd {S : Sm} {H : Hp} {t : Int} {R : Addr} {o : HO} (h : Strm S H t) (n1 : R ≠ S.s) (n2 : R ≠ S.p) (n3 : R ≠ S.q) : Strm S (upd H R o) t := by
  obtain ⟨big, s⟩ := h
  exact ⟨big, by rw [upd_ne (Ne.symm n1)]; exact s.hs, by rw [upd_ne (Ne.symm n2)]; exact s.hp, by rw [upd_ne (Ne.symm n3)]; exact s.hq, s.sp, s.sq, s.pq, s.ne, s.t0⟩
theorem strm_ne {S : Sm} {H : Hp} {t : Int} {R : Addr} (h : Strm S H t) (n : H R = none) : R ≠ S.s ∧ R ≠ S.p ∧ R ≠ S.q := by
  obtain ⟨big, s⟩ := h
  exact ⟨(ne_of_none s.hs n).symm, (ne_of_none s.hp n).symm, (ne_of_none s.hq n).symm⟩
mutual
theorem Dp_same {K : PySem.W.Frag} {H H' : Hp} (e : Same H H') : ∀ {v : V} {d : PyData}, Dp K H v d → Dp K H' v d
  | _, _, .non => .non
  | _, _, .bl b => .bl b
  | _, _, .int i => .int i
  | _, _, .str x => .str x
  | _, _, .lst h a => .lst (e.seq h) (DpAll_same e a)
  | _, _, .tup h a => .tup (Same.sqT e h) (DpAll_same e a)
theorem DpAll_same {K : PySem.W.Frag} {H H' : Hp} (e : Same H H') : ∀ {vs : List V} {ds : List PyData}, DpAll K H vs ds → DpAll K H' vs ds
  | _, _, .nil => .nil
  | _, _, .cons h a => .cons (Dp_same e h) (DpAll_same e a)
end
/-! a list of one's own is changed: what was there before it is still there -/
theorem same_upd {H0 H : Hp} {R : Addr} {o : HO} (h : Same H0 H) (n : H0 R = none) : Same H0 (upd H R o) := fun b x e => by
  rw [upd_ne (ne_of_none e n)]
  exact h b x e
/-! tuples of masks -/
def TupAt (H : Hp) (v : V) (ms : List Nat) : Prop := ∃ q, v = .ref q ∧ H q = some (.tup (vm ms))
theorem TupAt.same {H H' : Hp} {v : V} {ms : List Nat} (h : TupAt H v ms) (e : Same H H') : TupAt H' v ms := by
  obtain ⟨q, rfl, h⟩ := h
  exact ⟨q, rfl, e _ _ h⟩
theorem TupAt.dp {K : PySem.W.Frag} {H : Hp} {v : V} {ms : List Nat} (h : TupAt H v ms) : Dp K H v (.tuple (ms.map fun (m : Nat) => .int (m : Int))) := by
  obtain ⟨q, rfl, h⟩ := h
  exact .tup (SqT.of h) (dpVm _)
theorem shw_tup {n : Nat} (hn : n ≤ 6) (p : Nat → Bool) : Shw (.tuple ((lotOf n p).map fun (m : Nat) => PyData.int (m : Int))) 1000 1 := by
  have h6 := pow6 (w := n) hn
  have hl := lot_len hn p
  have h := (shw_nats (ms := lotOf n p) fun m hm => by have := (mem_lot.mp hm).1; omega).tuple
  exact h.mono (by omega) (by omega)
/-! when two lists of numbers, two lots are equal -/
theorem eqv_nats : ∀ ms ks : List Nat, PyData.eqvAll (ms.map fun (m : Nat) => PyData.int (m : Int)) (ks.map fun (m : Nat) => PyData.int (m : Int)) = decide (ms = ks)
  | [], [] => rfl
  | [], k :: ks => by simp [PyData.eqvAll]
  | m :: ms, [] => by simp [PyData.eqvAll]
  | m :: ms, k :: ks => by
    have h := eqv_nats ms ks
    simp only [List.map_cons, PyData.eqvAll, PyData.eqv, h]
    rw [Bool.eq_iff_iff]
    simp only [Bool.and_eq_true, decide_eq_true_iff, beq_iff_eq, List.cons.injEq]
    constructor
    · rintro ⟨a, b⟩
      exact ⟨by omega, b⟩
    · rintro ⟨a, b⟩
      exact ⟨by omega, b⟩
theorem lot_eq_iff {n : Nat} {p r : Nat → Bool} : lotOf n p = lotOf n r ↔ ∀ m, m < 2 ^ n → p m = r m := by
  refine ⟨fun h m hm => ?_, lot_congr⟩
  have h2 : m ∈ lotOf n p ↔ m ∈ lotOf n r := by rw [h]
  rw [mem_lot, mem_lot] at h2
  rw [Bool.eq_iff_iff]
  exact ⟨fun z => (h2.mp ⟨hm, z⟩).2, fun z => (h2.mpr ⟨hm, z⟩).2⟩
theorem eqv_lots (n : Nat) (p r : Nat → Bool) : PyData.eqv (dLot n p) (dLot n r) = decide (∀ m, m < 2 ^ n → p m = r m) := by
  simp only [dLot, PyData.eqv, PyData.eqvAll, eqv_nats]
  rw [Bool.eq_iff_iff]
  simp [lot_eq_iff]
/-- what one turn must do: the stream is drawn from at most d times, and what is kept is a lot -/
def TurnL (S : Sm) (d : Nat) (g : TG) (tt : TT) (te : TE) (vs : List Nat) (σ : L2.St) (x : V) (H : Hp) (t : Int) : Prop :=
  ∀ (R1 : Hp → Prop) (R2 : V → Hp → Prop), (∀ (l : Lt) H4 t4, Step S H t H4 t4 d → LtAt H4 l → R2 l.v H4) →
    g x (wipe σ vs) H fun σ2 H2 => wipe σ2 vs = wipe σ vs ∧ tt σ2 H2 fun b H3 => if b = true then te σ2 H3 R2 else R1 H3
def PvL (S : Sm) (d : Nat) (H1 : Hp) (t0 : Int) (D : Addr) (i : Nat) (H : Hp) : Prop := ∃ (ls : List Lt) (t : Int), Step S H1 t0 H t (d * i) ∧ H D = some (.lst (ls.map (·.v))) ∧ (∀ l ∈ ls, LtAt H l) ∧ ls.length = i
theorem lcl_range {g : TG} {tt : TT} {te : TE} {vs : List Nat} {σ : L2.St} {H1 : Hp} {D : Addr} {Qd : Hp → Prop} {S : Sm} {t0 : Int} {n d : Nat} (st0 : Strm S H1 t0) (nD : H1 D = none) (hn : n ≤ 1000)
    (ht : ∀ (i : Nat) H t, i < n → Step S H1 t0 H t (d * i) → TurnL S d g tt te vs σ (.int (0 + (i : Int))) H t) (hd : ∀ H, PvL S d H1 t0 D n H → Qd H) :
    ∃ W : Nat → Nat → Hp → Prop, (∃ m, W 0 m (upd H1 D (.lst []))) ∧ ∀ i m H, W i m H →
      ((Itr 0 n).stop i H ∧ Qd H) ∨ ((Itr 0 n).go i H ∧ ∃ Nx : Hp → Prop, (∀ H', Nx H' → ∃ m', m' < m ∧ W (i + 1) m' H') ∧ ∀ x H', (Itr 0 n).yld i H x H' → g x (wipe σ vs) H' fun σ2 H2 => wipe σ2 vs = wipe σ vs ∧ tt σ2 H2 fun b H3 =>
        if b = true then te σ2 H3 fun y H4 => ∃ acc, H4 D = some (.lst acc) ∧ acc.length < sizeLine ∧ Nx (upd H4 D (.lst (acc ++ [y]))) else Nx H3) := by
  refine lc_range (lo := 0) (n := n) (fun i H => PvL S d H1 t0 D i H) ⟨[], t0, ((Step.refl st0).same (same_new nD)).mono (Nat.zero_le _), upd_same, by simp, rfl⟩ (fun i H hi h => ?_) hd
  obtain ⟨ls, t, stp, hD, hall, hl⟩ := h
  refine ht i H t hi stp _ _ (fun l H4 t4 s4 hl4 => ?_)
  have hD4 := s4.keep.mine st0 nD hD
  refine ⟨_, hD4, small64 (by rw [List.length_map]; omega), ls ++ [l], t4, ?_, ?_, ?_, ?_⟩
  · have z := stp.trans s4
    obtain ⟨nDs, nDp, nDq⟩ := strm_ne st0 nD
    refine ⟨fun b o n1 n2 e => ?_, strm_upd z.st nDs nDp nDq, z.lo, by have := z.hi; rw [Nat.mul_succ]; exact this⟩
    rw [upd_ne (ne_of_none e nD)]
    exact z.keep b o n1 n2 e
  · rw [upd_same, List.map_append]; rfl
  · intro j hj
    have h6 : LtAt H4 j := by
      rcases List.mem_append.mp hj with hj | hj
      · exact lt_keep (hall j hj) s4.keep stp.st
      · rw [List.mem_singleton.mp hj]; exact hl4
    exact ⟨lot_upd hD4 h6.1, h6.2⟩
  · rw [List.length_append, hl]; rfl
end XT
/-! more of lots, of lists and tuples of masks -/
namespace XT
open PySem PySem.Spec PyProof.Rows L2
theorem bList : bootBuiltins "list" = some (.type "list") := by decide +kernel
theorem bSum : bootBuiltins "sum" = some (.builtin "sum") := by decide +kernel
theorem bMin : bootBuiltins "min" = some (.builtin "min") := by decide +kernel
theorem bMax : bootBuiltins "max" = some (.builtin "max") := by decide +kernel
theorem lot_none (n : Nat) : lotOf n (fun _ => false) = [] := by
  unfold lotOf
  rw [List.filter_eq_nil_iff]
  intro m _
  decide
theorem lot_nil_iff {n : Nat} {p : Nat → Bool} : lotOf n p = [] ↔ ∀ m, m < 2 ^ n → p m = false := by
  unfold lotOf
  rw [List.filter_eq_nil_iff]
  simp
theorem range_lot (n : Nat) : rgV 0 ((2 ^ n : Nat) : Int) = vm (lotOf n fun _ => true) := by
  unfold rgV vm lotOf
  rw [List.filter_eq_self.mpr (fun _ _ => rfl), Int.sub_zero]
  show List.map (fun (i : Nat) => V.int (0 + (i : Int))) (List.range (2 ^ n)) = _
  exact List.map_congr_left fun m _ => by rw [Int.zero_add]
theorem lot_take {n : Nat} {p : Nat → Bool} {i : Nat} (hi : i < 2 ^ n) : ((List.range (2 ^ n)).take (i + 1)).filter p = ((List.range (2 ^ n)).take i).filter p ++ (if p i = true then [i] else []) := by
  have h := take_one (id : Nat → Nat) p (xs := List.range (2 ^ n)) (i := i) (x := i) (List.getElem?_range hi)
  simpa using h
theorem nats_shaped (ns : List Nat) : SeqAt.shaped (.list (ns.map fun (m : Nat) => PyData.int (m : Int))) = true := by
  have h := ke_shaped (ns.map fun (m : Nat) => (m : Int))
  rw [List.map_map] at h
  exact h
theorem tupN_shaped (ms : List Nat) : SeqAt.shaped (.tuple (ms.map fun (m : Nat) => PyData.int (m : Int))) = true := by
  have h1 : PyData.canLay0 (.tuple (ms.map fun (m : Nat) => PyData.int (m : Int))) = true := by
    have h := ints_lay ms
    simp [PyData.canLay0, h]
  have h2 : PyData.depth (.tuple (ms.map fun (m : Nat) => PyData.int (m : Int))) ≤ 64 := by
    have h := ints_depth ms
    simp only [PyData.depth]
    omega
  unfold SeqAt.shaped
  rw [h1, decide_eq_true h2]
  rfl
theorem eqv_lstN (ms ks : List Nat) : PyData.eqv (.list (ms.map fun (m : Nat) => PyData.int (m : Int))) (.list (ks.map fun (m : Nat) => PyData.int (m : Int))) = decide (ms = ks) := by
  have h := eqv_nats ms ks
  simpa [PyData.eqv] using h
theorem eqv_tupN (ms ks : List Nat) : PyData.eqv (.tuple (ms.map fun (m : Nat) => PyData.int (m : Int))) (.tuple (ks.map fun (m : Nat) => PyData.int (m : Int))) = decide (ms = ks) := by
  have h := eqv_nats ms ks
  simpa [PyData.eqv] using h
theorem eqv_nilN (ms : List Nat) : PyData.eqv (.list (ms.map fun (m : Nat) => PyData.int (m : Int))) (.list []) = decide (ms = []) := eqv_lstN ms []
/-- a list of masks -/
def LsN (H : Hp) (v : V) (ms : List Nat) : Prop := ∃ q, v = .ref q ∧ H q = some (.lst (vm ms))
theorem LsN.same {H H' : Hp} {v : V} {ms : List Nat} (h : LsN H v ms) (e : Same H H') : LsN H' v ms := by
  obtain ⟨q, rfl, h⟩ := h
  exact ⟨q, rfl, e _ _ h⟩
theorem LsN.dp {K : PySem.W.Frag} {H : Hp} {v : V} {ms : List Nat} (h : LsN H v ms) : Dp K H v (.list (ms.map fun (m : Nat) => .int (m : Int))) := by
  obtain ⟨q, rfl, h⟩ := h
  exact .lst (SqL.of h) (dpVm _)
/-- a != b of tuples, of lists of masks -/
theorem ne_tupN {K : PySem.W.Frag} {H : Hp} {x y : V} {ms ks : List Nat} {Q : VK} (hx : TupAt H x ms) (hy : TupAt H y ks) (q : Q (.bl (!decide (ms = ks))) H) : rNeD K x y H Q := by
  refine ⟨_, _, hx.dp, hy.dp, tupN_shaped _, tupN_shaped _, ?_⟩
  rw [eqv_tupN]
  exact q
theorem eq_tupN {K : PySem.W.Frag} {H : Hp} {x y : V} {ms ks : List Nat} {Q : VK} (hx : TupAt H x ms) (hy : TupAt H y ks) (q : Q (.bl (decide (ms = ks))) H) : rEqD K x y H Q := by
  refine ⟨_, _, hx.dp, hy.dp, tupN_shaped _, tupN_shaped _, ?_⟩
  rw [eqv_tupN]
  exact q
theorem ne_lstN {K : PySem.W.Frag} {H : Hp} {x y : V} {ms ks : List Nat} {Q : VK} (hx : LsN H x ms) (hy : LsN H y ks) (q : Q (.bl (!decide (ms = ks))) H) : rNeD K x y H Q := by
  refine ⟨_, _, hx.dp, hy.dp, nats_shaped _, nats_shaped _, ?_⟩
  rw [eqv_lstN]
  exact q
theorem eq_lstN {K : PySem.W.Frag} {H : Hp} {x y : V} {ms ks : List Nat} {Q : VK} (hx : LsN H x ms) (hy : LsN H y ks) (q : Q (.bl (decide (ms = ks))) H) : rEqD K x y H Q := by
  refine ⟨_, _, hx.dp, hy.dp, nats_shaped _, nats_shaped _, ?_⟩
  rw [eqv_lstN]
  exact q
theorem ne_lots {K : PySem.W.Frag} {H : Hp} {x y : V} {w : Nat} {P P' : Nat → Bool} {Q : VK} (hx : LotAt H x w P) (hy : LotAt H y w P') (q : Q (.bl (!decide (∀ m, m < 2 ^ w → P m = P' m))) H) : rNeD K x y H Q := by
  refine ⟨_, _, hx.dp, hy.dp, dLot_shaped _ _, dLot_shaped _ _, ?_⟩
  rw [eqv_lots]
  exact q
theorem eq_lots {K : PySem.W.Frag} {H : Hp} {x y : V} {w : Nat} {P P' : Nat → Bool} {Q : VK} (hx : LotAt H x w P) (hy : LotAt H y w P') (q : Q (.bl (decide (∀ m, m < 2 ^ w → P m = P' m))) H) : rEqD K x y H Q := by
  refine ⟨_, _, hx.dp, hy.dp, dLot_shaped _ _, dLot_shaped _ _, ?_⟩
  rw [eqv_lots]
  exact q
theorem nodup_lot (n : Nat) (p : Nat → Bool) : (lotOf n p).Nodup := by
  unfold lotOf
  exact List.Pairwise.filter _ (List.nodup_range)
theorem nodup_xor (a : Nat) {l : List Nat} (h : l.Nodup) : (l.map fun (m : Nat) => ((m ^^^ a : Nat) : Int)).Nodup := by
  unfold List.Nodup at h ⊢
  rw [List.pairwise_map]
  refine h.imp fun {x y} hxy e => hxy ?_
  have e2 : x ^^^ a = y ^^^ a := by omega
  have e3 := congrArg (· ^^^ a) e2
  simpa [Nat.xor_assoc] using e3
theorem xor_back (m a : Nat) : m ^^^ a ^^^ a = m := by rw [Nat.xor_assoc, Nat.xor_self, Nat.xor_zero]
/-- sorted([x ^ a for x in lot]) -/
theorem sort_xor {n a : Nat} {p : Nat → Bool} {ns : List Int} (ha : a < 2 ^ n) (perm : ns.Perm ((lotOf n p).map fun (m : Nat) => ((m ^^^ a : Nat) : Int))) (asc : ns.Pairwise (· ≤ ·)) : ns.map V.int = vm (lotOf n fun m => p (m ^^^ a)) := by
  have nd : ns.Nodup := by
    rw [perm.nodup_iff]
    exact nodup_xor a (nodup_lot n p)
  refine rising_lot (lt_of_le_nodup ns asc nd) fun k => ?_
  rw [perm.mem_iff, List.mem_map]
  constructor
  · rintro ⟨m, hm, rfl⟩
    obtain ⟨h1, h2⟩ := mem_lot.mp hm
    exact ⟨m ^^^ a, rfl, xor_lt h1 ha, by rw [xor_back]; exact h2⟩
  · rintro ⟨m, rfl, h1, h2⟩
    exact ⟨m ^^^ a, mem_lot.mpr ⟨xor_lt h1 ha, h2⟩, by rw [xor_back]⟩
theorem iteNT {A B : Prop} {b : Bool} (h : b = false) (x : B) : if b = true then A else B := by rw [h]; exact x
end XT
/-! comprehensions whose turns lay new things, of which something is known -/
namespace XT
open PySem PySem.Spec PyProof.Rows L2
section
variable {K : PySem.W.Frag} {a : Addr} {g : TG} {tt : TT} {te : TE} {vs : List Nat} {σ : L2.St} {H1 : Hp} {D : Addr} {Qd : Hp → Prop} {G : Nat → V → Hp → Prop}
/-- what is known stays when new things are laid, and when a list is changed -/
structure Stay (G : Nat → V → Hp → Prop) : Prop where
  same : ∀ {j y H H'}, G j y H → Same H H' → G j y H'
  put : ∀ {j y H D xs ys}, G j y H → H D = some (.lst xs) → G j y (upd H D (.lst ys))
def TurnG (G : Nat → V → Hp → Prop) (g : TG) (tt : TT) (te : TE) (vs : List Nat) (σ : L2.St) (i : Nat) (x : V) (H : Hp) : Prop :=
  ∀ (R1 : Hp → Prop) (R2 : V → Hp → Prop), (∀ y H4, Same H H4 → G i y H4 → R2 y H4) →
    g x (wipe σ vs) H fun σ2 H2 => wipe σ2 vs = wipe σ vs ∧ tt σ2 H2 fun b H3 => if b = true then te σ2 H3 R2 else R1 H3
def PvG (H1 : Hp) (D : Addr) (G : Nat → V → Hp → Prop) (i : Nat) (H : Hp) : Prop := Same H1 H ∧ ∃ ys, H D = some (.lst ys) ∧ ys.length = i ∧ ∀ j y, ys[j]? = some y → G j y H
theorem pvg_turn {i : Nat} {x : V} {H : Hp} (hG : Stay G) (nD : H1 D = none) (hi : i ≤ 1000) (h : PvG H1 D G i H) (ht : TurnG G g tt te vs σ i x H) :
    g x (wipe σ vs) H fun σ2 H2 => wipe σ2 vs = wipe σ vs ∧ tt σ2 H2 fun b H3 =>
      if b = true then te σ2 H3 fun y H4 => ∃ acc, H4 D = some (.lst acc) ∧ acc.length < sizeLine ∧ PvG H1 D G (i + 1) (upd H4 D (.lst (acc ++ [y]))) else PvG H1 D G (i + 1) H3 := by
  obtain ⟨sm, ys, hD, hl, hall⟩ := h
  refine ht _ _ fun y H4 s4 gy => ⟨ys, s4 _ _ hD, small64 (by omega), same_upd (sm.trans s4) nD, ys ++ [y], upd_same, by rw [List.length_append, hl]; rfl, fun j z hz => hG.put ?_ (s4 _ _ hD)⟩
  rcases Nat.lt_or_ge j ys.length with lt | ge
  · rw [List.getElem?_append_left lt] at hz
    exact hG.same (hall j z hz) s4
  · rw [List.getElem?_append_right ge] at hz
    obtain ⟨h1, h2⟩ := List.getElem?_eq_some_iff.mp hz
    have e : j = i := by simp at h1; omega
    subst e
    have e2 : y = z := by simpa using h2
    rw [← e2]
    exact gy
theorem lcg_tup {xs : List V} (hG : Stay G) (nD : H1 D = none) (hA : SqT K H1 a xs) (hz : xs.length ≤ 1000) (ht : ∀ (i : Nat) x H, xs[i]? = some x → Same H1 H → TurnG G g tt te vs σ i x H) (hd : ∀ H, PvG H1 D G xs.length H → Qd H) :
    ∃ W : Nat → Nat → Hp → Prop, (∃ m, W 0 m (upd H1 D (.lst []))) ∧ ∀ i m H, W i m H →
      ((Itt K a).stop i H ∧ Qd H) ∨ ((Itt K a).go i H ∧ ∃ Nx : Hp → Prop, (∀ H', Nx H' → ∃ m', m' < m ∧ W (i + 1) m' H') ∧ ∀ x H', (Itt K a).yld i H x H' → g x (wipe σ vs) H' fun σ2 H2 => wipe σ2 vs = wipe σ vs ∧ tt σ2 H2 fun b H3 =>
        if b = true then te σ2 H3 fun y H4 => ∃ acc, H4 D = some (.lst acc) ∧ acc.length < sizeLine ∧ Nx (upd H4 D (.lst (acc ++ [y]))) else Nx H3) :=
  lc_tup (xs := xs) (fun i H => PvG H1 D G i H) ⟨same_new nD, [], upd_same, rfl, fun j y h => by simp at h⟩ (fun i H _ h => Same.sqT h.1 hA) (fun i x H hx h => pvg_turn hG nD (by have := (List.getElem?_eq_some_iff.mp hx).1; omega) h (ht i x H hx h.1)) hd
theorem lcg_list {xs : List V} (hG : Stay G) (nD : H1 D = none) (hA : SqL K H1 a xs) (hz : xs.length ≤ 1000) (ht : ∀ (i : Nat) x H, xs[i]? = some x → Same H1 H → TurnG G g tt te vs σ i x H) (hd : ∀ H, PvG H1 D G xs.length H → Qd H) :
    ∃ W : Nat → Nat → Hp → Prop, (∃ m, W 0 m (upd H1 D (.lst []))) ∧ ∀ i m H, W i m H →
      ((Itl K a).stop i H ∧ Qd H) ∨ ((Itl K a).go i H ∧ ∃ Nx : Hp → Prop, (∀ H', Nx H' → ∃ m', m' < m ∧ W (i + 1) m' H') ∧ ∀ x H', (Itl K a).yld i H x H' → g x (wipe σ vs) H' fun σ2 H2 => wipe σ2 vs = wipe σ vs ∧ tt σ2 H2 fun b H3 =>
        if b = true then te σ2 H3 fun y H4 => ∃ acc, H4 D = some (.lst acc) ∧ acc.length < sizeLine ∧ Nx (upd H4 D (.lst (acc ++ [y]))) else Nx H3) :=
  lc_list (xs := xs) (fun i H => PvG H1 D G i H) ⟨same_new nD, [], upd_same, rfl, fun j y h => by simp at h⟩ (fun i H _ h => h.1.seq hA) (fun i x H hx h => pvg_turn hG nD (by have := (List.getElem?_eq_some_iff.mp hx).1; omega) h (ht i x H hx h.1)) hd
theorem lcg_range {n : Nat} (hG : Stay G) (nD : H1 D = none) (hz : n ≤ 1000) (ht : ∀ (i : Nat) H, i < n → Same H1 H → TurnG G g tt te vs σ i (.int (0 + (i : Int))) H) (hd : ∀ H, PvG H1 D G n H → Qd H) :
    ∃ W : Nat → Nat → Hp → Prop, (∃ m, W 0 m (upd H1 D (.lst []))) ∧ ∀ i m H, W i m H →
      ((Itr 0 n).stop i H ∧ Qd H) ∨ ((Itr 0 n).go i H ∧ ∃ Nx : Hp → Prop, (∀ H', Nx H' → ∃ m', m' < m ∧ W (i + 1) m' H') ∧ ∀ x H', (Itr 0 n).yld i H x H' → g x (wipe σ vs) H' fun σ2 H2 => wipe σ2 vs = wipe σ vs ∧ tt σ2 H2 fun b H3 =>
        if b = true then te σ2 H3 fun y H4 => ∃ acc, H4 D = some (.lst acc) ∧ acc.length < sizeLine ∧ Nx (upd H4 D (.lst (acc ++ [y]))) else Nx H3) :=
  lc_range (lo := 0) (n := n) (fun i H => PvG H1 D G i H) ⟨same_new nD, [], upd_same, rfl, fun j y h => by simp at h⟩ (fun i H hi h => pvg_turn hG nD (by omega) h (ht i H hi h.1)) hd
end
theorem stay_lot (n : Nat) (p : Nat → Nat → Bool) : Stay (fun j y H => LotAt H y n (p j)) := ⟨fun h e => h.same e, fun h e => lot_upd e h⟩
end XT
/-! zip of two texts, sign by sign -/
namespace XT
open PySem PySem.Spec PyProof.Rows L2
/-- two texts side by side -/
def ItzS (x y : Str) : It :=
  ⟨fun i _ => i < x.cps.size ∧ i < y.cps.size,
    fun i H v H' => ∃ T c d, v = .ref T ∧ H T = none ∧ H' = upd H T (.tup [.str ⟨#[c]⟩, .str ⟨#[d]⟩]) ∧ x.cps[i]? = some c ∧ y.cps[i]? = some d,
    fun i _ => i ≤ x.cps.size ∧ i ≤ y.cps.size ∧ (i = x.cps.size ∨ i = y.cps.size)⟩
theorem turn_zipS {P : Program} {w : World} {K : PySem.W.Frag} {elts : List Expr} {kk : Nat} {tpos : Pos} {x y : Str} {tx ty : Tok} {z TI TO i1 i2 : Addr} (S : ZipSep2 z TI TO i1 i2 [i1] [i2]) :
    Turn P w K (.Tuple elts kk tpos) (ItzS x y) [z, TI, TO, i1, i2] z (fun i h => IsZip h z TI TO .none ∧ IsTupOf2 h TI (.ref i1) (.ref i2) ∧ (∃ a1 a2, IsTupOf2 h TO a1 a2) ∧ h.IsStrIter i1 (strIterType x) x tx i ∧ h.IsStrIter i2 (strIterType y) y ty i) where
  mem := by simp
  obj := fun i h st c hc => by
    obtain ⟨hz, hTI, ⟨x, y, hTO⟩, ⟨o1, e1, _, d1⟩, ⟨o2, e2, _, d2⟩⟩ := st
    have e' : c = z ∨ c = TI ∨ c = TO ∨ c = i1 ∨ c = i2 := by simpa using hc
    rcases e' with q | q | q | q | q
    · rw [q]; exact ⟨_, hz, fun v q => nomatch q⟩
    · rw [q]; exact ⟨_, hTI, fun v q => nomatch q⟩
    · rw [q]; exact ⟨_, hTO, fun v q => nomatch q⟩
    · rw [q]; exact ⟨o1, e1, fun v q => by rw [d1] at q; cases q⟩
    · rw [q]; exact ⟨o2, e2, fun v q => by rw [d2] at q; cases q⟩
  keep := fun i h h' st k => by
    obtain ⟨hz, hTI, ⟨x, y, hTO⟩, ⟨o1, e1, r1⟩, ⟨o2, e2, r2⟩⟩ := st
    exact ⟨k z (by simp) _ hz, k TI (by simp) _ hTI, ⟨x, y, k TO (by simp) _ hTO⟩, ⟨o1, k i1 (by simp) _ e1, r1⟩, ⟨o2, k i2 (by simp) _ e2, r2⟩⟩
  item := by
    intro X hP hw hK hc i pins s σ H E I hf st hg
    subst hP hw hK
    obtain ⟨hz, hTI, ⟨x0, y0, hTO⟩, h1, h2⟩ := st
    have hzl : z < s.heap.objs.size := Heap.lt_size hz
    have hA : X.A.in1.handled = none := I.ok.hd hc
    refine wpAny_pyNext_zipD2_item S (Draws.text hA i1 x tx) (Draws.text hA i2 y ty) hz hTI hTO h1 h2 hg.1 hg.2 fun u1 u2 h' tk p1 p2 z' TO' h1' h2' hT hsz hk => ?_
    obtain ⟨c, t1, hc1, rfl⟩ := p1
    obtain ⟨d, t2, hd1, rfl⟩ := p2
    refine ⟨_, rfl, wpAny_letOwnedTupleGo_zip (s := { s with heap := h', toks := tk }) z' fun h'' z'' sb => ?_⟩
    have hT2 : h''.get? s.heap.objs.size = some { cls := .type "tuple", data := .seq #[.str ⟨#[c]⟩ t1, .str ⟨#[d]⟩ t2] } := (sb.2 _ (Nat.ne_of_gt hzl)).trans hT
    have new : ObjOk X.prog X.w (upd H s.heap.objs.size (.tup [.str ⟨#[c]⟩, .str ⟨#[d]⟩])) h'' s.heap.objs.size (.tup [.str ⟨#[c]⟩, .str ⟨#[d]⟩]) :=
      ⟨by show 2 ≤ sizeLine; decide, [.str ⟨#[c]⟩ t1, .str ⟨#[d]⟩ t2], .cons ⟨t1, rfl⟩ (.cons ⟨t2, rfl⟩ .nil), ⟨_, hT2, rfl, _, rfl⟩⟩
    have I1 : Inv X pins σ (upd H s.heap.objs.size (.tup [.str ⟨#[c]⟩, .str ⟨#[d]⟩])) { s with heap := h'', toks := tk } :=
      I.turnedNew (t' := tk) (ch := [z, TI, TO, i1, i2]) (fun c o hb q => (sb.2 c (fun q' => hb (by simp [q']))).trans (hk c o (fun q' => hb (by simp [q'])) (fun q' => hb (by simp [q'])) (fun q' => hb (by simp [q'])) (fun q' => hb (by simp [q'])) q)) hf (Nat.le_refl _) new
    refine ⟨.ref s.heap.objs.size, _, I1, rfl, ⟨_, c, d, rfl, I.hok.fresh (Nat.le_refl _), rfl, hc1, hd1⟩, ⟨z'', ?_, ⟨.str ⟨#[c]⟩ t1, .str ⟨#[d]⟩ t2, ?_⟩, ?_, ?_⟩, fun c hcm => ?_⟩
    · exact (sb.2 _ S.TIz).trans (hk _ _ S.TIz S.TITO S.TIi1 S.TIi2 hTI)
    · exact (sb.2 _ S.TOz).trans TO'
    · obtain ⟨o, e, r⟩ := h1'
      exact ⟨o, (sb.2 _ S.zi1.symm).trans e, r⟩
    · obtain ⟨o, e, r⟩ := h2'
      exact ⟨o, (sb.2 _ S.zi2.symm).trans e, r⟩
    · have hlt : c < s.heap.objs.size := by
        have e' : c = z ∨ c = TI ∨ c = TO ∨ c = i1 ∨ c = i2 := by simpa using hcm
        rcases e' with q | q | q | q | q
        · rw [q]; exact hzl
        · rw [q]; exact Heap.lt_size hTI
        · rw [q]; exact Heap.lt_size hTO
        · rw [q]; obtain ⟨_, e1, _⟩ := h1; exact Heap.lt_size e1
        · rw [q]; obtain ⟨_, e2, _⟩ := h2; exact Heap.lt_size e2
      rw [upd_ne (Nat.ne_of_lt hlt)]
      exact (hf c hcm).1
  done := by
    intro X hP hw hK hc i pins s σ H E I hf st hg
    subst hP hw hK
    obtain ⟨hz, hTI, ⟨x0, y0, hTO⟩, h1, h2⟩ := st
    have hA : X.A.in1.handled = none := I.ok.hd hc
    exact wpAny_pyNext_zipD2_end S (Draws.text hA i1 x tx) (Draws.text hA i2 y ty) hz hTI hTO h1 h2 hg.1 hg.2.1 hg.2.2 fun h' tk hk => ⟨rfl, I.turnedL (t' := tk) (ch := [z, TI, TO, i1, i2]) (fun c o hb q =>
      hk c o (fun q' => hb (by simp [q'])) (fun q' => hb (by simp [q'])) (fun q' => hb (by simp [q'])) (fun q' => hb (by simp [q'])) q) hf⟩
  self := fun A i s Q E st h => wpAny_pyIter_zip st.1 h

def iZipS (ta : TA) : TI := fun σ H R => ta σ H fun vs H1 => ∃ x y : Str, vs = [.str x, .str y] ∧ R (ItzS x y) H1
theorem pi_zipS {X : Cx} {e e2 : Expr} {ta : TA} {p pos tpos : Pos} {elts : List Expr} {kk : Nat} (hg : Gl X "zip") (hm : X.mg "zip" = none) (ha : PA X [e, e2] ta)
    (hs : starEach [e, e2] X.env = (false, eval e X.env) :: starEach [e2] X.env := by rfl) (hpl : (backTo pos (starEach [e2] X.env)).any (·.1) = false := by rfl) :
    PI X (.Tuple elts kk tpos) (.Call (.Name "zip" p) [e, e2] [] pos) (iZipS ta) := by
  refine ⟨fun pins s σ H R I h => ?_⟩
  refine Call_ (ld_blt I hg hm PyProof.Rows.boot_zip (PyProof.Rows.callWith_type1 (thn (ha.run pos pins s σ H _ I h) fun us s1 ⟨vs, H1, I1, r1, q1⟩ => ?_) hs hpl))
  obtain ⟨x, y, ex, q1⟩ := q1
  subst ex
  cases r1 with
  | cons r rr =>
    cases rr with
    | cons r' rr =>
      cases rr
      obtain ⟨tx, rfl⟩ := r
      obtain ⟨ty, rfl⟩ := r'
      have fresh5 : ∀ c, c ∈ [s1.heap.objs.size + 4, s1.heap.objs.size + 2, s1.heap.objs.size + 3, s1.heap.objs.size, s1.heap.objs.size + 1] → FpOk X pins H1 c := fun c hcm => by
        have e' : c = s1.heap.objs.size + 4 ∨ c = s1.heap.objs.size + 2 ∨ c = s1.heap.objs.size + 3 ∨ c = s1.heap.objs.size ∨ c = s1.heap.objs.size + 1 := by simpa using hcm
        have hle : s1.heap.objs.size ≤ c := by
          rcases e' with z | z | z | z | z
          · rw [z]; exact Nat.le_add_right _ _
          · rw [z]; exact Nat.le_add_right _ _
          · rw [z]; exact Nat.le_add_right _ _
          · rw [z]; exact Nat.le_refl _
          · rw [z]; exact Nat.le_add_right _ _
        exact I1.fpOk hle (I1.hok.fresh hle)
      refine zip_begins2 (begins_text x tx) (begins_text y ty) trivial trivial fun h' hz hTI hTO h1 h2 hsz hk => wpAny_pyIter_zip hz ?_
      have I2 : Inv X pins σ H1 { s1 with heap := h' } := I1.kept (t' := s1.toks) hk
      exact ⟨s1.heap.objs.size + 4, [s1.heap.objs.size + 4, s1.heap.objs.size + 2, s1.heap.objs.size + 3, s1.heap.objs.size, s1.heap.objs.size + 1], _, _, H1, rfl, I2, turn_zipS (zip_sep2 (fp1 := []) (fp2 := []) (fun b hb => nomatch hb) (fun b hb => nomatch hb)), ⟨hz, hTI, ⟨_, _, hTO⟩, ⟨_, h1, rfl, rfl⟩, ⟨_, h2, rfl, rfl⟩⟩, fresh5, q1⟩
/-- a comprehension over zip of two texts of one length -/
theorem lc_zipS {x y : Str} {g : TG} {tt : TT} {te : TE} {vs : List Nat} {σ : L2.St} {H1 : Hp} {D : Addr} {Qd : Hp → Prop} (hl : x.cps.size = y.cps.size) (Pv : Nat → Hp → Prop) (h0 : Pv 0 (upd H1 D (.lst [])))
    (hs : ∀ i c d T H, x.cps[i]? = some c → y.cps[i]? = some d → Pv i H → H T = none → g (.ref T) (wipe σ vs) (upd H T (.tup [.str ⟨#[c]⟩, .str ⟨#[d]⟩])) fun σ2 H2 => wipe σ2 vs = wipe σ vs ∧ tt σ2 H2 fun b H3 =>
      if b = true then te σ2 H3 fun y H4 => ∃ acc, H4 D = some (.lst acc) ∧ acc.length < sizeLine ∧ Pv (i + 1) (upd H4 D (.lst (acc ++ [y]))) else Pv (i + 1) H3) (hd : ∀ H, Pv x.cps.size H → Qd H) :
    ∃ W : Nat → Nat → Hp → Prop, (∃ m, W 0 m (upd H1 D (.lst []))) ∧ ∀ i m H, W i m H →
      ((ItzS x y).stop i H ∧ Qd H) ∨ ((ItzS x y).go i H ∧ ∃ Nx : Hp → Prop, (∀ H', Nx H' → ∃ m', m' < m ∧ W (i + 1) m' H') ∧ ∀ z H', (ItzS x y).yld i H z H' → g z (wipe σ vs) H' fun σ2 H2 => wipe σ2 vs = wipe σ vs ∧ tt σ2 H2 fun b H3 =>
        if b = true then te σ2 H3 fun y H4 => ∃ acc, H4 D = some (.lst acc) ∧ acc.length < sizeLine ∧ Nx (upd H4 D (.lst (acc ++ [y]))) else Nx H3) := by
  refine ⟨fun i m H => m = x.cps.size - i ∧ i ≤ x.cps.size ∧ Pv i H, ⟨x.cps.size, rfl, Nat.zero_le _, h0⟩, ?_⟩
  rintro i m H ⟨rfl, hi, p⟩
  rcases Nat.lt_or_ge i x.cps.size with lt | ge
  · refine .inr ⟨⟨lt, by omega⟩, Pv (i + 1), fun H' p' => ⟨x.cps.size - (i + 1), by omega, rfl, lt, p'⟩, fun v H' z => ?_⟩
    obtain ⟨T, c, d, rfl, hT, rfl, f1, f2⟩ := z
    exact hs i c d T H f1 f2 p hT
  · have e : i = x.cps.size := by omega
    subst e
    exact .inl ⟨⟨Nat.le_refl _, by omega, .inl rfl⟩, hd H p⟩
/-- turns that only lay new things -/
theorem lcp_zipS {x y : Str} {g : TG} {tt : TT} {te : TE} {vs : List Nat} {σ : L2.St} {H1 : Hp} {D : Addr} {Qd : Hp → Prop} (p : Nat × Nat → Bool) (f : Nat × Nat → V) (hl : x.cps.size = y.cps.size) (nD : H1 D = none) (hz : x.cps.size < sizeLine)
    (ht : ∀ (i c d : Nat) (T : Addr) H, x.cps[i]? = some c → y.cps[i]? = some d → Same H1 H → H T = none → ∀ (R1 : Hp → Prop) (R2 : V → Hp → Prop), (p (c, d) = false → ∀ H3, Same H H3 → R1 H3) → (p (c, d) = true → ∀ H4, Same H H4 → R2 (f (c, d)) H4) →
      g (.ref T) (wipe σ vs) (upd H T (.tup [.str ⟨#[c]⟩, .str ⟨#[d]⟩])) fun σ2 H2 => wipe σ2 vs = wipe σ vs ∧ tt σ2 H2 fun b H3 => if b = true then te σ2 H3 R2 else R1 H3)
    (hd : ∀ H, Same H1 H → H D = some (.lst (((x.cps.toList.zip y.cps.toList).filter p).map f)) → Qd H) :
    ∃ W : Nat → Nat → Hp → Prop, (∃ m, W 0 m (upd H1 D (.lst []))) ∧ ∀ i m H, W i m H →
      ((ItzS x y).stop i H ∧ Qd H) ∨ ((ItzS x y).go i H ∧ ∃ Nx : Hp → Prop, (∀ H', Nx H' → ∃ m', m' < m ∧ W (i + 1) m' H') ∧ ∀ z H', (ItzS x y).yld i H z H' → g z (wipe σ vs) H' fun σ2 H2 => wipe σ2 vs = wipe σ vs ∧ tt σ2 H2 fun b H3 =>
        if b = true then te σ2 H3 fun y H4 => ∃ acc, H4 D = some (.lst acc) ∧ acc.length < sizeLine ∧ Nx (upd H4 D (.lst (acc ++ [y]))) else Nx H3) := by
  have hxl : (x.cps.toList.zip y.cps.toList).length = x.cps.size := by rw [List.length_zip, Array.length_toList, Array.length_toList]; omega
  refine lc_zipS hl (fun i H => PvP H1 D ((((x.cps.toList.zip y.cps.toList).take i).filter p).map f) H) ⟨same_new nD, upd_same⟩ (fun i c d T H hc hd' h nT => ?_) (fun H h => ?_)
  · have hi : i < x.cps.size := (Array.getElem?_eq_some_iff.mp hc).1
    have hx : (x.cps.toList.zip y.cps.toList)[i]? = some (c, d) := by
      rw [List.getElem?_zip_eq_some]
      exact ⟨by rw [Array.getElem?_toList]; exact hc, by rw [Array.getElem?_toList]; exact hd'⟩
    obtain ⟨sm, hD⟩ := h
    have cT := same_new (o := .tup [.str ⟨#[c]⟩, .str ⟨#[d]⟩]) nT
    refine ht i c d T H hc hd' sm nT _ _ (fun hk H3 s3 => ?_) (fun hk H4 s4 => ?_)
    · refine ⟨sm.trans s3, ?_⟩
      rw [take_one f p hx, hk, s3 _ _ hD]
      simp
    · refine ⟨_, s4 _ _ hD, Nat.lt_of_le_of_lt (flt_len f p _ i) (Nat.lt_trans hi hz), fun b o e => ?_, ?_⟩
      · rw [upd_ne (ne_of_none e nD)]
        exact s4 _ _ (sm _ _ e)
      · rw [upd_same, take_one f p hx, hk]
        rfl
  · have h2 := h.2
    rw [← hxl, List.take_length] at h2
    exact hd H h.1 h2
end XT
/-! f"{m:b}" -/
namespace XT
open PySem PySem.Spec PyProof.Rows L2 Builtin
def binL (m : Nat) : List Nat := (Nat.toDigits 2 m).map Char.toNat
def binS (m : Nat) : Str := ⟨(binL m).toArray⟩
def sB : Str := ⟨#[98]⟩
def fB : Float.FormatSpec := { align := 62, type := some 98 }
theorem binL_ne (m : Nat) : (binL m).isEmpty = false := by
  have h := toDigits_len_ge 2 m
  unfold binL
  cases e : Nat.toDigits 2 m with
  | nil => rw [e] at h; simp at h
  | cons a b => rfl
theorem field_b (m : Nat) : intField' fB false [] (binL m) [] 4 = binS m := by
  unfold intField' binS
  have h := binL_ne m
  have h1 : 1 ≤ (binL m).length := by
    cases e : binL m with
    | nil => rw [e] at h; simp at h
    | cons a b => simp
  simp only [h, fB]
  simp
theorem gives_b (m : Nat) (t u : Tok) : Gives («int.__format__» ⟨[.int (m : Int) t, .str sB u], []⟩) (.str (binS m)) := by
  intro prog w A R s hq
  unfold Builtin.«int.__format__»
  simp only [selfAndOne, noKeywords, Int.intOfSelf, asInt?, asStr?, pure_bind, bind_pure, bind_assoc, List.isEmpty_nil, if_true, show (Value.str sB u == Value.none) = false from rfl, Bool.false_eq_true, if_false]
  refine wpAny_bind (wpAny_typeNameOf (T := "str") (typeIs_str s sB u) (by decide) fun _ => ?_)
  rw [if_neg (by decide), if_neg (by decide)]
  refine wpAny_bind (wpAny_typeNameOfCut_int ?_)
  have hp : Float.parseFormatSpec sB.cps.toList "int" 62 = .ok fB := rfl
  rw [hp]
  dsimp only
  have ht : fB.type.getD (if (sB.cps.back? == some 0) = true then 0 else 100) = 98 := rfl
  rw [ht, if_pos (by decide)]
  show wpAny _ _ (retStr _) _ _ _
  unfold retStr
  have hneg : decide ((m : Int) < 0) = false := decide_eq_false (by omega)
  rw [hneg]
  change wpAny _ _ (mkStr (intField' fB false [] (binL m) [] 4) >>= fun d => ret d) _ _ _
  rw [field_b]
  exact wpAny_bind (wpAny_mkStr (wpAny_pure hq.2) hq.1)
/-- {m:b} -/
def tFmtB (te : TE) : TE := fun σ H Q => te σ H fun x H1 => ∃ m : Nat, x = .int (m : Int) ∧ m < 2 ^ 900 ∧ Q (.str (binS m)) H1
theorem binL_len {m k : Nat} (hk : 1 ≤ k) (h : m < 2 ^ k) : (binL m).length ≤ k := by
  unfold binL
  rw [List.length_map]
  exact toDigits_len_pow (by decide) hk h
theorem binS_len (m : Nat) : (binS m).length = (binL m).length := by
  unfold binS Str.length
  simp
section
variable {X : Cx}
theorem pe_fmtB {e : Expr} {te : TE} {pos p1 p2 : Pos} {j : Nat} {b : Str} (hb : b = sB) (he : PE X e te) : PE X (.FormattedValue e (-1) (some (.JoinedStr [.Constant (.str b) j p1] p2)) pos) (tFmtB te) := by
  subst hb
  have hs : PE X (.JoinedStr [.Constant (.str sB) j p1] p2) (tC (.str sB)) := pe_joined1 pe_str
  refine ⟨fun pins s σ H Q I h => ?_⟩
  refine wpAny_FormattedValue_spec (thn (he.run pins s σ H _ I h) fun v s1 hv => ?_)
  obtain ⟨x, H1, I1, r1, m, rfl, hm, q⟩ := hv
  obtain ⟨t, rfl⟩ := r1
  refine thn (hs.run pins s1 σ H1 (fun x H2 => x = .str sB ∧ H2 = H1) I1 ⟨rfl, rfl⟩) fun r s2 hr => ?_
  obtain ⟨y, H2, I2, ry, ey, eH⟩ := hr
  subst ey eH
  obtain ⟨t2, rfl⟩ := ry
  refine ⟨sB, t2, rfl, wpAny_formatField_spec (by decide) (fun s' => typeIs_int s' _ _) PySem.F.slot_int_format PySem.F.entry_int_format PySem.F.args_int_format_2 (fun u => gives_b m t u) ⟨.str (binS m), H2, I2.tok _, ⟨_, rfl⟩, q⟩ (by decide) ?_⟩
  rw [binS_len]
  exact Nat.le_trans (binL_len (by decide) hm) (sz (by decide))
end
end XT
/-! the binary digits of a mask, filled to a width -/
namespace XT
open PySem PySem.Spec PyProof.Rows L2
/-- the last n binary digits of m, the highest first -/
def bitsL : Nat → Nat → List Nat
  | 0, _ => []
  | n + 1, m => bitsL n (m / 2) ++ [48 + m % 2]
theorem bitsL_len : ∀ n m : Nat, (bitsL n m).length = n
  | 0, _ => rfl
  | n + 1, m => by
    show (bitsL n (m / 2) ++ [48 + m % 2]).length = n + 1
    rw [List.length_append, bitsL_len n (m / 2)]
    rfl
theorem bitsL_zero : ∀ n : Nat, bitsL n 0 = List.replicate n 48
  | 0 => rfl
  | n + 1 => by
    show bitsL n (0 / 2) ++ [48 + 0 % 2] = _
    rw [Nat.zero_div, bitsL_zero n, List.replicate_succ']
theorem bitsL_at : ∀ (n m i : Nat), i < n → (bitsL n m)[i]? = some (48 + m / 2 ^ (n - 1 - i) % 2)
  | 0, _, i, h => absurd h (by omega)
  | n + 1, m, i, h => by
    show (bitsL n (m / 2) ++ [48 + m % 2])[i]? = _
    rcases Nat.lt_or_ge i n with h1 | h1
    · rw [List.getElem?_append_left (by rw [bitsL_len]; exact h1), bitsL_at n (m / 2) i h1]
      rw [show n + 1 - 1 - i = (n - 1 - i) + 1 by omega, Nat.pow_succ, Nat.mul_comm, Nat.div_div_eq_div_mul]
    · have e : i = n := by omega
      subst e
      rw [List.getElem?_append_right (by rw [bitsL_len]; exact Nat.le_refl _), bitsL_len, Nat.sub_self]
      rw [show i + 1 - 1 - i = 0 by omega, Nat.pow_zero, Nat.div_one]
      rfl
theorem dchar {k : Nat} (h : k < 2) : (Nat.digitChar k).toNat = 48 + k := by
  match k, h with
  | 0, _ => rfl
  | 1, _ => rfl
theorem binL_lt {m : Nat} (h : m < 2) : binL m = [48 + m] := by
  unfold binL
  rw [Nat.toDigits_of_lt_base h, List.map_cons, List.map_nil, dchar h]
theorem binL_ge {m : Nat} (h : 2 ≤ m) : binL m = binL (m / 2) ++ [48 + m % 2] := by
  unfold binL
  rw [Nat.toDigits_of_base_le (by decide) h, List.map_append, List.map_cons, List.map_nil, dchar (Nat.mod_lt m (by decide))]
theorem fill_bits : ∀ (n m : Nat), 1 ≤ n → m < 2 ^ n → List.replicate (n - (binL m).length) 48 ++ binL m = bitsL n m
  | 0, _, h, _ => absurd h (by omega)
  | 1, m, _, h => by
    rw [binL_lt (by simpa using h)]
    show List.replicate 0 48 ++ [48 + m] = [] ++ [48 + m % 2]
    rw [Nat.mod_eq_of_lt (by simpa using h)]
    rfl
  | n + 2, m, _, h => by
    show _ = bitsL (n + 1) (m / 2) ++ [48 + m % 2]
    rcases Nat.lt_or_ge m 2 with h1 | h1
    · rw [binL_lt h1, Nat.div_eq_of_lt h1, bitsL_zero, Nat.mod_eq_of_lt h1]
      rfl
    · have ih := fill_bits (n + 1) (m / 2) (by omega) (by rw [Nat.pow_succ] at h; omega)
      rw [binL_ge h1, List.length_append, List.length_singleton, ← List.append_assoc, show n + 2 - ((binL (m / 2)).length + 1) = n + 1 - (binL (m / 2)).length by omega, ih]
theorem binL_01 (m : Nat) : ∀ c ∈ binL m, c = 48 ∨ c = 49 := by
  induction m using Nat.strongRecOn with
  | _ m ih =>
    rcases Nat.lt_or_ge m 2 with h1 | h1
    · rw [binL_lt h1]
      intro c hc
      rw [List.mem_singleton.mp hc]
      omega
    · rw [binL_ge h1]
      intro c hc
      rcases List.mem_append.mp hc with hc | hc
      · exact ih (m / 2) (by omega) c hc
      · rw [List.mem_singleton.mp hc]
        omega
/-- the digits of a mask, as many as the width -/
def digW (m n : Nat) : Str := Txt.zfill (binS m) (n : Int)
theorem digW_bits {m n : Nat} (h1 : 1 ≤ n) (h : m < 2 ^ n) : (digW m n).cps.toList = bitsL n m := by
  have hl := binS_len m
  rw [← fill_bits n m h1 h]
  unfold digW Txt.zfill
  by_cases hn : (n : Int) ≤ ((binS m).length : Int)
  · rw [if_pos hn, show n - (binL m).length = 0 by omega]
    show (binL m).toArray.toList = _
    rw [List.toList_toArray]
    rfl
  · rw [if_neg hn]
    have e : zfilled (binS m) ((n : Int).toNat - (binS m).length) = Builtin.Str.padded (binS m) ((n : Int).toNat - (binS m).length) 0 48 := by
      unfold zfilled
      cases hb : (binS m).cps[0]? with
      | none => rfl
      | some c =>
        have hc : c = 48 ∨ c = 49 := binL_01 m c (by
          have := Array.mem_of_getElem? hb
          exact Array.mem_toList_iff.mpr this |> fun z => by simpa [binS] using z)
        rcases hc with rfl | rfl <;> rfl
    rw [e, Int.toNat_natCast, hl]
    show (Array.replicate (n - (binL m).length) 48 ++ (binS m).cps ++ Array.replicate 0 48).toList = _
    simp [binS]
theorem cpowW {n : Nat} (h : n ≤ 60) : CPow 1 (n : Int) := ⟨by omega, by omega, by decide⟩
end XT
/-! data with dicts, and repr of them -/
namespace XT
open PySem PySem.Spec PyProof.Rows L2
/-- a dict of texts and numbers -/
def dkV (kvs : List (Str × Int)) : List (Key × V) := kvs.map fun p => (.inr p.1, .int p.2)
def dkD (kvs : List (Str × Int)) : PyData := .dict (kvs.map fun p => (.str p.1, .int p.2))
mutual
inductive Dz (K : PySem.W.Frag) (H : Hp) : V → PyData → Prop
  | non : Dz K H .non .none
  | bl (b : Bool) : Dz K H (.bl b) (.bool b)
  | int (i : Int) : Dz K H (.int i) (.int i)
  | str (x : Str) : Dz K H (.str x) (.str x)
  | lst {a : Addr} {xs : List V} {ds : List PyData} : SqL K H a xs → a ≠ sysModules → DzAll K H xs ds → Dz K H (.ref a) (.list ds)
  | tup {a : Addr} {xs : List V} {ds : List PyData} : SqT K H a xs → DzAll K H xs ds → Dz K H (.ref a) (.tuple ds)
  | dct {a : Addr} (kvs : List (Str × Int)) : H a = some (.dK (dkV kvs)) → Dz K H (.ref a) (dkD kvs)
inductive DzAll (K : PySem.W.Frag) (H : Hp) : List V → List PyData → Prop
  | nil : DzAll K H [] []
  | cons {v : V} {vs : List V} {d : PyData} {ds : List PyData} : Dz K H v d → DzAll K H vs ds → DzAll K H (v :: vs) (d :: ds)
end
mutual
theorem Dz.same {K : PySem.W.Frag} {H H' : Hp} (e : Same H H') : ∀ {v : V} {d : PyData}, Dz K H v d → Dz K H' v d
  | _, _, .non => .non
  | _, _, .bl b => .bl b
  | _, _, .int i => .int i
  | _, _, .str x => .str x
  | _, _, .lst h n a => .lst (e.seq h) n (DzAll.same e a)
  | _, _, .tup h a => .tup (Same.sqT e h) (DzAll.same e a)
  | _, _, .dct kvs h => .dct kvs (e _ _ h)
theorem DzAll.same {K : PySem.W.Frag} {H H' : Hp} (e : Same H H') : ∀ {vs : List V} {ds : List PyData}, DzAll K H vs ds → DzAll K H' vs ds
  | _, _, .nil => .nil
  | _, _, .cons h a => .cons (Dz.same e h) (DzAll.same e a)
end
theorem dk_reads {P : Program} {w : World} {h : Heap} : ∀ {kvs : List (Str × Int)} {vs : List (Key × Value)} {es : List DictEntry}, KV (dkV kvs) vs → Pairs (mixKind P w) es vs →
    ReadsAll h (es.map (·.key)) ((kvs.map fun p => ((PyData.str p.1, PyData.int p.2) : PyData × PyData)).map (·.1)) [] ∧ ReadsAll h (es.map (·.val)) ((kvs.map fun p => ((PyData.str p.1, PyData.int p.2) : PyData × PyData)).map (·.2)) []
  | [], _, _, r, p => by
    cases r
    cases p
    exact ⟨.nil, .nil⟩
  | (x, i) :: kvs, _, _, r, p => by
    cases r with
    | @cons a kv as bs r1 r2 =>
      cases p with
      | @cons e _ es' _ hk hv p2 =>
        obtain ⟨h1, h2⟩ := dk_reads (P := P) (w := w) (h := h) (kvs := kvs) r2 p2
        obtain ⟨e1, e2⟩ := r1
        have e1 : (Sum.inr x : Key) = kv.1 := e1
        have e2 : RelV (.int i) kv.2 := e2
        have hk : keyIs kv.1 e.key = true := hk
        rw [← e1] at hk
        rcases keyIs_shape hk with ⟨j, t, z, _⟩ | ⟨y, t, z, ey⟩
        · cases z
        · cases z
          obtain ⟨t2, e3⟩ := e2
          refine ⟨?_, ?_⟩
          · show ReadsAll h (e.key :: es'.map (·.key)) (PyData.str x :: _) ([] ++ [])
            rw [ey]
            exact .cons (.str x t) h1
          · show ReadsAll h (e.val :: es'.map (·.val)) (PyData.int i :: _) ([] ++ [])
            rw [hv, e3]
            exact .cons (.int i t2) h2
section
variable {X : Cx} {pins : List (Addr × Obj)} {σ : L2.St} {H : Hp} {s : Shared}
mutual
theorem Dz.reads (I : Inv X pins σ H s) : ∀ {v : V} {d : PyData}, Dz X.K H v d → ∀ u : Value, RelV v u → ∃ as, Reads s.heap u d as ∧ sysModules ∉ as
  | _, _, .non, u, r => by
    cases r
    exact ⟨_, Reads.none, by simp⟩
  | _, _, .bl b, u, r => by
    cases r
    exact ⟨_, Reads.bool b, by simp⟩
  | _, _, .int i, u, r => by
    obtain ⟨t, rfl⟩ := r
    exact ⟨_, Reads.int i t, by simp⟩
  | _, _, .str x, u, r => by
    obtain ⟨t, rfl⟩ := r
    exact ⟨_, Reads.str x t, by simp⟩
  | _, _, .lst hs ne ha, u, r => by
    cases r
    obtain ⟨its, rv, ⟨o, n, ho, hc, _, hd⟩, _⟩ := I.list hs
    obtain ⟨as, hr, nm⟩ := DzAll.reads I ha its rv
    exact ⟨_, Reads.list ho hc hd hr, fun z => (List.mem_cons.mp z).elim (fun z => ne z.symm) nm⟩
  | _, _, .tup hs ha, u, r => by
    cases r
    obtain ⟨its, rv, ⟨o, ho, hc, n, hd⟩, _⟩ := I.tuple hs
    obtain ⟨as, hr, nm⟩ := DzAll.reads I ha its rv
    exact ⟨_, Reads.tuple ho hc hd hr, nm⟩
  | _, _, .dct (a := a) kvs h, u, r => by
    cases r
    have hx : ObjOk X.prog X.w H s.heap a (.dK (dkV kvs)) := I.hok a _ h
    obtain ⟨_, hm, vs, rk, o, es, ep, ho, hex, hd, _, hp, _⟩ := hx
    obtain ⟨h1, h2⟩ := dk_reads (h := s.heap) rk hp
    have hne : a ≠ sysModules := beq_eq_false_iff_ne.mp hm
    exact ⟨_, Reads.dict ho hex.1 hd h1 h2, fun z => by
      simp only [List.append_nil, List.mem_cons, List.not_mem_nil, or_false] at z
      exact hne z.symm⟩
theorem DzAll.reads (I : Inv X pins σ H s) : ∀ {vs : List V} {ds : List PyData}, DzAll X.K H vs ds → ∀ us : List Value, Vals vs us → ∃ as, ReadsAll s.heap us ds as ∧ sysModules ∉ as
  | _, _, .nil, us, r => by
    cases r
    exact ⟨_, ReadsAll.nil, by simp⟩
  | _, _, .cons h1 h2, us, r => by
    cases r with
    | cons r1 r2 =>
      obtain ⟨as, q1, n1⟩ := Dz.reads I h1 _ r1
      obtain ⟨bs, q2, n2⟩ := DzAll.reads I h2 _ r2
      exact ⟨_, ReadsAll.cons q1 q2, fun z => (List.mem_append.mp z).elim n1 n2⟩
end
end
section
variable {X : Cx}
def rReprZ (K : PySem.W.Frag) : List V → Hp → VK → Prop := fun xs H Q => ∃ (a : Addr) (d : PyData), xs = [.ref a] ∧ Dz K H (.ref a) d ∧ d.depth ≤ 64 ∧ d.showable = true ∧ d.shown.length ≤ sizeLine ∧ Q (.str d.shown) H
theorem cr_reprZ (hg : X.A.guards = some []) (hu : X.A.units + 128 < cLine) : CallR X (.builtin "repr") (rReprZ X.K) := by
  intro pins s σ H xs us Q I r h
  obtain ⟨a, d, rfl, hd, dp, hw, hz, q⟩ := h
  rw [Vals.ref1 r]
  obtain ⟨as, rd, nm⟩ := Dz.reads I hd (.ref a) rfl
  refine repr_of_reads' rd hw (fun _ => nm) hg (by omega) (fun _ _ e => e) (fun h2 u tk k => ?_) hz
  exact ⟨.str d.shown, H, I.kept (t' := tk) k, ⟨u, rfl⟩, q⟩
/-- a list display: not at the place of sys.modules -/
def tLstB (t : TA) : TE := fun σ H Q => t σ H fun xs H1 => xs.length ≤ sizeLine ∧ ∀ p, H1 p = none → p ≠ sysModules → Q (.ref p) (upd H1 p (.lst xs))
theorem pe_lstB {es : List Expr} {t : TA} {pos : Pos} (h : PA X es t) : PE X (.List es pos) (tLstB t) := by
  refine ⟨fun pins s σ H Q I hq => ?_⟩
  refine wpAny_List_spliced (thn (h.run pos pins s σ H _ I hq) fun us s1 ⟨xs, H1, I1, r, z, q⟩ => ⟨by rw [← r.length]; exact z, ?_⟩)
  have hf : H1 s1.heap.objs.size = none := I1.hok.fresh (Nat.le_refl _)
  refine ⟨.ref s1.heap.objs.size, upd H1 s1.heap.objs.size (.lst xs), I1.laid (t' := s1.toks) (fun b u e => Heap.get?_push_of_some _ e) (Nat.le_refl _) ?_, rfl, q _ hf (Ne.symm (Nat.ne_of_lt I1.big))⟩
  exact ⟨z, us, 0, r, Heap.get?_push_size _ rfl⟩
end
end XT
/-! kinds of data -/
namespace XT
open PySem PySem.Spec PyProof.Rows L2
def tyD : PyData → String
  | .none => "NoneType" | .bool _ => "bool" | .int _ => "int" | .str _ => "str" | .list _ => "list" | .tuple _ => "tuple" | .dict _ => "dict"
theorem Dz.ty {K : PySem.W.Frag} {H : Hp} {v : V} {d : PyData} (h : Dz K H v d) : TyX K H v (.type (tyD d)) := by
  cases h with
  | non => exact .base .non
  | bl b => exact .base (.bl b)
  | int i => exact .base (.int i)
  | str x => exact .base (.str x)
  | lst h n a =>
    rcases h with (h | ⟨o, h⟩) | ⟨o, its, n, h, c, _⟩
    · exact .base (.lst h)
    · exact .base (.frz h)
    · exact .kList h c
  | tup h a =>
    rcases h with (h | ⟨o, h⟩) | ⟨o, its, n, h, c, _⟩
    · exact .base (.tup h)
    · exact .fTuple h
    · exact .kTuple h c
  | dct kvs h => exact .base (.dK h)
def isIt : PyData → Bool
  | .int _ => true | .bool _ => true | _ => false
def isBl : PyData → Bool
  | .bool _ => true | _ => false
def isN : PyData → Bool
  | .int _ => true | _ => false
theorem kitI {K : PySem.W.Frag} : ∀ d : PyData, PySem.W.kitOne K (.type (tyD d)) (.type "int") = some (isIt d)
  | .none => kit_ty (a := "NoneType") (b := "int") (r := false) (by decide +kernel)
  | .bool _ => kit_ty (a := "bool") (b := "int") (r := true) (by decide +kernel)
  | .int _ => kit_ty (a := "int") (b := "int") (r := true) (by decide +kernel)
  | .str _ => kit_ty (a := "str") (b := "int") (r := false) (by decide +kernel)
  | .list _ => kit_ty (a := "list") (b := "int") (r := false) (by decide +kernel)
  | .tuple _ => kit_ty (a := "tuple") (b := "int") (r := false) (by decide +kernel)
  | .dict _ => kit_ty (a := "dict") (b := "int") (r := false) (by decide +kernel)
theorem kitB' {K : PySem.W.Frag} : ∀ d : PyData, PySem.W.kitOne K (.type (tyD d)) (.type "bool") = some (isBl d)
  | .none => kit_ty (a := "NoneType") (b := "bool") (r := false) (by decide +kernel)
  | .bool _ => kit_ty (a := "bool") (b := "bool") (r := true) (by decide +kernel)
  | .int _ => kit_ty (a := "int") (b := "bool") (r := false) (by decide +kernel)
  | .str _ => kit_ty (a := "str") (b := "bool") (r := false) (by decide +kernel)
  | .list _ => kit_ty (a := "list") (b := "bool") (r := false) (by decide +kernel)
  | .tuple _ => kit_ty (a := "tuple") (b := "bool") (r := false) (by decide +kernel)
  | .dict _ => kit_ty (a := "dict") (b := "bool") (r := false) (by decide +kernel)
def isM (n : Nat) : PyData → Bool
  | .int i => decide (0 ≤ i) && decide (i < ((2 ^ n : Nat) : Int))
  | _ => false
theorem DzAll.at {K : PySem.W.Frag} {H : Hp} : ∀ {vs : List V} {ds : List PyData}, DzAll K H vs ds → ∀ {i : Nat} {v : V}, vs[i]? = some v → ∃ d, ds[i]? = some d ∧ Dz K H v d
  | _, _, .nil, i, v, h => by simp at h
  | _, _, .cons (d := d) h a, 0, v, e => by
    cases e
    exact ⟨d, rfl, h⟩
  | _, _, .cons h a, i + 1, v, e => DzAll.at a (i := i) e
theorem DzAll.len {K : PySem.W.Frag} {H : Hp} : ∀ {vs : List V} {ds : List PyData}, DzAll K H vs ds → vs.length = ds.length
  | _, _, .nil => rfl
  | _, _, .cons h a => by rw [List.length_cons, List.length_cons, DzAll.len a]
def oddD : List PyData := [.none, .bool true, .bool false, .int (-1), .int 0, .int 1, .int 2, .int 3, .int 6, .int 7, .int 63, .int 64, .int (10 ^ 39), .str "", .str "0", .str "lot", .tuple [], .list [], .dict [], .tuple [.int 0], .list [.int 0], .tuple [.bool true],
  .tuple [.int 2, .tuple [.int 0]], .tuple [.int 0, .int 1], .dict [(.str "a", .int 1)], .str "01"]
end XT
/-! sizes of data -/
namespace XT
open PySem PySem.Spec PyProof.Rows L2
/-! texts -/
def TxOk (x : Str) : Prop := ∀ c ∈ x.cps.toList, c < 16 ^ 8
theorem shifted_lt {B : Nat} : ∀ {l : List (Nat × Nat × Nat)}, l.all (fun p => decide (p.2.2 + (p.2.1 - p.1) < B)) = true → ∀ {c x : Nat}, Unicode.shifted l c = some x → x < B
  | [], _, c, x, h => by simp [Unicode.shifted] at h
  | (a, b, t) :: l, ha, c, x, h => by
    rw [List.all_cons, Bool.and_eq_true] at ha
    have h1 : t + (b - a) < B := of_decide_eq_true ha.1
    unfold Unicode.shifted at h
    by_cases hc : c < a
    · rw [if_pos hc] at h; cases h
    · rw [if_neg hc] at h
      by_cases hb : c ≤ b
      · rw [if_pos hb] at h
        cases h
        omega
      · rw [if_neg hb] at h
        exact shifted_lt ha.2 h
theorem lookup_mem {β : Type} : ∀ {l : List (Nat × β)} {a : Nat} {b : β}, l.lookup a = some b → (a, b) ∈ l
  | [], a, b, h => by simp at h
  | (k, v) :: l, a, b, h => by
    rw [List.lookup_cons] at h
    cases e : a == k with
    | true =>
      rw [e] at h
      cases h
      rw [eq_of_beq e]
      exact List.mem_cons_self
    | false =>
      rw [e] at h
      exact List.mem_cons_of_mem _ (lookup_mem h)
theorem tabOne : UnicodeData.oneUpper.all (fun p => decide (p.2.2 + (p.2.1 - p.1) < 16 ^ 8)) = true := by decide +kernel
theorem tabSev : UnicodeData.severalUpper.all (fun p => p.2.all fun x => decide (x < 16 ^ 8)) = true := by decide +kernel
theorem upperOf_lt {c : Nat} (h : c < 16 ^ 8) : ∀ x ∈ Unicode.upperOf c, x < 16 ^ 8 := by
  intro x hx
  unfold Unicode.upperOf Unicode.image at hx
  cases e : UnicodeData.severalUpper.lookup c with
  | some cs =>
    rw [e] at hx
    have := List.all_eq_true.mp tabSev _ (lookup_mem e)
    exact of_decide_eq_true (List.all_eq_true.mp this x hx)
  | none =>
    rw [e] at hx
    rw [List.mem_singleton.mp hx]
    cases e2 : Unicode.shifted UnicodeData.oneUpper c with
    | none => exact h
    | some y => exact shifted_lt tabOne e2
theorem TxOk.upper {x : Str} (h : TxOk x) : TxOk (Txt.upper x) := by
  intro c hc
  unfold Txt.upper placed at hc
  have hc := Array.mem_toList_iff.mp hc
  obtain ⟨ys, h1, h2⟩ := Array.mem_flatten.mp hc
  obtain ⟨i, hi, e⟩ := Array.mem_mapIdx.mp h1
  subst e
  have h3 : c ∈ Unicode.upperOf x.cps[i] := by simpa using h2
  exact upperOf_lt (h _ (Array.mem_toList_iff.mpr (Array.getElem_mem hi))) c h3
theorem TxOk.app {x y : Str} (h : TxOk x) (k : TxOk y) : TxOk (x ++ y) := by
  intro c hc
  have e : (x ++ y).cps.toList = x.cps.toList ++ y.cps.toList := by
    show (x.cps ++ y.cps).toList = _
    simp
  rw [e] at hc
  exact (List.mem_append.mp hc).elim (h c) (k c)
theorem TxOk.cut {x : Str} (h : TxOk x) (lo hi : Option Int) : TxOk (cutS x lo hi) := by
  intro c hc
  have hc : c ∈ (((x.cps.toList.drop (HT.sIx x.length 0 lo)).take (HT.sIx x.length x.length hi - HT.sIx x.length 0 lo)).toArray).toList := hc
  rw [List.toList_toArray] at hc
  exact h c (List.mem_of_mem_drop (List.mem_of_mem_take hc))
theorem TxOk.of (s : String) : TxOk (Str.ofString s) := by
  intro c hc
  rw [Str.ofString_eq_toList] at hc
  have hc : c ∈ s.toList.map Char.toNat := by simpa using hc
  obtain ⟨d, _, rfl⟩ := List.mem_map.mp hc
  have := d.valid
  have h2 : d.toNat < 0x110000 := by
    rcases this with h | h
    · exact Nat.lt_trans h (by decide)
    · exact h.2
  exact Nat.lt_trans h2 (by decide)
theorem str_app_len (x y : Str) : (x ++ y).length = x.length + y.length := strLen_append x y

/-! size -/
mutual
def zs : PyData → Nat
  | .none => 10
  | .bool _ => 10
  | .int _ => 60
  | .str x => 10 * x.length + 2
  | .list ds => zsAll ds + 4
  | .tuple ds => zsAll ds + 4
  | .dict _ => 50
def zsAll : List PyData → Nat
  | [] => 0
  | d :: ds => zs d + 2 + zsAll ds
end
mutual
def fz (M : Nat) : PyData → Prop
  | .none => True
  | .bool _ => True
  | .int i => i.natAbs ≤ M
  | .str x => TxOk x
  | .list ds => fzAll M ds
  | .tuple ds => fzAll M ds
  | .dict kvs => (PyData.showable (.dict kvs) = true) ∧ (PyData.shown (.dict kvs)).length ≤ 50
def fzAll (M : Nat) : List PyData → Prop
  | [] => True
  | d :: ds => fz M d ∧ fzAll M ds
end
mutual
theorem fz_mono {M N : Nat} (h : M ≤ N) : ∀ d : PyData, fz M d → fz N d
  | .none, a => a
  | .bool _, a => a
  | .int _, a => Nat.le_trans a h
  | .str _, a => a
  | .list ds, a => fzAll_mono h ds a
  | .tuple ds, a => fzAll_mono h ds a
  | .dict _, a => a
theorem fzAll_mono {M N : Nat} (h : M ≤ N) : ∀ ds : List PyData, fzAll M ds → fzAll N ds
  | [], a => a
  | d :: ds, a => ⟨fz_mono h d a.1, fzAll_mono h ds a.2⟩
end
theorem fzAll_iff {M : Nat} : ∀ {ds : List PyData}, fzAll M ds ↔ ∀ d ∈ ds, fz M d
  | [] => ⟨fun _ d h => by simp at h, fun _ => trivial⟩
  | d :: ds => by
    constructor
    · intro h e he
      rcases List.mem_cons.mp he with rfl | he
      · exact h.1
      · exact fzAll_iff.mp h.2 e he
    · intro h
      exact ⟨h d List.mem_cons_self, fzAll_iff.mpr fun e he => h e (List.mem_cons_of_mem _ he)⟩
theorem depthAll_iff {k : Nat} : ∀ {ds : List PyData}, PyData.depthAll ds ≤ k ↔ ∀ d ∈ ds, PyData.depth d ≤ k
  | [] => ⟨fun _ d h => by simp at h, fun _ => Nat.zero_le _⟩
  | d :: ds => by
    simp only [PyData.depthAll]
    constructor
    · intro h e he
      have h := Nat.max_le.mp h
      rcases List.mem_cons.mp he with rfl | he
      · exact h.1
      · exact depthAll_iff.mp h.2 e he
    · intro h
      exact Nat.max_le.mpr ⟨h d List.mem_cons_self, depthAll_iff.mpr fun e he => h e (List.mem_cons_of_mem _ he)⟩
theorem zsAll_app : ∀ a b : List PyData, zsAll (a ++ b) = zsAll a + zsAll b
  | [], b => by simp [zsAll]
  | d :: a, b => by
    show zs d + 2 + zsAll (a ++ b) = zs d + 2 + zsAll a + zsAll b
    rw [zsAll_app a b]
    omega
theorem zsAll_take (n : Nat) (ds : List PyData) : zsAll (ds.take n) ≤ zsAll ds := by
  have := zsAll_app (ds.take n) (ds.drop n)
  rw [List.take_append_drop] at this
  omega
theorem zsAll_drop (n : Nat) (ds : List PyData) : zsAll (ds.drop n) ≤ zsAll ds := by
  have := zsAll_app (ds.take n) (ds.drop n)
  rw [List.take_append_drop] at this
  omega
theorem zsAll_rev : ∀ ds : List PyData, zsAll ds.reverse = zsAll ds
  | [] => rfl
  | d :: ds => by
    rw [List.reverse_cons, zsAll_app, zsAll_rev ds]
    show zsAll ds + (zs d + 2 + 0) = zs d + 2 + zsAll ds
    omega
theorem zs_mem : ∀ {ds : List PyData} {d : PyData}, d ∈ ds → zs d + 2 ≤ zsAll ds
  | e :: ds, d, h => by
    show zs d + 2 ≤ zs e + 2 + zsAll ds
    rcases List.mem_cons.mp h with rfl | h
    · omega
    · have := zs_mem h
      omega
theorem zsAll_len : ∀ ds : List PyData, ds.length ≤ zsAll ds
  | [] => Nat.zero_le _
  | d :: ds => by
    have := zsAll_len ds
    show ds.length + 1 ≤ zs d + 2 + zsAll ds
    omega
/-- what the data are: their numbers, their size, their depth -/
structure Gd (M n k : Nat) (d : PyData) : Prop where
  f : fz M d
  z : zs d ≤ n
  p : PyData.depth d ≤ k
structure GdAll (M n k : Nat) (ds : List PyData) : Prop where
  f : fzAll M ds
  z : zsAll ds ≤ n
  p : PyData.depthAll ds ≤ k
theorem Gd.mono {M N n m k j : Nat} {d : PyData} (h : Gd M n k d) (a : M ≤ N) (b : n ≤ m) (c : k ≤ j) : Gd N m j d := ⟨fz_mono a d h.f, Nat.le_trans h.z b, Nat.le_trans h.p c⟩
theorem GdAll.mono {M N n m k j : Nat} {d : List PyData} (h : GdAll M n k d) (a : M ≤ N) (b : n ≤ m) (c : k ≤ j) : GdAll N m j d := ⟨fzAll_mono a d h.f, Nat.le_trans h.z b, Nat.le_trans h.p c⟩
theorem Gd.all {M n k : Nat} {ds : List PyData} (h : Gd M n k (.tuple ds)) : GdAll M (n - 4) (k - 1) ds ∧ 4 ≤ n ∧ 1 ≤ k := by
  have h2 : zsAll ds + 4 ≤ n := h.z
  have h3 : PyData.depthAll ds + 1 ≤ k := by
    have := h.p
    simp only [PyData.depth] at this
    exact this
  exact ⟨⟨h.f, by omega, by omega⟩, by omega, by omega⟩
theorem GdAll.tuple {M n k : Nat} {ds : List PyData} (h : GdAll M n k ds) : Gd M (n + 4) (k + 1) (.tuple ds) := by
  refine ⟨h.f, Nat.add_le_add_right h.z 4, ?_⟩
  simp only [PyData.depth]
  exact Nat.add_le_add_right h.p 1
theorem GdAll.list {M n k : Nat} {ds : List PyData} (h : GdAll M n k ds) : Gd M (n + 4) (k + 1) (.list ds) := by
  refine ⟨h.f, Nat.add_le_add_right h.z 4, ?_⟩
  simp only [PyData.depth]
  exact Nat.add_le_add_right h.p 1
theorem GdAll.nil {M k : Nat} : GdAll M 0 k [] := ⟨trivial, Nat.le_refl _, Nat.zero_le _⟩
theorem GdAll.cons {M n m k : Nat} {d : PyData} {ds : List PyData} (h : Gd M n k d) (t : GdAll M m k ds) : GdAll M (n + 2 + m) k (d :: ds) := by
  refine ⟨⟨h.f, t.f⟩, ?_, ?_⟩
  · have := h.z
    have := t.z
    show zs d + 2 + zsAll ds ≤ _
    omega
  · simp only [PyData.depthAll]
    exact Nat.max_le.mpr ⟨h.p, t.p⟩
theorem GdAll.app {M n m k : Nat} {ds es : List PyData} (h : GdAll M n k ds) (t : GdAll M m k es) : GdAll M (n + m) k (ds ++ es) := by
  refine ⟨fzAll_iff.mpr fun d hd => (List.mem_append.mp hd).elim (fzAll_iff.mp h.f d) (fzAll_iff.mp t.f d), ?_, depthAll_iff.mpr fun d hd => (List.mem_append.mp hd).elim (depthAll_iff.mp h.p d) (depthAll_iff.mp t.p d)⟩
  rw [zsAll_app]
  exact Nat.add_le_add h.z t.z
theorem GdAll.sub {M n k : Nat} {ds es : List PyData} (h : GdAll M n k ds) (s : ∀ d ∈ es, d ∈ ds) (z : zsAll es ≤ zsAll ds) : GdAll M n k es :=
  ⟨fzAll_iff.mpr fun d hd => fzAll_iff.mp h.f d (s d hd), Nat.le_trans z h.z, depthAll_iff.mpr fun d hd => depthAll_iff.mp h.p d (s d hd)⟩
theorem GdAll.take {M n k : Nat} {ds : List PyData} (i : Nat) (h : GdAll M n k ds) : GdAll M n k (ds.take i) := h.sub (fun _ hd => List.mem_of_mem_take hd) (zsAll_take i ds)
theorem GdAll.drop {M n k : Nat} {ds : List PyData} (i : Nat) (h : GdAll M n k ds) : GdAll M n k (ds.drop i) := h.sub (fun _ hd => List.mem_of_mem_drop hd) (zsAll_drop i ds)
theorem GdAll.rev {M n k : Nat} {ds : List PyData} (h : GdAll M n k ds) : GdAll M n k ds.reverse := h.sub (fun _ hd => List.mem_reverse.mp hd) (Nat.le_of_eq (zsAll_rev ds))
theorem GdAll.at {M n k : Nat} {ds : List PyData} {d : PyData} (h : GdAll M n k ds) (m : d ∈ ds) : Gd M n k d :=
  ⟨fzAll_iff.mp h.f d m, by have := zs_mem m; have := h.z; omega, depthAll_iff.mp h.p d m⟩
/-- shown -/
theorem shown_int {M : Nat} {i : Int} (hM : M < 10 ^ 40) (h : i.natAbs ≤ M) : (PyData.shown (.int i)).length ≤ 60 := by
  have e := int_text_length_le10 (a := i) (k := 40) (by decide) (by omega)
  show (Str.ofString (toString i)).length ≤ 60
  rw [PySem.ofString_length]
  omega
theorem log_int {M : Nat} {i : Int} (hM : M < 10 ^ 40) (h : i.natAbs ≤ M) : i.natAbs.log2 < 1920 := by
  by_cases h0 : i.natAbs = 0
  · rw [h0]; decide
  · exact Nat.lt_of_lt_of_le ((Nat.log2_lt h0).mpr (show i.natAbs < 2 ^ 140 from Nat.lt_of_lt_of_le (show i.natAbs < 10 ^ 40 by omega) (by decide))) (by decide)
mutual
theorem shown_le {M : Nat} (hM : M < 10 ^ 40) : ∀ d : PyData, fz M d → PyData.showable d = true ∧ (PyData.shown d).length ≤ zs d
  | .none, _ => ⟨rfl, by decide⟩
  | .bool b, _ => ⟨rfl, by cases b <;> decide⟩
  | .int i, h => ⟨decide_eq_true (log_int hM h), shown_int hM h⟩
  | .str x, h => ⟨rfl, by
    show (reprText x).length ≤ 10 * x.length + 2
    exact StrLaws.reprText_len x h⟩
  | .list ds, h => by
    obtain ⟨h1, h2⟩ := shownAll_le hM ds h
    refine ⟨by simpa only [PyData.showable] using h1, ?_⟩
    simp only [PyData.shown, zs]
    have := listText_len_le (PyData.shownAll ds)
    omega
  | .tuple ds, h => by
    obtain ⟨h1, h2⟩ := shownAll_le hM ds h
    refine ⟨by simpa only [PyData.showable] using h1, ?_⟩
    simp only [PyData.shown, zs]
    have := tupleText_len_le (PyData.shownAll ds)
    omega
  | .dict kvs, h => h
theorem shownAll_le {M : Nat} (hM : M < 10 ^ 40) : ∀ ds : List PyData, fzAll M ds → PyData.showableAll ds = true ∧ ((PyData.shownAll ds).map (·.length)).sum + 2 * (PyData.shownAll ds).length ≤ zsAll ds
  | [], _ => ⟨rfl, Nat.le_refl _⟩
  | d :: ds, h => by
    obtain ⟨h1, h2⟩ := shown_le hM d h.1
    obtain ⟨h3, h4⟩ := shownAll_le hM ds h.2
    refine ⟨by simp only [PyData.showableAll, h1, h3, Bool.and_self], ?_⟩
    simp only [PyData.shownAll, List.map_cons, List.sum_cons, List.length_cons, zsAll]
    omega
end
end XT
/-! repr of any data -/
namespace XT
open PySem PySem.Spec PyProof.Rows L2
section
variable {X : Cx}
/-- repr of any data -/
def rReprA (K : PySem.W.Frag) : List V → Hp → VK → Prop := fun xs H Q => ∃ (x : V) (d : PyData), xs = [x] ∧ Dz K H x d ∧ d.depth ≤ 64 ∧ d.showable = true ∧ d.shown.length ≤ sizeLine ∧ Q (.str d.shown) H
theorem cr_reprA (hg : X.A.guards = some []) (hu : X.A.units + 128 < cLine) : CallR X (.builtin "repr") (rReprA X.K) := by
  intro pins s σ H xs us Q I r h
  obtain ⟨x, d, rfl, hd, dp, hw, hz, q⟩ := h
  obtain ⟨u, rfl, ru⟩ := vals1 r
  cases hd with
  | non => cases ru; exact PySem.P.repr_of_none ⟨.str _, H, I.tok _, ⟨_, rfl⟩, q⟩
  | bl b => cases ru; exact PySem.P.repr_of_bool ⟨.str (if b then "True" else "False"), H, I.tok _, ⟨_, by cases b <;> rfl⟩, by cases b <;> exact q⟩
  | int i =>
    obtain ⟨t, rfl⟩ := ru
    exact PySem.P.repr_of_int (of_decide_eq_true hw) ⟨.str _, H, I.tok _, ⟨_, rfl⟩, q⟩
  | str y =>
    obtain ⟨t, rfl⟩ := ru
    exact PySem.P.repr_of_str ⟨.str _, H, I.tok _, ⟨_, rfl⟩, q⟩ (hsz := hz)
  | lst a b c => cases ru; exact cr_reprZ hg hu pins s σ H _ _ Q I r ⟨_, _, rfl, .lst a b c, dp, hw, hz, q⟩
  | tup a b => cases ru; exact cr_reprZ hg hu pins s σ H _ _ Q I r ⟨_, _, rfl, .tup a b, dp, hw, hz, q⟩
  | dct kvs a => cases ru; exact cr_reprZ hg hu pins s σ H _ _ Q I r ⟨_, _, rfl, .dct kvs a, dp, hw, hz, q⟩
/-- list(t): not at the place of sys.modules -/
theorem call_listB : CallR X (.type "list") (fun xs H Q => ∃ p ys, xs = [.ref p] ∧ SqT X.K H p ys ∧ ∀ l, H l = none → l ≠ sysModules → Q (.ref l) (upd H l (.lst ys))) := by
  intro pins s σ H xs us Q I r h
  obtain ⟨p, ys, rfl, hq, q⟩ := h
  obtain ⟨u, rfl, rx⟩ := vals1 r
  cases rx
  have fin : ∀ (its : List Value), Vals ys its → ys.length ≤ sizeLine → ∀ (h' : Heap) (c' : Nat), (∀ b o', s.heap.get? b = some o' → h'.get? b = some o') →
      h'.get? s.heap.objs.size = some { cls := .type "list", dict := none, data := .seq its.toArray c', slots := #[] } → EP X pins σ Q (.ref s.heap.objs.size) { s with heap := h' } := fun its r' hz h' c' kp e =>
    ⟨.ref s.heap.objs.size, _, I.laid (t' := s.toks) kp (Nat.le_refl _) (show ObjOk X.prog X.w _ h' _ (.lst ys) from ⟨hz, its, c', r', e⟩), rfl, q _ (I.hok.fresh (Nat.le_refl _)) (Ne.symm (Nat.ne_of_lt I.big))⟩
  obtain ⟨its, r', pl, hz⟩ := I.tuple hq
  have hlen := r'.length
  obtain ⟨o, ho, hc, n, hd⟩ := pl
  exact call_list_seq p (.inr rfl) ho hc hd (fun h' c' kp e => fin its r' hz h' c' kp e) (by simp only [List.size_toArray] <;> omega)
/-- t != () -/
theorem op_neE (hu : X.A.units < cLine) : OpR X (compareOp .NotEq) (fun x y H Q => ∃ (a b : Addr) (xs : List V), x = .ref a ∧ y = .ref b ∧ SqT X.K H a xs ∧ SqT X.K H b [] ∧ Q (.bl (!xs.isEmpty)) H) := by
  intro pins s σ H x y v u Q I rx ry h
  obtain ⟨a, b, xs, rfl, rfl, ha, hb, q⟩ := h
  cases rx
  cases ry
  obtain ⟨its, r1, p1, _⟩ := I.tuple ha
  obtain ⟨its2, r2, p2, _⟩ := I.tuple hb
  cases r2
  refine SeqAt.RcNeAt.tuples (e := fun _ => true) p1 p2 hu (fun j h1 h2 => absurd h2 (Nat.not_lt_zero _)) X.prog X.w _ _ ⟨.bl (!xs.isEmpty), H, I, ?_, q⟩
  show Value.bool _ = Value.bool _
  congr 1
  cases r1 with
  | nil => rfl
  | cons _ _ => simp
/-- True + 1 -/
theorem op_add_bi : OpR X (binaryOp .Add) (fun x y H Q => ∃ k i, x = .bl k ∧ y = .int i ∧ Q (.int ((if k = true then (1 : Int) else 0) + i)) H) := by
  intro pins s σ H x y v u Q I rx ry h
  obtain ⟨k, i, rfl, rfl, q⟩ := h
  obtain ⟨t, rfl⟩ := ry
  cases rx
  exact PySem.IntBool.add_bool_int ⟨.int _, H, I.tok _, ⟨_, rfl⟩, q⟩
theorem op_sub_bi : OpR X (binaryOp .Sub) (fun x y H Q => ∃ k i, x = .bl k ∧ y = .int i ∧ Q (.int ((if k = true then (1 : Int) else 0) - i)) H) := by
  intro pins s σ H x y v u Q I rx ry h
  obtain ⟨k, i, rfl, rfl, q⟩ := h
  obtain ⟨t, rfl⟩ := ry
  cases rx
  exact PySem.IntBool.sub_bool_int ⟨.int _, H, I.tok _, ⟨_, rfl⟩, q⟩
theorem op_eq_bi : OpR X (compareOp .Eq) (fun x y H Q => ∃ k i, x = .bl k ∧ y = .int i ∧ Q (.bl ((if k then 1 else 0) == i)) H) := by
  intro pins s σ H x y v u Q I rx ry h
  obtain ⟨k, i, rfl, rfl, q⟩ := h
  obtain ⟨t, rfl⟩ := ry
  cases rx
  exact PySem.EqBoolInt.eq_bool_int ⟨.bl _, H, I, rfl, q⟩
theorem call_str_bool : CallR X (.type "str") (fun xs H Q => ∃ b, xs = [.bl b] ∧ Q (.str (Str.ofString (if b then "True" else "False"))) H) := by
  intro pins s σ H xs us Q I r h
  obtain ⟨b, rfl, q⟩ := h
  obtain ⟨u, rfl, ru⟩ := vals1 r
  cases ru
  exact PySem.P.str_of_bool ⟨.str _, H, I.tok _, ⟨_, by cases b <;> rfl⟩, q⟩
/-- two rules for one operator -/
theorem OpR.or {f : Value → Value → Sem Value} {r r' : R2} (h : OpR X f r) (h' : OpR X f r') : OpR X f (fun x y H Q => r x y H Q ∨ r' x y H Q) := by
  intro pins s σ H x y v u Q I rx ry q
  rcases q with q | q
  · exact h pins s σ H x y v u Q I rx ry q
  · exact h' pins s σ H x y v u Q I rx ry q
theorem CallR.or {f : Value} {r r' : List V → Hp → VK → Prop} (h : CallR X f r) (h' : CallR X f r') : CallR X f (fun xs H Q => r xs H Q ∨ r' xs H Q) := by
  intro pins s σ H xs us Q I rx q
  rcases q with q | q
  · exact h pins s σ H xs us Q I rx q
  · exact h' pins s σ H xs us Q I rx q
end
/-! t[::-1] -/
section
variable {prog : Program} {w : World} {A : Around} {E : Value → Shared → Prop} {s : Shared}
theorem adjust_rev (n : Nat) : Builtin.Slice.sliceAdjust none none (-1) (n : Int) = ((n : Int) - 1, -1) := rfl
theorem places_rev (n : Nat) : Builtin.Slice.slicePlaces ((n : Int) - 1) (-1) (-1) = n := by
  unfold Builtin.Slice.slicePlaces
  have h1 : ¬ ((-1 : Int) > 0) := by decide
  rw [if_neg h1]
  by_cases h : (n : Int) - 1 > -1
  · rw [if_pos h, show (- -1 : Int) = 1 by decide, Int.ediv_one]
    omega
  · rw [if_neg h]
    omega
theorem pick_rev (xs : Array Value) : ((List.range xs.size).filterMap fun (m : Nat) => xs[((xs.size : Int) - 1 + (m : Int) * (-1)).toNat]?).toArray = xs.toList.reverse.toArray := by
  have e : (List.range xs.size).filterMap (fun (m : Nat) => xs[((xs.size : Int) - 1 + (m : Int) * (-1)).toNat]?) = ((List.range xs.size).map fun k => xs.size - 1 - k).filterMap (xs[·]?) := by
    rw [List.filterMap_map]
    have g : ∀ l : List Nat, (∀ m ∈ l, m < xs.size) → l.filterMap (fun (m : Nat) => xs[((xs.size : Int) - 1 + (m : Int) * (-1)).toNat]?) = l.filterMap ((fun x => xs[x]?) ∘ fun k => xs.size - 1 - k) := by
      intro l
      induction l with
      | nil => intro _; rfl
      | cons m l ih =>
        intro hm
        have h1 := hm m List.mem_cons_self
        have e2 : ((xs.size : Int) - 1 + (m : Int) * (-1)).toNat = xs.size - 1 - m := by omega
        rw [List.filterMap_cons, List.filterMap_cons, ih fun x hx => hm x (List.mem_cons_of_mem _ hx)]
        rw [e2]
        rfl
    exact g _ fun m hm => List.mem_range.mp hm
  rw [e, PySem.W.krv_range, List.filterMap_reverse, PySem.W.krv_all]
theorem sliceApplied_rev {sl : Addr} {tk : Tok} {n : Nat} {Q : Int × Int × Nat → Shared → Prop} (hs : s.heap.IsSliceOf sl .none .none (.int (-1) tk))
    (h : Q ((n : Int) - 1, -1, n) s) : wpAny (model prog w) A (Builtin.Slice.sliceApplied (.ref sl) (pure (n : Int))) Q E s := by
  obtain ⟨os, hos, hcs, hds⟩ := id hs
  unfold Builtin.Slice.sliceApplied Builtin.Slice.sliceFields
  refine wpAny_bind (wpAny_bind (wpAny_field hos hds (x := .none) rfl (wpAny_bind (wpAny_field hos hds (x := .none) rfl (wpAny_bind (wpAny_field hos hds (x := .int (-1) tk) rfl (wpAny_pure ?_)))))))
  refine wpAny_bind (HT.slicePart_ (.int (-1) tk) ?_)
  show wpAny _ _ (if ((-1 : Int) == 0) = true then _ else _) _ _ s
  rw [if_neg (by decide)]
  refine wpAny_bind (HT.slicePart_ .none (wpAny_bind (HT.slicePart_ .none (wpAny_bind (wpAny_pure ?_)))))
  show wpAny _ _ (match Builtin.Slice.sliceAdjust none none (-1) (n : Int) with | (lo, hi) => pure (lo, (-1 : Int), Builtin.Slice.slicePlaces lo hi (-1))) _ _ s
  rw [adjust_rev n]
  show wpAny _ _ (pure ((n : Int) - 1, (-1 : Int), Builtin.Slice.slicePlaces ((n : Int) - 1) (-1) (-1))) _ _ s
  rw [places_rev]
  exact wpAny_pure h
theorem getItem_tuple_rev {t sl : Addr} {items : Array Value} {tk : Tok} {Q : Value → Shared → Prop} (ht : IsTup s.heap t items) (hs : s.heap.IsSliceOf sl .none .none (.int (-1) tk))
    (h : Q (.ref s.heap.objs.size) { s with heap := s.heap.push { cls := .type "tuple", data := .seq items.toList.reverse.toArray } })
    (hsz : items.size ≤ sizeLine) : wpAny (model prog w) A (getItem (.ref t) (.ref sl)) Q E s := by
  have htake : sizeOk (.seq items.toList.reverse.toArray) := by
    show items.toList.reverse.toArray.size ≤ sizeLine
    rw [List.size_toArray, List.length_reverse, Array.length_toList]
    exact hsz
  obtain ⟨os, hos, hcs, hds⟩ := id hs
  have hTs : s.TypeIs (.ref sl) "slice" := ⟨os, hos, hcs⟩
  unfold getItem
  try with_reducible refine wpAny_holding ?_
  first | refine wpAny_bind (wpAny_pure ?_) | skip
  refine wpAny_bind (wpAny_sequenceKey ht.typeIs (by decide) ?_)
  refine wpAny_bind (wpAny_callSpecial?_slot (name := Str.ofString "__getitem__") ht.typeIs PyProof.Rows.slot_tuple_getitem
    (wpAny_call_entry PyProof.Rows.slot_tuple_getitem ht.typeIs entry_tuple_getitem ?_ (args_tuple_getitem _ _)))
  show wpAny _ _ (Builtin.Tuple.tupleItemsOf (.ref t) >>= _) _ _ s
  refine wpAny_bind (tupleItemsOf_ ht ?_)
  refine wpAny_bind (wpAny_typeOf hTs ?_)
  rw [if_pos (by decide)]
  refine wpAny_bind (sliceApplied_rev hs ?_)
  have hno : ¬ ((((items.size : Int) - 1) == 0 && (-1 : Int) == 1 && items.size == items.size) = true) := by
    intro q
    rw [Bool.and_eq_true, Bool.and_eq_true] at q
    exact absurd q.1.2 (by decide)
  show wpAny _ _ (if ((((items.size : Int) - 1) == 0 && (-1 : Int) == 1 && items.size == items.size) = true) then _ else _) _ _ s
  rw [if_neg hno, pick_rev]
  first
    | exact wpAny_bind (m := Builtin.Tuple.tupleExact _) (wpAny_newObj_type (wpAny_pure ⟨_, rfl, wpAny_pure h⟩) htake)
    | exact wpAny_bind (m := Builtin.Tuple.tupleExact _) (wpAny_newObj_type (wpAny_bind (wpAny_pure (wpAny_pure ⟨_, rfl, wpAny_pure h⟩))) htake)
    | exact wpAny_bind (wpAny_bind (m := Builtin.Tuple.tupleExact _) (wpAny_newObj_type (wpAny_pure (wpAny_pure ⟨_, rfl, wpAny_pure h⟩)) htake))
    | exact wpAny_bind (wpAny_bind (m := Builtin.Tuple.tupleExact _) (wpAny_newObj_type (wpAny_pure ⟨_, rfl, wpAny_pure h⟩) htake))
end
section
variable {X : Cx} {e st : Expr} {te ts : TE} {pos p2 : Pos}
def tRevT (K : PySem.W.Frag) (te ts : TE) : TE := fun σ H Q => te σ H fun x H1 => ts σ H1 fun y H2 => ∃ a xs, x = .ref a ∧ y = .int (-1) ∧ SqT K H2 a xs ∧ ∀ p, H2 p = none → Q (.ref p) (upd H2 p (.tup xs.reverse))
/-- t[::-1] -/
theorem pe_revT (he : PE X e te) (hs : PE X st ts) : PE X (.Subscript e (.Slice none none (some st) p2) pos) (tRevT X.K te ts) := by
  refine ⟨fun pins s σ H Q I h => ?_⟩
  refine Subscript_ (thn (he.run pins s σ H _ I h) fun v s1 ⟨x, H1, I1, r1, q1⟩ => ?_)
  refine wpAny_Slice ?_
  rw [evalPart_none]
  refine wpAny_pure ?_
  refine wpAny_pure ?_
  rw [evalPart_some]
  refine thn (hs.run pins s1 σ H1 _ I1 q1) fun u s3 ⟨y, H3, I3, r3, q3⟩ => ?_
  obtain ⟨a, xs, rfl, rfl, hx, q⟩ := q3
  obtain ⟨tk, rfl⟩ := r3
  cases r1
  have I4 : Inv X pins σ H3 { s3 with heap := s3.heap.push { cls := .type "slice", data := .fields #[.none, .none, .int (-1) tk] } } := I3.kept (t' := s3.toks) fun b ob q => Heap.get?_push_of_some _ q
  obtain ⟨its, r, ht, hz⟩ := I4.tuple hx
  have hlen : its.toArray.size = xs.length := by rw [List.size_toArray]; exact r.length.symm
  show wpAny (model X.prog X.w) X.A (subscriptTail e (.Slice none none (some st) p2) (.ref a) (.ref s3.heap.objs.size)) (EP X pins σ Q) X.xe { s3 with heap := s3.heap.push { cls := .type "slice", data := .fields #[.none, .none, .int (-1) tk] } }
  refine tail_any (ops := [.ref a, .ref s3.heap.objs.size]) ht.typeIs PyProof.Rows.slot_tuple_getitem.lookup ?_ (by with_unfolding_all rfl)
  refine getItem_tuple_rev ht (Heap.IsSliceOf.new ..) ?_ (by rw [hlen]; exact hz)
  refine ⟨.ref (s3.heap.push { cls := .type "slice", data := .fields #[.none, .none, .int (-1) tk] }).objs.size, _, I4.laid (t' := s3.toks) (o := .tup xs.reverse) (fun b ob q => Heap.get?_push_of_some _ q) (Nat.le_refl _) ?_, rfl, q _ (I4.hok.fresh (Nat.le_refl _))⟩
  exact ⟨by rw [List.length_reverse]; exact hz, _, r.reverse, IsTup.new _ _⟩
end
end XT
/-! data that avoid the stream -/
namespace XT
open PySem PySem.Spec PyProof.Rows L2
mutual
inductive Dv (K : PySem.W.Frag) (N : Addr → Prop) (H : Hp) : V → PyData → Prop
  | non : Dv K N H .non .none
  | bl (b : Bool) : Dv K N H (.bl b) (.bool b)
  | int (i : Int) : Dv K N H (.int i) (.int i)
  | str (x : Str) : Dv K N H (.str x) (.str x)
  | lst {a : Addr} {xs : List V} {ds : List PyData} : SqL K H a xs → a ≠ sysModules → N a → DvAll K N H xs ds → Dv K N H (.ref a) (.list ds)
  | tup {a : Addr} {xs : List V} {ds : List PyData} : SqT K H a xs → DvAll K N H xs ds → Dv K N H (.ref a) (.tuple ds)
  | dct {a : Addr} (kvs : List (Str × Int)) : H a = some (.dK (dkV kvs)) → Dv K N H (.ref a) (dkD kvs)
inductive DvAll (K : PySem.W.Frag) (N : Addr → Prop) (H : Hp) : List V → List PyData → Prop
  | nil : DvAll K N H [] []
  | cons {v : V} {vs : List V} {d : PyData} {ds : List PyData} : Dv K N H v d → DvAll K N H vs ds → DvAll K N H (v :: vs) (d :: ds)
end
/-- not of the stream -/
abbrev Nof (S : Sm) : Addr → Prop := fun a => a ≠ S.s ∧ a ≠ S.p
abbrev Ds (K : PySem.W.Frag) (S : Sm) (H : Hp) : V → PyData → Prop := Dv K (Nof S) H
abbrev DsAll (K : PySem.W.Frag) (S : Sm) (H : Hp) : List V → List PyData → Prop := DvAll K (Nof S) H
mutual
theorem Dv.dz {K : PySem.W.Frag} {N : Addr → Prop} {H : Hp} : ∀ {v : V} {d : PyData}, Dv K N H v d → Dz K H v d
  | _, _, .non => .non
  | _, _, .bl b => .bl b
  | _, _, .int i => .int i
  | _, _, .str x => .str x
  | _, _, .lst h n _ a => .lst h n (DvAll.dz a)
  | _, _, .tup h a => .tup h (DvAll.dz a)
  | _, _, .dct kvs h => .dct kvs h
theorem DvAll.dz {K : PySem.W.Frag} {N : Addr → Prop} {H : Hp} : ∀ {vs : List V} {ds : List PyData}, DvAll K N H vs ds → DzAll K H vs ds
  | _, _, .nil => .nil
  | _, _, .cons h a => .cons (Dv.dz h) (DvAll.dz a)
end
mutual
/-- all that the data stand on is kept -/
theorem Dv.map {K : PySem.W.Frag} {N N' : Addr → Prop} {H H' : Hp} (kt : ∀ b xs, SqT K H b xs → SqT K H' b xs) (kl : ∀ b xs, N b → SqL K H b xs → SqL K H' b xs) (kd : ∀ b kvs, H b = some (.dK kvs) → H' b = some (.dK kvs)) (kn : ∀ b, N b → N' b) :
    ∀ {v : V} {d : PyData}, Dv K N H v d → Dv K N' H' v d
  | _, _, .non => .non
  | _, _, .bl b => .bl b
  | _, _, .int i => .int i
  | _, _, .str x => .str x
  | _, _, .lst h n m a => .lst (kl _ _ m h) n (kn _ m) (DvAll.map kt kl kd kn a)
  | _, _, .tup h a => .tup (kt _ _ h) (DvAll.map kt kl kd kn a)
  | _, _, .dct kvs h => .dct kvs (kd _ _ h)
theorem DvAll.map {K : PySem.W.Frag} {N N' : Addr → Prop} {H H' : Hp} (kt : ∀ b xs, SqT K H b xs → SqT K H' b xs) (kl : ∀ b xs, N b → SqL K H b xs → SqL K H' b xs) (kd : ∀ b kvs, H b = some (.dK kvs) → H' b = some (.dK kvs)) (kn : ∀ b, N b → N' b) :
    ∀ {vs : List V} {ds : List PyData}, DvAll K N H vs ds → DvAll K N' H' vs ds
  | _, _, .nil => .nil
  | _, _, .cons h a => .cons (Dv.map kt kl kd kn h) (DvAll.map kt kl kd kn a)
end
theorem Dv.same {K : PySem.W.Frag} {N : Addr → Prop} {H H' : Hp} (e : Same H H') {v : V} {d : PyData} (h : Dv K N H v d) : Dv K N H' v d := h.map (fun _ _ q => Same.sqT e q) (fun _ _ _ q => e.seq q) (fun _ _ q => e _ _ q) (fun _ q => q)
theorem DvAll.same {K : PySem.W.Frag} {N : Addr → Prop} {H H' : Hp} (e : Same H H') {v : List V} {d : List PyData} (h : DvAll K N H v d) : DvAll K N H' v d := h.map (fun _ _ q => Same.sqT e q) (fun _ _ _ q => e.seq q) (fun _ _ q => e _ _ q) (fun _ q => q)
theorem Dv.imp {K : PySem.W.Frag} {N N' : Addr → Prop} {H : Hp} {v : V} {d : PyData} (h : Dv K N H v d) (k : ∀ b, N b → N' b) : Dv K N' H v d := h.map (fun _ _ q => q) (fun _ _ _ q => q) (fun _ _ q => q) k
theorem DvAll.imp {K : PySem.W.Frag} {N N' : Addr → Prop} {H : Hp} {v : List V} {d : List PyData} (h : DvAll K N H v d) (k : ∀ b, N b → N' b) : DvAll K N' H v d := h.map (fun _ _ q => q) (fun _ _ _ q => q) (fun _ _ q => q) k
theorem Strm.ks {S : Sm} {H : Hp} {t : Int} {b : Addr} {o : HO} (h : Strm S H t) (e : H b = some o) (ne : ∀ xs, o ≠ .lst xs) : b ≠ S.s ∧ b ≠ S.p := by
  obtain ⟨_, h⟩ := h
  refine ⟨fun z => ?_, fun z => ?_⟩
  · rw [z, h.hs] at e
    exact ne _ (Option.some.inj e).symm
  · rw [z, h.hp] at e
    exact ne _ (Option.some.inj e).symm
theorem Keep.ko {S : Sm} {H H' : Hp} {t : Int} {b : Addr} {o : HO} (k : Keep S H H') (h : Strm S H t) (e : H b = some o) (ne : ∀ xs, o ≠ .lst xs) : H' b = some o := k b o (h.ks e ne).1 (h.ks e ne).2 e
theorem Keep.sqT {K : PySem.W.Frag} {S : Sm} {H H' : Hp} {t : Int} {b : Addr} {xs : List V} (k : Keep S H H') (h : Strm S H t) (e : SqT K H b xs) : SqT K H' b xs := by
  rcases e with (e | ⟨o, e⟩) | e
  · exact .inl (.inl (k.ko h e (fun _ z => nomatch z)))
  · exact .inl (.inr ⟨o, k.ko h e (fun _ z => nomatch z)⟩)
  · exact .inr e
theorem Keep.sqL {K : PySem.W.Frag} {S : Sm} {H H' : Hp} {b : Addr} {xs : List V} (k : Keep S H H') (n1 : b ≠ S.s) (n2 : b ≠ S.p) (e : SqL K H b xs) : SqL K H' b xs := by
  rcases e with (e | ⟨o, e⟩) | e
  · exact .inl (.inl (k b _ n1 n2 e))
  · exact .inl (.inr ⟨o, k b _ n1 n2 e⟩)
  · exact .inr e
theorem Dv.keep {K : PySem.W.Frag} {S : Sm} {H H' : Hp} {t : Int} {v : V} {d : PyData} (h : Ds K S H v d) (k : Keep S H H') (st : Strm S H t) : Ds K S H' v d := h.map (fun _ _ q => k.sqT st q) (fun _ _ n q => k.sqL n.1 n.2 q) (fun _ _ q => k.ko st q (fun _ z => nomatch z)) (fun _ q => q)
theorem DvAll.keep {K : PySem.W.Frag} {S : Sm} {H H' : Hp} {t : Int} {v : List V} {d : List PyData} (h : DsAll K S H v d) (k : Keep S H H') (st : Strm S H t) : DsAll K S H' v d := h.map (fun _ _ q => k.sqT st q) (fun _ _ n q => k.sqL n.1 n.2 q) (fun _ _ q => k.ko st q (fun _ z => nomatch z)) (fun _ q => q)
/-- a list of one's own is changed -/
theorem Dv.put {K : PySem.W.Frag} {N : Addr → Prop} {H : Hp} {L : Addr} {xs ys : List V} {v : V} {d : PyData} (h : Dv K N H v d) (hL : H L = some (.lst xs)) (hN : ∀ b, N b → b ≠ L) : Dv K N (upd H L (.lst ys)) v d := by
  refine h.map (fun b zs q => ?_) (fun b zs n q => ?_) (fun b kvs q => ?_) (fun _ q => q)
  · rcases q with (q | ⟨o, q⟩) | q
    · exact .inl (.inl (by rw [upd_ne (ne_of q hL (by intro z; cases z))]; exact q))
    · exact .inl (.inr ⟨o, by rw [upd_ne (ne_of q hL (by intro z; cases z))]; exact q⟩)
    · exact .inr q
  · rcases q with (q | ⟨o, q⟩) | q
    · exact .inl (.inl (by rw [upd_ne (hN b n)]; exact q))
    · exact .inl (.inr ⟨o, by rw [upd_ne (hN b n)]; exact q⟩)
    · exact .inr q
  · rw [upd_ne (ne_of q hL (by intro z; cases z))]
    exact q
theorem DvAll.put {K : PySem.W.Frag} {N : Addr → Prop} {H : Hp} {L : Addr} {xs ys : List V} (hL : H L = some (.lst xs)) (hN : ∀ b, N b → b ≠ L) : ∀ {vs : List V} {ds : List PyData}, DvAll K N H vs ds → DvAll K N (upd H L (.lst ys)) vs ds
  | _, _, .nil => .nil
  | _, _, .cons h a => .cons (h.put hL hN) (DvAll.put hL hN a)
theorem DvAll.at {K : PySem.W.Frag} {N : Addr → Prop} {H : Hp} : ∀ {vs : List V} {ds : List PyData}, DvAll K N H vs ds → ∀ {i : Nat} {v : V}, vs[i]? = some v → ∃ d, ds[i]? = some d ∧ Dv K N H v d
  | _, _, .nil, i, v, h => by simp at h
  | _, _, .cons (d := d) h a, 0, v, e => by
    cases e
    exact ⟨d, rfl, h⟩
  | _, _, .cons h a, i + 1, v, e => DvAll.at a (i := i) e
theorem DvAll.len {K : PySem.W.Frag} {N : Addr → Prop} {H : Hp} : ∀ {vs : List V} {ds : List PyData}, DvAll K N H vs ds → vs.length = ds.length
  | _, _, .nil => rfl
  | _, _, .cons h a => by rw [List.length_cons, List.length_cons, DvAll.len a]
theorem DvAll.app {K : PySem.W.Frag} {N : Addr → Prop} {H : Hp} : ∀ {vs us : List V} {ds es : List PyData}, DvAll K N H vs ds → DvAll K N H us es → DvAll K N H (vs ++ us) (ds ++ es)
  | _, _, _, _, .nil, b => b
  | _, _, _, _, .cons h a, b => .cons h (DvAll.app a b)
theorem DvAll.take {K : PySem.W.Frag} {N : Addr → Prop} {H : Hp} : ∀ {vs : List V} {ds : List PyData} (n : Nat), DvAll K N H vs ds → DvAll K N H (vs.take n) (ds.take n)
  | _, _, 0, _ => by rw [List.take_zero, List.take_zero]; exact .nil
  | _, _, n + 1, .nil => .nil
  | _, _, n + 1, .cons h a => .cons h (DvAll.take n a)
theorem DvAll.drop {K : PySem.W.Frag} {N : Addr → Prop} {H : Hp} : ∀ {vs : List V} {ds : List PyData} (n : Nat), DvAll K N H vs ds → DvAll K N H (vs.drop n) (ds.drop n)
  | _, _, 0, a => a
  | _, _, n + 1, .nil => .nil
  | _, _, n + 1, .cons h a => DvAll.drop n a
theorem DvAll.rev {K : PySem.W.Frag} {N : Addr → Prop} {H : Hp} : ∀ {vs : List V} {ds : List PyData}, DvAll K N H vs ds → DvAll K N H vs.reverse ds.reverse
  | _, _, .nil => .nil
  | _, _, .cons h a => by
    rw [List.reverse_cons, List.reverse_cons]
    exact (DvAll.rev a).app (.cons h .nil)
/-- the data of a cut -/
def cutD (ds : List PyData) (lo hi : Option Int) : List PyData := (ds.drop (HT.sIx ds.length 0 lo)).take (HT.sIx ds.length ds.length hi - HT.sIx ds.length 0 lo)
theorem DvAll.cut {K : PySem.W.Frag} {N : Addr → Prop} {H : Hp} {vs : List V} {ds : List PyData} (h : DvAll K N H vs ds) (lo hi : Option Int) : DvAll K N H (cutV vs lo hi) (cutD ds lo hi) := by
  unfold cutV cutD
  rw [h.len]
  exact (h.drop _).take _
end XT
/-! kinds of data for lots -/
namespace XT
open PySem PySem.Spec PyProof.Rows L2
def isTp : PyData → Bool
  | .tuple _ => true | _ => false
def isSt : PyData → Bool
  | .str _ => true | _ => false
theorem kitT {K : PySem.W.Frag} : ∀ d : PyData, PySem.W.kitOne K (.type (tyD d)) (.type "tuple") = some (isTp d)
  | .none => kit_ty (a := "NoneType") (b := "tuple") (r := false) (by decide +kernel)
  | .bool _ => kit_ty (a := "bool") (b := "tuple") (r := false) (by decide +kernel)
  | .int _ => kit_ty (a := "int") (b := "tuple") (r := false) (by decide +kernel)
  | .str _ => kit_ty (a := "str") (b := "tuple") (r := false) (by decide +kernel)
  | .list _ => kit_ty (a := "list") (b := "tuple") (r := false) (by decide +kernel)
  | .tuple _ => kit_ty (a := "tuple") (b := "tuple") (r := true) (by decide +kernel)
  | .dict _ => kit_ty (a := "dict") (b := "tuple") (r := false) (by decide +kernel)
theorem kitS {K : PySem.W.Frag} : ∀ d : PyData, PySem.W.kitOne K (.type (tyD d)) (.type "str") = some (isSt d)
  | .none => kit_ty (a := "NoneType") (b := "str") (r := false) (by decide +kernel)
  | .bool _ => kit_ty (a := "bool") (b := "str") (r := false) (by decide +kernel)
  | .int _ => kit_ty (a := "int") (b := "str") (r := false) (by decide +kernel)
  | .str _ => kit_ty (a := "str") (b := "str") (r := true) (by decide +kernel)
  | .list _ => kit_ty (a := "list") (b := "str") (r := false) (by decide +kernel)
  | .tuple _ => kit_ty (a := "tuple") (b := "str") (r := false) (by decide +kernel)
  | .dict _ => kit_ty (a := "dict") (b := "str") (r := false) (by decide +kernel)
def isW : PyData → Bool
  | .int i => decide (1 ≤ i) && decide (i ≤ 6)
  | _ => false
def iv : PyData → Int
  | .int i => i
  | _ => 0
def okM (n : Nat) (least : Int) (d : PyData) : Bool := isM n d && decide (least ≤ iv d)
def errM (n : Nat) : Nat → Int → List PyData → PyData
  | _, _, [] => .none
  | i, least, d :: ds => if okM n least d = true then errM n (i + 1) (iv d + 1) ds else .tuple [.int (i : Nat), .str "mask"]
def eT (x : Str) : PyData := .tuple [.none, .str x]
def mskErr (n : Nat) : PyData → PyData
  | .tuple ms => errM n 0 0 ms
  | _ => eT "masks"
def lotErr : PyData → PyData
  | .tuple [a, b] => if isW a = true then mskErr (iv a).toNat b else eT "width"
  | _ => eT "lot"
theorem isW_nat {d : PyData} (h : isW d = true) : ∃ n : Nat, d = .int (n : Int) ∧ 1 ≤ n ∧ n ≤ 6 := by
  cases d with
  | int i =>
    have h : (decide (1 ≤ i) && decide (i ≤ 6)) = true := h
    rw [Bool.and_eq_true, decide_eq_true_iff, decide_eq_true_iff] at h
    obtain ⟨n, rfl⟩ := Int.eq_ofNat_of_zero_le (show 0 ≤ i by omega)
    exact ⟨n, rfl, by omega, by omega⟩
  | _ => exact absurd h (by simp [isW])
theorem isM_int {n : Nat} {d : PyData} (h : isM n d = true) : ∃ a : Nat, d = .int (a : Int) ∧ a < 2 ^ n := by
  cases d with
  | int i =>
    have h : (decide (0 ≤ i) && decide (i < ((2 ^ n : Nat) : Int))) = true := h
    rw [Bool.and_eq_true, decide_eq_true_iff, decide_eq_true_iff] at h
    obtain ⟨a, rfl⟩ := Int.eq_ofNat_of_zero_le h.1
    exact ⟨a, rfl, by omega⟩
  | _ => exact absurd h (by simp [isM])
theorem Dz.cast {K : PySem.W.Frag} {H : Hp} {v : V} {d e : PyData} (h : Dz K H v d) (q : d = e) : Dz K H v e := q ▸ h
theorem dz2 {K : PySem.W.Frag} {H : Hp} {p : Addr} {a b : V} {d e : PyData} (h : H p = some (.tup [a, b])) (x : Dz K H a d) (y : Dz K H b e) : Dz K H (.ref p) (.tuple [d, e]) := .tup (SqT.of h) (.cons x (.cons y .nil))
end XT
/-! cuts and sums of tuples -/
namespace XT
open PySem PySem.Spec PyProof.Rows L2
section
variable {X : Cx}
theorem cutV_whole {xs : List V} {lo hi : Option Int} (h : HT.sIx xs.length 0 lo = 0 ∧ HT.sIx xs.length xs.length hi = xs.length) : cutV xs lo hi = xs := by
  unfold cutV
  rw [h.1, h.2, List.drop_zero, Nat.sub_zero, List.take_length]
/-- a cut of a tuple, the same one or a new one -/
def rSlU (K : PySem.W.Frag) : V → Option Int → Option Int → Hp → VK → Prop := fun x lo hi H Q => ∃ a xs, x = .ref a ∧ SqT K H a xs ∧ ∀ H' p, Same H H' → SqT K H' p (cutV xs lo hi) → Q (.ref p) H'
theorem sl_tupU : SlR X (rSlU X.K) := by
  intro pins s σ H x v vl vu lo hi sl Q I rx hs pl pu h
  obtain ⟨a, xs, rfl, hx, q⟩ := h
  refine sl_tupA pins s σ H _ v vl vu lo hi sl Q I rx hs pl pu ⟨a, xs, rfl, hx, fun hw => q H a (Same.refl H) (by rw [cutV_whole hw]; exact hx), fun _ p np => q _ p (same_new np) (SqT.of upd_same)⟩
/-- t + u -/
def rCatU (K : PySem.W.Frag) : R2 := fun x y H Q => ∃ a b xs ys, x = .ref a ∧ y = .ref b ∧ SqT K H a xs ∧ SqT K H b ys ∧ xs.length + ys.length ≤ sizeLine ∧ ∀ H' p, Same H H' → SqT K H' p (xs ++ ys) → Q (.ref p) H'
theorem op_catU : OpR X (binaryOp .Add) (rCatU X.K) := by
  intro pins s σ H x y v u Q I rx ry h
  obtain ⟨a, b, xs, ys, rfl, rfl, ha, hb, hz, q⟩ := h
  refine op_catA pins s σ H _ _ v u Q I rx ry ⟨a, b, xs, ys, rfl, rfl, ha, hb, hz, fun e => q H b (Same.refl H) (by rw [e]; exact hb), fun _ e => q H a (Same.refl H) (by rw [e, List.append_nil]; exact ha), fun _ _ p np => q _ p (same_new np) (SqT.of upd_same)⟩
end
end XT
/-! cuts, sums, sizes -/
namespace XT
open PySem PySem.Spec PyProof.Rows L2
section
variable {X : Cx}
end
theorem gd_non {M : Nat} : Gd M 10 0 .none := ⟨trivial, Nat.le_refl _, Nat.le_refl _⟩
theorem gd_bl {M : Nat} (b : Bool) : Gd M 10 0 (.bool b) := ⟨trivial, Nat.le_refl _, Nat.le_refl _⟩
theorem gd_int {M : Nat} {i : Int} (h : i.natAbs ≤ M) : Gd M 60 0 (.int i) := ⟨h, Nat.le_refl _, Nat.le_refl _⟩
theorem gd_str {M n : Nat} {x : Str} (h : TxOk x) (l : x.length ≤ n) : Gd M (10 * n + 2) 0 (.str x) := ⟨h, by show 10 * x.length + 2 ≤ _; omega, Nat.le_refl _⟩
theorem gd_odd : ∀ d ∈ oddD, Gd (10 ^ 39) 200 3 d := by
  unfold oddD
  have hs : ∀ (s : String), (Str.ofString s).length ≤ 3 → Gd (10 ^ 39) 200 3 (.str (Str.ofString s)) := fun s h => (gd_str (TxOk.of s) h).mono (Nat.le_refl _) (by omega) (by omega)
  have hi : ∀ i : Int, i.natAbs ≤ 10 ^ 39 → Gd (10 ^ 39) 60 0 (.int i) := fun i h => gd_int h
  have hi3 : ∀ i : Int, i.natAbs ≤ 10 ^ 39 → Gd (10 ^ 39) 200 3 (.int i) := fun i h => (gd_int h).mono (Nat.le_refl _) (by omega) (by omega)
  repeat' (first | exact List.forall_mem_nil _ | refine List.forall_mem_cons.mpr ⟨?_, ?_⟩)
  · exact gd_non.mono (Nat.le_refl _) (by omega) (by omega)
  · exact (gd_bl _).mono (Nat.le_refl _) (by omega) (by omega)
  · exact (gd_bl _).mono (Nat.le_refl _) (by omega) (by omega)
  all_goals first
    | exact hi3 _ (by decide)
    | exact hs "" (by decide)
    | exact hs "0" (by decide)
    | exact hs "lot" (by decide)
    | exact hs "01" (by decide)
    | exact (GdAll.nil (k := 0)).tuple.mono (Nat.le_refl _) (by omega) (by omega)
    | exact (GdAll.nil (k := 0)).list.mono (Nat.le_refl _) (by omega) (by omega)
    | exact (GdAll.cons (hi 0 (by decide)) GdAll.nil).tuple.mono (Nat.le_refl _) (by omega) (by omega)
    | exact (GdAll.cons (hi 0 (by decide)) GdAll.nil).list.mono (Nat.le_refl _) (by omega) (by omega)
    | exact (GdAll.cons (gd_bl true) GdAll.nil).tuple.mono (Nat.le_refl _) (by omega) (by omega)
    | exact (GdAll.cons (hi 0 (by decide)) (GdAll.cons (hi 1 (by decide)) GdAll.nil)).tuple.mono (Nat.le_refl _) (by omega) (by omega)
    | exact (GdAll.cons ((hi 2 (by decide)).mono (Nat.le_refl _) (Nat.le_refl _) (Nat.zero_le 1)) (GdAll.cons (GdAll.cons (hi 0 (by decide)) GdAll.nil).tuple GdAll.nil)).tuple.mono (Nat.le_refl _) (by omega) (by omega)
    | exact ⟨⟨by decide +kernel, by decide +kernel⟩, by decide, by decide⟩
theorem cutD_gd {M n k : Nat} {ds : List PyData} (h : GdAll M n k ds) (lo hi : Option Int) : GdAll M n k (cutD ds lo hi) := (h.drop _).take _
theorem cutD_take {ds : List PyData} {i : Nat} (h : i ≤ ds.length) : cutD ds none (some (i : Int)) = ds.take i := by
  unfold cutD
  rw [HT.sIx_none, HT.sIx_nat, List.drop_zero, Nat.sub_zero, Nat.min_eq_left h]
theorem cutD_drop {ds : List PyData} {i : Nat} (h : i ≤ ds.length) : cutD ds (some (i : Int)) none = ds.drop i := by
  unfold cutD
  rw [HT.sIx_none, HT.sIx_nat, Nat.min_eq_left h]
  exact List.take_of_length_le (by rw [List.length_drop]; exact Nat.le_refl _)
theorem cutV_len {xs : List V} {lo hi : Option Int} : (cutV xs lo hi).length ≤ xs.length := cutV_length xs lo hi
theorem szl {n m : Nat} (h : n ≤ m) (hm : m ≤ 10000000) : n ≤ sizeLine := by rw [sizeLine_eq]; omega
end XT
/-! the signs of patterns -/
namespace XT
open PySem PySem.Spec PyProof.Rows L2
def sgn3 (c : Nat) : Bool := decide (c ∈ [48, 49, 63])
/-- a pattern of one to forty signs -/
def okP : PyData → Bool
  | .str x => decide (1 ≤ x.length) && decide (x.length ≤ 40) && x.cps.toList.all sgn3
  | _ => false
theorem sgn3_in (c : Nat) : decide (c ∈ (Str.ofString "01?").cps.toList) = sgn3 c := by
  rw [show (Str.ofString "01?").cps.toList = [48, 49, 63] by decide +kernel]
  rfl
abbrev rSg3 : R2 := fun x y H Q => ∃ (c : Nat) (z : Str), x = .str ⟨#[c]⟩ ∧ y = .str z ∧ Q (.bl (decide (c ∈ z.cps.toList))) H
end XT
/-! texts walked; a star in a target -/
namespace XT
open PySem PySem.Spec PyProof.Rows L2
section
variable {K : PySem.W.Frag} {g : TG} {tt : TT} {te : TE} {vs : List Nat} {σ : L2.St} {H1 : Hp} {D : Addr} {Qd : Hp → Prop} {x : Str}
theorem cps_at {x : Str} {i : Nat} (h : i < x.cps.size) : ∃ c, x.cps[i]? = some c ∧ x.cps.toList[i]? = some c := ⟨x.cps[i], Array.getElem?_eq_getElem h, by rw [Array.getElem?_toList]; exact Array.getElem?_eq_getElem h⟩
theorem lc_str (Pv : Nat → Hp → Prop) (h0 : Pv 0 (upd H1 D (.lst [])))
    (hs : ∀ i c H, x.cps.toList[i]? = some c → Pv i H → g (.str ⟨#[c]⟩) (wipe σ vs) H fun σ2 H2 => wipe σ2 vs = wipe σ vs ∧ tt σ2 H2 fun b H3 =>
      if b = true then te σ2 H3 fun y H4 => ∃ acc, H4 D = some (.lst acc) ∧ acc.length < sizeLine ∧ Pv (i + 1) (upd H4 D (.lst (acc ++ [y]))) else Pv (i + 1) H3) (hd : ∀ H, Pv x.cps.size H → Qd H) :
    ∃ W : Nat → Nat → Hp → Prop, (∃ m, W 0 m (upd H1 D (.lst []))) ∧ ∀ i m H, W i m H →
      ((Its x).stop i H ∧ Qd H) ∨ ((Its x).go i H ∧ ∃ Nx : Hp → Prop, (∀ H', Nx H' → ∃ m', m' < m ∧ W (i + 1) m' H') ∧ ∀ v H', (Its x).yld i H v H' → g v (wipe σ vs) H' fun σ2 H2 => wipe σ2 vs = wipe σ vs ∧ tt σ2 H2 fun b H3 =>
        if b = true then te σ2 H3 fun y H4 => ∃ acc, H4 D = some (.lst acc) ∧ acc.length < sizeLine ∧ Nx (upd H4 D (.lst (acc ++ [y]))) else Nx H3) := by
  refine ⟨fun i m H => m = x.cps.size - i ∧ i ≤ x.cps.size ∧ Pv i H, ⟨x.cps.size, by simp, Nat.zero_le _, h0⟩, ?_⟩
  rintro i m H ⟨em, hi, p⟩
  rcases Nat.lt_or_ge i x.cps.size with lt | ge
  · refine .inr ⟨lt, Pv (i + 1), fun H' p' => ⟨x.cps.size - (i + 1), by omega, rfl, lt, p'⟩, fun v H' y => ?_⟩
    obtain ⟨eH, c, hc, ev⟩ := y
    rw [eH, ev]
    exact hs i c H (by rw [Array.getElem?_toList]; exact hc) p
  · have e : i = x.cps.size := Nat.le_antisymm hi ge
    rw [e] at p
    exact .inl ⟨ge, hd H p⟩
theorem lcp_str (p : Nat → Bool) (f : Nat → V) (nD : H1 D = none) (hz : x.cps.size < sizeLine) (ht : ∀ (i c : Nat) H, x.cps.toList[i]? = some c → Same H1 H → TurnP g tt te vs σ (.str ⟨#[c]⟩) (f c) (p c) H)
    (hd : ∀ H, Same H1 H → H D = some (.lst ((x.cps.toList.filter p).map f)) → Qd H) :
    ∃ W : Nat → Nat → Hp → Prop, (∃ m, W 0 m (upd H1 D (.lst []))) ∧ ∀ i m H, W i m H →
      ((Its x).stop i H ∧ Qd H) ∨ ((Its x).go i H ∧ ∃ Nx : Hp → Prop, (∀ H', Nx H' → ∃ m', m' < m ∧ W (i + 1) m' H') ∧ ∀ v H', (Its x).yld i H v H' → g v (wipe σ vs) H' fun σ2 H2 => wipe σ2 vs = wipe σ vs ∧ tt σ2 H2 fun b H3 =>
        if b = true then te σ2 H3 fun y H4 => ∃ acc, H4 D = some (.lst acc) ∧ acc.length < sizeLine ∧ Nx (upd H4 D (.lst (acc ++ [y]))) else Nx H3) := by
  refine lc_str (fun i H => PvP H1 D (((x.cps.toList.take i).filter p).map f) H) ⟨same_new nD, upd_same⟩ (fun i c H hc h => ?_) (fun H h => ?_)
  · have hi : i < x.cps.toList.length := (List.getElem?_eq_some_iff.mp hc).1
    rw [Array.length_toList] at hi
    exact pvp_turn nD h (Nat.lt_of_le_of_lt (flt_len f p _ i) (Nat.lt_trans hi hz)) (ht i c H hc h.1) _ (take_one f p hc)
  · have h2 := h.2
    rw [List.take_of_length_le (by rw [Array.length_toList]; exact Nat.le_refl _)] at h2
    exact hd H h.1 h2
end
/-! a, *b = a list -/
section
open PySem.W
variable {prog : Program} {w : World} {A : Around} {E : Value → Shared → Prop} {s : Shared}
theorem unpack_head {l : Addr} {x : Value} {xs : List Value} {Q : List Value → Shared → Prop} (hl : s.heap.IsList l (x :: xs).toArray) (hh : A.handled = none) (hz : xs.length ≤ 10000)
    (h : ∀ (h' : Heap) (tk : Nat), (∀ b o, s.heap.get? b = some o → h'.get? b = some o) → Q [x, .ref h'.objs.size] { s with heap := h'.push (listOf xs.toArray 0), toks := tk }) : wpAny (model prog w) A (unpackItems (.ref l) 2 (some 1)) Q E s := by
  obtain ⟨o, ho, _⟩ := id hl
  have big : l < s.heap.objs.size := Heap.lt_size ho
  have ne : l ≠ s.heap.objs.size := Nat.ne_of_lt big
  unfold unpackItems notIterableAtAll
  refine wpAny_bind (wpAny_bind (wpAny_specialOf hl.typeIs slot_list_iter.lookup (wpAny_pure ?_)))
  rw [if_neg (by decide)]
  refine wpAny_bind (wpAny_holding (wpAny_pyIter_list hl (wpAny_bind (wpAny_holding (kun_draw ne 1 0 _ _ ⟨_, Heap.get?_push_size _ rfl, rfl, rfl⟩ (hl.push _) (by simp) fun h1 it1 sb1 => ?_)))))
  have hl1 : h1.IsList l (x :: xs).toArray := (hl.push _).extBut sb1.extBut ne
  rw [Nat.zero_add] at it1
  obtain ⟨oi, hoi, _⟩ := id it1
  obtain ⟨ol, hol, _⟩ := id hl1
  show wpAny _ _ (if ([x] : List Value).length < 1 then _ else _) _ _ _
  rw [if_neg (by simp)]
  refine wpAny_bind (wpAny_holding (kun_collect (s := { s with heap := h1 }) (T := "list_iterator") (.inr (.inr (.inl rfl))) (Walks.list (A := A.in1) hh s.heap.objs.size l ne _) (fun j u st => st.1.typeIs) (k := 1) (by simp) ⟨it1, hl1⟩ (Heap.lt_size hoi) (Heap.lt_size hol) (fun h2 tk hk => ?_) (by rw [sizeLine_eq]; simp; omega)))
  show wpAny _ _ (if xs.length < 0 then _ else _) _ _ _
  rw [if_neg (by simp)]
  show wpAny _ _ (newList (xs.take (xs.length - 0)) >>= fun d => pure ([x] ++ [d] ++ xs.drop (xs.length - 0))) _ _ _
  rw [Nat.sub_zero, List.take_length, List.drop_length]
  refine wpAny_bind (wpAny_newList (wpAny_pure (h h2 tk fun b o e => ?_)) (by rw [sizeLine_eq]; omega))
  have nb : b ≠ s.heap.objs.size := Nat.ne_of_lt (Heap.lt_size e)
  exact hk b o nb (sb1.extBut b o nb (Heap.get?_push_of_some _ e))
end
theorem pgs_star {X : Cx} {e : Expr} {es : List Expr} {t : TG} {u : TGs} {p : Pos} (h1 : PG X e t) (h2 : PGs X es u) (hs : (assignEach (.Starred e p :: es) X.env).map (·.2) = assign e X.env :: (assignEach es X.env).map (·.2) := by rfl) : PGs X (.Starred e p :: es) (gCons t u) := by
  refine ⟨fun pins s σ H vs us Q I r h => ?_⟩
  obtain ⟨v, vr, e1, h⟩ := h
  subst e1
  cases r with
  | cons r rr =>
    rw [hs]
    exact assignInOrder_cons (thn (h1.run pins s σ H _ _ _ I r h) fun _ s1 ⟨σ1, H1, I1, q1⟩ => h2.run pins s1 σ1 H1 _ _ Q I1 rr q1)
def gStar (K : PySem.W.Frag) (t : TGs) : TG := fun v σ H Q => ∃ a x xs, v = .ref a ∧ SqL K H a (x :: xs) ∧ xs.length ≤ 10000 ∧ ∀ p, H p = none → t [x, .ref p] σ (upd H p (.lst xs)) Q
theorem pg_star {X : Cx} {es : List Expr} {k : Nat} {t : TGs} {pos : Pos} (hc : X.calm = true) (h : PGs X es t) (hn : (assignEach es X.env).length = 2 := by rfl) (hst : (assignEach es X.env).findIdx? (·.1) = some 1 := by rfl) : PG X (.Tuple es k pos) (gStar X.K t) := by
  refine ⟨fun pins s σ H v u Q I r hw => ?_⟩
  obtain ⟨a, x, xs, e1, hq, hl, hw⟩ := hw
  subst e1
  cases r
  obtain ⟨its, rv, pl, hz⟩ := I.list hq
  cases rv with
  | @cons _ _ x' xs' r1 r2 =>
  rw [PyProof.Rows.assign_Tuple]
  refine wpAny_bind (wpAny_standAt ?_)
  unfold unpack
  rw [hn, hst]
  refine wpAny_bind (wpAny_holding (unpack_head pl.isList (I.ok.hd hc) (by rw [← r2.length]; exact hl) fun h' tk hx => ?_))
  have I1 : Inv X pins σ H { s with heap := h', toks := tk } := I.kept (t' := tk) hx
  have hf : H h'.objs.size = none := I1.hok.fresh (Nat.le_refl _)
  have I2 : Inv X pins σ (upd H h'.objs.size (.lst xs)) { s with heap := h'.push (PySem.W.listOf xs'.toArray 0), toks := tk } := I1.laid (t' := tk) (fun b u e => Heap.get?_push_of_some _ e) (Nat.le_refl _) ⟨by rw [sizeLine_eq]; omega, xs', 0, r2, Heap.get?_push_size _ rfl⟩
  exact h.run pins _ σ _ [x, .ref h'.objs.size] _ Q I2 (.cons r1 (.cons rfl .nil)) (hw _ hf)
end XT
/-! values that avoid the stream -/
namespace XT
open PySem PySem.Spec PyProof.Rows L2
theorem Same.free {H H' : Hp} {b : Addr} (s : Same H H') (e : H' b = none) : H b = none := by
  cases h : H b with
  | none => rfl
  | some o => rw [s b o h] at e; cases e
theorem Dv.keepN {K : PySem.W.Frag} {S : Sm} {Nw : Addr → Prop} {H H' : Hp} {t : Int} {v : V} {d : PyData} (h : Dv K Nw H v d) (hN : ∀ b, Nw b → Nof S b) (k : Keep S H H') (st : Strm S H t) : Dv K Nw H' v d := h.map (fun _ _ q => k.sqT st q) (fun b _ n q => k.sqL (hN b n).1 (hN b n).2 q) (fun _ _ q => k.ko st q (fun _ z => nomatch z)) (fun _ q => q)
theorem DvAll.keepN {K : PySem.W.Frag} {S : Sm} {Nw : Addr → Prop} {H H' : Hp} {t : Int} {v : List V} {d : List PyData} (h : DvAll K Nw H v d) (hN : ∀ b, Nw b → Nof S b) (k : Keep S H H') (st : Strm S H t) : DvAll K Nw H' v d := h.map (fun _ _ q => k.sqT st q) (fun b _ n q => k.sqL (hN b n).1 (hN b n).2 q) (fun _ _ q => k.ko st q (fun _ z => nomatch z)) (fun _ q => q)
/-- the predicate holds of what is new, and not of the stream's lists -/
structure NwOk (S : Sm) (H : Hp) (Nw : Addr → Prop) : Prop where
  n : ∀ b, Nw b → Nof S b
  f : ∀ b, H b = none → Nw b
theorem NwOk.same {S : Sm} {H H' : Hp} {Nw : Addr → Prop} (h : NwOk S H Nw) (s : Same H H') : NwOk S H' Nw := ⟨h.n, fun b e => h.f b (Same.free s e)⟩
theorem NwOk.keep {S : Sm} {H H' : Hp} {t : Int} {Nw : Addr → Prop} (h : NwOk S H Nw) (k : Keep S H H') (st : Strm S H' t) : NwOk S H' Nw := ⟨h.n, fun b e => h.f b (k.free st e)⟩
theorem nw_all {S : Sm} {H : Hp} {t : Int} (st : Strm S H t) : NwOk S H (Nof S) := ⟨fun _ h => h, fun b e => ⟨(strm_ne st e).1, (strm_ne st e).2.1⟩⟩
end XT
/-! a comprehension that draws data -/
namespace XT
open PySem PySem.Spec PyProof.Rows L2
section
variable {K : PySem.W.Frag} {g : TG} {tt : TT} {te : TE} {vs : List Nat} {σ : L2.St} {H1 : Hp} {D : Addr} {Qd : Hp → Prop} {S : Sm} {t0 : Int} {G : PyData → Prop} {d : Nat}
abbrev Nod (S : Sm) (D : Addr) : Addr → Prop := fun b => Nof S b ∧ b ≠ D
def TurnZ (K : PySem.W.Frag) (S : Sm) (D : Addr) (G : PyData → Prop) (d : Nat) (g : TG) (tt : TT) (te : TE) (vs : List Nat) (σ : L2.St) (x : V) (H : Hp) (t : Int) : Prop :=
  ∀ (R1 : Hp → Prop) (R2 : V → Hp → Prop), (∀ v e H4 t4, Step S H t H4 t4 d → Dv K (Nod S D) H4 v e → G e → R2 v H4) →
    g x (wipe σ vs) H fun σ2 H2 => wipe σ2 vs = wipe σ vs ∧ tt σ2 H2 fun b H3 => if b = true then te σ2 H3 R2 else R1 H3
def PvZ (K : PySem.W.Frag) (S : Sm) (G : PyData → Prop) (d : Nat) (H1 : Hp) (t0 : Int) (D : Addr) (i : Nat) (H : Hp) : Prop := ∃ (vs : List V) (ds : List PyData) (t : Int), Step S H1 t0 H t (d * i) ∧ H D = some (.lst vs) ∧ DvAll K (Nod S D) H vs ds ∧ (∀ e ∈ ds, G e) ∧ ds.length = i
theorem nod_ok {S : Sm} {H : Hp} {t : Int} {D : Addr} {o : HO} (st : Strm S H t) (hD : H D = some o) : NwOk S H (Nod S D) := ⟨fun _ h => h.1, fun b e => ⟨(nw_all st).f b e, fun z => by rw [z, hD] at e; cases e⟩⟩
theorem pvz_turn {i : Nat} {x : V} {H : Hp} (st0 : Strm S H1 t0) (nD : H1 D = none) (hi : i ≤ 1000) (h : PvZ K S G d H1 t0 D i H) (ht : ∀ t, Step S H1 t0 H t (d * i) → NwOk S H (Nod S D) → TurnZ K S D G d g tt te vs σ x H t) :
    g x (wipe σ vs) H fun σ2 H2 => wipe σ2 vs = wipe σ vs ∧ tt σ2 H2 fun b H3 =>
      if b = true then te σ2 H3 fun y H4 => ∃ acc, H4 D = some (.lst acc) ∧ acc.length < sizeLine ∧ PvZ K S G d H1 t0 D (i + 1) (upd H4 D (.lst (acc ++ [y]))) else PvZ K S G d H1 t0 D (i + 1) H3 := by
  obtain ⟨us, ds, t, stp, hD, hk, hg, hl⟩ := h
  have ok := nod_ok stp.st hD
  refine ht t stp ok _ _ (fun v e H4 t4 s4 hv he => ?_)
  have hD4 := s4.keep.mine st0 nD hD
  have hul := hk.len
  refine ⟨_, hD4, small64 (by omega), us ++ [v], ds ++ [e], t4, ?_, upd_same, ?_, ?_, by rw [List.length_append, hl]; rfl⟩
  · have z := stp.trans s4
    have nDs : D ≠ S.s := fun e => by obtain ⟨_, h⟩ := st0; rw [e, h.hs] at nD; cases nD
    have nDp : D ≠ S.p := fun e => by obtain ⟨_, h⟩ := st0; rw [e, h.hp] at nD; cases nD
    have nDq : D ≠ S.q := fun e => by obtain ⟨_, h⟩ := st0; rw [e, h.hq] at nD; cases nD
    refine ⟨fun b o n1 n2 e => ?_, strm_upd z.st nDs nDp nDq, z.lo, by have := z.hi; rw [Nat.mul_succ]; exact this⟩
    rw [upd_ne (ne_of_none e nD)]
    exact z.keep b o n1 n2 e
  · have a1 := (hk.keepN ok.n s4.keep stp.st).app (.cons hv .nil)
    exact DvAll.put hD4 (fun b hb => hb.2) a1
  · intro f hf
    rcases List.mem_append.mp hf with hf | hf
    · exact hg f hf
    · rw [List.mem_singleton.mp hf]; exact he
theorem lcz_range {n : Nat} (st0 : Strm S H1 t0) (nD : H1 D = none) (hn : n ≤ 1000) (ht : ∀ (i : Nat) H t, i < n → Step S H1 t0 H t (d * i) → NwOk S H (Nod S D) → TurnZ K S D G d g tt te vs σ (.int (0 + (i : Int))) H t) (hd : ∀ H, PvZ K S G d H1 t0 D n H → Qd H) :
    ∃ W : Nat → Nat → Hp → Prop, (∃ m, W 0 m (upd H1 D (.lst []))) ∧ ∀ i m H, W i m H →
      ((Itr 0 n).stop i H ∧ Qd H) ∨ ((Itr 0 n).go i H ∧ ∃ Nx : Hp → Prop, (∀ H', Nx H' → ∃ m', m' < m ∧ W (i + 1) m' H') ∧ ∀ x H', (Itr 0 n).yld i H x H' → g x (wipe σ vs) H' fun σ2 H2 => wipe σ2 vs = wipe σ vs ∧ tt σ2 H2 fun b H3 =>
        if b = true then te σ2 H3 fun y H4 => ∃ acc, H4 D = some (.lst acc) ∧ acc.length < sizeLine ∧ Nx (upd H4 D (.lst (acc ++ [y]))) else Nx H3) :=
  lc_range (lo := 0) (n := n) (fun i H => PvZ K S G d H1 t0 D i H) ⟨[], [], t0, ((Step.refl st0).same (same_new nD)).mono (Nat.zero_le _), upd_same, .nil, by simp, rfl⟩ (fun i H hi h => pvz_turn st0 nD (by omega) h fun t s o => ht i H t hi s o) hd
end
end XT
/-! int(a bool); a tuple once -/
namespace XT
open PySem PySem.Spec PyProof.Rows L2
section
variable {X : Cx}
theorem call_intB : CallR X (.type "int") (fun xs H Q => ∃ b, xs = [.bl b] ∧ Q (.int (if b = true then 1 else 0)) H) := by
  intro pins s σ H xs us Q I rs h
  obtain ⟨b, rfl, h⟩ := h
  cases rs with
  | cons r1 rs =>
    cases rs
    cases r1
    exact PySem.call_int_bool ⟨.int (if b = true then 1 else 0), H, I.tok _, ⟨_, rfl⟩, h⟩
theorem tuple_mul1 (l : Addr) (items : Array Value) (n : Nat) (dd : Option Addr) (sl : Array (Option Value)) (u : Tok) :
    Meets (Builtin.«tuple.__mul__» ⟨[.ref l, .int 1 u], []⟩) (fun _ R s => s.heap.get? l = some { cls := .type "tuple", dict := dd, data := .seq items n, slots := sl } ∧ R (.ok (.ret (Value.ref l))) s) :=
  .of_wp fun prog w A R s h => by
    obtain ⟨hp, g, d, tk, os⟩ := s
    obtain ⟨hl, h⟩ := h
    have f1 := AutoSeq1.idx_int
    wp_walk using wpAny_loadPart' hl
    exact ⟨_, rfl, h⟩
theorem op_rep1 : OpR X (binaryOp .Mult) (fun x y H Q => ∃ l xs, x = .ref l ∧ y = .int 1 ∧ SqT X.K H l xs ∧ Q (.ref l) H) := by
  intro pins s σ H x y v u Q I rx ry h
  obtain ⟨l, xs, rfl, rfl, hT, q⟩ := h
  cases rx
  obtain ⟨t, rfl⟩ := ry
  obtain ⟨its, r, ⟨⟨cls, dd, data, sl⟩, ho, hc, n, hd⟩, hs⟩ := I.tuple hT
  simp only at hc hd
  subst hc hd
  exact wpAny_binaryOp_repeat_ref (T := "tuple") (U := "int") (by decide) ⟨_, ho, rfl⟩ (fun s' => typeIs_int s' 1 t) noFill_tuple_mul F.fills_int_mul F.slot_int_rmul repeat_tuple F.slot_int_index.lookup
    (call_meets F.slot_int_rmul (typeIs_int s 1 t) F.entry_int_rmul (F.args_int_rmul_2 _ _) (int_rmul_tuple 1 t l its.toArray n dd sl)
      ⟨ho, rfl, ⟨_, ho, rfl⟩, call_meets F.slot_tuple_mul ⟨_, ho, rfl⟩ F.entry_tuple_mul (F.args_tuple_mul_2 _ _) (tuple_mul1 l its.toArray n dd sl t) ⟨ho, ⟨.ref l, H, I, rfl, q⟩⟩⟩)
/-- xs == [], xs != [], a list of any things -/
def rEqEL (K : PySem.W.Frag) : R2 := fun x y H Q => ∃ (a b : Addr) (xs : List V), x = .ref a ∧ y = .ref b ∧ SqL K H a xs ∧ SqL K H b [] ∧ Q (.bl xs.isEmpty) H
def rNeEL (K : PySem.W.Frag) : R2 := fun x y H Q => ∃ (a b : Addr) (xs : List V), x = .ref a ∧ y = .ref b ∧ SqL K H a xs ∧ SqL K H b [] ∧ Q (.bl (!xs.isEmpty)) H
theorem op_eqEL (hu : X.A.units < cLine) : OpR X (compareOp .Eq) (rEqEL X.K) := by
  intro pins s σ H x y v u Q I rx ry h
  obtain ⟨a, b, xs, rfl, rfl, ha, hb, q⟩ := h
  cases rx
  cases ry
  obtain ⟨its, r1, p1, _⟩ := I.list ha
  obtain ⟨its2, r2, p2, _⟩ := I.list hb
  cases r2
  cases r1 with
  | nil => exact SeqAt.RcAt.lists (e := fun _ => true) p1.isList p2.isList rfl hu (fun j h1 h2 => absurd h2 (Nat.not_lt_zero _)) X.prog X.w _ _ ⟨.bl true, H, I, rfl, q⟩
  | cons _ _ => exact SeqAt.RcAt.lists_lengths p1.isList p2.isList (by simp) hu X.prog X.w _ _ ⟨.bl false, H, I, rfl, q⟩
theorem op_neEL (hu : X.A.units < cLine) : OpR X (compareOp .NotEq) (rNeEL X.K) := by
  intro pins s σ H x y v u Q I rx ry h
  obtain ⟨a, b, xs, rfl, rfl, ha, hb, q⟩ := h
  cases rx
  cases ry
  obtain ⟨its, r1, p1, _⟩ := I.list ha
  obtain ⟨its2, r2, p2, _⟩ := I.list hb
  cases r2
  cases r1 with
  | nil => exact SeqAt.RcNeAt.lists (e := fun _ => true) p1.isList p2.isList rfl hu (fun j h1 h2 => absurd h2 (Nat.not_lt_zero _)) X.prog X.w _ _ ⟨.bl false, H, I, rfl, q⟩
  | cons _ _ => exact SeqAt.RcNeAt.lists_lengths p1.isList p2.isList (by simp) hu X.prog X.w _ _ ⟨.bl true, H, I, rfl, q⟩
end
end XT
/-! operators, len, in, truth, subscript and call by an own class's methods -/
namespace XT
open PySem PySem.Spec PyProof.Rows L2
/-- the class C has the method at f -/
structure Has (K : PySem.W.Frag) (C : Addr) (nm : Str) (f : Addr) : Prop where
  at_ : PySem.W.findIn K (.ref C) nm = some (some (.ref f))
  fn : PySem.W.isFn K (.ref f) = true
/-- a def, called by values -/
abbrev Met (P : Program) (w : World) (K : PySem.W.Frag) (mg : Str → Option Value) (base : Heap) (k : Nat) (f : Addr) (sp : Sp) : Prop := FnR P w K mg base CX0 k f sp
theorem Met.of {P : Program} {w : World} {K : PySem.W.Frag} {mg : Str → Option Value} {base : Heap} {k : Nat} {sp : Sp} {f : Addr} {fd : FuncData} {ps : List Str} (F : FnOk P w K mg base CX0 k f fd ps sp) (b : Binds K fd ps []) : Met P w K mg base k f sp :=
  (FnOk.raw F b .nil).imp fun vs H Q E h => by rw [List.append_nil]; exact h
/-- an instance of C with these fields -/
def InsAt (H : Hp) (C : Addr) (v : V) (fs : List (Str × V)) : Prop := ∃ a dx, v = .ref a ∧ H a = some (.ins C dx fs)
theorem InsAt.same {H H' : Hp} {C : Addr} {v : V} {fs : List (Str × V)} (h : InsAt H C v fs) (e : Same H H') : InsAt H' C v fs := by
  obtain ⟨a, dx, rfl, h⟩ := h
  exact ⟨a, dx, rfl, e _ _ h⟩
section
variable {X : Cx} {pins : List (Addr × Obj)} {σ : L2.St} {H : Hp} {s : Shared} {j : Nat} {f C : Addr} {sp : Sp} {us : List Value} {vs : List V} {Q : VK}
theorem run_met (F : Met X.prog X.w X.K X.mg X.base j f sp) (hr : Room j X.A) (I : Inv X pins σ H s) (r : Vals vs us) (q : sp vs H Q E0) : wpAny (model X.prog X.w) X.A (call (.ref f) us) (EP X pins σ Q) X.xe s := by
  refine wpAny_call (codeAny_mono (run_fnR F hr pass0 I r q) fun r s2 z => ?_)
  match r, z with
  | .ok (.ret v), z => exact z
  | .ok .next, z => exact z.elim
  | .ok .brk, z => exact z.elim
  | .ok .cont, z => exact z.elim
  | .error e, z => exact z
theorem run_met1 (F : Met X.prog X.w X.K X.mg X.base j f sp) (hr : Room (j + 1) X.A) (I : Inv X pins σ H s) (r : Vals vs us) (q : sp vs H Q E0) : wpAny (model X.prog X.w) X.A.in1 (call (.ref f) us) (EP X pins σ Q) X.xe s := by
  refine wpAny_call (codeAny_mono (F X.A.in1 X.stack s H us vs Q E0 hr.in1 I.env0.in1 r q) fun r s2 hq => ?_)
  match r, hq with
  | .ok (.ret v), hq => exact I.after hq
  | .ok .next, hq => exact False.elim hq
  | .ok .brk, hq => exact False.elim hq
  | .ok .cont, hq => exact False.elim hq
  | .error e, hq => exact pass0 pins σ H s e s2 I hq
theorem inst_at (I : Inv X pins σ H s) {a dx : Addr} {fs : List (Str × V)} (h : H a = some (.ins C dx fs)) : ∃ od, PySem.W.InstAt s.heap a (PySem.W.instObj C dx) C (some od) := by
  obtain ⟨mA, O, _⟩ := ins_get I.hok h
  obtain ⟨od, J, _⟩ := O.look
  exact ⟨od, J⟩
theorem back_ok {u : Value} {s' : Shared} (h : EP X pins σ Q u s') : PySem.W.CmpBack (EP X pins σ Q) u s' := by
  obtain ⟨v, H', I, r, q⟩ := id h
  cases v with
  | non => cases r; exact h
  | bl b => cases r; exact h
  | int i => obtain ⟨t, rfl⟩ := r; exact h
  | str x => obtain ⟨t, rfl⟩ := r; exact h
  | byt x => obtain ⟨t, rfl⟩ := r; exact h
  | flt x => obtain ⟨t, rfl⟩ := r; exact h
  | ref a => cases r; exact h
  | ty n => cases r; exact h
/-- a op b, both of the class C -/
def rOwn (C : Addr) (sp : Sp) : R2 := fun x y H Q => (∃ fs, InsAt H C x fs) ∧ (∃ fs, InsAt H C y fs) ∧ sp [x, y] H Q E0
theorem op_own {op : Operator} (F : Met X.prog X.w X.K X.mg X.base j f sp) (hr : Room j X.A) (hc : PySem.W.selfFirst X.K C = true) (h : Has X.K C (PySem.dunder op.info.2) f) : OpR X (binaryOp op) (rOwn C sp) := by
  intro pins s σ H x y v u Q I rx ry ⟨⟨fs, a, dx, ex, ha⟩, ⟨fs', b, dx', ey, hb⟩, q⟩
  subst ex ey
  cases rx
  cases ry
  obtain ⟨od, J⟩ := inst_at I ha
  obtain ⟨od', J'⟩ := inst_at I hb
  obtain ⟨m, fr⟩ := I.fr
  exact PySem.W.binop_K fr I.ok.mod.kin J J'.type hc h.at_ h.fn (wpAny_mono (run_met (vs := [.ref a, .ref b]) F hr I (.cons rfl (.cons rfl .nil)) q) (fun _ _ z => back_ok z) fun _ _ z => z)
/-- a op i, an int -/
def rOwnI (C : Addr) (sp : Sp) : R2 := fun x y H Q => (∃ fs, InsAt H C x fs) ∧ (∃ i : Int, y = .int i) ∧ sp [x, y] H Q E0
theorem op_ownI {op : Operator} {fo ro : Option Value} (F : Met X.prog X.w X.K X.mg X.base j f sp) (hr : Room j X.A) (hc : PySem.W.selfFirst X.K C = true) (h : Has X.K C (PySem.dunder op.info.2) f) (hn : PySem.W.findIn X.K (.ref C) (dunderR op.info.2) = some none)
    (h1 : PySem.W.findIn X.K (.type "int") (PySem.dunder op.info.2) = some fo) (h2 : PySem.W.findIn X.K (.type "int") (dunderR op.info.2) = some ro) (hs : PySem.W.subIn X.K (.type "int") (.ref C) = some false) : OpR X (binaryOp op) (rOwnI C sp) := by
  intro pins s σ H x y v u Q I rx ry ⟨⟨fs, a, dx, ex, ha⟩, ⟨i, ey⟩, q⟩
  subst ex ey
  cases rx
  obtain ⟨t, rfl⟩ := id ry
  obtain ⟨od, J⟩ := inst_at I ha
  obtain ⟨m, fr⟩ := I.fr
  exact PySem.W.ksp_binT (T := "int") fr I.ok.mod.kin J rfl hc h.at_ h.fn hn (.inl rfl) h1 h2 hs (wpAny_mono (run_met (vs := [.ref a, .int i]) F hr I (.cons rfl (.cons ry .nil)) q) (fun _ _ z => back_ok z) fun _ _ z => z)
/-- ~a -/
def rOwn1 (C : Addr) (sp : Sp) : V → Hp → VK → Prop := fun x H Q => (∃ fs, InsAt H C x fs) ∧ sp [x] H Q E0
theorem un_inv (F : Met X.prog X.w X.K X.mg X.base j f sp) (hr : Room j X.A) (h : Has X.K C "__invert__" f) : UnR X (unaryOp .Invert) (rOwn1 C sp) := by
  intro pins s σ H x v Q I rx ⟨⟨fs, a, dx, ex, ha⟩, q⟩
  subst ex
  cases rx
  obtain ⟨od, J⟩ := inst_at I ha
  obtain ⟨m, fr⟩ := I.fr
  exact PySem.W.ksp_inv fr I.ok.mod.kin J h.at_ h.fn (run_met (vs := [.ref a]) F hr I (.cons rfl .nil) q)
/-- len(a) -/
def rOwnLen (C : Addr) (sp : Sp) : List V → Hp → VK → Prop := fun xs H Q => ∃ x, xs = [x] ∧ (∃ fs, InsAt H C x fs) ∧ sp [x] H (fun v H' => ∃ n : Nat, v = .int (n : Int) ∧ n < 1000000 ∧ Q (.int (n : Int)) H') E0
theorem cr_ownLen (F : Met X.prog X.w X.K X.mg X.base j f sp) (hr : Room (j + 1) X.A) (h : Has X.K C "__len__" f) : CallR X (.builtin "len") (rOwnLen C sp) := by
  intro pins s σ H xs us Q I r ⟨x, exs, ⟨fs, a, dx, ex, ha⟩, q⟩
  subst exs ex
  rw [Vals.ref1 r]
  obtain ⟨od, J⟩ := inst_at I ha
  obtain ⟨m, fr⟩ := I.fr
  refine PySem.W.len_K fr I.ok.mod.kin J h.at_ h.fn (wpAny_mono (run_met1 (vs := [.ref a]) F hr I (.cons rfl .nil) q) (fun u s' z => ?_) fun _ _ z => z)
  obtain ⟨v, H', I', rv, n, ev, hn, q'⟩ := z
  subst ev
  obtain ⟨t, rfl⟩ := rv
  refine ⟨⟨by omega, by omega⟩, ?_⟩
  exact ⟨.int (n : Int), H', I'.tok _, ⟨_, rfl⟩, q'⟩
/-- v in a -/
def rOwnIn (C : Addr) (sp : Sp) (neg : Bool) : R2 := fun x y H Q => (∃ fs, InsAt H C y fs) ∧ sp [y, x] H (fun v H' => ∃ b : Bool, v = .bl b ∧ Q (.bl (if neg then !b else b)) H') E0
theorem op_ownIn (F : Met X.prog X.w X.K X.mg X.base j f sp) (hr : Room j X.A) (h : Has X.K C "__contains__" f) : OpR X (compareOp .In) (rOwnIn C sp false) := by
  intro pins s σ H x y v u Q I rx ry ⟨⟨fs, a, dx, ey, ha⟩, q⟩
  subst ey
  cases ry
  obtain ⟨od, J⟩ := inst_at I ha
  obtain ⟨m, fr⟩ := I.fr
  refine PySem.W.in_K fr I.ok.mod.kin J h.at_ h.fn (wpAny_mono (run_met (vs := [.ref a, x]) F hr I (.cons rfl (.cons rx .nil)) q) (fun w s' z => ?_) fun _ _ z => z)
  obtain ⟨v', H', I', rv, b, ev, q'⟩ := z
  subst ev
  cases rv
  exact wpAny_truthy_bool ⟨.bl _, H', I', rfl, q'⟩
theorem op_ownNotIn (F : Met X.prog X.w X.K X.mg X.base j f sp) (hr : Room j X.A) (h : Has X.K C "__contains__" f) : OpR X (compareOp .NotIn) (rOwnIn C sp true) := by
  intro pins s σ H x y v u Q I rx ry ⟨⟨fs, a, dx, ey, ha⟩, q⟩
  subst ey
  cases ry
  obtain ⟨od, J⟩ := inst_at I ha
  obtain ⟨m, fr⟩ := I.fr
  refine PySem.W.notIn_K fr I.ok.mod.kin J h.at_ h.fn (wpAny_mono (run_met (vs := [.ref a, x]) F hr I (.cons rfl (.cons rx .nil)) q) (fun w s' z => ?_) fun _ _ z => z)
  obtain ⟨v', H', I', rv, b, ev, q'⟩ := z
  subst ev
  cases rv
  exact wpAny_truthy_bool ⟨.bl _, H', I', rfl, q'⟩
/-- if a -/
theorem tr_own (F : Met X.prog X.w X.K X.mg X.base j f sp) (hr : Room j X.A) (h : Has X.K C "__bool__" f) : TruR X (fun x H Q => (∃ fs, InsAt H C x fs) ∧ sp [x] H (fun v H' => ∃ b : Bool, v = .bl b ∧ Q b H') E0) := by
  intro pins s σ H x v Q I rx ⟨⟨fs, a, dx, ex, ha⟩, q⟩
  subst ex
  cases rx
  obtain ⟨od, J⟩ := inst_at I ha
  obtain ⟨m, fr⟩ := I.fr
  refine PySem.W.truthy_K fr I.ok.mod.kin J h.at_ h.fn (wpAny_mono (run_met (vs := [.ref a]) F hr I (.cons rfl .nil) q) (fun w s' z => ?_) fun _ _ z => z)
  obtain ⟨v', H', I', rv, b, ev, q'⟩ := z
  subst ev
  cases rv
  exact ⟨H', I', q'⟩
end
end XT
/-! sets of masks as objects -/
namespace XT
open PySem PySem.Spec PyProof.Rows L2
/-- tuple(xs), by a reading with a name -/
def rTupO (K : PySem.W.Frag) : List V → Hp → VK → Prop := fun xs H Q => ∃ p ys, xs = [.ref p] ∧ ((SqL K H p ys ∧ ∀ l, H l = none → Q (.ref l) (upd H l (.tup ys))) ∨ (SqT K H p ys ∧ Q (.ref p) H))
theorem cr_tupO {X : Cx} : CallR X (.type "tuple") (rTupO X.K) := call_tuple_of
/-- the set with the lot v -/
def MsAt (C : Addr) (H : Hp) (z v : V) (n : Nat) (p : Nat → Bool) : Prop := InsAt H C z [("held", v)] ∧ LotAt H v n p
theorem MsAt.same {C : Addr} {H H' : Hp} {z v : V} {n : Nat} {p : Nat → Bool} (h : MsAt C H z v n p) (e : Same H H') : MsAt C H' z v n p := ⟨h.1.same e, h.2.same e⟩
theorem MsAt.congr {C : Addr} {H : Hp} {z v : V} {n : Nat} {p p' : Nat → Bool} (h : MsAt C H z v n p) (e : ∀ m, m < 2 ^ n → p m = p' m) : MsAt C H z v n p' := ⟨h.1, h.2.congr e⟩
theorem MsAt.ins {C : Addr} {H : Hp} {z v : V} {n : Nat} {p : Nat → Bool} (h : MsAt C H z v n p) : ∃ fs, InsAt H C z fs := ⟨_, h.1⟩
/-- a property by its getter -/
def PropR (P : Program) (w : World) (K : PySem.W.Frag) (mg : Str → Option Value) (base : Heap) (k : Nat) (C : Addr) (f : Str) (sp : Sp) : Prop := ∃ (p g : Addr) (fd : FuncData) (ps : List Str), Cls K C ∧ PropOf K C f p g ∧ FnOk P w K mg base CX0 k g fd ps sp ∧ Binds K fd ps []
theorem pe_propR {X : Cx} {k : Nat} {C : Addr} {f : Str} {sp : Sp} {e : Expr} {pos : Pos} {ta : TE} (he : PE X e ta) (D : PropR X.prog X.w X.K X.mg X.base k C f sp) (hr : Room (k + 1) X.A) (hab : attributeBase e f X.env (eval e X.env) = eval e X.env := by rfl) : PE X (.Attribute e f pos) (tProp C sp [] E0 ta) := by
  obtain ⟨p, g, fd, ps, c, hp, F, b⟩ := D
  exact pe_prop he c hp F hr b .nil pass0 hab
/-- C(..) by its __init__ -/
def MakeR (P : Program) (w : World) (K : PySem.W.Frag) (mg : Str → Option Value) (base : Heap) (k : Nat) (C : Addr) (x : Str) (sp : Sp) : Prop := ∃ (f : Addr) (fd : FuncData) (ps : List Str), Mk K C f ∧ FnOk P w K mg base CX0 k f fd ps sp ∧ Binds K fd ps [] ∧ mg x = some (.ref C)
theorem pe_mkR {X : Cx} {k : Nat} {C : Addr} {x : Str} {sp : Sp} {e : Expr} {es : List Expr} {t : TA} {p pos : Pos} (D : MakeR X.prog X.w X.K X.mg X.base k C x sp) (hr : Room (k + 1) X.A) (hg : Gl X x) (ha : PA X (e :: es) t)
    (hdb : (x == ("__debug__" : Str)) = false := by decide) (he : starEach (e :: es) X.env = (false, eval e X.env) :: starEach es X.env := by rfl) (hpl : (backTo pos (starEach es X.env)).any (·.1) = false := by rfl) : PE X (.Call (.Name x p) (e :: es) [] pos) (tMake C sp [] E0 t) := by
  obtain ⟨f, fd, ps, M, F, b, hm⟩ := D
  exact pe_make M F hr hg hm b .nil pass0 ha hdb he hpl
/-- a method called by its name -/
def MethR (P : Program) (w : World) (K : PySem.W.Frag) (mg : Str → Option Value) (base : Heap) (k : Nat) (C : Addr) (m : Str) (sp : Sp) : Prop := ∃ (f : Addr) (fd : FuncData) (ps : List Str), Cls K C ∧ Meth K C m f ∧ FnOk P w K mg base CX0 k f fd ps sp ∧ Binds K fd ps []
/-- an operator's method -/
def OwnR (P : Program) (w : World) (K : PySem.W.Frag) (mg : Str → Option Value) (base : Heap) (k : Nat) (C : Addr) (m : Str) (sp : Sp) : Prop := ∃ (f : Addr), Has K C m f ∧ Met P w K mg base k f sp
section
variable {X : Cx} {j : Nat} {C : Addr} {sp : Sp}
theorem op_ownR {op : Operator} (D : OwnR X.prog X.w X.K X.mg X.base j C (PySem.dunder op.info.2) sp) (hr : Room j X.A) (hc : PySem.W.selfFirst X.K C = true) : OpR X (binaryOp op) (rOwn C sp) := by
  obtain ⟨f, h, F⟩ := D
  exact op_own F hr hc h
theorem un_invR (D : OwnR X.prog X.w X.K X.mg X.base j C "__invert__" sp) (hr : Room j X.A) : UnR X (unaryOp .Invert) (rOwn1 C sp) := by
  obtain ⟨f, h, F⟩ := D
  exact un_inv F hr h
theorem cr_lenR (D : OwnR X.prog X.w X.K X.mg X.base j C "__len__" sp) (hr : Room (j + 1) X.A) : CallR X (.builtin "len") (rOwnLen C sp) := by
  obtain ⟨f, h, F⟩ := D
  exact cr_ownLen F hr h
theorem op_inR (D : OwnR X.prog X.w X.K X.mg X.base j C "__contains__" sp) (hr : Room j X.A) : OpR X (compareOp .In) (rOwnIn C sp false) := by
  obtain ⟨f, h, F⟩ := D
  exact op_ownIn F hr h
end
/-- what an operator with an int wants of the class -/
structure OpI (K : PySem.W.Frag) (C : Addr) (op : Operator) : Prop where
  hn : PySem.W.findIn K (.ref C) (dunderR op.info.2) = some none
  h1 : ∃ fo, PySem.W.findIn K (.type "int") (PySem.dunder op.info.2) = some fo
  h2 : ∃ ro, PySem.W.findIn K (.type "int") (dunderR op.info.2) = some ro
  hs : PySem.W.subIn K (.type "int") (.ref C) = some false
theorem op_ownIR {X : Cx} {j : Nat} {C : Addr} {sp : Sp} {op : Operator} (D : OwnR X.prog X.w X.K X.mg X.base j C (PySem.dunder op.info.2) sp) (hr : Room j X.A) (hc : PySem.W.selfFirst X.K C = true) (T : OpI X.K C op) : OpR X (binaryOp op) (rOwnI C sp) := by
  obtain ⟨f, h, F⟩ := D
  obtain ⟨fo, h1⟩ := T.h1
  obtain ⟨ro, h2⟩ := T.h2
  exact op_ownI F hr hc h T.hn h1 h2 T.hs
/-- __init__ of a set -/
def spMi (C : Addr) : Sp := fun vs H Q _ => ∃ (a dx : Addr) (v : V) (n : Nat) (p : Nat → Bool), vs = [.ref a, v] ∧ H a = some (.ins C dx []) ∧ LotAt H v n p ∧ 1 ≤ n ∧ n ≤ 6 ∧ ∀ H', Same H H' → Q .non (upd H' a (.ins C dx [("held", v)]))
theorem ms_make {C : Addr} {H : Hp} {v : V} {n : Nat} {p : Nat → Bool} {Q : VK} (hv : LotAt H v n p) (h1 : 1 ≤ n) (h6 : n ≤ 6) (q : ∀ H' z, Same H H' → MsAt C H' z v n p → Q z H') :
    ∀ x dx, H x = none → H dx = none → dx ≠ x → spMi C (.ref x :: ([v] ++ [])) (upd (upd H dx (.own x)) x (.ins C dx [])) (fun v H2 => v = .non ∧ Q (.ref x) H2) E0 := by
  intro x dx nx ndx nex
  have s0 : Same H (upd (upd H dx (.own x)) x (.ins C dx [])) := fun b o e => by
    rw [upd_ne (ne_of_none e nx), upd_ne (ne_of_none e ndx)]
    exact e
  refine ⟨x, dx, v, n, p, rfl, upd_same, hv.same s0, h1, h6, fun H' s' => ⟨rfl, ?_⟩⟩
  have s2 : Same H (upd H' x (.ins C dx [("held", v)])) := same_upd (s0.trans s') nx
  exact q _ _ s2 ⟨⟨x, dx, rfl, upd_same⟩, hv.same s2⟩
theorem ms_new {C : Addr} {H : Hp} {v : V} {n : Nat} {p : Nat → Bool} {R : Hp → Prop} {x dx : Addr} (hv : LotAt H v n p) (h1 : 1 ≤ n) (h6 : n ≤ 6) (nx : H x = none) (ndx : H dx = none) (nex : dx ≠ x) (q : ∀ H', Same H H' → MsAt C H' (.ref x) v n p → R H') :
    spMi C (.ref x :: ([v] ++ [])) (upd (upd H dx (.own x)) x (.ins C dx [])) (fun v H2 => v = .non ∧ R H2) E0 := ms_make (Q := fun z H' => z = .ref x → R H') hv h1 h6 (fun H' z s' m e => q H' s' (by rw [← e]; exact m)) x dx nx ndx nex |> fun h => by
  obtain ⟨a, dx', v', n', p', e, h2, h3, h4, h5, k⟩ := h
  exact ⟨a, dx', v', n', p', e, h2, h3, h4, h5, fun H' s' => ⟨(k H' s').1, (k H' s').2 rfl⟩⟩
/-- the methods' promises -/
def spM1 (C : Addr) (F : Nat → (Nat → Bool) → Hp → V → V → Prop) : Sp := fun vs H Q _ => ∃ (z v : V) (n : Nat) (p : Nat → Bool), vs = [z] ∧ MsAt C H z v n p ∧ 1 ≤ n ∧ n ≤ 6 ∧ ∀ H' r, Same H H' → F n p H' v r → Q r H'
def spM2 (C : Addr) (F : Nat → (Nat → Bool) → (Nat → Bool) → Hp → V → Prop) : Sp := fun vs H Q _ => ∃ (z z' v v' : V) (n : Nat) (p r : Nat → Bool), vs = [z, z'] ∧ MsAt C H z v n p ∧ MsAt C H z' v' n r ∧ 1 ≤ n ∧ n ≤ 6 ∧ ∀ H' o, Same H H' → F n p r H' o → Q o H'
def spMX (C : Addr) (F : Nat → (Nat → Bool) → Nat → Hp → V → Prop) : Sp := fun vs H Q _ => ∃ (z v : V) (n m : Nat) (p : Nat → Bool), vs = [z, .int (m : Int)] ∧ MsAt C H z v n p ∧ 1 ≤ n ∧ n ≤ 6 ∧ m < 2 ^ n ∧ ∀ H' o, Same H H' → F n p m H' o → Q o H'
def IsMs (C : Addr) (H : Hp) (z : V) (n : Nat) (p : Nat → Bool) : Prop := ∃ v, MsAt C H z v n p
end XT
/-! ==, a call, a subscript by an own class's methods -/
namespace XT
open PySem PySem.Spec PyProof.Rows L2
theorem kit_me {K : PySem.W.Frag} {C : Addr} : PySem.W.kitOne K (.ref C) (.ref C) = some true := by
  unfold PySem.W.kitOne
  rw [if_pos (by simp)]
section
variable {X : Cx} {j : Nat} {f C : Addr} {sp : Sp}
/-- a == b, both of the class C -/
theorem op_ownEq (F : Met X.prog X.w X.K X.mg X.base j f sp) (hr : Room j X.A) (h : Has X.K C "__eq__" f) : OpR X (compareOp .Eq) (rOwn C sp) := by
  intro pins s σ H x y v u Q I rx ry ⟨⟨fs, a, dx, ex, ha⟩, ⟨fs', b, dx', ey, hb⟩, q⟩
  subst ex ey
  cases rx
  cases ry
  obtain ⟨od, J⟩ := inst_at I ha
  obtain ⟨od', J'⟩ := inst_at I hb
  obtain ⟨m, fr⟩ := I.fr
  show wpAny (model X.prog X.w) X.A (richCompare .Eq (.ref a) (.ref b)) (EP X pins σ Q) X.xe s
  exact PySem.W.cmp_K (op := .Eq) (by have := hr.un; omega) fr I.ok.mod.kin J J'.type (by unfold PySem.W.notFirst; simp) h.at_ h.fn (wpAny_mono (run_met (vs := [.ref a, .ref b]) F hr I (.cons rfl (.cons rfl .nil)) q) (fun _ _ z => back_ok z) fun _ _ z => z)
theorem op_eqR (D : OwnR X.prog X.w X.K X.mg X.base j C "__eq__" sp) (hr : Room j X.A) : OpR X (compareOp .Eq) (rOwn C sp) := by
  obtain ⟨f, h, F⟩ := D
  exact op_ownEq F hr h
end
section
variable {M : Model} {A : Around} {E : Value → Shared → Prop} {s : Shared} {x C : Addr} {pos : Pos} {Q : Value → Shared → Prop}
theorem callO_of {args : List (Bool × Sem Value)} {keywords : List (Option Str × Sem Value)} {first : List Value} (hpl : (args.any (·.1) || keywords.any (·.1.isNone)) = false) (h : wpAny M A (evalArgs (.ref x) true args keywords) (fun a t => (∃ ox od, ox.data = .plain ∧ PySem.W.InstAt t.heap x ox C od) ∧ wpAny M A (call (.ref x) (first ++ a.pos) a.kw) Q E t) E s) : wpAny M A (callWith pos (.ref x) first args keywords) Q E s := by
  unfold callWith
  refine wpAny_bind (wpAny_holding (wpAny_mono h (fun a t ht => wpAny_bind (wpAny_standAt ?_)) fun _ _ z => z))
  obtain ⟨⟨ox, od, hd, J⟩, hc⟩ := ht
  simp only [hpl]
  refine wpAny_bind ((PySem.W.kco_keeper (M := M) J hd).here ?_)
  refine wpAny_bind (wpAny_mono (wpAny_operateT hc) (fun r t2 hr => ?_) fun _ _ z => z)
  exact wpAny_bind (wpAny_holding (wpAny_point (wpAny_pure hr)))
end
/-- x(..), x in the slot i an instance of C -/
def tCallO (i : Nat) (C : Addr) (sp : Sp) (t : TA) : TE := fun σ H Q => ∃ z, σ[i]? = some (some z) ∧ (∃ fs, InsAt H C z fs) ∧ t σ H fun vs H1 => (∃ fs, InsAt H1 C z fs) ∧ sp (z :: vs) H1 Q E0
section
variable {X : Cx} {j i : Nat} {C : Addr} {sp : Sp} {x : Str} {p pos : Pos} {e : Expr} {es : List Expr} {t : TA}
/-- __call__ -/
def CallO (P : Program) (w : World) (K : PySem.W.Frag) (mg : Str → Option Value) (base : Heap) (k : Nat) (C : Addr) (sp : Sp) : Prop := ∃ f, Has K C "__call__" f ∧ PySem.W.fnIn K f = true ∧ Met P w K mg base k f sp
theorem pe_callO (D : CallO X.prog X.w X.K X.mg X.base j C sp) (hr : Room j X.A) (hN : X.N[i]? = some x) (hv : Vis X.env.scope x) (ha : PA X (e :: es) t)
    (hdb : (x == ("__debug__" : Str)) = false := by decide) (hcd : (x == ("__classdict__" : Str)) = false := by decide)
    (he : starEach (e :: es) X.env = (false, eval e X.env) :: starEach es X.env := by rfl) (hpl : (backTo pos (starEach es X.env)).any (·.1) = false := by rfl) : PE X (.Call (.Name x p) (e :: es) [] pos) (tCallO i C sp t) := by
  obtain ⟨f, hh, hfn, F⟩ := D
  refine ⟨fun pins s σ H Q I h => ?_⟩
  obtain ⟨z, hs, ⟨fs, a, dx, ez, hz⟩, ht⟩ := h
  refine wpAny_Call_Name_kw (thn ((pe_var (pos := p) hN hv hdb hcd).run pins s σ H (fun v H1 => v = z ∧ H1 = H) I ⟨z, hs, rfl, rfl⟩) fun u s1 ⟨v, H1, I1, r1, q1⟩ => ?_)
  obtain ⟨rfl, rfl⟩ := q1
  subst ez
  cases r1
  obtain ⟨od, J⟩ := inst_at I1 hz
  rw [he]
  refine callO_of (C := C) ?_ (PySem.Calls.evalArgs_plain ?_)
  · show ((false || (backTo pos (starEach es X.env)).any (·.1)) || false) = false
    rw [hpl]; rfl
  have ha2 := ha.run pos pins s1 σ _ _ I1 ht
  rw [he] at ha2
  refine wpAny_mono ha2 (fun us s2 hz2 => ?_) fun _ _ z => z
  obtain ⟨vs, H2, I2, r, ⟨fs2, a2, dx2, e2, h2⟩, q⟩ := hz2
  cases e2
  obtain ⟨od2, J2⟩ := inst_at I2 h2
  refine ⟨⟨_, _, rfl, J2⟩, ?_⟩
  refine wpAny_call (PySem.W.kco_code I2.kIn J2 rfl hh.at_ hh.fn hfn ?_)
  refine codeAny_mono (F X.A X.stack s2 H2 _ (.ref a :: vs) Q E0 hr I2.env0 (.cons rfl r) q) fun r' s3 hq => ?_
  match r', hq with
  | .ok (.ret v), hq => exact I2.after hq
  | .ok .next, hq => exact False.elim hq
  | .ok .brk, hq => exact False.elim hq
  | .ok .cont, hq => exact False.elim hq
  | .error e, hq => exact pass0 pins σ H2 s2 e s3 I2 hq
end
end XT
/-! expressions that only lay new things: what their value is, put together piece by piece -/
namespace XT
open PySem PySem.Spec PyProof.Rows L2
abbrev RV := Hp → V → Prop
/-- from H on the expression gives a value of which R is true -/
def Ev (R : RV) (t : TE) (σ : L2.St) (H : Hp) : Prop := ∀ H', Same H H' → ∀ Q : VK, (∀ H2 z, Same H' H2 → R H2 z → Q z H2) → t σ H' Q
def EvT (b : Bool) (t : TT) (σ : L2.St) (H : Hp) : Prop := ∀ H', Same H H' → ∀ Q : Bool → Hp → Prop, (∀ H2, Same H' H2 → Q b H2) → t σ H' Q
/-- what is true of a value stays true -/
def Sty (R : RV) : Prop := ∀ H H' z, Same H H' → R H z → R H' z
/-- an operator on values -/
def OpF (Ra Rb : RV) (r : R2) (Rc : RV) : Prop := ∀ H x y, Ra H x → Rb H y → ∀ Q : VK, (∀ H2 z, Same H H2 → Rc H2 z → Q z H2) → r x y H Q
abbrev isI (k : Int) : RV := fun _ z => z = .int k
abbrev isB (b : Bool) : RV := fun _ z => z = .bl b
abbrev isV (v : V) : RV := fun _ z => z = v
abbrev isLot (n : Nat) (p : Nat → Bool) : RV := fun H z => LotAt H z n p
abbrev isTup (ms : List Nat) : RV := fun H z => TupAt H z ms
theorem sty_v (v : V) : Sty (isV v) := fun _ _ _ _ h => h
theorem sty_lot (n : Nat) (p : Nat → Bool) : Sty (isLot n p) := fun _ _ _ e h => h.same e
theorem sty_tup (ms : List Nat) : Sty (isTup ms) := fun _ _ _ e h => h.same e
section
variable {R Ra Rb Rc : RV} {t ta tb : TE} {σ : L2.St} {H H' : Hp}
theorem Ev.same (h : Ev R t σ H) (e : Same H H') : Ev R t σ H' := fun H2 s Q q => h H2 (e.trans s) Q q
theorem Ev.mono {R' : RV} (h : Ev R t σ H) (i : ∀ H z, R H z → R' H z) : Ev R' t σ H := fun H2 s Q q => h H2 s Q fun H3 z s3 g => q H3 z s3 (i _ _ g)
theorem EvT.same {b : Bool} {t : TT} (h : EvT b t σ H) (e : Same H H') : EvT b t σ H' := fun H2 s Q q => h H2 (e.trans s) Q q
theorem ev_var {i : Nat} {z : V} (hs : Sty R) (e : σ[i]? = some (some z)) (h : R H z) : Ev R (tVar i) σ H := fun H2 s Q q => ⟨z, e, q _ _ (Same.refl _) (hs _ _ _ s h)⟩
theorem ev_c (v : V) : Ev (isV v) (tC v) σ H := fun H2 s Q q => q _ _ (Same.refl _) rfl
theorem ev_op {r : R2} (ha : Sty Ra) (a : Ev Ra ta σ H) (b : Ev Rb tb σ H) (f : OpF Ra Rb r Rc) : Ev Rc (tOp r ta tb) σ H := fun H1 s1 Q q =>
  a H1 s1 _ fun H2 x s2 gx => b H2 (s1.trans s2) _ fun H3 y s3 gy => f H3 x y (ha _ _ _ s3 gx) gy _ fun H4 z s4 gz => q H4 z ((s2.trans s3).trans s4) gz
theorem ev_def1 {sp : Sp} (a : Ev Ra ta σ H) (f : ∀ H x, Ra H x → ∀ Q : VK, (∀ H2 z, Same H H2 → Rc H2 z → Q z H2) → sp [x] H Q E0) : Ev Rc (fun σ H Q => tCons ta tNil σ H fun vs H1 => sp vs H1 Q E0) σ H := fun H1 s1 Q q =>
  a H1 s1 _ fun H2 x s2 gx => f H2 x gx _ fun H4 z s4 gz => q H4 z (s2.trans s4) gz
theorem ev_def2 {sp : Sp} (ha : Sty Ra) (a : Ev Ra ta σ H) (b : Ev Rb tb σ H) (f : ∀ H x y, Ra H x → Rb H y → ∀ Q : VK, (∀ H2 z, Same H H2 → Rc H2 z → Q z H2) → sp [x, y] H Q E0) : Ev Rc (fun σ H Q => tCons ta (tCons tb tNil) σ H fun vs H1 => sp vs H1 Q E0) σ H := fun H1 s1 Q q =>
  a H1 s1 _ fun H2 x s2 gx => b H2 (s1.trans s2) _ fun H3 y s3 gy => f H3 x y (ha _ _ _ s3 gx) gy _ fun H4 z s4 gz => q H4 z ((s2.trans s3).trans s4) gz
theorem evt_test {b : Bool} (h : Ev (isB b) t σ H) : EvT b (tTest t) σ H := fun H1 s1 Q q => h H1 s1 _ fun H2 z s2 e => ⟨b, e, q _ s2⟩
theorem evt_b {b : Bool} (h : Ev (isB b) t σ H) : EvT b (tB t) σ H := fun H1 s1 Q q => h H1 s1 _ fun H2 z s2 e => ⟨b, e, q _ s2⟩
theorem evt_not {b : Bool} {t : TT} (h : EvT b t σ H) : EvT (!b) (tNot t) σ H := fun H1 s1 Q q => h H1 s1 _ fun H2 s2 => q _ s2
theorem evt_or {b c : Bool} {t u : TT} (h : EvT b t σ H) (k : EvT c u σ H) : EvT (b || c) (tOr t u) σ H := fun H1 s1 Q q => h H1 s1 _ fun H2 s2 => by
  cases b with
  | true => exact iteT (q _ s2)
  | false => exact iteF (k H2 (s1.trans s2) _ fun H3 s3 => q _ (s2.trans s3))
theorem evt_and {b c : Bool} {t u : TT} (h : EvT b t σ H) (k : EvT c u σ H) : EvT (b && c) (tAnd t u) σ H := fun H1 s1 Q q => h H1 s1 _ fun H2 s2 => by
  cases b with
  | true => exact iteT (k H2 (s1.trans s2) _ fun H3 s3 => q _ (s2.trans s3))
  | false => exact iteF (q _ s2)
theorem ev_andV {b c : Bool} (h : Ev (isB b) ta σ H) (k : Ev (isB c) tb σ H) : Ev (isB (b && c)) (tAndV ta tb) σ H := fun H1 s1 Q q => h H1 s1 _ fun H2 z s2 e => by
  refine ⟨b, e, ?_⟩
  cases b with
  | true => exact iteT (k H2 (s1.trans s2) _ fun H3 z3 s3 e3 => q _ _ (s2.trans s3) e3)
  | false => exact iteF (q _ _ s2 rfl)
theorem ev_orV {b c : Bool} (h : Ev (isB b) ta σ H) (k : Ev (isB c) tb σ H) : Ev (isB (b || c)) (tOrV ta tb) σ H := fun H1 s1 Q q => h H1 s1 _ fun H2 z s2 e => by
  refine ⟨b, e, ?_⟩
  cases b with
  | true => exact iteT (q _ _ s2 rfl)
  | false => exact iteF (k H2 (s1.trans s2) _ fun H3 z3 s3 e3 => q _ _ (s2.trans s3) e3)
theorem ev_notV {b : Bool} (h : Ev (isB b) ta σ H) : Ev (isB (!b)) (tNotV ta) σ H := fun H1 s1 Q q => h H1 s1 _ fun H2 z s2 e => ⟨b, e, q _ _ s2 rfl⟩
/-- if t: never -/
theorem if_no {b : Bool} {t : TT} {u : TS} {D : Ends} (h : EvT b t σ H) (e : b = false) (q : ∀ H2, Same H H2 → u D σ H2) : tIfS t tNever u D σ H := h H (Same.refl _) _ fun H2 s2 => by rw [e]; exact iteF (q H2 s2)
end
theorem asg_ev {R : RV} {t : TE} {g : TG} {u : TS} {D : Ends} {σ : L2.St} {H : Hp} (h : Ev R t σ H) (q : ∀ H2 z, Same H H2 → R H2 z → g z σ H2 (u D)) : tSeq (tAsg t g) u D σ H := h H (Same.refl _) _ fun H2 z s2 gz => q H2 z s2 gz
theorem ret_ev {R : RV} {t : TE} {D : Ends} {σ : L2.St} {H : Hp} (h : Ev R t σ H) (q : ∀ H2 z, Same H H2 → R H2 z → D.rt z H2) : tRet t D σ H := h H (Same.refl _) _ fun H2 z s2 gz => q H2 z s2 gz
theorem ifs_no {b : Bool} {t : TT} {u rest : TS} {D : Ends} {σ : L2.St} {H : Hp} (h : EvT b t σ H) (e : b = false) (q : ∀ H2, Same H H2 → u { D with nx := rest D } σ H2) : tSeq (tIfS t tNever u) rest D σ H := if_no h e q
/-! sets -/
abbrev isMs (C : Addr) (n : Nat) (p : Nat → Bool) : RV := fun H z => IsMs C H z n p
theorem sty_ms (C : Addr) (n : Nat) (p : Nat → Bool) : Sty (isMs C n p) := fun _ _ _ e ⟨v, h⟩ => ⟨v, h.same e⟩
section
variable {C : Addr} {n : Nat} {p r : Nat → Bool}
theorem of_m2 {F : Nat → (Nat → Bool) → (Nat → Bool) → Hp → V → Prop} (h1 : 1 ≤ n) (h6 : n ≤ 6) : OpF (isMs C n p) (isMs C n r) (rOwn C (spM2 C F)) (fun H o => F n p r H o) := fun H x y ⟨v, gx⟩ ⟨v', gy⟩ Q q =>
  ⟨gx.ins, gy.ins, x, y, v, v', n, p, r, rfl, gx, gy, h1, h6, fun H' o s' g => q _ _ s' g⟩
theorem of_mx {F : Nat → (Nat → Bool) → Nat → Hp → V → Prop} {m : Nat} (h1 : 1 ≤ n) (h6 : n ≤ 6) (hm : m < 2 ^ n) : OpF (isMs C n p) (isV (.int (m : Int))) (rOwnI C (spMX C F)) (fun H o => F n p m H o) := fun H x y ⟨v, gx⟩ ey Q q =>
  ⟨gx.ins, ⟨m, ey⟩, x, v, n, m, p, by rw [ey], gx, h1, h6, hm, fun H' o s' g => q _ _ s' g⟩
theorem ev_m1 {F : Nat → (Nat → Bool) → Hp → V → V → Prop} {Rc : RV} {t : TE} {σ : L2.St} {H : Hp} (h1 : 1 ≤ n) (h6 : n ≤ 6) (a : Ev (isMs C n p) t σ H) (f : ∀ H v o, LotAt H v n p → F n p H v o → Rc H o) : Ev Rc (tUn (rOwn1 C (spM1 C F)) t) σ H := fun H1 s1 Q q =>
  a H1 s1 _ fun H2 x s2 ⟨v, gx⟩ => ⟨gx.ins, x, v, n, p, rfl, gx, h1, h6, fun H' o s' g => q _ _ (s2.trans s') (f _ _ _ (gx.2.same s') g)⟩
theorem ev_prop {F : Nat → (Nat → Bool) → Hp → V → V → Prop} {Rc : RV} {t : TE} {σ : L2.St} {H : Hp} (h1 : 1 ≤ n) (h6 : n ≤ 6) (a : Ev (isMs C n p) t σ H) (f : ∀ H v o, LotAt H v n p → F n p H v o → Rc H o) : Ev Rc (tProp C (spM1 C F) [] E0 t) σ H := fun H1 s1 Q q =>
  a H1 s1 _ fun H2 x s2 ⟨v, gx⟩ => by
    obtain ⟨aa, dx, ez, ha⟩ := id gx.1
    exact ⟨aa, dx, _, ez, ha, x, v, n, p, by rw [ez], gx, h1, h6, fun H' o s' g => q _ _ (s2.trans s') (f _ _ _ (gx.2.same s') g)⟩
theorem ev_len {F : Nat → (Nat → Bool) → Hp → V → V → Prop} {t : TE} {σ : L2.St} {H : Hp} (h1 : 1 ≤ n) (h6 : n ≤ 6) (a : Ev (isMs C n p) t σ H) (f : ∀ H v o, F n p H v o → o = .int ((lotOf n p).length : Int)) : Ev (isV (.int ((lotOf n p).length : Int))) (tCB (rOwnLen C (spM1 C F)) (tCons t tNil)) σ H := fun H1 s1 Q q =>
  a H1 s1 _ fun H2 x s2 ⟨v, gx⟩ => ⟨x, rfl, gx.ins, x, v, n, p, rfl, gx, h1, h6, fun H' o s' g => ⟨_, f _ _ _ g, by have := lot_len h6 p; omega, q _ _ (s2.trans s') rfl⟩⟩
/-- a.m(b), m a method of two sets -/
theorem ev_meth {m : Str} {F : Nat → (Nat → Bool) → (Nat → Bool) → Hp → V → Prop} {ta tb : TE} {σ : L2.St} {H : Hp} (h1 : 1 ≤ n) (h6 : n ≤ 6) (hm : (m == ("held" : Str)) = false) (a : Ev (isMs C n p) ta σ H) (b : Ev (isMs C n r) tb σ H) : Ev (fun H o => F n p r H o) (tMeth C m (spM2 C F) [] E0 ta (tCons tb tNil)) σ H := fun H1 s1 Q q =>
  a H1 s1 _ fun H2 x s2 ⟨v, gx⟩ => by
    obtain ⟨aa, dx, ez, ha⟩ := id gx.1
    refine ⟨aa, dx, _, ez, ha, ?_, b H2 (s1.trans s2) _ fun H3 y s3 ⟨v', gy⟩ => ?_⟩
    · rw [List.lookup_cons, hm]
      rfl
    · exact ⟨x, y, v, v', n, p, r, rfl, gx.same s3, gy, h1, h6, fun H' o s' g => q _ _ ((s2.trans s3).trans s') g⟩
theorem ev_mk {t : TE} {σ : L2.St} {H : Hp} (h1 : 1 ≤ n) (h6 : n ≤ 6) (a : Ev (isLot n p) t σ H) : Ev (isMs C n p) (tMake C (spMi C) [] E0 (tCons t tNil)) σ H := fun H1 s1 Q q =>
  a H1 s1 _ fun H2 x s2 gx => fun xa dxa nxa ndxa nea => ms_new gx h1 h6 nxa ndxa nea fun H3 s3 g => q _ _ (s2.trans s3) ⟨_, g⟩
theorem ev_lot2 {q' : Nat → Bool} {ms : List Nat} {ta tb : TE} {σ : L2.St} {H : Hp} (e : lotOf n q' = ms) (a : Ev (isV (.int (n : Int))) ta σ H) (b : Ev (isTup ms) tb σ H) : Ev (isLot n q') (tTup (tCons ta (tCons tb tNil))) σ H := fun H1 s1 Q q =>
  a H1 s1 _ fun H2 x s2 ex => b H2 (s1.trans s2) _ fun H3 y s3 ⟨y', ey, hy⟩ => ⟨sz (show 2 ≤ 1000 by decide), fun T nT => q _ _ ((s2.trans s3).trans (same_new nT)) ⟨T, y', rfl, by rw [upd_same, ex, ey], by rw [e]; exact same_new nT _ _ hy⟩⟩
theorem ev_tup1 {m : Nat} {t : TE} {σ : L2.St} {H : Hp} (a : Ev (isV (.int (m : Int))) t σ H) : Ev (isTup [m]) (tTup (tCons t tNil)) σ H := fun H1 s1 Q q =>
  a H1 s1 _ fun H2 x s2 ex => ⟨sz (show 1 ≤ 1000 by decide), fun T nT => q _ _ (s2.trans (same_new nT)) ⟨T, rfl, by rw [upd_same, ex]; rfl⟩⟩
theorem ev_tup0 {σ : L2.St} {H : Hp} : Ev (isTup []) (tTup tNil) σ H := fun H1 s1 Q q => ⟨sz (show 0 ≤ 1000 by decide), fun T nT => q _ _ (same_new nT) ⟨T, rfl, by rw [upd_same]; rfl⟩⟩
theorem ev_call {F : Nat → (Nat → Bool) → Nat → Hp → V → Prop} {i m : Nat} {z : V} {t : TE} {σ : L2.St} {H : Hp} (h1 : 1 ≤ n) (h6 : n ≤ 6) (hm : m < 2 ^ n) (e : σ[i]? = some (some z)) (a : IsMs C H z n p) (b : Ev (isV (.int (m : Int))) t σ H) : Ev (fun H o => F n p m H o) (tCallO i C (spMX C F) (tCons t tNil)) σ H := fun H1 s1 Q q => by
  obtain ⟨v, gx⟩ := a
  refine ⟨z, e, (gx.same s1).ins, b H1 s1 _ fun H2 y s2 ey => ⟨((gx.same s1).same s2).ins, z, v, n, m, p, by rw [ey], (gx.same s1).same s2, h1, h6, hm, fun H' o s' g => q _ _ (s2.trans s') g⟩⟩
end
theorem pe_methR {X : Cx} {k : Nat} {C : Addr} {m : Str} {sp : Sp} {o e : Expr} {es : List Expr} {ta : TE} {t : TA} {apos pos : Pos} {pl : Sem Bool} (he : PE X o ta) (D : MethR X.prog X.w X.K X.mg X.base k C m sp) (hr : Room k X.A) (ha : PA X (e :: es) t)
    (hst : starEach (e :: es) X.env = (false, eval e X.env) :: starEach es X.env := by rfl) (hpl : (backTo pos (starEach es X.env)).any (·.1) = false := by rfl)
    (ht : eval (.Call (.Attribute o m apos) (e :: es) [] pos) X.env = (do let ov ← eval o X.env; standAt apos.atName; let (f, first) ← holding [ov] (getMethod ov m pl); callWith pos f first (backTo pos (starEach (e :: es) X.env)) (backToKw pos (keywordEach [] X.env))) := by rfl) :
    PE X (.Call (.Attribute o m apos) (e :: es) [] pos) (tMeth C m sp [] E0 ta t) := by
  obtain ⟨f, fd, ps, c, hm, F, b⟩ := D
  exact pe_meth (pl := pl) he c hm F hr b .nil pass0 ha hst hpl ht
/-! ints, bools, tuples -/
section
variable {K : PySem.W.Frag} {a b : Int}
theorem of_i (g : Int → Int → V) : OpF (isV (.int a)) (isV (.int b)) (rI0 g) (isV (g a b)) := fun H x y ex ey Q q => ⟨a, b, ex, ey, q _ _ (Same.refl _) rfl⟩
theorem of_iC {Cc : Int → Int → Prop} (g : Int → Int → V) (h : Cc a b) : OpF (isV (.int a)) (isV (.int b)) (rI Cc g) (isV (g a b)) := fun H x y ex ey Q q => ⟨a, b, ex, ey, h, q _ _ (Same.refl _) rfl⟩
theorem of_eqI : OpF (isV (.int a)) (isV (.int b)) rEq (isB (decide (a = b))) := fun H x y ex ey Q q => by
  subst ex ey
  refine ⟨rfl, q _ _ (Same.refl _) (congrArg V.bl ?_)⟩
  rw [Bool.eq_iff_iff, decide_eq_true_iff, decide_eq_true_iff]
  exact ⟨fun e => V.int.inj e, fun e => by rw [e]⟩
theorem of_neI : OpF (isV (.int a)) (isV (.int b)) rNe (isB (!decide (a = b))) := fun H x y ex ey Q q => by
  subst ex ey
  refine ⟨rfl, q _ _ (Same.refl _) (congrArg V.bl (congrArg (!·) ?_))⟩
  rw [Bool.eq_iff_iff, decide_eq_true_iff, decide_eq_true_iff]
  exact ⟨fun e => V.int.inj e, fun e => by rw [e]⟩
theorem of_eqB {a b : Bool} : OpF (isB a) (isB b) rEq (isB (a == b)) := fun H x y ex ey Q q => by
  subst ex ey
  refine ⟨rfl, q _ _ (Same.refl _) (congrArg V.bl ?_)⟩
  cases a <;> cases b <;> rfl
theorem of_neB {a b : Bool} : OpF (isB a) (isB b) rNe (isB (a != b)) := fun H x y ex ey Q q => by
  subst ex ey
  refine ⟨rfl, q _ _ (Same.refl _) (congrArg V.bl ?_)⟩
  cases a <;> cases b <;> rfl
theorem of_in {m : Nat} {ms : List Nat} : OpF (isV (.int (m : Int))) (isTup ms) (rIn K false) (isB (decide (m ∈ ms))) := fun H x y ex ⟨y', ey, hy⟩ Q q => by
  subst ex ey
  refine ⟨y', _, rfl, .inr (SqT.of hy), rfl, vm_flat _, q _ _ (Same.refl _) (congrArg V.bl (in_vm _ _))⟩
theorem of_eqT {ms ks : List Nat} : OpF (isTup ms) (isTup ks) (rEqD K) (isB (decide (ms = ks))) := fun H x y gx gy Q q => eq_tupN gx gy (q _ _ (Same.refl _) rfl)
theorem of_neT {ms ks : List Nat} : OpF (isTup ms) (isTup ks) (rNeD K) (isB (!decide (ms = ks))) := fun H x y gx gy Q q => ne_tupN gx gy (q _ _ (Same.refl _) rfl)
theorem of_eqL {n : Nat} {p r : Nat → Bool} : OpF (isLot n p) (isLot n r) (rEqD K) (isB (decide (∀ m, m < 2 ^ n → p m = r m))) := fun H x y gx gy Q q => eq_lots gx gy (q _ _ (Same.refl _) rfl)
theorem of_neL {n : Nat} {p r : Nat → Bool} : OpF (isLot n p) (isLot n r) (rNeD K) (isB (!decide (∀ m, m < 2 ^ n → p m = r m))) := fun H x y gx gy Q q => ne_lots gx gy (q _ _ (Same.refl _) rfl)
theorem of_xor {a b : Nat} : OpF (isV (.int (a : Int))) (isV (.int (b : Int))) rXor (isV (.int ((a ^^^ b : Nat) : Int))) := fun H x y ex ey Q q => ⟨a, b, ex, ey, q _ _ (Same.refl _) (congrArg V.int (bx a b))⟩
/-- lot[0], lot[1] -/
theorem of_ix0 {n : Nat} {p : Nat → Bool} : OpF (isLot n p) (isV (.int 0)) (rIxT K) (isV (.int (n : Int))) := fun H x y gx ey Q q => by
  obtain ⟨a, b, e, h1, h2⟩ := gx
  exact ⟨a, _, 0, .int n, e, ey, SqT.of h1, rfl, q _ _ (Same.refl _) rfl⟩
theorem of_ix1 {n : Nat} {p : Nat → Bool} : OpF (isLot n p) (isV (.int 1)) (rIxT K) (isTup (lotOf n p)) := fun H x y gx ey Q q => by
  obtain ⟨a, b, e, h1, h2⟩ := gx
  exact ⟨a, _, 1, .ref b, e, ey, SqT.of h1, rfl, q _ _ (Same.refl _) ⟨b, rfl, h2⟩⟩
theorem ev_len_tup {ms : List Nat} {t : TE} {σ : L2.St} {H : Hp} (a : Ev (isTup ms) t σ H) : Ev (isV (.int (ms.length : Int))) (tCB (fun xs H Q => ∃ p ys, xs = [.ref p] ∧ (SqL K H p ys ∨ SqT K H p ys) ∧ Q (.int ys.length) H) (tCons t tNil)) σ H := fun H1 s1 Q q =>
  a H1 s1 _ fun H2 x s2 ⟨y, e, hy⟩ => ⟨y, _, by rw [e], .inr (SqT.of hy), q _ _ s2 (by rw [vm_len])⟩
end
end XT
/-! patterns: their signs -/
namespace XT
open PySem PySem.Spec PyProof.Rows L2
/-- a pattern of n signs -/
def OkW (n : Nat) (x : Str) : Prop := x.length = n ∧ ∀ c ∈ x.cps.toList, sgn3 c = true
def chsL : List Str := ["01?", "010101?", "01????", "01???"]
theorem chs_ok : ∀ x ∈ chsL, (∀ c ∈ x.cps.toList, sgn3 c = true) ∧ 0 < x.length ∧ x.length ≤ 1000 := by
  have h : chsL.all (fun x => x.cps.toList.all sgn3 && (decide (0 < x.length) && decide (x.length ≤ 1000))) = true := by decide +kernel
  intro x hx
  have := List.all_eq_true.mp h x hx
  rw [Bool.and_eq_true, Bool.and_eq_true, decide_eq_true_iff, decide_eq_true_iff] at this
  exact ⟨fun c hc => List.all_eq_true.mp this.1 c hc, this.2.1, this.2.2⟩
theorem cut_take (y : Str) (k : Nat) : (cutS y none (some (k : Int))).cps.toList = y.cps.toList.take k := by
  have hl : y.cps.toList.length = y.length := by rw [Array.length_toList]; rfl
  show ((y.cps.toList.drop (HT.sIx y.length 0 none)).take (HT.sIx y.length y.length (some (k : Int)) - HT.sIx y.length 0 none)).toArray.toList = _
  rw [HT.sIx_none, HT.sIx_nat, List.drop_zero, Nat.sub_zero, List.toList_toArray]
  rcases Nat.le_total k y.length with h | h
  · rw [Nat.min_eq_left h]
  · rw [Nat.min_eq_right h, List.take_of_length_le (by omega), List.take_of_length_le (by omega)]
theorem cut_drop (y : Str) (k : Nat) : (cutS y (some (k : Int)) none).cps.toList = y.cps.toList.drop k := by
  have hl : y.cps.toList.length = y.length := by rw [Array.length_toList]; rfl
  show ((y.cps.toList.drop (HT.sIx y.length 0 (some (k : Int)))).take (HT.sIx y.length y.length none - HT.sIx y.length 0 (some (k : Int)))).toArray.toList = _
  rw [HT.sIx_none, HT.sIx_nat, List.toList_toArray]
  rcases Nat.le_total k y.length with h | h
  · rw [Nat.min_eq_left h, List.take_of_length_le (by rw [List.length_drop]; omega)]
  · rw [Nat.min_eq_right h, List.drop_eq_nil_of_le (by omega), List.drop_eq_nil_of_le (by omega), List.take_nil]
theorem str_app_list (x y : Str) : (x ++ y).cps.toList = x.cps.toList ++ y.cps.toList := by
  show (x.cps ++ y.cps).toList = _
  simp
/-- one sign is exchanged -/
theorem okW_put {n k : Nat} {y e : Str} (h : OkW n y) (hk : k < n) (he : OkW 1 e) : OkW n (cutS y none (some (k : Int)) ++ e ++ cutS y (some ((k : Int) + 1)) none) := by
  have hl : y.cps.toList.length = n := by rw [Array.length_toList]; exact h.1
  have el : e.cps.toList.length = 1 := by rw [Array.length_toList]; exact he.1
  have e1 : (cutS y none (some (k : Int)) ++ e ++ cutS y (some ((k : Int) + 1)) none).cps.toList = y.cps.toList.take k ++ e.cps.toList ++ y.cps.toList.drop (k + 1) := by
    rw [str_app_list, str_app_list, cut_take, show (k : Int) + 1 = ((k + 1 : Nat) : Int) by omega, cut_drop]
  refine ⟨?_, fun c hc => ?_⟩
  · have : (cutS y none (some (k : Int)) ++ e ++ cutS y (some ((k : Int) + 1)) none).cps.toList.length = n := by
      rw [e1, List.length_append, List.length_append, List.length_take, List.length_drop, el, hl]
      omega
    rw [Array.length_toList] at this
    exact this
  · rw [e1] at hc
    rcases List.mem_append.mp hc with hc | hc
    · rcases List.mem_append.mp hc with hc | hc
      · exact h.2 c (List.mem_of_mem_take hc)
      · exact he.2 c hc
    · exact h.2 c (List.mem_of_mem_drop hc)
/-- signs one after the other -/
theorem okW_join : ∀ cs : List Nat, (∀ c ∈ cs, sgn3 c = true) → OkW cs.length (Str.join Str.empty (cs.map fun c => (⟨#[c]⟩ : Str)))
  | [], _ => ⟨rfl, fun c hc => absurd hc (by show ¬ c ∈ ([] : List Nat); simp)⟩
  | [a], h => ⟨rfl, fun c hc => by rw [List.mem_singleton.mp (show c ∈ [a] from hc)]; exact h a (by simp)⟩
  | a :: b :: r, h => by
    have ih := okW_join (b :: r) fun c hc => h c (List.mem_cons_of_mem a hc)
    have e : Str.join Str.empty ((a :: b :: r).map fun c => (⟨#[c]⟩ : Str)) = (⟨#[a]⟩ : Str) ++ Str.empty ++ Str.join Str.empty ((b :: r).map fun c => (⟨#[c]⟩ : Str)) := rfl
    rw [e]
    refine ⟨?_, fun c hc => ?_⟩
    · rw [str_app_len, str_app_len, ih.1]
      show 1 + 0 + _ = _
      rw [List.length_cons (a := a)]
      omega
    · rw [str_app_list, str_app_list] at hc
      rcases List.mem_append.mp hc with hc | hc
      · rcases List.mem_append.mp hc with hc | hc
        · rw [List.mem_singleton.mp (show c ∈ [a] from hc)]
          exact h a (by simp)
        · exact absurd hc (by show ¬ c ∈ ([] : List Nat); simp)
      · exact ih.2 c hc
theorem step_put {S : Sm} {H H1 : Hp} {t t1 : Int} {k : Nat} {F : Addr} {o : HO} (s : Step S H t H1 t1 k) (st : Strm S H t) (n : H F = none) : Step S H t (upd H1 F o) t1 k := by
  obtain ⟨n1, n2, n3⟩ := strm_ne st n
  refine ⟨fun b o' h1 h2 e => ?_, strm_upd s.st n1 n2 n3, s.lo, s.hi⟩
  rw [upd_ne (ne_of_none e n)]
  exact s.keep b o' h1 h2 e
theorem dv_signs {K : PySem.W.Frag} {N : Addr → Prop} {H : Hp} : ∀ {vs : List V} {ds : List PyData}, DvAll K N H vs ds → (∀ e ∈ ds, ∃ c : Nat, e = .str ⟨#[c]⟩ ∧ sgn3 c = true) → ∃ cs : List Nat, vs = (cs.map fun c => (⟨#[c]⟩ : Str)).map V.str ∧ (∀ c ∈ cs, sgn3 c = true) ∧ cs.length = ds.length
  | _, _, .nil, _ => ⟨[], rfl, by simp, rfl⟩
  | _, _, .cons (d := d) h a, g => by
    obtain ⟨cs, e, hc, hl⟩ := dv_signs a fun e he => g e (List.mem_cons_of_mem _ he)
    obtain ⟨c, rfl, h1⟩ := g d List.mem_cons_self
    cases h
    refine ⟨c :: cs, by rw [e]; rfl, fun x hx => ?_, by rw [List.length_cons, List.length_cons, hl]⟩
    rcases List.mem_cons.mp hx with rfl | hx
    · exact h1
    · exact hc x hx
theorem sum_ones : ∀ cs : List Nat, ((cs.map fun c => (⟨#[c]⟩ : Str)).map (·.length)).sum = cs.length
  | [] => rfl
  | c :: cs => by
    rw [List.map_cons, List.map_cons, List.sum_cons, sum_ones cs, List.length_cons]
    show 1 + _ = _
    omega
end XT
/-! wide lots -/
namespace XT
open PySem PySem.Spec PyProof.Rows L2
/-- a pattern allows the digits, sign by sign -/
def fitL (ds ps : List Nat) : Bool := (ds.zip ps).all fun q => decide (q.2 = q.1) || decide (q.2 = 63)
/-- a wide lot at T: the patterns, of n signs each -/
structure WideT (H : Hp) (T : Addr) (ws : List Str) (n : Nat) : Prop where
  h : H T = some (.tup (ws.map V.str))
  l1 : 1 ≤ ws.length
  l6 : ws.length ≤ 6
  n1 : 1 ≤ n
  n40 : n ≤ 40
  ok : ∀ x ∈ ws, OkW n x
theorem WideT.same {H H' : Hp} {T : Addr} {ws : List Str} {n : Nat} (h : WideT H T ws n) (e : Same H H') : WideT H' T ws n := ⟨e _ _ h.h, h.l1, h.l6, h.n1, h.n40, h.ok⟩
theorem WideT.step {S : Sm} {H H' : Hp} {t t' : Int} {k : Nat} {T : Addr} {ws : List Str} {n : Nat} (h : WideT H T ws n) (st : Strm S H t) (s : Step S H t H' t' k) : WideT H' T ws n := ⟨s.keep.tup st h.h, h.l1, h.l6, h.n1, h.n40, h.ok⟩
theorem WideT.hd {H : Hp} {T : Addr} {ws : List Str} {n : Nat} (h : WideT H T ws n) : ∃ x, ws[0]? = some x ∧ x.length = n ∧ x ∈ ws := ⟨ws[0]'h.l1, List.getElem?_eq_getElem h.l1, (h.ok _ (List.getElem_mem _)).1, List.getElem_mem _⟩
/-- as many patterns as may be -/
structure WideG (H : Hp) (T : Addr) (ws : List Str) (n : Nat) : Prop where
  h : H T = some (.tup (ws.map V.str))
  l1 : 1 ≤ ws.length
  n1 : 1 ≤ n
  n40 : n ≤ 40
  ok : ∀ x ∈ ws, OkW n x
theorem WideT.g {H : Hp} {T : Addr} {ws : List Str} {n : Nat} (h : WideT H T ws n) : WideG H T ws n := ⟨h.h, h.l1, h.n1, h.n40, h.ok⟩
theorem WideG.same {H H' : Hp} {T : Addr} {ws : List Str} {n : Nat} (h : WideG H T ws n) (e : Same H H') : WideG H' T ws n := ⟨e _ _ h.h, h.l1, h.n1, h.n40, h.ok⟩
theorem WideG.hd {H : Hp} {T : Addr} {ws : List Str} {n : Nat} (h : WideG H T ws n) : ∃ x, ws[0]? = some x ∧ x.length = n ∧ x ∈ ws := ⟨ws[0]'h.l1, List.getElem?_eq_getElem h.l1, (h.ok _ (List.getElem_mem _)).1, List.getElem_mem _⟩
/-- the mask is one of the wide lot's -/
def hasM (n : Nat) (ws : List Str) (m : Nat) : Bool := ws.any fun x => fitL (bitsL n m) x.cps.toList
def hasW (n : Nat) (ws : List Str) (d : PyData) : Bool := isM n d && hasM n ws (iv d).toNat
theorem str1_eq {c d : Nat} : ((⟨#[c]⟩ : Str) == ⟨#[d]⟩) = decide (c = d) := by
  by_cases h : c = d
  · rw [h, decide_eq_true rfl]
    exact beq_self_eq_true _
  · rw [decide_eq_false h]
    refine beq_eq_false_iff_ne.mpr fun e => h ?_
    have := congrArg (fun s : Str => s.cps.toList) e
    simpa using this
theorem in_sign {c d : Nat} : inV (.str ⟨#[d]⟩) [.str ⟨#[c]⟩, .str "?"] = (decide (d = c) || decide (d = 63)) := by
  have e : (Str.ofString "?") = ⟨#[63]⟩ := by decide +kernel
  show ((⟨#[c]⟩ : Str) == ⟨#[d]⟩ || ((Str.ofString "?" == (⟨#[d]⟩ : Str)) || false)) = _
  rw [e, str1_eq, str1_eq, Bool.or_false]
  congr 1
  · exact decide_eq_decide.mpr ⟨Eq.symm, Eq.symm⟩
  · exact decide_eq_decide.mpr ⟨Eq.symm, Eq.symm⟩
theorem bAny : bootBuiltins "any" = some (.builtin "any") := by decide +kernel
theorem digW_len {m n : Nat} (h1 : 1 ≤ n) (h : m < 2 ^ n) : (digW m n).cps.size = n := by rw [← Array.length_toList, digW_bits h1 h, bitsL_len]
end XT
/-! texts of signs -/
namespace XT
open PySem PySem.Spec PyProof.Rows L2
theorem join_signs : ∀ cs : List Nat, (Str.join Str.empty (cs.map fun c => (⟨#[c]⟩ : Str))).cps.toList = cs
  | [] => rfl
  | [a] => rfl
  | a :: b :: r => by
    have ih := join_signs (b :: r)
    have e : Str.join Str.empty ((a :: b :: r).map fun c => (⟨#[c]⟩ : Str)) = (⟨#[a]⟩ : Str) ++ Str.empty ++ Str.join Str.empty ((b :: r).map fun c => (⟨#[c]⟩ : Str)) := rfl
    have ea : ∀ x y : Str, (x ++ y).cps.toList = x.cps.toList ++ y.cps.toList := fun x y => by
      show (x.cps ++ y.cps).toList = _
      simp
    rw [e, ea, ea, ih]
    rfl
theorem txt01 {k : Nat} (h : k < 2) : Str.ofString (toString ((k : Nat) : Int)) = ⟨#[48 + k]⟩ := by
  match k, h with
  | 0, _ => decide +kernel
  | 1, _ => decide +kernel
theorem ones_sum : ∀ cs : List Nat, ((cs.map fun c => (⟨#[c]⟩ : Str)).map (·.length)).sum = cs.length
  | [] => rfl
  | c :: cs => by
    rw [List.map_cons, List.map_cons, List.sum_cons, ones_sum cs, List.length_cons]
    show 1 + _ = _
    omega
theorem str_of_list {x y : Str} (h : x.cps.toList = y.cps.toList) : x = y := by
  cases x with
  | mk a =>
    cases y with
    | mk b =>
      have h : a.toList = b.toList := h
      rw [Array.toList_inj.mp h]
end XT
/-! combined patterns -/
namespace XT
open PySem PySem.Spec PyProof.Rows L2
/-- two signs combined -/
def cch (a b : Nat) : Nat := if a = 63 ∨ b = 63 then 63 else if a = b then 48 else 49
def combL (xs ys : List Nat) : List Nat := (xs.zip ys).map fun q => cch q.1 q.2
/-- two patterns combined -/
def comb (x y : Str) : Str := ⟨(combL x.cps.toList y.cps.toList).toArray⟩
theorem comb_list (x y : Str) : (comb x y).cps.toList = combL x.cps.toList y.cps.toList := List.toList_toArray ..
theorem combL_len (xs ys : List Nat) (h : xs.length = ys.length) : (combL xs ys).length = xs.length := by
  unfold combL
  rw [List.length_map, List.length_zip]
  omega
theorem cch_sgn {a b : Nat} : sgn3 (cch a b) = true := by
  unfold cch
  split
  · rfl
  · split <;> rfl
theorem okW_comb {n : Nat} {x y : Str} (hx : OkW n x) (hy : y.length = n) : OkW n (comb x y) := by
  have lx : x.cps.toList.length = n := by rw [Array.length_toList]; exact hx.1
  have ly : y.cps.toList.length = n := by rw [Array.length_toList]; exact hy
  refine ⟨?_, fun c hc => ?_⟩
  · have : (comb x y).cps.toList.length = n := by rw [comb_list, combL_len _ _ (by omega)]; exact lx
    rw [Array.length_toList] at this
    exact this
  · rw [comb_list] at hc
    obtain ⟨q, _, rfl⟩ := List.mem_map.mp hc
    exact cch_sgn
theorem strV_eq {c d : Nat} : decide ((V.str ⟨#[c]⟩ : V) = .str ⟨#[d]⟩) = decide (c = d) := by
  refine decide_eq_decide.mpr ⟨fun h => ?_, fun h => by rw [h]⟩
  have := congrArg (fun s : Str => s.cps.toList) (V.str.inj h)
  simpa using this
theorem q_str : (Str.ofString "?") = ⟨#[63]⟩ := by decide +kernel
theorem join_arr (cs : List Nat) : Str.join Str.empty (cs.map fun c => (⟨#[c]⟩ : Str)) = ⟨cs.toArray⟩ := str_of_list (by rw [join_signs])
end XT
/-! {e for a in s for b in t}, ints -/
namespace XT
open PySem PySem.Spec PyProof.Rows L2
abbrev C2 (elt ta ia tb ib : Expr) (sc : Scope) (pos : Pos) : Expr := .SetComp elt [⟨ta, ia, [], 0⟩, ⟨tb, ib, [], 0⟩] sc pos
section
variable {prog : Program} {w : World} {A : Around} {R : Result → Shared → Prop} {s : Shared} {elt ta ia tb ib : Expr} {sc : Scope} {pos : Pos} {it acc : Value} {env : Env}
theorem c2_first : compTurn (C2 elt ta ia tb ib sc pos) 0 it acc env = (do
    standAt ia.pos
    match ← pyNext it with
    | none => pure (.done .next)
    | some v =>
      letOwnedTupleGo ta it v
      assign ta env v
      let x ← eval ib env
      standAt ib.pos
      let x ← foldedSetIterable ib env x
      let _ ← runOwn (.compStart (C2 elt ta ia tb ib sc pos) 1 (← holding [x] (pyIter x)) acc env) env
      again (.compLoop (C2 elt ta ia tb ib sc pos) 0 it acc env)) := by rfl
theorem c2_second : compTurn (C2 elt ta ia tb ib sc pos) 1 it acc env = (do
    standAt ib.pos
    match ← pyNext it with
    | none => pure (.done .next)
    | some v =>
      letOwnedTupleGo tb it v
      assign tb env v
      (do let v ← eval elt env; standAt elt.pos; let _ ← call (.builtin "set.add") [acc, v])
      again (.compLoop (C2 elt ta ia tb ib sc pos) 1 it acc env)) := by rfl
abbrev Out (R : Result → Shared → Prop) (M : Model) (A : Around) (env : Env) : Value → Shared → Prop := notedBy M A env fun e s2 => R (.error e) s2
theorem c2_loop0 (hs : ∀ x, foldedSetIterable ib env x = pure x) (J : Nat → Shared → Prop)
    (turn : ∀ n s, J n s → wpAny (model prog w) A (pyNext it) (fun r s1 => match r with
      | none => R (.ok .next) s1
      | some v => wpAny (model prog w) A (letOwnedTupleGo ta it v) (fun _ s2 => wpAny (model prog w) A (assign ta env v) (fun _ s3 => wpAny (model prog w) A (eval ib env) (fun x s4 => wpAny (model prog w) A (pyIter x) (fun it1 s5 =>
          codeAny (model prog w) A (.compStart (C2 elt ta ia tb ib sc pos) 1 it1 acc env) (fun r s6 => match r with
            | .ok _ => ∃ m, m < n ∧ J m s6
            | .error _ => False) s5) (Out R (model prog w) A env) s4) (Out R (model prog w) A env) s3) (Out R (model prog w) A env) s2) (Out R (model prog w) A env) s1) (Out R (model prog w) A env) s) (n : Nat) (h : J n s) :
    codeAny (model prog w) A (.compLoop (C2 elt ta ia tb ib sc pos) 0 it acc env) R s := by
  refine codeAny_loop rfl J (fun n s hJ => ?_) n h
  show wpAny _ A ((compTurn (C2 elt ta ia tb ib sc pos) 0 it acc env).onRaise (fun x => do noteFrame x env; theTreesLotGoes x)) _ _ s
  refine wpAny_noted ?_
  rw [c2_first]
  refine wpAny_bind (wpAny_standAt (wpAny_bind (wpAny_mono (turn n s hJ) (fun r s1 h1 => ?_) fun _ _ z => z)))
  match r, h1 with
  | none, h1 => exact wpAny_pure h1
  | some v, h1 =>
    refine wpAny_bind (wpAny_mono h1 (fun _ s2 h2 => wpAny_bind (wpAny_mono h2 (fun _ s3 h3 => wpAny_bind (wpAny_mono h3 (fun x s4 h4 => ?_) fun _ _ z => z)) fun _ _ z => z)) fun _ _ z => z)
    refine wpAny_bind (wpAny_standAt (wpAny_bind (wpAny_of_eq (hs x) (wpAny_bind (wpAny_holding (wpAny_mono h4 (fun it1 s5 h5 => ?_) fun _ _ z => z))))))
    refine wpAny_bind (wpAny_runOwn ?_)
    rw [Around.mark_none]
    refine codeAny_mono h5 fun r s6 hr => ?_
    match r, hr with
    | .ok f, hr => exact wpAny_pure ⟨rfl, hr⟩
    | .error e, hr => exact hr.elim
theorem c2_loop1 (J : Nat → Shared → Prop)
    (turn : ∀ n s, J n s → wpAny (model prog w) A (pyNext it) (fun r s1 => match r with
      | none => R (.ok .next) s1
      | some v => wpAny (model prog w) A (letOwnedTupleGo tb it v) (fun _ s2 => wpAny (model prog w) A (assign tb env v) (fun _ s3 => wpAny (model prog w) A (eval elt env) (fun x s4 =>
          wpAny (model prog w) A (call (.builtin "set.add") [acc, x]) (fun _ s5 => ∃ m, m < n ∧ J m s5) (Out R (model prog w) A env) s4) (Out R (model prog w) A env) s3) (Out R (model prog w) A env) s2) (Out R (model prog w) A env) s1) (Out R (model prog w) A env) s) (n : Nat) (h : J n s) :
    codeAny (model prog w) A (.compLoop (C2 elt ta ia tb ib sc pos) 1 it acc env) R s := by
  refine codeAny_loop rfl J (fun n s hJ => ?_) n h
  show wpAny _ A ((compTurn (C2 elt ta ia tb ib sc pos) 1 it acc env).onRaise (fun x => do noteFrame x env; theTreesLotGoes x)) _ _ s
  refine wpAny_noted ?_
  rw [c2_second]
  refine wpAny_bind (wpAny_standAt (wpAny_bind (wpAny_mono (turn n s hJ) (fun r s1 h1 => ?_) fun _ _ z => z)))
  match r, h1 with
  | none, h1 => exact wpAny_pure h1
  | some v, h1 =>
    refine wpAny_bind (wpAny_mono h1 (fun _ s2 h2 => wpAny_bind (wpAny_mono h2 (fun _ s3 h3 => ?_) fun _ _ z => z)) fun _ _ z => z)
    exact wpAny_bind (wpAny_bind (wpAny_mono h3 (fun x s4 h4 => wpAny_bind (wpAny_standAt (wpAny_bind (wpAny_mono h4 (fun _ s5 h5 => wpAny_pure (wpAny_pure ⟨rfl, h5⟩)) fun _ _ z => z)))) fun _ _ z => z))
theorem c2_start (k : Nat) (hk : k = 0 ∨ k = 1) (h0 : codeAny (model prog w) A (.compLoop (C2 elt ta ia tb ib sc pos) k it acc env) R s)
    (h : wpAny (model prog w) A (pyIter it) (fun it2 s2 => codeAny (model prog w) A (.compLoop (C2 elt ta ia tb ib sc pos) k it2 acc env) R s2) (Out R (model prog w) A env) s) :
    codeAny (model prog w) A (.compStart (C2 elt ta ia tb ib sc pos) k it acc env) R s := by
  rcases hk with rfl | rfl
  · refine codeAny_of_tree ?_
    show wpAny _ _ ((compStart (C2 elt ta ia tb ib sc pos) 0 it acc env).onRaise (fun x => do noteFrame x env; standAt theWindowsPlace)) _ _ s
    refine wpAny_notedAt ?_
    unfold compStart
    show wpAny _ _ (ask >>= _) _ _ s
    refine wpAny_bind (wpAny_askSetting (wpAny_ite ?_))
    split
    · exact wpAny_pure (And.intro rfl h0)
    · refine wpAny_bind (wpAny_rule ?_)
      show wpAny _ _ (standAt ia.pos >>= _) _ _ s
      exact wpAny_bind (wpAny_standAt (wpAny_bind (wpAny_mono h (fun it2 s2 h2 => wpAny_pure (And.intro rfl h2)) fun _ _ x => x)))
  · refine codeAny_of_tree ?_
    show wpAny _ _ ((compStart (C2 elt ta ia tb ib sc pos) 1 it acc env).onRaise (fun x => do noteFrame x env; standAt theWindowsPlace)) _ _ s
    refine wpAny_notedAt ?_
    unfold compStart
    show wpAny _ _ (ask >>= _) _ _ s
    refine wpAny_bind (wpAny_askSetting (wpAny_ite ?_))
    split
    · exact wpAny_pure (And.intro rfl h0)
    · refine wpAny_bind (wpAny_rule ?_)
      show wpAny _ _ (standAt ib.pos >>= _) _ _ s
      exact wpAny_bind (wpAny_standAt (wpAny_bind (wpAny_mono h (fun it2 s2 h2 => wpAny_pure (And.intro rfl h2)) fun _ _ x => x)))
end
end XT
/-! sets of numbers and texts whose table can be walked -/
namespace XT
open PySem PySem.Spec PyProof.Rows L2
/-- the key that a value is -/
def kvOf : Value → Key
  | .int k _ => .inl k
  | .str x _ => .inr x
  | _ => .inl 0
abbrev kE (e : Int × Value) : Key := kvOf e.2
def GoodK (w : World) (e : Int × Value) : Prop := keyIs (kE e) e.2 = true ∧ e.1 = keyH w (kE e)
theorem kvOf_is {k : Key} {v : Value} (h : keyIs k v = true) : kvOf v = k := by
  rcases keyIs_shape h with ⟨i, t, rfl, rfl⟩ | ⟨x, t, rfl, rfl⟩ <;> rfl
theorem is_scan {k : Key} {v : Value} (h : keyIs k v = true) : v.scannable = true := by
  rcases keyIs_shape h with ⟨i, t, rfl, rfl⟩ | ⟨x, t, rfl, rfl⟩ <;> rfl
/-- the set at a: S its keys, n their number -/
def SetX (w : World) (h : Heap) (a : Addr) (S : Key → Bool) (n : Nat) : Prop :=
  ∃ o es ep t, h.get? a = some o ∧ o.ExactSet ∧ o.data = .set es ep t ∧ (∀ e ∈ es.toList, GoodK w e) ∧ (es.toList.map kE).Nodup ∧ (∀ k, S k = true ↔ k ∈ es.toList.map kE) ∧
    (es.size < scanBound ∧ es.size = n) ∧ t.fits es.size = true ∧ Ris t.place.toList ∧ (w.params.followText "set-order" = true ∨ t.led = true)
section
variable {P : Program} {w : World} {A : Around} {E : Value → Shared → Prop} {s : Shared} {h h' : Heap} {a : Addr} {S : Key → Bool} {n : Nat}
theorem SetX.at (R : SetX w h a S n) (k : ∀ o, h.get? a = some o → h'.get? a = some o) : SetX w h' a S n := let ⟨o, es, ep, t, ho, r⟩ := R; ⟨o, es, ep, t, k o ho, r⟩
theorem goodK_elems {l : List (Int × Value)} (g : ∀ e ∈ l, GoodK w e) : ElemsOf (mixKind P w) l := fun e he => ⟨⟨kE e, (g e he).1, (g e he).2⟩, is_scan (g e he).1⟩
theorem goodK_mem {l : List (Int × Value)} (g : ∀ e ∈ l, GoodK w e) (k : Key) : k ∈ l.map kE ↔ ∃ e ∈ l, (mixKind P w).is k e.2 = true := by
  refine ⟨fun hk => ?_, fun ⟨e, he, q⟩ => List.mem_map.mpr ⟨e, he, kvOf_is q⟩⟩
  obtain ⟨e, he, rfl⟩ := List.mem_map.mp hk
  exact ⟨e, he, (g e he).1⟩
theorem SetX.of (R : SetX w h a S n) : h.SetOf (mixKind P w) a S n := by
  obtain ⟨o, es, ep, t, ho, hx, hd, g, _, hm, ⟨hb, hn⟩, hf, _⟩ := R
  exact ⟨o, es, ep, t, ho, hx, hd, goodK_elems g, fun k => (hm k).trans (goodK_mem g k), hb, hf, hn⟩
theorem setX_fresh (w : World) (ho : h.get? a = some (newS w)) : SetX w h a (fun _ => false) 0 :=
  ⟨_, #[], 0, _, ho, ⟨rfl, rfl, rfl⟩, rfl, fun e he => by simp at he, by simp, fun k => by simp, ⟨by decide, rfl⟩, rfl, List.Pairwise.nil, by
    cases hc : w.params.followText "set-order"
    · exact .inr rfl
    · exact .inl rfl⟩
/-- what the table's end of an add leaves -/
theorem setX_lay {g : Bool → Sem Unit} (hg : ∀ (b : Bool) (s1 : Shared) (Q' : Unit → Shared → Prop), Q' () s1 → wpAny (model P w) A (g b) Q' E s1)
    {o : Obj} {es e1 : Array (Int × Value)} {ep : Nat} {t t2 : SetTable} (ho : s.heap.get? a = some o) (hx : o.ExactSet) (hd : o.data = .set es ep t) (g1 : ∀ e ∈ e1.toList, GoodK w e) (nd : (e1.toList.map kE).Nodup) (hm : ∀ k, S k = true ↔ k ∈ e1.toList.map kE)
    (hb : e1.size < scanBound) (hf : t2.fits e1.size = true) (hr : Ris t2.place.toList) (hl : w.params.followText "set-order" = true ∨ t2.led = true) {dm : Bool} {R : Option Bool → Shared → Prop}
    (hR : ∀ h', Heap.SameBut a s.heap h' → SetX w h' a S e1.size → R (some true) { s with heap := h' }) :
    wpAny (model P w) A (do
        storeSet a e1 t2
        if (!dm && t2.tooFull) = true then do
            g (relayAll t2 e1 (SetTable.grown e1.size)).2.2
            storeSet a (relayAll t2 e1 (SetTable.grown e1.size)).1 (relayAll t2 e1 (SetTable.grown e1.size)).2.1
            pure (some true)
          else pure (some true)) R E s := by
  refine wpAny_bind (wpAny_storeSet_of ho hd ?_ (fits_of_scanBound hb))
  have ho1 := store_at (es' := e1) (t' := t2) ho hd
  have b1 := Heap.SameBut.update s.heap a (Obj.putSet e1 t2)
  split
  · have pm := relayAll_perm t2 e1 (SetTable.grown e1.size)
    have f3 := relayAll_fits t2 e1 (SetTable.grown e1.size)
    have r3 := relayAll_ris t2 e1 (SetTable.grown e1.size)
    have l3 := relayAll_led t2 e1 (SetTable.grown e1.size)
    generalize relayAll t2 e1 (SetTable.grown e1.size) = Z at pm f3 r3 l3 ⊢
    obtain ⟨e2, t3, gave⟩ := Z
    dsimp only at pm f3 r3 l3 ⊢
    have hsz : e2.size = e1.size := by rw [← Array.length_toList, pm.length_eq, Array.length_toList]
    have hb2 : e2.size < scanBound := by rw [hsz]; exact hb
    refine wpAny_bind (hg _ _ _ (wpAny_bind (wpAny_storeSet_of ho1 rfl ?_ (fits_of_scanBound hb2))))
    exact wpAny_pure (hR _ (b1.trans (Heap.SameBut.update _ a _)) ⟨_, e2, _, t3, store_at (es' := e2) (t' := t3) ho1 rfl, hx, rfl, fun e he => g1 e (pm.mem_iff.mp he), (pm.map kE).nodup_iff.mpr nd, fun k => (hm k).trans (pm.map kE).mem_iff.symm, ⟨hb2, hsz⟩, f3, r3, hl.imp id fun z => by rw [l3]; exact z⟩)
  · exact wpAny_pure (hR _ b1 ⟨_, e1, _, t2, ho1, hx, rfl, g1, nd, hm, ⟨hb, rfl⟩, hf, hr, hl⟩)
theorem setX_put {k : Key} {v : Value} {Q : Bool → Shared → Prop} (R : SetX w s.heap a S n) (hk : keyIs k v = true) (room : n + 1 < scanBound)
    (hQ : ∀ h', Heap.SameBut a s.heap h' → SetX w h' a (fun j => S j || decide (j = k)) (if S k = true then n else n + 1) → Q (!S k) { s with heap := h' }) :
    wpAny (model P w) A (setAddHashed a v ((mixKind P w).hash k)) Q E s := by
  obtain ⟨o, es, ep, t, ho, hx, hd, g, nd, hm, ⟨hb, hn⟩, hf, hr, hl⟩ := R
  have hsc := is_scan hk
  have hel : ElemsOf (mixKind P w) es.toList := goodK_elems g
  have kk := kvOf_is hk
  unfold setAddHashed setAddHashedIn
  refine wpAny_holding (wpAny_bind (wpAny_setState_of ho hd hf ?_))
  dsimp only
  rw [byScan_of hsc hb hel]
  simp only [↓reduceIte]
  unfold setAddByScan
  refine wpAny_bind (wpAny_bind (wpAny_rule (wpAny_bind (wpAny_setScan_of (knd := mixKind P w) hk ho hd hf hel ?_))))
  cases hfi : List.findIdx? (fun e => (mixKind P w).is k e.2) es.toList with
  | some j =>
    dsimp only
    obtain ⟨hj, pj, _⟩ := List.findIdx?_eq_some_iff_getElem.mp hfi
    have hS : S k = true := (hm k).2 ((goodK_mem (P := P) g k).2 ⟨es.toList[j], List.getElem_mem hj, pj⟩)
    have q := hQ s.heap (Heap.SameBut.refl a s.heap) ⟨o, es, ep, t, ho, hx, hd, g, nd, fun i => by
      rw [Bool.or_eq_true, decide_eq_true_eq, ← hm i]
      exact ⟨fun z => z.elim id (fun e => e ▸ hS), .inl⟩, ⟨hb, by rw [if_pos hS]; exact hn⟩, hf, hr, hl⟩
    rw [hS] at q
    exact wpAny_pure (wpAny_pure q)
  | none =>
    dsimp only
    have hno : k ∉ es.toList.map kE := fun z => by
      obtain ⟨e, he, q⟩ := (goodK_mem (P := P) g k).1 z
      have c := List.findIdx?_eq_none_iff.mp hfi e he
      rw [q] at c
      cases c
    have hS : S k = false := by
      cases q : S k with
      | false => rfl
      | true => exact absurd ((hm k).1 q) hno
    have hgw : ∀ (b : Bool) {s1 : Shared} {Q' : Unit → Shared → Prop}, Q' () s1 → wpAny (model P w) A (match b with | true => rule "set.scan.the-table-gave-way" | false => pure ()) Q' E s1 :=
      fun b s1 Q' q => by cases b <;> first | exact wpAny_pure q | exact wpAny_rule q
    have pm := layNew_perm t es ((mixKind P w).hash k) v
    have f1 := layNew_fits t es ((mixKind P w).hash k) v
    have r1 := layNew_ris t es ((mixKind P w).hash k) v hr
    have l1 := layNew_led t es ((mixKind P w).hash k) v
    generalize layNew t es ((mixKind P w).hash k) v = Z at pm f1 r1 l1 ⊢
    obtain ⟨e1, t1, dm, gave⟩ := Z
    dsimp only at pm f1 r1 l1 ⊢
    rw [Array.toList_push] at pm
    have pc : e1.toList.Perm (((mixKind P w).hash k, v) :: es.toList) := pm.trans (List.perm_append_singleton _ _)
    have pk : (e1.toList.map kE).Perm (k :: es.toList.map kE) := by
      have := pc.map kE
      rw [List.map_cons] at this
      rw [show kE ((mixKind P w).hash k, v) = k from kk] at this
      exact this
    have g1 : ∀ e ∈ e1.toList, GoodK w e := fun e he => by
      rcases List.mem_cons.mp (pc.mem_iff.mp he) with z | z
      · rw [z]
        refine ⟨?_, ?_⟩
        · show keyIs (kvOf v) v = true
          rw [kk]; exact hk
        · show keyH w k = keyH w (kvOf v)
          rw [kk]
      · exact g e z
    have nd1 : (e1.toList.map kE).Nodup := pk.nodup_iff.mpr (List.nodup_cons.mpr ⟨hno, nd⟩)
    have m1 : ∀ i, (S i || decide (i = k)) = true ↔ i ∈ e1.toList.map kE := fun i => by
      rw [Bool.or_eq_true, decide_eq_true_eq, hm i, pk.mem_iff, List.mem_cons]
      exact Or.comm
    have hsz : e1.size = n + 1 := by rw [← Array.length_toList, pc.length_eq, List.length_cons, Array.length_toList, hn]
    have hb1 : e1.size < scanBound := by rw [hsz]; exact room
    have hled : w.params.followText "set-order" = true ∨ t1.led = true := hl.imp id fun z => by rw [l1]; exact z
    have fin : ∀ h', Heap.SameBut a s.heap h' → SetX w h' a (fun j => S j || decide (j = k)) e1.size → Q true { s with heap := h' } := fun h' sb r => by
      have q := hQ h' sb
      rw [hS] at q
      rw [hsz] at r
      exact q r
    refine wpAny_bind (hgw _ ?_)
    split
    · refine wpAny_bind ?_
      rw [hashByValue_scannable 8 hsc]
      refine wpAny_pure (setX_lay ?_ ho hx hd g1 nd1 m1 hb1 ?_ ?_ ?_ fun h' sb r => by dsimp only; exact wpAny_pure (fin h' sb r))
      · intro b s1 Q' q; cases b <;> first | exact wpAny_pure q | exact wpAny_rule q
      · first | (split <;> first | exact f1 | exact SetTable.fits_plain_off f1) | exact f1
      · first | (split <;> exact r1) | exact r1
      · first | (split <;> exact hled) | exact hled
    · refine wpAny_bind (wpAny_pure ?_)
      simp only [↓reduceIte]
      exact setX_lay (fun b s1 Q' q => by cases b <;> first | exact wpAny_pure q | exact wpAny_rule q) ho hx hd g1 nd1 m1 hb1 f1 r1 hled fun h' sb r => by dsimp only; exact wpAny_pure (fin h' sb r)
/-- found.add(k) -/
theorem setX_add {k : Key} {v : Value} {Q : Value → Shared → Prop} (R : SetX w s.heap a S n) (hk : keyIs k v = true) (room : n + 1 < scanBound)
    (hQ : ∀ h', Heap.SameBut a s.heap h' → SetX w h' a (fun j => S j || decide (j = k)) (if S k = true then n else n + 1) → Q .none { s with heap := h', toks := s.toks + 1 }) :
    wpAny (model P w) A (call (.builtin "set.add") [.ref a, v]) Q E s := by
  have hS : s.heap.SetOf (mixKind P w) a S n := R.of
  refine wpAny_call_entry F.slot_set_add hS.typeIs F.entry_set_add ?_ (F.args_set_add_2 _ _)
  unfold Builtin.«set.add» Builtin.Frozenset.oneOther
  simp only [List.isEmpty_nil, bind_assoc]
  unfold Builtin.Frozenset.addrOf setAdd
  refine wpAny_bind (wpAny_pure ?_)
  try dsimp only
  refine wpAny_bind (wpAny_pure ?_)
  try dsimp only
  refine wpAny_bind (wpAny_holding (wpAny_bind ((mixKind P w).pyHash hk ?_)))
  refine setX_put (s := { s with toks := s.toks + 1 }) R hk room fun h' sb r => ?_
  exact wpAny_pure ⟨_, rfl, hQ h' sb r⟩
end
/-! the set as a tracked object -/
def SetXO (w : World) (a : Addr) (S : Key → Bool) (n : Nat) : HO := .ext fun h => SetX w h a S n
theorem setXO_new {w : World} {P : Program} {H : Hp} {h : Heap} {a : Addr} {S : Key → Bool} {n : Nat} (R : SetX w h a S n) : ObjOk P w H h a (SetXO w a S n) := by
  have ⟨o, _, _, _, ho, _⟩ := R
  exact ⟨R, ⟨o, ho⟩, fun h1 h2 p k => p.at k⟩
section
variable {X : Cx}
theorem setXO_get {pins : List (Addr × Obj)} {σ : L2.St} {H : Hp} {s : Shared} {a : Addr} {S : Key → Bool} {n : Nat} (I : Inv X pins σ H s) (ha : H a = some (SetXO X.w a S n)) : SetX X.w s.heap a S n := (I.hok a _ ha).1
def rXAdd (w : World) : V → List V → Hp → VK → Prop := fun x xs H Q => ∃ (a : Addr) (k : Key) (S : Key → Bool) (n : Nat), x = V.ref a ∧ xs = [kV k] ∧ H a = some (SetXO w a S n) ∧ n + 1 < scanBound ∧
  Q .non (upd H a (SetXO w a (fun j => S j || decide (j = k)) (if S k = true then n else n + 1)))
theorem mt_xadd : MtR X "set.add" (rXAdd X.w) := by
  intro pins s σ H x xs v us Q I rx rxs h
  obtain ⟨a, k, S, n, rfl, rfl, ha, room, q⟩ := h
  cases rx
  obtain ⟨u, rfl, ru⟩ := rxs.one
  have hk : keyIs k u = true := kV_is (P := X.prog) (w := X.w) ru
  refine setX_add (setXO_get I ha) hk room fun h' sb new => ?_
  have he : ∃ u, h'.get? a = some u := by
    have ⟨o, _, _, _, ho, _⟩ := new
    exact ⟨o, ho⟩
  exact ⟨.non, upd H a (SetXO X.w a (fun j => S j || decide (j = k)) (if S k = true then n else n + 1)), I.write (e := a) (t' := s.toks + 1) (by rw [ha]; trivial) (.inl rfl) (fun b u hb hu => (sb.2 b hb).trans hu) he (setXO_new new), rfl, q⟩
end
end XT
/-! set comprehensions, of any things that can be added: one clause, two clauses -/
namespace XT
open PySem PySem.Spec PyProof.Rows L2
section
variable {X : Cx}
/-- {elt for ta in ia for tb in ib}: D the new set; vs: the names of the block, vb: those of the second target -/
def tScG2 (mk : Addr → HO) (radd : V → List V → Hp → VK → Prop) (wa : TI) (ga : TG) (wb : TI) (gb : TG) (te : TE) (vs vb : List Nat) : TE := fun σ H Q => wa σ H fun J H1 => ∀ D, H1 D = none →
  ∃ W : Nat → Nat → Hp → Prop, (∃ m, W 0 m (upd H1 D (mk D))) ∧ ∀ i m H, W i m H →
    (J.stop i H ∧ Q (.ref D) H) ∨ (J.go i H ∧ ∃ N : Hp → Prop, (∀ H', N H' → ∃ m', m' < m ∧ W (i + 1) m' H') ∧ ∀ x H', J.yld i H x H' → ga x (wipe σ vs) H' fun σ2 H2 => wipe σ2 vs = wipe σ vs ∧
      wb σ2 H2 fun J1 H4 => ∃ W1 : Nat → Nat → Hp → Prop, (∃ m, W1 0 m H4) ∧ ∀ j k H, W1 j k H →
        (J1.stop j H ∧ N H) ∨ (J1.go j H ∧ ∃ N1 : Hp → Prop, (∀ H', N1 H' → ∃ k', k' < k ∧ W1 (j + 1) k' H') ∧ ∀ x H', J1.yld j H x H' → gb x (wipe σ2 vb) H' fun σ3 H5 => wipe σ3 vb = wipe σ2 vb ∧
          te σ3 H5 fun y H6 => radd (.ref D) [y] H6 fun _ H7 => N1 H7))
abbrev BlkG (X : Cx) (sc : Scope) (p : Cx → Prop) : Prop := ∀ (s : Shared) (H : Hp) (C : Addr) (cl : List (Str × Addr)) (fp : List Addr), p (X.blk s H sc (compEnvC sc cl C X.env) fp)
abbrev AddG (X : Cx) (sc : Scope) (radd : V → List V → Hp → VK → Prop) : Prop := ∀ (s : Shared) (H : Hp) (ce : Env) (fp : List Addr), MtR (X.blk s H sc ce fp) "set.add" radd
abbrev MkG (X : Cx) (mk : Addr → HO) : Prop := ∀ (H : Hp) (h : Heap), ObjOk X.prog X.w H (h.push (newS X.w)) h.objs.size (mk h.objs.size)
theorem pe_scG2 {mk : Addr → HO} {radd : V → List V → Hp → VK → Prop} (hmk : MkG X mk) {elt ta ia tb ib : Expr} {sc : Scope} {own : List (Str × Nat)} {vb : List Nat} {pos : Pos} {wa wb : TI} {ga gb : TG} {te : TE} (hadd : AddG X sc radd) (hc : X.calm = true) (hN : X.N.Nodup) (hi : PI X ta ia wa) (ok : BlkOk X.N X.env.scope sc own) (hv : ∀ i ∈ vb, i ∈ own.map (·.2))
    (hg : BlkG X sc fun Y => PG Y ta ga) (hib : BlkG X sc fun Y => PI Y tb ib wb) (hgb : BlkG X sc fun Y => PG Y tb gb) (he : BlkG X sc fun Y => PE Y elt te)
    (hs : ∀ x, foldedSetIterable ia X.env x = pure x := by intro _; rfl) (hs1 : ∀ env x, foldedSetIterable ib env x = pure x := by intro _ _; rfl) :
    PE X (C2 elt ta ia tb ib sc pos) (tScG2 mk radd wa ga wb gb te (own.map (·.2)) vb) := by
  refine ⟨fun pins s σ H Q I h => ?_⟩
  rw [PpSet.eval_SetComp]
  have hfree : ∀ y ∈ sc.names, y.2 = .free → ∃ c, X.env.cells.lookup y.1 = some c := fun y hy e => (ok.free y hy e).elim (fun k => I.ok.has _ (.inl k)) fun k => I.ok.has _ (.inr k)
  refine wpAny_comprehension_free (use := none) rfl hs (closure_ok hfree) ok.kind (fun y hy e => by rw [ok.uniq y hy, e]) (thn (hi.run pins s σ H _ I h) fun xv s1 hx => thn hx fun itv s2 h2 => ?_)
  obtain ⟨it, fp, tn, J, H2, e, I2, T, st2, f2, q⟩ := h2
  subst e
  refine PpSet.newSet_ok (newEnv_comp ?_)
  generalize hD : s2.heap.objs.size = D
  have hDn : H2 D = none := I2.hok.fresh (Nat.le_of_eq hD)
  obtain ⟨W, ⟨m0, w0⟩, turn⟩ := q D hDn
  generalize hs3 : ({ s2 with heap := s2.heap.push (newS X.w) } : Shared) = s3
  have h3 : s3.heap = s2.heap.push (newS X.w) := by rw [← hs3]
  have I3 : Inv X pins σ (upd H2 D (mk D)) s3 := by
    rw [← hs3]
    refine I2.laid (t' := s2.toks) (fun b o e => Heap.get?_push_of_some _ e) (Nat.le_of_eq hD) ?_
    rw [← hD]
    exact hmk _ _
  have f3 : ∀ b ∈ fp, FpOk X pins (upd H2 D (mk D)) b ∧ b < s3.heap.objs.size := fun b hb => by
    obtain ⟨o, e, _⟩ := T.obj _ _ st2 b hb
    have lt := Heap.lt_size e
    refine ⟨⟨?_, (f2 b hb).2⟩, by rw [h3, Heap.size_push]; exact Nat.lt_succ_of_lt lt⟩
    rw [upd_ne (by rw [← hD]; exact Nat.ne_of_lt lt)]
    exact (f2 b hb).1
  have st3 : tn 0 s3.heap := T.keep _ _ _ st2 fun b _ o e => by rw [h3]; exact Heap.get?_push_of_some _ e
  have I4 := block_start I3 ok hN f3
  have pg := hg s3 (upd H2 D (mk D)) s3.heap.objs.size (cellsFrom (s3.heap.objs.size + 1) sc.names (cloFrom X.env.cells sc.names [])) fp
  have pb := hib s3 (upd H2 D (mk D)) s3.heap.objs.size (cellsFrom (s3.heap.objs.size + 1) sc.names (cloFrom X.env.cells sc.names [])) fp
  have pgb := hgb s3 (upd H2 D (mk D)) s3.heap.objs.size (cellsFrom (s3.heap.objs.size + 1) sc.names (cloFrom X.env.cells sc.names [])) fp
  have pe := he s3 (upd H2 D (mk D)) s3.heap.objs.size (cellsFrom (s3.heap.objs.size + 1) sc.names (cloFrom X.env.cells sc.names [])) fp
  show codeAny _ _ (.compStart (C2 elt ta ia tb ib sc pos) 0 (.ref it) (.ref D) (compEnvC sc (cellsFrom (s3.heap.objs.size + 1) sc.names (cloFrom X.env.cells sc.names [])) s3.heap.objs.size X.env)) (compPost (model X.prog X.w) X.A X.xe none (EP X pins σ Q) (.ref D) s3.heap.objs.size) { s3 with heap := pushCells (s3.heap.push { cls := .type "dict", data := .dict #[] }) sc.names }
  have nfp : ∀ b ∈ fp, (upd H2 D (mk D)) b = none := fun b hb => (f3 b hb).1.1
  generalize hce : compEnvC sc (cellsFrom (s3.heap.objs.size + 1) sc.names (cloFrom X.env.cells sc.names [])) s3.heap.objs.size X.env = ce at I4 pg pb pgb pe ⊢
  have cL : ce.locals = s3.heap.objs.size := by subst hce; rfl
  generalize hH3 : upd H2 D (mk D) = H3 at I3 I4 pg pb pgb pe w0 nfp f3
  generalize hs4 : ({ s3 with heap := pushCells (s3.heap.push { cls := .type "dict", data := .dict #[] }) sc.names } : Shared) = s4 at I4 ⊢
  have st4 : tn 0 s4.heap := T.keep _ _ _ st3 fun b _ o e => by rw [← hs4]; exact pushCells_keeps _ _ _ _ (Heap.get?_push_of_some _ e)
  have stat : ∀ {σ' : L2.St} {H' : Hp} {s' : Shared}, Inv (X.blk s3 H3 sc ce fp) [] σ' H' s' → (∀ b ∈ fp, H' b = none) → ∀ b ∈ fp, FpOk (X.blk s3 H3 sc ce fp) [] H' b := fun {σ' H' s'} K' hn b hb =>
    ⟨hn b hb, (K'.ok.exf b hb).1, K'.ok.exfs b hb, .inl hb, fun x c e => (K'.ok.exf b hb).2 x c e, fun p hp => absurd (show p ∈ ([] : List (Addr × Obj)) ++ [] from hp) (by simp)⟩
  have loop : codeAny (model X.prog X.w) X.A (.compLoop (C2 elt ta ia tb ib sc pos) 0 (.ref it) (.ref D) ce) (compPost (model X.prog X.w) X.A X.xe none (EP X pins σ Q) (.ref D) s3.heap.objs.size) s4 := by
    refine c2_loop0 (hs1 ce) (fun n s' => ∃ i H', Inv (X.blk s3 H3 sc ce fp) [] (wipe σ (own.map (·.2))) H' s' ∧ tn i s'.heap ∧ (∀ b ∈ fp, H' b = none) ∧ W i n H') ?_ m0 ⟨0, H3, I4, st4, nfp, w0⟩
    rintro n s5 ⟨i, H5, I5, st5, n5, w5⟩
    rcases turn i n H5 w5 with ⟨stop, qq⟩ | ⟨go, N, hNx, step⟩
    · refine thnF (T.done (X.blk s3 H3 sc ce fp) rfl rfl rfl hc i [] s5 _ H5 (fun _ _ => False) I5 (stat I5 n5) st5 stop) fun r s6 ⟨hr, I6⟩ => ?_
      subst hr
      have I7 : Inv X pins σ H5 s6 := I3.call' (ch := fp) I6.os I6.base I6.hok I6.bare fun b hb => ⟨(f3 b hb).1.2.2.2.1, (f3 b hb).1.2.1, (f3 b hb).1.2.2.2.2.1, (f3 b hb).1.2.2.2.2.2⟩
      have nC : H5 s3.heap.objs.size = none := by
        have z : H5 ce.locals = none := I6.free
        rwa [cL] at z
      obtain ⟨m, hn, _⟩ := I6.loc
      have hn : s6.heap.Ns ce.locals m := hn
      rw [cL] at hn
      obtain ⟨z0, z1, z2, z3, z4, z5⟩ := I3.fpOk (H' := H5) (Nat.le_refl s3.heap.objs.size) nC
      exact ⟨m, hn, fun h9 sb => ⟨.ref D, H5, I7.turned (t' := s6.toks) (fun b o hb e => (sb.2 b hb).trans e) z0 z1 z3 z4 z5, rfl, qq⟩⟩
    · refine thnF (T.item (X.blk s3 H3 sc ce fp) rfl rfl rfl hc i [] s5 _ H5 (fun _ _ => False) I5 (stat I5 n5) st5 go) fun r s6 ⟨u, hr, h6⟩ => ?_
      subst hr
      refine thnF h6 fun _ s7 ⟨x, H7, I7, r7, y7, st7, n7⟩ => ?_
      refine thnF (pg.run _ s7 _ H7 x u _ (I7.pinned (stat I7 n7) (T.obj _ _ st7)) r7 (step x H7 y7)) fun _ s8 ⟨σ8, H8, I8, hw8, q8⟩ => ?_
      have len8 : (wipe σ (own.map (·.2))).length = σ8.length := by rw [← hw8, wipe_length]
      have more8 : ∀ (j : Nat) v, (wipe σ (own.map (·.2)))[j]? = some (some v) → (wipe σ8 vb)[j]? = some (some v) := fun j v e => by
        rw [← hw8] at e
        obtain ⟨e1, e2⟩ := wipe_some e
        rw [wipe_out fun z => e2 (hv j z)]
        exact e1
      have fin : ∀ {s' : Shared} {H' : Hp}, Inv (X.blk s3 H3 sc ce fp) ([] ++ pinsAt fp s7.heap) (wipe σ8 vb) H' s' → N H' →
          ∃ m, m < n ∧ ∃ i H', Inv (X.blk s3 H3 sc ce fp) [] (wipe σ (own.map (·.2))) H' s' ∧ tn i s'.heap ∧ (∀ b ∈ fp, H' b = none) ∧ W i m H' := fun {s' H'} K' nx => by
        obtain ⟨m1, hm, w1⟩ := hNx H' nx
        have old : ∀ b ∈ fp, ∀ o, s7.heap.get? b = some o → s'.heap.get? b = some o ∧ H' b = none := fun b hb o e =>
          have z := K'.pin (b, o) (List.mem_append_right _ (List.mem_append_right _ (mem_pinsAt hb e)))
          ⟨z.1, z.2.1⟩
        refine ⟨m1, hm, i + 1, H', (K'.unpinned (pins := [])).weak (by rw [wipe_length σ8 vb]; exact len8) more8, T.keep _ _ _ st7 fun b hb o e => (old b hb o e).1, fun b hb => ?_, w1⟩
        obtain ⟨o, e, _⟩ := T.obj _ _ st7 b hb
        exact (old b hb o e).2
      refine thnF (pb.run _ s8 σ8 H8 _ I8 q8) fun xv s10 hx => thnF hx fun itv s11 h11 => ?_
      obtain ⟨it1, fp1, tn1, J1, H11, e1, I11, T1, st11, f11, W1, ⟨m1, w1⟩, turn1⟩ := h11
      subst e1
      have stat1 : ∀ {H' : Hp}, (∀ b ∈ fp1, H' b = none) → ∀ b ∈ fp1, FpOk (X.blk s3 H3 sc ce fp) ([] ++ pinsAt fp s7.heap) H' b := fun hn b hb => ⟨hn b hb, (f11 b hb).2⟩
      have inner : codeAny (model X.prog X.w) X.A (.compLoop (C2 elt ta ia tb ib sc pos) 1 (.ref it1) (.ref D) ce) (fun r s' => match r with
          | .ok _ => ∃ m, m < n ∧ ∃ i H', Inv (X.blk s3 H3 sc ce fp) [] (wipe σ (own.map (·.2))) H' s' ∧ tn i s'.heap ∧ (∀ b ∈ fp, H' b = none) ∧ W i m H'
          | .error _ => False) s11 := by
        refine c2_loop1 (fun k s' => ∃ j H', Inv (X.blk s3 H3 sc ce fp) ([] ++ pinsAt fp s7.heap) (wipe σ8 vb) H' s' ∧ tn1 j s'.heap ∧ (∀ b ∈ fp1, H' b = none) ∧ W1 j k H') ?_ m1 ⟨0, H11, I11.weak (wipe_length _ _) (fun j v e => (wipe_some e).1), st11, fun b hb => (f11 b hb).1, w1⟩
        rintro k s12 ⟨j, H12, I12, st12, n12, w12⟩
        rcases turn1 j k H12 w12 with ⟨stop1, nx1⟩ | ⟨go1, N1, hN1, step1⟩
        · refine thnF (T1.done (X.blk s3 H3 sc ce fp) rfl rfl rfl hc j _ s12 (wipe σ8 vb) H12 (fun _ _ => False) I12 (stat1 n12) st12 stop1) fun r s13 ⟨hr, I13⟩ => ?_
          subst hr
          exact fin I13 nx1
        · refine thnF (T1.item (X.blk s3 H3 sc ce fp) rfl rfl rfl hc j _ s12 (wipe σ8 vb) H12 (fun _ _ => False) I12 (stat1 n12) st12 go1) fun r s13 ⟨u1, hr, h13⟩ => ?_
          subst hr
          refine thnF h13 fun _ s14 ⟨x1, H14, I14, r14, y14, st14, n14⟩ => ?_
          refine thnF (pgb.run _ s14 (wipe σ8 vb) H14 x1 u1 _ (I14.pinned (stat1 n14) (T1.obj _ _ st14)) r14 (step1 x1 H14 y14)) fun _ s15 ⟨σ15, H15, I15, hw15, q15⟩ => ?_
          refine thnF (pe.run _ s15 σ15 H15 _ I15 q15) fun z s17 ⟨yv, H17, I17, r17, q17⟩ => ?_
          refine thnF (hadd s3 H3 ce fp _ s17 σ15 H17 (.ref D) [yv] (.ref D) [z] _ I17 rfl (.cons r17 .nil) q17) fun v s18 ⟨_, H18, I18, _, nx⟩ => ?_
          obtain ⟨m2, hm2, w2⟩ := hN1 H18 nx
          have old1 : ∀ b ∈ fp1, ∀ o, s14.heap.get? b = some o → s18.heap.get? b = some o ∧ H18 b = none := fun b hb o e =>
            have z := I18.pin (b, o) (List.mem_append_right _ (List.mem_append_right _ (mem_pinsAt hb e)))
            ⟨z.1, z.2.1⟩
          refine ⟨m2, hm2, j + 1, H18, I18.unpinned.weak (by rw [← hw15, wipe_length]) (fun j v e => by rw [← hw15] at e; exact (wipe_some e).1), T1.keep _ _ _ st14 fun b hb o e => (old1 b hb o e).1, fun b hb => ?_, w2⟩
          obtain ⟨o, e, _⟩ := T1.obj _ _ st14 b hb
          exact (old1 b hb o e).2
      exact c2_start 1 (.inr rfl) inner (T1.self X.A 0 _ _ _ st11 inner)
  exact c2_start 0 (.inl rfl) loop (T.self X.A 0 _ _ _ st4 loop)

/-- {elt for tg in iter if ..} -/
def tScG (mk : Addr → HO) (radd : V → List V → Hp → VK → Prop) (wi : TI) (g : TG) (tt : TT) (te : TE) (vs : List Nat) : TE := fun σ H Q => wi σ H fun J H1 => ∀ D, H1 D = none →
  ∃ W : Nat → Nat → Hp → Prop, (∃ m, W 0 m (upd H1 D (mk D))) ∧ ∀ i m H, W i m H →
    (J.stop i H ∧ Q (.ref D) H) ∨ (J.go i H ∧ ∃ N : Hp → Prop, (∀ H', N H' → ∃ m', m' < m ∧ W (i + 1) m' H') ∧ ∀ x H', J.yld i H x H' → g x (wipe σ vs) H' fun σ2 H2 => wipe σ2 vs = wipe σ vs ∧
      tt σ2 H2 fun b H3 => if b = true then te σ2 H3 fun y H4 => radd (.ref D) [y] H4 fun _ H5 => N H5 else N H3)
theorem pe_scG {mk : Addr → HO} {radd : V → List V → Hp → VK → Prop} (hmk : MkG X mk) {elt tg ia : Expr} {ifs : List Expr} {sc : Scope} {own : List (Str × Nat)} {pos : Pos} {wi : TI} {g : TG} {tt : TT} {te : TE} (hadd : AddG X sc radd) (hc : X.calm = true) (hN : X.N.Nodup) (hi : PI X tg ia wi) (ok : BlkOk X.N X.env.scope sc own)
    (hg : BlkG X sc fun Y => PG Y tg g) (ht : BlkG X sc fun Y => PTs Y ifs tt) (he : BlkG X sc fun Y => PE Y elt te) (hs : ∀ x, foldedSetIterable ia X.env x = pure x := by intro _; rfl) :
    PE X (.SetComp elt [⟨tg, ia, ifs, 0⟩] sc pos) (tScG mk radd wi g tt te (own.map (·.2))) := by
  refine ⟨fun pins s σ H Q I h => ?_⟩
  rw [PpSet.eval_SetComp]
  have hfree : ∀ y ∈ sc.names, y.2 = .free → ∃ c, X.env.cells.lookup y.1 = some c := fun y hy e => (ok.free y hy e).elim (fun k => I.ok.has _ (.inl k)) fun k => I.ok.has _ (.inr k)
  refine wpAny_comprehension_free (use := none) rfl hs (closure_ok hfree) ok.kind (fun y hy e => by rw [ok.uniq y hy, e]) (thn (hi.run pins s σ H _ I h) fun xv s1 hx => thn hx fun itv s2 h2 => ?_)
  obtain ⟨it, fp, tn, J, H2, e, I2, T, st2, f2, q⟩ := h2
  subst e
  refine PpSet.newSet_ok (newEnv_comp ?_)
  generalize hD : s2.heap.objs.size = D
  have hDn : H2 D = none := I2.hok.fresh (Nat.le_of_eq hD)
  obtain ⟨W, ⟨m0, w0⟩, turn⟩ := q D hDn
  generalize hs3 : ({ s2 with heap := s2.heap.push (newS X.w) } : Shared) = s3
  have h3 : s3.heap = s2.heap.push (newS X.w) := by rw [← hs3]
  have I3 : Inv X pins σ (upd H2 D (mk D)) s3 := by
    rw [← hs3]
    refine I2.laid (t' := s2.toks) (fun b o e => Heap.get?_push_of_some _ e) (Nat.le_of_eq hD) ?_
    rw [← hD]
    exact hmk _ _
  have f3 : ∀ b ∈ fp, FpOk X pins (upd H2 D (mk D)) b ∧ b < s3.heap.objs.size := fun b hb => by
    obtain ⟨o, e, _⟩ := T.obj _ _ st2 b hb
    have lt := Heap.lt_size e
    refine ⟨⟨?_, (f2 b hb).2⟩, by rw [h3, Heap.size_push]; exact Nat.lt_succ_of_lt lt⟩
    rw [upd_ne (by rw [← hD]; exact Nat.ne_of_lt lt)]
    exact (f2 b hb).1
  have st3 : tn 0 s3.heap := T.keep _ _ _ st2 fun b _ o e => by rw [h3]; exact Heap.get?_push_of_some _ e
  have I4 := block_start I3 ok hN f3
  have pg := hg s3 (upd H2 D (mk D)) s3.heap.objs.size (cellsFrom (s3.heap.objs.size + 1) sc.names (cloFrom X.env.cells sc.names [])) fp
  have pt := ht s3 (upd H2 D (mk D)) s3.heap.objs.size (cellsFrom (s3.heap.objs.size + 1) sc.names (cloFrom X.env.cells sc.names [])) fp
  have pe := he s3 (upd H2 D (mk D)) s3.heap.objs.size (cellsFrom (s3.heap.objs.size + 1) sc.names (cloFrom X.env.cells sc.names [])) fp
  show codeAny _ _ (.compStart (.SetComp elt [⟨tg, ia, ifs, 0⟩] sc pos) 0 (.ref it) (.ref D) (compEnvC sc (cellsFrom (s3.heap.objs.size + 1) sc.names (cloFrom X.env.cells sc.names [])) s3.heap.objs.size X.env)) (compPost (model X.prog X.w) X.A X.xe none (EP X pins σ Q) (.ref D) s3.heap.objs.size) { s3 with heap := pushCells (s3.heap.push { cls := .type "dict", data := .dict #[] }) sc.names }
  have nfp : ∀ b ∈ fp, (upd H2 D (mk D)) b = none := fun b hb => (f3 b hb).1.1
  generalize hce : compEnvC sc (cellsFrom (s3.heap.objs.size + 1) sc.names (cloFrom X.env.cells sc.names [])) s3.heap.objs.size X.env = ce at I4 pg pt pe ⊢
  have cL : ce.locals = s3.heap.objs.size := by subst hce; rfl
  generalize hH3 : upd H2 D (mk D) = H3 at I3 I4 pg pt pe w0 nfp f3
  generalize hs4 : ({ s3 with heap := pushCells (s3.heap.push { cls := .type "dict", data := .dict #[] }) sc.names } : Shared) = s4 at I4 ⊢
  have st4 : tn 0 s4.heap := T.keep _ _ _ st3 fun b _ o e => by rw [← hs4]; exact pushCells_keeps _ _ _ _ (Heap.get?_push_of_some _ e)
  have stat : ∀ {σ' : L2.St} {H' : Hp} {s' : Shared}, Inv (X.blk s3 H3 sc ce fp) [] σ' H' s' → (∀ b ∈ fp, H' b = none) → ∀ b ∈ fp, FpOk (X.blk s3 H3 sc ce fp) [] H' b := fun {σ' H' s'} K' hn b hb =>
    ⟨hn b hb, (K'.ok.exf b hb).1, K'.ok.exfs b hb, .inl hb, fun x c e => (K'.ok.exf b hb).2 x c e, fun p hp => absurd (show p ∈ ([] : List (Addr × Obj)) ++ [] from hp) (by simp)⟩
  have loop : codeAny (model X.prog X.w) X.A (.compLoop (.SetComp elt [⟨tg, ia, ifs, 0⟩] sc pos) 0 (.ref it) (.ref D) ce) (compPost (model X.prog X.w) X.A X.xe none (EP X pins σ Q) (.ref D) s3.heap.objs.size) s4 := by
    refine PpSet.compLoopS_any (fun n s' => ∃ i H', Inv (X.blk s3 H3 sc ce fp) [] (wipe σ (own.map (·.2))) H' s' ∧ tn i s'.heap ∧ (∀ b ∈ fp, H' b = none) ∧ W i n H') ?_ m0 ⟨0, H3, I4, st4, nfp, w0⟩
    rintro n s5 ⟨i, H5, I5, st5, n5, w5⟩
    rcases turn i n H5 w5 with ⟨stop, qq⟩ | ⟨go, N, hNx, step⟩
    · refine thnF (T.done (X.blk s3 H3 sc ce fp) rfl rfl rfl hc i [] s5 _ H5 (fun _ _ => False) I5 (stat I5 n5) st5 stop) fun r s6 ⟨hr, I6⟩ => ?_
      subst hr
      have I7 : Inv X pins σ H5 s6 := I3.call' (ch := fp) I6.os I6.base I6.hok I6.bare fun b hb => ⟨(f3 b hb).1.2.2.2.1, (f3 b hb).1.2.1, (f3 b hb).1.2.2.2.2.1, (f3 b hb).1.2.2.2.2.2⟩
      have nC : H5 s3.heap.objs.size = none := by
        have z : H5 ce.locals = none := I6.free
        rwa [cL] at z
      obtain ⟨m, hn, _⟩ := I6.loc
      have hn : s6.heap.Ns ce.locals m := hn
      rw [cL] at hn
      obtain ⟨z0, z1, z2, z3, z4, z5⟩ := I3.fpOk (H' := H5) (Nat.le_refl s3.heap.objs.size) nC
      exact ⟨m, hn, fun h9 sb => ⟨.ref D, H5, I7.turned (t' := s6.toks) (fun b o hb e => (sb.2 b hb).trans e) z0 z1 z3 z4 z5, rfl, qq⟩⟩
    · refine thnF (T.item (X.blk s3 H3 sc ce fp) rfl rfl rfl hc i [] s5 _ H5 (fun _ _ => False) I5 (stat I5 n5) st5 go) fun r s6 ⟨u, hr, h6⟩ => ?_
      subst hr
      refine thnF h6 fun _ s7 ⟨x, H7, I7, r7, y7, st7, n7⟩ => ?_
      refine thnF (pg.run _ s7 _ H7 x u _ (I7.pinned (stat I7 n7) (T.obj _ _ st7)) r7 (step x H7 y7)) fun _ s8 ⟨σ8, H8, I8, hw8, q8⟩ => ?_
      refine thnF (pt.run _ s8 σ8 H8 _ I8 q8) fun b s9 ⟨H9, I9, q9⟩ => ?_
      have fin : ∀ {s' : Shared} {H' : Hp}, Inv (X.blk s3 H3 sc ce fp) ([] ++ pinsAt fp s7.heap) σ8 H' s' → N H' →
          ∃ m, m < n ∧ ∃ i H', Inv (X.blk s3 H3 sc ce fp) [] (wipe σ (own.map (·.2))) H' s' ∧ tn i s'.heap ∧ (∀ b ∈ fp, H' b = none) ∧ W i m H' := fun {s' H'} K' nx => by
        obtain ⟨m1, hm, w1⟩ := hNx H' nx
        have old : ∀ b ∈ fp, ∀ o, s7.heap.get? b = some o → s'.heap.get? b = some o ∧ H' b = none := fun b hb o e =>
          have z := K'.pin (b, o) (List.mem_append_right _ (List.mem_append_right _ (mem_pinsAt hb e)))
          ⟨z.1, z.2.1⟩
        refine ⟨m1, hm, i + 1, H', (K'.unpinned (pins := [])).weak (by rw [← hw8, wipe_length]) (fun j v e => by rw [← hw8] at e; exact (wipe_some e).1), T.keep _ _ _ st7 fun b hb o e => (old b hb o e).1, fun b hb => ?_, w1⟩
        obtain ⟨o, e, _⟩ := T.obj _ _ st7 b hb
        exact (old b hb o e).2
      cases b with
      | false =>
        simp only [Bool.false_eq_true, if_false] at q9 ⊢
        exact fin I9 q9
      | true =>
        simp only [if_true] at q9 ⊢
        refine thnF (pe.run _ s9 σ8 H9 _ I9 q9) fun z s10 ⟨yv, H10, I10, r10, q10⟩ => ?_
        exact thnF (hadd s3 H3 ce fp _ s10 σ8 H10 (.ref D) [yv] (.ref D) [z] _ I10 rfl (.cons r10 .nil) q10) fun v s11 ⟨_, H11, I11, _, nx⟩ => fin I11 nx
  exact PpSet.codeAny_compStart_set loop (T.self X.A 0 _ _ _ st4 loop)
theorem mkX {X : Cx} : MkG X fun D => SetXO X.w D (fun _ => false) 0 := fun H h => setXO_new (setX_fresh X.w (Heap.get?_push_size _ rfl))
theorem addX {X : Cx} {sc : Scope} : AddG X sc (rXAdd X.w) := fun s H ce fp => mt_xadd (X := X.blk s H sc ce fp)
end
end XT
/-! sets of texts: sorted, made of a list; what a comprehension leaves -/
namespace XT
open PySem PySem.Spec PyProof.Rows L2
/-- texts in ascending order, each once -/
def SrtS (ss : List Str) : Prop := ss.Pairwise fun a b => a.cps.toList < b.cps.toList
theorem str_inj {x y : Str} (h : x.cps.toList = y.cps.toList) : x = y := by
  cases x with
  | mk a =>
    cases y with
    | mk b =>
      have h : a.toList = b.toList := h
      rw [Array.toList_inj.mp h]
theorem rising_srt : ∀ (l : List Str) (p : Str), risingS p l = true → (p :: l).Nodup → SrtS (p :: l)
  | [], p, _, _ => List.pairwise_singleton _ _
  | x :: l, p, h, d => by
    have h : (!ltCps x.cps.toList p.cps.toList && risingS x l) = true := h
    rw [Bool.and_eq_true, Bool.not_eq_true', ltCps_eq, decide_eq_false_iff_not] at h
    obtain ⟨d1, d2⟩ := List.nodup_cons.mp d
    have ih := rising_srt l x h.2 d2
    have px : p.cps.toList < x.cps.toList := by
      refine Decidable.byContradiction fun z => ?_
      have e := List.le_antisymm (List.not_lt.mp h.1) (List.not_lt.mp z)
      exact d1 (by rw [str_inj e]; exact List.mem_cons_self)
    refine List.pairwise_cons.mpr ⟨fun y hy => ?_, ih⟩
    rcases List.mem_cons.mp hy with rfl | hy
    · exact px
    · exact List.lt_trans px ((List.pairwise_cons.mp ih).1 y hy)
theorem sorted_srt : ∀ {l : List Str}, sortedS l = true → l.Nodup → SrtS l
  | [], _, _ => List.Pairwise.nil
  | x :: l, h, d => rising_srt l x h d
theorem srtS_eq : ∀ {a b : List Str}, SrtS a → SrtS b → (∀ x, x ∈ a ↔ x ∈ b) → a = b
  | [], [], _, _, _ => rfl
  | [], y :: b, _, _, h => absurd ((h y).mpr List.mem_cons_self) (by simp)
  | x :: a, [], _, _, h => absurd ((h x).mp List.mem_cons_self) (by simp)
  | x :: a, y :: b, ha, hb, h => by
    obtain ⟨a1, a2⟩ := List.pairwise_cons.mp ha
    obtain ⟨b1, b2⟩ := List.pairwise_cons.mp hb
    have e : x = y := by
      rcases List.mem_cons.mp ((h x).mp List.mem_cons_self) with e | e
      · exact e
      · rcases List.mem_cons.mp ((h y).mpr List.mem_cons_self) with e2 | e2
        · exact e2.symm
        · exact absurd (List.lt_trans (a1 y e2) (b1 x e)) (List.lt_irrefl _)
    subst e
    refine congrArg _ (srtS_eq a2 b2 fun z => ⟨fun hz => ?_, fun hz => ?_⟩)
    · rcases List.mem_cons.mp ((h z).mp (List.mem_cons_of_mem _ hz)) with e | e
      · exact absurd (a1 z hz) (by rw [e]; exact List.lt_irrefl _)
      · exact e
    · rcases List.mem_cons.mp ((h z).mpr (List.mem_cons_of_mem _ hz)) with e | e
      · exact absurd (b1 z hz) (by rw [e]; exact List.lt_irrefl _)
      · exact e
def strOf : Value → Str
  | .str x _ => x
  | _ => Str.empty
theorem strs_are : ∀ l : List Value, (∀ v ∈ l, ∃ x t, v = Value.str x t) → StrsAre l (l.map strOf)
  | [], _ => .nil
  | v :: l, h => by
    obtain ⟨x, t, rfl⟩ := h v List.mem_cons_self
    exact .cons x t (strs_are l fun u hu => h u (List.mem_cons_of_mem _ hu))
section
variable {P : Program} {w : World} {A : Around} {E : Value → Shared → Prop} {s : Shared} {a : Addr}
theorem sorted_setX {S : Key → Bool} {n : Nat} {Q : Value → Shared → Prop} (R : SetX w s.heap a S n) (hS : ∀ k, S k = true → ∃ x, k = .inr x) (hh : A.handled = none)
    (hQ : ∀ s2 p (out : List Value) (c : Nat) (ss : List Str), (∀ b o, s.heap.get? b = some o → s2.heap.get? b = some o) → s2.gens = s.gens → s2.os = s.os → s.heap.objs.size ≤ p →
      s2.heap.get? p = some (seqObj "list" out.toArray c) → StrsAre out ss → SrtS ss → (∀ x, x ∈ ss ↔ S (.inr x) = true) → ss.length = n → Q (.ref p) s2) :
    wpAny (model P w) A (call (.builtin "sorted") [.ref a]) Q E s := by
  obtain ⟨o, es, ep, t, ho, hex, hd, g, nd, hm, ⟨hb, hn⟩, hf, hr, hl⟩ := R
  refine Calls.call_function_entry kind_sorted plain_sorted entry_sorted (args_sorted1 _) ?_
  unfold Builtin.«sorted»
  refine wpAny_bind (m := checkCount "sorted" 1 1 _) (wpAny_pure (wpAny_bind (collect_set (A := A.in1) hh ⟨o, ho, hex.1, hd⟩ hf hb hr hl fun s1 vs k1 hz g1 o1 pm => ?_)))
  have vl : vs.length = n := by rw [pm.length_eq, List.length_map, Array.length_toList]; exact hn
  have n0 : n ≤ sizeLine := by rw [sizeLine_eq]; unfold scanBound at hb; omega
  have allS : ∀ e ∈ es.toList, ∃ x tk, e.2 = Value.str x tk ∧ kE e = .inr x := fun e he => by
    obtain ⟨x, ex⟩ := hS (kE e) ((hm _).mpr (List.mem_map.mpr ⟨e, he, rfl⟩))
    have gi := (g e he).1
    rw [ex] at gi
    rcases keyIs_shape gi with ⟨i, t, e1, e2⟩ | ⟨y, t, e1, e2⟩
    · cases e1
    · cases e1
      exact ⟨x, t, e2, ex⟩
  have allV : ∀ v ∈ vs, ∃ x tk, v = Value.str x tk := fun v hv => by
    obtain ⟨e, he, q⟩ := List.mem_map.mp (pm.mem_iff.mp hv)
    obtain ⟨x, tk, h1, _⟩ := allS e he
    exact ⟨x, tk, by rw [← q]; exact h1⟩
  have hI := strs_are vs allV
  have pk : (vs.map strOf).Perm (es.toList.map fun e => strOf e.2) := by
    have q := pm.map strOf
    rw [List.map_map] at q
    exact q
  have inj : ∀ x, x ∈ (es.toList.map fun e => strOf e.2) ↔ S (.inr x) = true := fun x => by
    rw [hm, List.mem_map, List.mem_map]
    refine ⟨fun ⟨e, he, q⟩ => ⟨e, he, ?_⟩, fun ⟨e, he, q⟩ => ⟨e, he, ?_⟩⟩
    · obtain ⟨y, tk, h1, h2⟩ := allS e he
      rw [h1] at q
      rw [h2]
      exact congrArg Sum.inr q
    · obtain ⟨y, tk, h1, h2⟩ := allS e he
      rw [h2] at q
      rw [h1]
      exact Sum.inr.inj q
  have ndS : (es.toList.map fun e => strOf e.2).Nodup := by
    have e1 : (es.toList.map kE) = (es.toList.map fun e => strOf e.2).map Sum.inr := by
      rw [List.map_map]
      refine List.map_congr_left fun e he => ?_
      obtain ⟨y, tk, h1, h2⟩ := allS e he
      show kE e = Sum.inr (strOf e.2)
      rw [h2, h1]
      rfl
    rw [e1] at nd
    have nd' := List.pairwise_map.mp nd
    exact nd'.imp fun h e => h (by rw [e])
  refine wpAny_bind (wpAny_newList ?_ (by rw [vl]; exact n0))
  have hoL : (s1.heap.push (seqObj "list" vs.toArray 0)).get? s1.heap.objs.size = some (seqObj "list" vs.toArray 0) := Heap.get?_push_size _ rfl
  refine wpAny_bind (wpAny_holding (wpAny_call_entry slot_list_sort ⟨_, hoL, rfl⟩ entry_list_sort (list_sort_treeKAny strKind_oneLt hoL hI.keysOf (fun v1 v2 rest e => keyKind_strs (by rw [← e]; exact hI)) (by rw [vl]; exact n0) fun st a1 a2 => ⟨_, rfl, ?_⟩) (args_list_sort _)))
  obtain ⟨ss, j1, j2, j3⟩ := sorted_out_str hI a1 a2
  have pn := j2.trans pk
  obtain ⟨c, hc⟩ := sortedHeap_at (vs := vs) (out := (arrOf st).map (·.2)) hoL
  refine wpAny_pure ⟨_, rfl, hQ _ s1.heap.objs.size ((arrOf st).map (·.2)).toList c ss (fun b u e => ?_) g1 o1 hz (by rw [Array.toArray_toList]; exact hc) j1 (sorted_srt j3 (pn.nodup_iff.mpr ndS)) (fun x => by rw [pn.mem_iff, inj]) ?_⟩
  · have q := k1 b u e
    have lt := Heap.lt_size q
    show (sortedHeap (s1.heap.push (seqObj "list" vs.toArray 0)) s1.heap.objs.size vs ((arrOf st).map (·.2))).get? b = some u
    rw [sortedHeap_old (Nat.ne_of_lt lt) (by rw [size_push']; exact Nat.lt_succ_of_lt lt)]
    exact Heap.get?_push_of_some _ q
  · rw [pn.length_eq, List.length_map, Array.length_toList]; exact hn
end
section
variable {X : Cx}
/-- sorted(found), a set of texts -/
def rSortX (w : World) : List V → Hp → VK → Prop := fun vs H Q => ∃ (a : Addr) (S : Key → Bool) (n : Nat), vs = [V.ref a] ∧ H a = some (SetXO w a S n) ∧ (∀ k, S k = true → ∃ x, k = .inr x) ∧
  ∀ (ss : List Str) (p : Addr), SrtS ss → (∀ x : Str, x ∈ ss ↔ S (.inr x) = true) → H p = none → Q (.ref p) (upd H p (.lst (ss.map V.str)))
theorem cr_sortX (hc : X.calm = true) : CallR X (.builtin "sorted") (rSortX X.w) := by
  intro pins s σ H vs us Q I r h
  obtain ⟨a, S, n, rfl, ha, hS, q⟩ := h
  have R := setXO_get I ha
  have n0 : n ≤ sizeLine := by
    obtain ⟨_, _, _, _, _, _, _, _, _, _, ⟨hb, hn⟩, _⟩ := R
    rw [sizeLine_eq]; unfold scanBound at hb; omega
  rw [Vals.ref1 r]
  refine sorted_setX R hS (I.ok.hd hc) fun s2 p out c ss k g o hp hg hi hs hm hl => ?_
  have hn : H p = none := I.hok.fresh hp
  have J : Inv X pins σ (upd H p (.lst (ss.map V.str))) { s with heap := s2.heap, gens := s2.gens, drawn := s2.drawn, toks := s2.toks } :=
    I.call (ch := []) (Un.laid k hp hn) (I.hok.laid k hp ⟨by rw [List.length_map, hl]; exact n0, out, c, vals_of_strs hi, hg⟩) (by rw [g]; exact I.bare) (fun _ z => nomatch z)
  have e : s2 = { s with heap := s2.heap, gens := s2.gens, drawn := s2.drawn, toks := s2.toks } := by
    cases s2; cases s; cases o; rfl
  rw [e]
  exact ⟨.ref p, _, J, rfl, q ss p hs hm hn⟩
end
/-- the texts of a list, as a set -/
def isTx (x : Str) (k : Key) : Bool := match k with
  | .inr y => decide (y = x)
  | .inl _ => false
theorem isTx_eq (x : Str) (k : Key) : decide (k = Sum.inr x) = isTx x k := by
  cases k with
  | inl i => exact decide_eq_false (by simp)
  | inr y =>
    show decide (Sum.inr y = Sum.inr x) = decide (y = x)
    by_cases h : y = x
    · subst h; simp
    · rw [decide_eq_false h, decide_eq_false fun e => h (Sum.inr.inj e)]
def SetIn (l : List Str) : Key → Bool := fun k => l.any fun x => isTx x k
theorem setIn_nil : SetIn [] = fun _ => false := rfl
theorem setIn_add (l : List Str) (x : Str) : (fun j => SetIn l j || decide (j = Sum.inr x)) = SetIn (l ++ [x]) := funext fun j => by
  rw [isTx_eq]
  unfold SetIn
  rw [List.any_append]
  simp
theorem setIn_mem {l : List Str} {x : Str} : SetIn l (.inr x) = true ↔ x ∈ l := by
  unfold SetIn
  rw [List.any_eq_true]
  exact ⟨fun ⟨y, hy, e⟩ => (of_decide_eq_true e : x = y) ▸ hy, fun h => ⟨x, h, decide_eq_true rfl⟩⟩
theorem setIn_txt {l : List Str} {k : Key} (h : SetIn l k = true) : ∃ x, k = .inr x := by
  cases k with
  | inl i =>
    unfold SetIn at h
    obtain ⟨y, _, e⟩ := List.any_eq_true.mp h
    cases e
  | inr x => exact ⟨x, rfl⟩
/-- one text more -/
theorem add_in {w : World} {D : Addr} {l : List Str} {n : Nat} {x : Str} {H : Hp} {N : Hp → Prop} (hD : H D = some (SetXO w D (SetIn l) n)) (hn : n ≤ 4000) (h : ∀ n', n' ≤ n + 1 → N (upd H D (SetXO w D (SetIn (l ++ [x])) n'))) : rXAdd w (.ref D) [.str x] H fun _ H' => N H' := by
  refine ⟨D, .inr x, SetIn l, n, rfl, rfl, hD, by unfold scanBound; omega, ?_⟩
  rw [setIn_add]
  exact h _ (by split <;> omega)
section
variable {w : World} {K : PySem.W.Frag} {a : Addr} {g : TG} {tt : TT} {te : TE} {vs : List Nat} {σ : L2.St} {H1 : Hp} {D : Addr} {Qd : Hp → Prop}
theorem scx_tup {xs : List V} (p : V → Bool) (f : V → Str) (nD : H1 D = none) (hA : SqT K H1 a xs) (hz : xs.length ≤ 1000) (ht : ∀ (i : Nat) x H, xs[i]? = some x → Same H1 H → TurnP g tt te vs σ x (.str (f x)) (p x) H)
    (hd : ∀ H n, Same H1 H → H D = some (SetXO w D (SetIn ((xs.filter p).map f)) n) → Qd H) :
    ∃ W : Nat → Nat → Hp → Prop, (∃ m, W 0 m (upd H1 D (SetXO w D (fun _ => false) 0))) ∧ ∀ i m H, W i m H →
      ((Itt K a).stop i H ∧ Qd H) ∨ ((Itt K a).go i H ∧ ∃ N : Hp → Prop, (∀ H', N H' → ∃ m', m' < m ∧ W (i + 1) m' H') ∧ ∀ x H', (Itt K a).yld i H x H' → g x (wipe σ vs) H' fun σ2 H2 => wipe σ2 vs = wipe σ vs ∧
        tt σ2 H2 fun b H3 => if b = true then te σ2 H3 fun y H4 => rXAdd w (.ref D) [y] H4 fun _ H5 => N H5 else N H3) := by
  refine ⟨fun i m H => m = xs.length - i ∧ i ≤ xs.length ∧ Same H1 H ∧ ∃ n, n ≤ i ∧ H D = some (SetXO w D (SetIn (((xs.take i).filter p).map f)) n), ⟨xs.length, rfl, Nat.zero_le _, same_new nD, 0, Nat.le_refl _, ?_⟩, ?_⟩
  · rw [upd_same]
    show _ = some (SetXO w D (SetIn []) 0)
    rw [setIn_nil]
  rintro i m H ⟨rfl, hi, sm, n, hn, hD⟩
  have q := Same.sqT sm hA
  rcases Nat.lt_or_ge i xs.length with lt | ge
  · have hx : xs[i]? = some xs[i] := List.getElem?_eq_getElem lt
    refine .inr ⟨⟨xs, xs[i], q, hx⟩, fun H' => Same H1 H' ∧ ∃ n, n ≤ i + 1 ∧ H' D = some (SetXO w D (SetIn (((xs.take (i + 1)).filter p).map f)) n), fun H' h => ⟨xs.length - (i + 1), by omega, rfl, lt, h⟩, fun v H' y => ?_⟩
    obtain ⟨eH, fx⟩ := y
    rw [eH]
    have ev : v = xs[i] := by
      have := fx xs q
      rw [hx] at this
      exact (Option.some.inj this).symm
    subst ev
    refine ht i _ H hx sm _ _ (fun hk H3 s3 => ⟨sm.trans s3, n, by omega, ?_⟩) (fun hk H4 s4 => add_in (s4 _ _ hD) (by omega) fun n' hn' => ⟨fun b o e => ?_, n', by omega, ?_⟩)
    · rw [take_one f p hx, hk, s3 _ _ hD]
      simp
    · rw [upd_ne (ne_of_none e nD)]
      exact s4 _ _ (sm _ _ e)
    · rw [upd_same, take_one f p hx, hk]
      rfl
  · have e : i = xs.length := by omega
    subst e
    rw [List.take_length] at hD
    exact .inl ⟨⟨xs, q, Nat.le_refl _⟩, hd H n sm hD⟩
end
end XT
/-! set of a list of texts -/
namespace XT
open PySem PySem.Spec PyProof.Rows L2
theorem keyIs_str (z : Str) (t : Tok) : keyIs (.inr z) (.str z t) = true := by unfold keyIs; exact decide_eq_true rfl
theorem strsK_at {items : Array Value} {ns : List Str} (h : StrsAre items.toList ns) (i : Nat) (v : Value) (e : items[i]? = some v) : ∃ k t, ns[i]? = some k ∧ v = Value.str k t := by
  obtain ⟨y, t, e1, e2⟩ := h.item i v (by rw [Array.getElem?_toList]; exact e)
  exact ⟨y, t, e2, e1⟩
section
variable {P : Program} {w : World} {A : Around} {E : Value → Shared → Prop} {s : Shared}
theorem upd_tx {I : Addr} {fp wr : List Addr} {G : Array GenState → Array GenState → Prop} {n : Nat} {Pv : Nat → Value → Prop} {St : Nat → Shared → Prop} {R : Result → Shared → Prop} (W : WalksS P w A.in1 I fp wr G n Pv St) (S : Addr) (hSf : S ∉ fp) (ns : List Str) (hn : n = ns.length) (hN : n ≤ 4000) (hval : ∀ i v, Pv i v → ∃ k t, ns[i]? = some k ∧ v = .str k t) :
    ∀ (k i c : Nat) (s : Shared), n - i = k → i ≤ n → c ≤ i → St i s → SetX w s.heap S (SetIn (ns.take i)) c → (∀ s' c', c' ≤ n → Moved (S :: wr) G s s' → SetX w s'.heap S (SetIn ns) c' → R (.ok (.ret .none)) s') →
      codeAny (model P w) A (.builtin "set.update.loop" ⟨[.ref S, .ref I], []⟩) R s := by
  have hw1 : S ∉ wr := fun z => hSf (W.sub _ z)
  have hw2 : ∀ b ∈ wr, b ∈ S :: wr := fun b z => List.mem_cons_of_mem _ z
  intro k; induction k with
  | zero =>
    intro i c s hk1 hi hc hst hS hR
    obtain rfl : i = n := by omega
    refine codeAny_builtin F.entry_set_update_loop ?_; rw [Around.under_plainId F.plain_set_update_loop _]
    show wpAny _ A.in1 (pyNext (.ref I) >>= _) _ _ s; refine wpAny_bind (W.done s _ _ hst fun s1 hm => ?_)
    have e0 : ns.take i = ns := List.take_of_length_le (by omega)
    rw [e0] at hS
    show wpAny _ A.in1 (ret Value.none) _ _ s1; exact wpAny_pure (hR s1 c hc (hm.mono hw2) (hS.at fun o z => hm.heap S o hw1 z))
  | succ k ih =>
    intro i c s hk1 hi hc hst hS hR
    have hin : i < n := by omega
    refine codeAny_builtin F.entry_set_update_loop ?_; rw [Around.under_plainId F.plain_set_update_loop _]
    show wpAny _ A.in1 (pyNext (.ref I) >>= _) _ _ s; refine wpAny_bind (W.item i s _ _ hin hst fun v s1 hP hst1 hm => ?_)
    obtain ⟨z, t, hz, rfl⟩ := hval i v hP
    have hS1 : SetX w s1.heap S (SetIn (ns.take i)) c := hS.at fun o e => hm.heap S o hw1 e
    show wpAny _ A.in1 (holding [Value.str z t] (setAdd S (.str z t)) >>= _) _ _ s1; refine wpAny_bind (wpAny_holding ?_)
    have hk : keyIs (.inr z) (.str z t) = true := keyIs_str z t
    unfold setAdd; refine wpAny_holding (wpAny_bind ((mixKind P w).pyHash (k := .inr z) hk ?_))
    refine setX_put (s := { s1 with toks := s1.toks + 1 }) hS1 hk (by unfold scanBound; omega) fun h2 hsb hS2 => ?_
    have ef : (fun j => SetIn (ns.take i) j || decide (j = Sum.inr z)) = SetIn (ns.take (i + 1)) := by rw [setIn_add, List.take_add_one, hz]; rfl
    rw [ef] at hS2
    have ec : (if SetIn (ns.take i) (.inr z) = true then c else c + 1) ≤ i + 1 := by split <;> omega
    refine wpAny_pure ⟨plainId_quiet F.plain_set_update_loop _, ih (i + 1) _ _ (by omega) hin ec (W.frame _ s1 _ _ hst1 (Nat.le_succ _) fun b hb o e => ?_) hS2 fun s3 c' hc' hm3 hS4 => ?_⟩
    · rw [hsb.2 b fun z => hSf (by rw [← z]; exact hb)]; exact e
    · refine hR s3 c' hc' (Moved.trans W.gtrans ((hm.mono hw2).then_heap (Nat.le_succ _) fun b o hb e => ?_) hm3) hS4
      rw [hsb.2 b fun z => hb (by rw [z]; exact List.mem_cons_self)]; exact e
abbrev aftX (w : World) (s : Shared) (ns : List Str) (r : Value) (s2 : Shared) : Prop := r = .none ∧ ∃ (hp : Heap) (tk c : Nat), s2 = { s with heap := hp, toks := tk } ∧ SetX w hp s.heap.objs.size (SetIn ns) c ∧ (∀ b o, s.heap.get? b = some o → hp.get? b = some o)
theorem set_texts {l : Addr} {items : Array Value} (ns : List Str) {Q : Value → Shared → Prop} (hh : A.handled = none) (hl : s.heap.IsList l items) (hit : StrsAre items.toList ns) (hN : ns.length ≤ 4000)
    (h : ∀ (hp : Heap) (tk c : Nat), SetX w hp s.heap.objs.size (SetIn ns) c → (∀ b o, s.heap.get? b = some o → hp.get? b = some o) → Q (.ref s.heap.objs.size) { s with heap := hp, toks := tk }) : wpAny (model P w) A (call (.type "set") [.ref l]) Q E s := by
  have hz : items.size = ns.length := by
    have e := StrsAre.length hit
    rwa [Array.length_toList] at e
  obtain ⟨mc, mt, m0⟩ := F.called_set.mro
  have m1 := F.called_set.made
  have m2 := F.called_set.sub
  have m3 := F.called_set.notType
  have m4 := F.called_set.canCreate
  have m5 := F.typeCall_set_1 (.ref l)
  refine wpAny_call (codeAny_of_tree ?_); show wpAny _ _ (callAny (.type "set") _) _ _ _
  refine wpAny_pure ⟨Code.quiet_builtin _ (by decide +kernel), codeAny_builtin F.entry_type_call ?_⟩; rw [Around.under_plain (weight_type_call_type "set" [.ref l] []) rfl]
  repeat (any_goals (first | assumption | wp_step))
  refine codeAny_mono (code_set_led1 (.ref l) (E := E) (Q₁ := fun v s1 => v = .ref s.heap.objs.size ∧ s1 = withS w s) ⟨rfl, rfl⟩) fun r s1 hr => ?_
  match r, hr with
  | .error e, hr => exact hr
  | .ok .next, hr => exact hr.elim
  | .ok .brk, hr => exact hr.elim
  | .ok .cont, hr => exact hr.elim
  | .ok (.ret v), hr =>
    obtain ⟨rfl, rfl⟩ := hr
    have g0 : (s.heap.push (newS w)).get? s.heap.objs.size = some (newS w) := Heap.get?_push_size _ rfl
    have g1 : Shared.TypeIs (withS w s) (.ref s.heap.objs.size) "set" := ⟨_, g0, rfl⟩
    have g2 := F.called_set.init.lookup
    have g3 := F.called_set.init.bind (.ref s.heap.objs.size)
    repeat (any_goals (first | assumption | wp_step))
    refine codeAny_mono (codeAny_call_builtin (R := wants (aftX w s ns) E) F.called_set.init.plain F.entry_set_init (check_set_init_1 g1 ?_)) fun r2 s2 hr2 => ?_
    · obtain ⟨ol, hol, hcl, nl, hdl⟩ := hl
      obtain ⟨oc, od, odt, osl⟩ := ol
      simp only at hcl hdl
      subst hcl hdl
      have hol1 : (s.heap.push (newS w)).get? l = some { cls := .type "list", dict := od, data := .seq items nl, slots := osl } := Heap.get?_push_of_some _ hol
      have n1 := F.sub_list_set
      have n2 := F.sub_list_frozenset
      have n3 : (Value.type "list" == Value.type "dict") = false := by decide
      have hl1 : (s.heap.push (newS w)).IsList l items := ⟨_, hol1, rfl, nl, rfl⟩
      have lS : l < s.heap.objs.size := Heap.lt_size hol
      have z1 : (s.heap.push (newS w)).objs.size = s.heap.objs.size + 1 := Heap.size_push ..
      unfold Builtin.«set.__init__» noKeywords Builtin.Frozenset.updateFrom
      generalize hPI : pyIter = PI
      wp_walk
      subst hPI
      refine wpAny_pyIter_list hl1 (wpAny_bind (wpAny_runValue ?_))
      refine upd_tx ((Walks.list (by simp [hh]) _ l (by rw [z1]; exact Nat.ne_of_lt (Nat.lt_succ_of_lt lS)) items).toS) s.heap.objs.size (by rw [z1]; simp only [List.mem_cons, List.not_mem_nil, or_false, not_or]; exact ⟨Nat.ne_of_lt (Nat.lt_succ_self _), Nat.ne_of_gt lS⟩) ns hz (by omega) (strsK_at hit) (items.size - 0) 0 0 _ (by omega) (Nat.zero_le _) (Nat.le_refl _)
        ⟨⟨_, Heap.get?_push_size _ rfl, rfl, rfl⟩, hl1.push _⟩ (setX_fresh w (Heap.get?_push_of_some _ g0)) ?_
      intro s3 c3 hc3 hm hS
      obtain ⟨h3, ge, dr, tk, os⟩ := s3
      obtain rfl : ge = s.gens := hm.gens
      obtain rfl : dr = s.drawn := hm.drawn
      obtain rfl : os = s.os := hm.os
      show wpAny _ _ _ _ _ _; refine wpAny_pure ?_
      show wpAny _ _ (ret Value.none) _ _ _; refine wpAny_pure ⟨rfl, h3, tk, _, rfl, hS, fun b o e => ?_⟩
      have b0 : b < s.heap.objs.size := Heap.lt_size e
      exact hm.heap b o (by rw [z1]; simp only [List.mem_cons, List.not_mem_nil, or_false, not_or]; exact ⟨Nat.ne_of_lt b0, Nat.ne_of_lt (Nat.lt_succ_of_lt b0)⟩) (Heap.get?_push_of_some _ (Heap.get?_push_of_some _ e))
    · match r2, hr2 with
      | .error e, hr2 => exact hr2
      | .ok .next, hr2 => exact hr2.elim
      | .ok .brk, hr2 => exact hr2.elim
      | .ok .cont, hr2 => exact hr2.elim
      | .ok (.ret v), hr2 =>
        obtain ⟨rfl, hp, tk, c, rfl, hS, hk⟩ := hr2
        repeat (any_goals (first | assumption | wp_step))
        exact h _ _ _ hS hk
end
section
variable {X : Cx}
def rSetX (K : PySem.W.Frag) (w : World) : List V → Hp → VK → Prop := fun vs H Q => ∃ (a : Addr) (xs : List Str), vs = [V.ref a] ∧ SqL K H a (xs.map V.str) ∧ xs.length ≤ 4000 ∧ ∀ (p : Addr) (c : Nat), H p = none → Q (.ref p) (upd H p (SetXO w p (SetIn xs) c))
theorem cr_setX (hc : X.calm = true) : CallR X (.type "set") (rSetX X.K X.w) := by
  intro pins s σ H vs us Q I r h
  obtain ⟨a, xs, rfl, hs, hN, q⟩ := h
  obtain ⟨its, rv, hl, hz⟩ := I.list hs
  rw [Vals.ref1 r]
  refine set_texts xs (I.ok.hd hc) hl.isList (by simpa using rv.strs) hN fun hp tk c hS hkp => ?_
  exact ⟨.ref _, _, I.laid (t' := tk) hkp (Nat.le_refl _) (setXO_new hS), rfl, q _ c (I.hok.fresh (Nat.le_refl _))⟩
end
end XT
/-! sums of wide lots: patterns and masks -/
namespace XT
open PySem PySem.Spec PyProof.Rows L2
theorem fitL_snoc2 {a p : List Nat} {x c : Nat} (h : a.length = p.length) : fitL (a ++ [x]) (p ++ [c]) = (fitL a p && (decide (c = x) || decide (c = 63))) := by
  unfold fitL
  rw [List.zip_append h, List.all_append]
  simp
theorem combL_snoc2 {xs ys : List Nat} {a b : Nat} (h : xs.length = ys.length) : combL (xs ++ [a]) (ys ++ [b]) = combL xs ys ++ [cch a b] := by
  unfold combL
  rw [List.zip_append h, List.map_append]
  rfl
theorem sgn3_cases {c : Nat} (h : sgn3 c = true) : c = 48 ∨ c = 49 ∨ c = 63 := by
  unfold sgn3 at h
  have h := of_decide_eq_true h
  simpa using h
theorem xor_m2 {a b : Nat} : (a ^^^ b) % 2 = (a + b) % 2 := by
  have h := @Nat.xor_mod_two_eq_one a b
  omega
theorem snoc_len {α : Type} {n : Nat} {p : List α} (h : p.length = n + 1) : ∃ q c, p = q ++ [c] ∧ q.length = n := by
  rcases List.eq_nil_or_concat p with e | ⟨q, c, e⟩
  · rw [e] at h; cases h
  · rw [List.concat_eq_append] at e
    refine ⟨q, c, e, ?_⟩
    rw [e, List.length_append, List.length_singleton] at h
    omega
/-- masks that fit add up to masks that fit the combined pattern -/
theorem fit_comb : ∀ (n : Nat) (p q : List Nat) (a b : Nat), p.length = n → q.length = n → fitL (bitsL n a) p = true → fitL (bitsL n b) q = true → fitL (bitsL n (a ^^^ b)) (combL p q) = true
  | 0, p, q, a, b, hp, hq, _, _ => by
    rw [List.length_eq_zero_iff.mp hp, List.length_eq_zero_iff.mp hq]
    rfl
  | n + 1, p, q, a, b, hp, hq, ha, hb => by
    obtain ⟨p, c, rfl, hp1⟩ := snoc_len hp
    obtain ⟨q, d, rfl, hq1⟩ := snoc_len hq
    have ha : fitL (bitsL n (a / 2) ++ [48 + a % 2]) (p ++ [c]) = true := ha
    have hb : fitL (bitsL n (b / 2) ++ [48 + b % 2]) (q ++ [d]) = true := hb
    rw [fitL_snoc2 (by rw [bitsL_len, hp1]), Bool.and_eq_true, Bool.or_eq_true, decide_eq_true_eq, decide_eq_true_eq] at ha
    rw [fitL_snoc2 (by rw [bitsL_len, hq1]), Bool.and_eq_true, Bool.or_eq_true, decide_eq_true_eq, decide_eq_true_eq] at hb
    have ih := fit_comb n p q (a / 2) (b / 2) hp1 hq1 ha.1 hb.1
    show fitL (bitsL n ((a ^^^ b) / 2) ++ [48 + (a ^^^ b) % 2]) _ = true
    rw [combL_snoc2 (by rw [hp1, hq1]), fitL_snoc2 (by rw [bitsL_len, combL_len _ _ (by rw [hp1, hq1]), hp1]), Bool.and_eq_true, Bool.or_eq_true, decide_eq_true_eq, decide_eq_true_eq, Nat.xor_div_two, xor_m2]
    refine ⟨ih, ?_⟩
    unfold cch
    rcases ha.2 with e1 | e1
    · rcases hb.2 with e2 | e2
      · left
        rw [if_neg (by omega)]
        split <;> omega
      · right
        rw [if_pos (.inr e2)]
    · right
      rw [if_pos (.inl e1)]
/-- a mask that fits the combined pattern is a sum -/
theorem comb_fit : ∀ (n : Nat) (p q : List Nat) (m : Nat), p.length = n → q.length = n → (∀ c ∈ p, sgn3 c = true) → (∀ c ∈ q, sgn3 c = true) → m < 2 ^ n → fitL (bitsL n m) (combL p q) = true →
    ∃ a b, a < 2 ^ n ∧ b < 2 ^ n ∧ fitL (bitsL n a) p = true ∧ fitL (bitsL n b) q = true ∧ m = a ^^^ b
  | 0, p, q, m, hp, hq, _, _, hm, _ => by
    rw [List.length_eq_zero_iff.mp hp, List.length_eq_zero_iff.mp hq]
    exact ⟨0, 0, by decide, by decide, rfl, rfl, by simpa using hm⟩
  | n + 1, p, q, m, hp, hq, sp, sq, hm, h => by
    obtain ⟨p, c, rfl, hp1⟩ := snoc_len hp
    obtain ⟨q, d, rfl, hq1⟩ := snoc_len hq
    have h : fitL (bitsL n (m / 2) ++ [48 + m % 2]) _ = true := h
    rw [combL_snoc2 (by rw [hp1, hq1]), fitL_snoc2 (by rw [bitsL_len, combL_len _ _ (by rw [hp1, hq1]), hp1]), Bool.and_eq_true, Bool.or_eq_true, decide_eq_true_eq, decide_eq_true_eq] at h
    rw [Nat.pow_succ] at hm
    obtain ⟨a, b, ha, hb, fa, fb, e⟩ := comb_fit n p q (m / 2) hp1 hq1 (fun x hx => sp x (List.mem_append_left _ hx)) (fun x hx => sq x (List.mem_append_left _ hx)) (by omega) h.1
    have hc := sgn3_cases (sp c (List.mem_append_right _ (List.mem_singleton.mpr rfl)))
    have hd := sgn3_cases (sq d (List.mem_append_right _ (List.mem_singleton.mpr rfl)))
    obtain ⟨x, y, hx, hy, cx, dy, e2⟩ : ∃ x y : Nat, x < 2 ∧ y < 2 ∧ (c = 48 + x ∨ c = 63) ∧ (d = 48 + y ∨ d = 63) ∧ m % 2 = (x + y) % 2 := by
      have h2 := h.2
      have m2 := Nat.mod_lt m (by decide : 2 > 0)
      generalize m % 2 = z at h2 m2
      unfold cch at h2
      rcases hc with rfl | rfl | rfl <;> rcases hd with rfl | rfl | rfl
      · exact ⟨0, 0, by omega, by omega, .inl rfl, .inl rfl, by simp at h2; omega⟩
      · exact ⟨0, 1, by omega, by omega, .inl rfl, .inl rfl, by simp at h2; omega⟩
      · exact ⟨0, z, by omega, by omega, .inl rfl, .inr rfl, by omega⟩
      · exact ⟨1, 0, by omega, by omega, .inl rfl, .inl rfl, by simp at h2; omega⟩
      · exact ⟨1, 1, by omega, by omega, .inl rfl, .inl rfl, by simp at h2; omega⟩
      · exact ⟨1, (z + 1) % 2, by omega, by omega, .inl rfl, .inr rfl, by omega⟩
      · exact ⟨z, 0, by omega, by omega, .inr rfl, .inl rfl, by omega⟩
      · exact ⟨(z + 1) % 2, 1, by omega, by omega, .inr rfl, .inl rfl, by omega⟩
      · exact ⟨z, 0, by omega, by omega, .inr rfl, .inr rfl, by omega⟩
    refine ⟨2 * a + x, 2 * b + y, by rw [Nat.pow_succ]; omega, by rw [Nat.pow_succ]; omega, ?_, ?_, ?_⟩
    · show fitL (bitsL n ((2 * a + x) / 2) ++ [48 + (2 * a + x) % 2]) _ = true
      rw [show (2 * a + x) / 2 = a by omega, show (2 * a + x) % 2 = x by omega, fitL_snoc2 (by rw [bitsL_len, hp1]), fa]
      rcases cx with e | e <;> simp [e]
    · show fitL (bitsL n ((2 * b + y) / 2) ++ [48 + (2 * b + y) % 2]) _ = true
      rw [show (2 * b + y) / 2 = b by omega, show (2 * b + y) % 2 = y by omega, fitL_snoc2 (by rw [bitsL_len, hq1]), fb]
      rcases dy with e | e <;> simp [e]
    · have q1 : (2 * a + x ^^^ (2 * b + y)) / 2 = m / 2 := by rw [Nat.xor_div_two, show (2 * a + x) / 2 = a by omega, show (2 * b + y) / 2 = b by omega, e]
      have q2 : (2 * a + x ^^^ (2 * b + y)) % 2 = m % 2 := by rw [xor_m2, e2]; omega
      omega
/-- a pattern of the sum -/
def InSum (ws us : List Str) (x : Str) : Prop := ∃ a ∈ ws, ∃ b ∈ us, x = comb a b
def prs2 (l us : List Str) : List Str := l.flatMap fun x => us.map (comb x)
theorem mem_prs2 {l us : List Str} {z : Str} : z ∈ prs2 l us ↔ InSum l us z := by
  unfold prs2 InSum
  rw [List.mem_flatMap]
  constructor
  · rintro ⟨a, ha, h⟩
    obtain ⟨b, hb, e⟩ := List.mem_map.mp h
    exact ⟨a, ha, b, hb, e.symm⟩
  · rintro ⟨a, ha, b, hb, e⟩
    exact ⟨a, ha, List.mem_map.mpr ⟨b, hb, e.symm⟩⟩
theorem prs2_len {us : List Str} : ∀ l : List Str, (prs2 l us).length = l.length * us.length
  | [] => by simp [prs2]
  | x :: l => by
    have ih := prs2_len (us := us) l
    unfold prs2 at ih ⊢
    rw [List.flatMap_cons, List.length_append, List.length_map, ih, List.length_cons, Nat.add_mul]
    omega
theorem hasM_sum {n : Nat} {ws us ss : List Str} (hw : ∀ x ∈ ws, OkW n x) (hu : ∀ x ∈ us, OkW n x) (hs : ∀ x, x ∈ ss ↔ InSum ws us x) {m : Nat} (hm : m < 2 ^ n) : hasM n ss m = true ↔ ∃ a b, a < 2 ^ n ∧ b < 2 ^ n ∧ hasM n ws a = true ∧ hasM n us b = true ∧ m = a ^^^ b := by
  have ln : ∀ {x : Str}, OkW n x → x.cps.toList.length = n := fun h => by rw [Array.length_toList]; exact h.1
  unfold hasM
  constructor
  · intro h
    obtain ⟨x, hx, hf⟩ := List.any_eq_true.mp h
    obtain ⟨p, hp, q, hq, rfl⟩ := (hs x).mp hx
    rw [comb_list] at hf
    obtain ⟨a, b, ha, hb, fa, fb, e⟩ := comb_fit n _ _ m (ln (hw p hp)) (ln (hu q hq)) (hw p hp).2 (hu q hq).2 hm hf
    exact ⟨a, b, ha, hb, List.any_eq_true.mpr ⟨p, hp, fa⟩, List.any_eq_true.mpr ⟨q, hq, fb⟩, e⟩
  · rintro ⟨a, b, ha, hb, h1, h2, rfl⟩
    obtain ⟨p, hp, fa⟩ := List.any_eq_true.mp h1
    obtain ⟨q, hq, fb⟩ := List.any_eq_true.mp h2
    refine List.any_eq_true.mpr ⟨comb p q, (hs _).mpr ⟨p, hp, q, hq, rfl⟩, ?_⟩
    rw [comb_list]
    exact fit_comb n _ _ a b (ln (hw p hp)) (ln (hu q hq)) fa fb
theorem nodupS_le : ∀ {l m : List Str}, l.Nodup → l ⊆ m → l.length ≤ m.length
  | [], _, _, _ => Nat.zero_le _
  | x :: l, m, h, s => by
    obtain ⟨h1, h2⟩ := List.nodup_cons.mp h
    have hx : x ∈ m := s List.mem_cons_self
    have h3 := nodupS_le (l := l) (m := m.erase x) h2 fun y hy => (List.mem_erase_of_ne (fun e => h1 (by rw [← e]; exact hy))).mpr (s (List.mem_cons_of_mem _ hy))
    rw [List.length_erase_of_mem hx] at h3
    have h4 : 0 < m.length := List.length_pos_of_mem hx
    rw [List.length_cons]
    omega
theorem SrtS.nodup {l : List Str} (h : SrtS l) : l.Nodup := by
  refine List.Pairwise.imp ?_ h
  intro a b hlt e
  subst e
  exact List.lt_irrefl _ hlt
theorem sum_len {ws us ss : List Str} (h : SrtS ss) (hs : ∀ x, x ∈ ss ↔ InSum ws us x) : ss.length ≤ ws.length * us.length := by
  rw [← prs2_len]
  exact nodupS_le h.nodup fun x hx => mem_prs2.mpr ((hs x).mp hx)
theorem okW_sum {n : Nat} {ws us ss : List Str} (hw : ∀ x ∈ ws, OkW n x) (hu : ∀ x ∈ us, OkW n x) (hs : ∀ x, x ∈ ss ↔ InSum ws us x) : ∀ x ∈ ss, OkW n x := fun x hx => by
  obtain ⟨a, ha, b, hb, rfl⟩ := (hs x).mp hx
  exact okW_comb (hw a ha) (hu b hb).1
end XT
/-! sums of lots as numbers -/
namespace XT
open PySem PySem.Spec PyProof.Rows L2
/-- how many numbers below N the set has -/
def cnt (N : Nat) (S : Int → Bool) : Nat := ((List.range N).filter fun (m : Nat) => S (m : Int)).length
theorem cnt_le (N : Nat) (S : Int → Bool) : cnt N S ≤ N := by
  unfold cnt
  refine Nat.le_trans (List.length_filter_le _ _) ?_
  rw [List.length_range]
  exact Nat.le_refl _
theorem cnt_succ (N : Nat) (S : Int → Bool) : cnt (N + 1) S = cnt N S + if S (N : Int) = true then 1 else 0 := by
  unfold cnt
  rw [List.range_succ, List.filter_append, List.length_append]
  by_cases h : S (N : Int) = true
  · simp [h]
  · simp [h]
theorem cnt_old {N m : Nat} (S : Int → Bool) (h : N ≤ m) : cnt N (fun j => S j || decide (j = (m : Int))) = cnt N S := by
  unfold cnt
  congr 1
  refine List.filter_congr fun x hx => ?_
  have h2 := List.mem_range.mp hx
  show (S (x : Int) || decide ((x : Int) = (m : Int))) = S (x : Int)
  rw [decide_eq_false (by omega), Bool.or_false]
theorem cnt_add {m : Nat} (S : Int → Bool) : ∀ {N : Nat}, m < N → cnt N (fun j => S j || decide (j = (m : Int))) = if S (m : Int) = true then cnt N S else cnt N S + 1
  | 0, h => absurd h (Nat.not_lt_zero _)
  | N + 1, h => by
    rw [cnt_succ, cnt_succ]
    by_cases e : m = N
    · subst e
      rw [cnt_old S (Nat.le_refl _)]
      by_cases hS : S (m : Int) = true
      · simp [hS]
      · simp [hS]
    · rw [cnt_add S (show m < N by omega), decide_eq_false (show ¬((N : Int) = (m : Int)) by omega), Bool.or_false]
      by_cases hS : S (m : Int) = true
      · simp [hS]
      · simp [hS]; omega
/-- the sum of two lots -/
def addB (n : Nat) (p r : Nat → Bool) (m : Nat) : Bool := (List.range (2 ^ n)).any fun x => p x && r (x ^^^ m)
theorem add_iff {n : Nat} {p r : Nat → Bool} {m : Nat} : addB n p r m = true ↔ ∃ x, x < 2 ^ n ∧ p x = true ∧ r (x ^^^ m) = true := by
  unfold addB
  rw [List.any_eq_true]
  constructor
  · rintro ⟨x, h1, h2⟩
    rw [Bool.and_eq_true] at h2
    exact ⟨x, List.mem_range.mp h1, h2.1, h2.2⟩
  · rintro ⟨x, h1, h2, h3⟩
    exact ⟨x, List.mem_range.mpr h1, by rw [h2, h3]; rfl⟩
def zeroB (m : Nat) : Bool := decide (m = 0)
def sumB (n : Nat) (ps : List (Nat → Bool)) : Nat → Bool := ps.foldl (addB n) zeroB
theorem lot_zero (n : Nat) : lotOf n zeroB = [0] := by
  have h : ∀ N, 0 < N → (List.range N).filter zeroB = [0] := by
    intro N hN
    obtain ⟨k, rfl⟩ : ∃ k, N = k + 1 := ⟨N - 1, by omega⟩
    rw [List.range_succ_eq_map, List.filter_cons]
    have e : (List.filter zeroB (List.map Nat.succ (List.range k))) = [] := by
      rw [List.filter_eq_nil_iff]
      intro a ha
      obtain ⟨b, _, rfl⟩ := List.mem_map.mp ha
      simp [zeroB]
    rw [e]
    rfl
  exact h _ (pow0 n)
theorem sum_take {n : Nat} {ps : List (Nat → Bool)} {i : Nat} {p : Nat → Bool} (h : ps[i]? = some p) : sumB n (ps.take (i + 1)) = addB n (sumB n (ps.take i)) p := by
  unfold sumB
  rw [List.take_add_one, h, List.foldl_append]
  rfl
theorem add_congr {n : Nat} {p p' r r' : Nat → Bool} {m : Nat} (hm : m < 2 ^ n) (h1 : ∀ x, x < 2 ^ n → p x = p' x) (h2 : ∀ x, x < 2 ^ n → r x = r' x) : addB n p r m = addB n p' r' m := by
  rw [Bool.eq_iff_iff, add_iff, add_iff]
  constructor
  · rintro ⟨x, a, b, c⟩
    exact ⟨x, a, by rw [← h1 x a]; exact b, by rw [← h2 _ (xor_lt a hm)]; exact c⟩
  · rintro ⟨x, a, b, c⟩
    exact ⟨x, a, by rw [h1 x a]; exact b, by rw [h2 _ (xor_lt a hm)]; exact c⟩
theorem add_zero' {n : Nat} {p : Nat → Bool} {m : Nat} (hm : m < 2 ^ n) : addB n zeroB p m = p m := by
  rw [Bool.eq_iff_iff, add_iff]
  constructor
  · rintro ⟨x, a, b, c⟩
    have : x = 0 := of_decide_eq_true b
    subst this
    rwa [Nat.zero_xor] at c
  · intro h
    exact ⟨0, pow0 n, rfl, by rw [Nat.zero_xor]; exact h⟩
theorem add_comm' {n : Nat} {p r : Nat → Bool} {m : Nat} (hm : m < 2 ^ n) : addB n p r m = addB n r p m := by
  have go : ∀ {p r : Nat → Bool}, addB n p r m = true → addB n r p m = true := fun {p r} h => by
    obtain ⟨x, a, b, c⟩ := add_iff.mp h
    exact add_iff.mpr ⟨x ^^^ m, xor_lt a hm, c, by rw [xor_back]; exact b⟩
  rw [Bool.eq_iff_iff]
  exact ⟨go, go⟩
theorem add_assoc' {n : Nat} {p r o : Nat → Bool} {m : Nat} (hm : m < 2 ^ n) : addB n (addB n p r) o m = addB n p (addB n r o) m := by
  rw [Bool.eq_iff_iff, add_iff, add_iff]
  constructor
  · rintro ⟨x, a, b, c⟩
    obtain ⟨y, a2, b2, c2⟩ := add_iff.mp b
    refine ⟨y, a2, b2, add_iff.mpr ⟨y ^^^ x, xor_lt a2 a, c2, ?_⟩⟩
    have e : y ^^^ x ^^^ (y ^^^ m) = x ^^^ m := by rw [Nat.xor_comm y x, Nat.xor_assoc, ← Nat.xor_assoc y y m, Nat.xor_self, Nat.zero_xor]
    rw [e]
    exact c
  · rintro ⟨y, a2, b2, c⟩
    obtain ⟨z, a, c2, c3⟩ := add_iff.mp c
    refine ⟨y ^^^ z, xor_lt a2 a, add_iff.mpr ⟨y, a2, b2, ?_⟩, ?_⟩
    · have e : y ^^^ (y ^^^ z) = z := by rw [← Nat.xor_assoc, Nat.xor_self, Nat.zero_xor]
      rw [e]
      exact c2
    · have e : y ^^^ z ^^^ m = z ^^^ (y ^^^ m) := by rw [Nat.xor_comm y z, Nat.xor_assoc]
      rw [e]
      exact c3
/-- the greatest addend of p for r -/
def gaB (n : Nat) (p r : Nat → Bool) (m : Nat) : Bool := (lotOf n p).all fun x => r (x ^^^ m)
theorem ga_iff {n : Nat} {p r : Nat → Bool} {m : Nat} : gaB n p r m = true ↔ ∀ x, x < 2 ^ n → p x = true → r (x ^^^ m) = true := by
  unfold gaB
  rw [List.all_eq_true]
  exact ⟨fun h x a b => h x (mem_lot.mpr ⟨a, b⟩), fun h x hx => h x (mem_lot.mp hx).1 (mem_lot.mp hx).2⟩
/-! sums as numbers -/
theorem sum1 {n : Nat} {p : Nat → Bool} {m : Nat} (hm : m < 2 ^ n) : sumB n [p] m = p m := add_zero' hm
theorem sum2 {n : Nat} {p r : Nat → Bool} {m : Nat} (hm : m < 2 ^ n) : sumB n [p, r] m = addB n p r m := add_congr hm (fun _ h => add_zero' h) fun _ _ => rfl
theorem sum3 {n : Nat} {p r o : Nat → Bool} {m : Nat} (hm : m < 2 ^ n) : sumB n [p, r, o] m = addB n (addB n p r) o m := add_congr hm (fun _ h => sum2 h) fun _ _ => rfl
theorem add_or {n : Nat} {p r o : Nat → Bool} {m : Nat} : addB n p (fun x => r x || o x) m = (addB n p r m || addB n p o m) := by
  rw [Bool.eq_iff_iff, Bool.or_eq_true, add_iff, add_iff, add_iff]
  constructor
  · rintro ⟨x, a, b, c⟩
    rcases Bool.or_eq_true_iff.mp c with c | c
    · exact .inl ⟨x, a, b, c⟩
    · exact .inr ⟨x, a, b, c⟩
  · rintro (⟨x, a, b, c⟩ | ⟨x, a, b, c⟩)
    · exact ⟨x, a, b, by rw [c]; rfl⟩
    · exact ⟨x, a, b, by rw [c, Bool.or_true]⟩
def oneB (a m : Nat) : Bool := decide (m = a)
theorem lot_one {n a : Nat} (ha : a < 2 ^ n) : vm (lotOf n (oneB a)) = [.int (a : Int)] := by
  refine (rising_lot (ns := [(a : Int)]) (by simp) fun k => ?_).symm
  constructor
  · intro h
    have : k = (a : Int) := by simpa using h
    exact ⟨a, this, ha, decide_eq_true rfl⟩
  · rintro ⟨m, h1, h2, h3⟩
    have : m = a := of_decide_eq_true h3
    rw [h1, this]
    exact List.mem_singleton.mpr rfl
theorem add_one {n a : Nat} {p : Nat → Bool} {m : Nat} (ha : a < 2 ^ n) (hm : m < 2 ^ n) : addB n (oneB a) p m = p (m ^^^ a) := by
  rw [Bool.eq_iff_iff, add_iff]
  constructor
  · rintro ⟨x, a', b, c⟩
    have : x = a := of_decide_eq_true b
    subst this
    rwa [Nat.xor_comm] at c
  · intro h
    exact ⟨a, ha, decide_eq_true rfl, by rw [Nat.xor_comm]; exact h⟩
theorem lot_mono {n : Nat} {p r : Nat → Bool} (h : ∀ m, m < 2 ^ n → p m = true → r m = true) : (lotOf n p).length ≤ (lotOf n r).length := by
  unfold lotOf
  rw [← List.countP_eq_length_filter, ← List.countP_eq_length_filter]
  exact List.countP_mono_left fun m hm => h m (List.mem_range.mp hm)
theorem nodup_le : ∀ {l m : List Nat}, l.Nodup → l ⊆ m → l.length ≤ m.length
  | [], _, _, _ => Nat.zero_le _
  | x :: l, m, h, s => by
    obtain ⟨h1, h2⟩ := List.nodup_cons.mp h
    have hx : x ∈ m := s List.mem_cons_self
    have h3 := nodup_le (l := l) (m := m.erase x) h2 fun y hy => (List.mem_erase_of_ne (fun e => h1 (by rw [← e]; exact hy))).mpr (s (List.mem_cons_of_mem _ hy))
    rw [List.length_erase_of_mem hx] at h3
    have h4 : 0 < m.length := List.length_pos_of_mem hx
    rw [List.length_cons]
    omega
theorem lot_len_xor {n a : Nat} {p : Nat → Bool} (ha : a < 2 ^ n) : (lotOf n fun m => p (m ^^^ a)).length = (lotOf n p).length := by
  have sub : ∀ {p : Nat → Bool}, (lotOf n p).length ≤ (lotOf n fun m => p (m ^^^ a)).length := fun {p} => by
    have h1 : ((lotOf n p).map fun (m : Nat) => m ^^^ a).Nodup := by
      have h := nodup_lot n p
      unfold List.Nodup at h ⊢
      rw [List.pairwise_map]
      refine h.imp fun {x y} hxy e => hxy ?_
      have e3 := congrArg (· ^^^ a) e
      simpa [Nat.xor_assoc] using e3
    have h2 : ((lotOf n p).map fun (m : Nat) => m ^^^ a) ⊆ (lotOf n fun m => p (m ^^^ a)) := by
      intro z hz
      obtain ⟨m, hm, rfl⟩ := List.mem_map.mp hz
      obtain ⟨h3, h4⟩ := mem_lot.mp hm
      exact mem_lot.mpr ⟨xor_lt h3 ha, by rw [xor_back]; exact h4⟩
    have h3 := nodup_le h1 h2
    rw [List.length_map] at h3
    exact h3
  refine Nat.le_antisymm ?_ sub
  have h := sub (p := fun m => p (m ^^^ a))
  have e : (lotOf n fun m => p (m ^^^ a ^^^ a)) = lotOf n p := lot_congr fun m _ => by rw [xor_back]
  rw [e] at h
  exact h
end XT
/-! how many masks fit patterns: by the first sign -/
namespace XT
open PySem PySem.Spec PyProof.Rows L2
theorem bitsL_cons : ∀ n m : Nat, bitsL (n + 1) m = (48 + m / 2 ^ n % 2) :: bitsL n m
  | 0, m => by
    show [] ++ [48 + m % 2] = _
    rw [Nat.pow_zero, Nat.div_one]
    rfl
  | n + 1, m => by
    show bitsL (n + 1) (m / 2) ++ [48 + m % 2] = _
    rw [bitsL_cons n (m / 2), Nat.div_div_eq_div_mul, Nat.mul_comm, ← Nat.pow_succ]
    rfl
theorem bitsL_mod : ∀ n m : Nat, bitsL n (m % 2 ^ n) = bitsL n m
  | 0, _ => rfl
  | n + 1, m => by
    show bitsL n (m % 2 ^ (n + 1) / 2) ++ [48 + m % 2 ^ (n + 1) % 2] = bitsL n (m / 2) ++ [48 + m % 2]
    have e1 : m % 2 ^ (n + 1) / 2 = m / 2 % 2 ^ n := by
      rw [Nat.pow_succ, Nat.mul_comm, Nat.mod_mul_right_div_self]
    have e2 : m % 2 ^ (n + 1) % 2 = m % 2 := Nat.mod_mod_of_dvd m ⟨2 ^ n, by rw [Nat.pow_succ, Nat.mul_comm]⟩
    rw [e1, e2, bitsL_mod n (m / 2)]
/-- what is left of the patterns behind a digit -/
def InAft (d : Nat) (rs : List Str) (x : Str) : Prop := ∃ r ∈ rs, ∃ c, r.cps.toList = c :: x.cps.toList ∧ (c = d ∨ c = 63)
theorem hasM_aft {k b m : Nat} {rs ss : List Str} (hk : ∀ x ∈ rs, x.cps.toList.length = k + 1) (hs : ∀ x, x ∈ ss ↔ InAft (48 + b) rs x) (hb : m / 2 ^ k % 2 = b) : hasM (k + 1) rs m = hasM k ss m := by
  rw [Bool.eq_iff_iff]
  unfold hasM
  rw [List.any_eq_true, List.any_eq_true]
  constructor
  · rintro ⟨r, hr, h⟩
    obtain ⟨c, t, e⟩ : ∃ c t, r.cps.toList = c :: t := by
      have l := hk r hr
      cases h : r.cps.toList with
      | nil => rw [h] at l; cases l
      | cons c t => exact ⟨c, t, rfl⟩
    rw [bitsL_cons, e, hb] at h
    have h : ((decide (c = 48 + b) || decide (c = 63)) && fitL (bitsL k m) t) = true := h
    rw [Bool.and_eq_true, Bool.or_eq_true, decide_eq_true_eq, decide_eq_true_eq] at h
    refine ⟨⟨t.toArray⟩, (hs _).mpr ⟨r, hr, c, by rw [e], h.1⟩, ?_⟩
    show fitL (bitsL k m) (t.toArray).toList = true
    rw [List.toList_toArray]
    exact h.2
  · rintro ⟨x, hx, h⟩
    obtain ⟨r, hr, c, e, hc⟩ := (hs x).mp hx
    refine ⟨r, hr, ?_⟩
    rw [bitsL_cons, e, hb]
    show ((decide (c = 48 + b) || decide (c = 63)) && fitL (bitsL k m) x.cps.toList) = true
    rw [Bool.and_eq_true, Bool.or_eq_true, decide_eq_true_eq, decide_eq_true_eq]
    exact ⟨hc, h⟩
theorem hasM_mod {k m : Nat} {ss : List Str} : hasM k ss (m % 2 ^ k) = hasM k ss m := by
  unfold hasM
  rw [bitsL_mod]
/-- how many masks -/
def cntW (k : Nat) (rs : List Str) : Nat := (lotOf k (hasM k rs)).length
theorem cnt_split {k : Nat} {rs s0 s1 : List Str} (hk : ∀ x ∈ rs, x.cps.toList.length = k + 1) (h0 : ∀ x, x ∈ s0 ↔ InAft 48 rs x) (h1 : ∀ x, x ∈ s1 ↔ InAft 49 rs x) : cntW (k + 1) rs = cntW k s0 + cntW k s1 := by
  unfold cntW lotOf
  rw [Nat.pow_succ, Nat.mul_two, List.range_add, List.filter_append, List.length_append, List.filter_map, List.length_map]
  congr 2
  · refine List.filter_congr fun m hm => ?_
    have hm := List.mem_range.mp hm
    exact hasM_aft (b := 0) hk h0 (by rw [Nat.div_eq_of_lt hm])
  · refine List.filter_congr fun m hm => ?_
    have hm := List.mem_range.mp hm
    show hasM (k + 1) rs (2 ^ k + m) = hasM k s1 m
    rw [hasM_aft (b := 1) hk h1 (by rw [Nat.add_div_left _ (Nat.pos_of_ne_zero (by simp)), Nat.div_eq_of_lt hm]), ← hasM_mod, Nat.add_mod_left, Nat.mod_eq_of_lt hm]
theorem cnt_nil {k : Nat} : cntW k [] = 0 := by
  unfold cntW lotOf
  rw [List.length_eq_zero_iff, List.filter_eq_nil_iff]
  intro m _ h
  cases h
theorem fit_all : ∀ (ds : List Nat), fitL ds (List.replicate ds.length 63) = true
  | [] => rfl
  | d :: ds => by
    show ((decide (63 = d) || decide ((63 : Nat) = 63)) && fitL ds (List.replicate ds.length 63)) = true
    rw [fit_all ds, decide_eq_true (rfl : (63 : Nat) = 63), Bool.or_true]
    rfl
theorem cnt_all {k : Nat} {rs : List Str} {x : Str} (hx : x ∈ rs) (e : x.cps.toList = List.replicate k 63) : cntW k rs = 2 ^ k := by
  unfold cntW lotOf
  rw [List.filter_eq_self.mpr fun m _ => ?_, List.length_range]
  unfold hasM
  refine List.any_eq_true.mpr ⟨x, hx, ?_⟩
  have := fit_all (bitsL k m)
  rw [bitsL_len] at this
  rw [e]
  exact this
theorem cntW_le {k : Nat} {rs : List Str} : cntW k rs ≤ 2 ^ k := by
  unfold cntW lotOf
  refine Nat.le_trans (List.length_filter_le _ _) ?_
  rw [List.length_range]
  exact Nat.le_refl _
theorem cnt_congr {k : Nat} {rs ss : List Str} (h : ∀ x, x ∈ rs ↔ x ∈ ss) : cntW k rs = cntW k ss := by
  unfold cntW
  refine congrArg List.length (lot_congr fun m _ => ?_)
  unfold hasM
  rw [Bool.eq_iff_iff, List.any_eq_true, List.any_eq_true]
  exact ⟨fun ⟨x, hx, e⟩ => ⟨x, (h x).mp hx, e⟩, fun ⟨x, hx, e⟩ => ⟨x, (h x).mpr hx, e⟩⟩
/-! the rests that are met -/
/-- a text of k signs -/
def OkK (k : Nat) (x : Str) : Prop := x.cps.size = k ∧ ∀ c ∈ x.cps.toList, sgn3 c = true
/-- rests of k signs, of a wide lot of n signs -/
structure Rst (ws : List Str) (n k : Nat) (rs : List Str) : Prop where
  kn : k ≤ n
  ok : ∀ x ∈ rs, OkK k x
  suf : ∀ x ∈ rs, ∃ y ∈ ws, x.cps.toList = y.cps.toList.drop (n - k)
  srt : SrtS rs ∨ (rs = ws ∧ k = n)
theorem OkK.ln {k : Nat} {x : Str} (h : OkK k x) : x.cps.toList.length = k := by rw [Array.length_toList]; exact h.1
theorem rst_top {ws : List Str} {n : Nat} (h : ∀ x ∈ ws, OkW n x) : Rst ws n n ws := ⟨Nat.le_refl _, fun x hx => h x hx, fun x hx => ⟨x, hx, by rw [Nat.sub_self, List.drop_zero]⟩, .inr ⟨rfl, rfl⟩⟩
theorem Rst.aft {ws rs ss : List Str} {n k d : Nat} (h : Rst ws n (k + 1) rs) (s : SrtS ss) (hs : ∀ x, x ∈ ss ↔ InAft d rs x) : Rst ws n k ss := by
  refine ⟨by have := h.kn; omega, fun x hx => ?_, fun x hx => ?_, .inl s⟩
  · obtain ⟨r, hr, c, e, _⟩ := (hs x).mp hx
    have o := h.ok r hr
    have l := o.ln
    rw [e, List.length_cons] at l
    exact ⟨by rw [← Array.length_toList]; omega, fun z hz => o.2 z (by rw [e]; exact List.mem_cons_of_mem _ hz)⟩
  · obtain ⟨r, hr, c, e, _⟩ := (hs x).mp hx
    obtain ⟨y, hy, e2⟩ := h.suf r hr
    refine ⟨y, hy, ?_⟩
    have kn := h.kn
    have : x.cps.toList = (r.cps.toList).drop 1 := by rw [e]; rfl
    rw [this, e2, List.drop_drop]
    congr 1
    omega
/-- bits as a number -/
def codeB : List Bool → Nat
  | [] => 0
  | b :: l => (if b = true then 1 else 0) + 2 * codeB l
theorem codeB_lt : ∀ l : List Bool, codeB l < 2 ^ l.length
  | [] => by decide
  | b :: l => by
    have := codeB_lt l
    rw [List.length_cons, Nat.pow_succ]
    unfold codeB
    split <;> omega
theorem codeB_inj : ∀ {a b : List Bool}, a.length = b.length → codeB a = codeB b → a = b := by
  intro a
  induction a with
  | nil =>
    intro b h _
    exact (List.length_eq_zero_iff.mp h.symm).symm
  | cons x a ih =>
    intro b h e
    cases b with
    | nil => cases h
    | cons y b =>
      have e2 : (if x = true then 1 else 0) + 2 * codeB a = (if y = true then 1 else 0) + 2 * codeB b := e
      have h2 : a.length = b.length := Nat.succ.inj h
      cases x <;> cases y
      · have e3 : 0 + 2 * codeB a = 0 + 2 * codeB b := e2
        rw [ih h2 (by omega)]
      · have e3 : 0 + 2 * codeB a = 1 + 2 * codeB b := e2
        omega
      · have e3 : 1 + 2 * codeB a = 0 + 2 * codeB b := e2
        omega
      · have e3 : 1 + 2 * codeB a = 1 + 2 * codeB b := e2
        rw [ih h2 (by omega)]
/-- a number for each of the rests -/
def codeR (ws : List Str) (n : Nat) (e : Nat × List Str) : Nat := if e.2 = ws then 0 else 1 + (codeB (ws.map fun y => e.2.any fun x => decide (x.cps.toList = y.cps.toList.drop (n - e.1))) + 2 ^ ws.length * e.1)
theorem codeR_lt {ws : List Str} {n : Nat} {e : Nat × List Str} (h : e.1 ≤ n) : codeR ws n e < 1 + 2 ^ ws.length * (n + 1) := by
  unfold codeR
  have l := codeB_lt (ws.map fun y => e.2.any fun x => decide (x.cps.toList = y.cps.toList.drop (n - e.1)))
  rw [List.length_map] at l
  have m : 2 ^ ws.length * e.1 + 2 ^ ws.length ≤ 2 ^ ws.length * (n + 1) := by
    rw [← Nat.mul_succ]
    exact Nat.mul_le_mul_left _ (by omega)
  split
  · have : 0 < 2 ^ ws.length * (n + 1) := Nat.mul_pos (Nat.pos_of_ne_zero (by simp)) (by omega)
    omega
  · omega
theorem codeR_inj {ws : List Str} {n : Nat} {e g : Nat × List Str} (he : Rst ws n e.1 e.2) (hg : Rst ws n g.1 g.2) (h : codeR ws n e = codeR ws n g) : e.2 = g.2 := by
  unfold codeR at h
  have l1 := codeB_lt (ws.map fun y => e.2.any fun x => decide (x.cps.toList = y.cps.toList.drop (n - e.1)))
  have l2 := codeB_lt (ws.map fun y => g.2.any fun x => decide (x.cps.toList = y.cps.toList.drop (n - g.1)))
  rw [List.length_map] at l1 l2
  by_cases c1 : e.2 = ws
  · by_cases c2 : g.2 = ws
    · rw [c1, c2]
    · rw [if_pos c1, if_neg c2] at h
      omega
  · by_cases c2 : g.2 = ws
    · rw [if_neg c1, if_pos c2] at h
      omega
    · rw [if_neg c1, if_neg c2] at h
      have h := Nat.add_left_cancel h
      have ek : e.1 = g.1 := by
        have q1 := congrArg (· / 2 ^ ws.length) h
        change (_ + 2 ^ ws.length * e.1) / 2 ^ ws.length = (_ + 2 ^ ws.length * g.1) / 2 ^ ws.length at q1
        rw [Nat.add_mul_div_left _ _ (Nat.pos_of_ne_zero (by simp)), Nat.add_mul_div_left _ _ (Nat.pos_of_ne_zero (by simp)), Nat.div_eq_of_lt l1, Nat.div_eq_of_lt l2] at q1
        omega
      rw [ek] at h l1
      have eb := codeB_inj (by rw [List.length_map, List.length_map]) (Nat.add_right_cancel h)
      have s1 : SrtS e.2 := he.srt.elim id fun z => absurd z.1 c1
      have s2 : SrtS g.2 := hg.srt.elim id fun z => absurd z.1 c2
      have mem : ∀ (a b : Nat × List Str), Rst ws n a.1 a.2 → Rst ws n b.1 b.2 → a.1 = b.1 → (ws.map fun y => a.2.any fun x => decide (x.cps.toList = y.cps.toList.drop (n - b.1))) = (ws.map fun y => b.2.any fun x => decide (x.cps.toList = y.cps.toList.drop (n - b.1))) → ∀ x, x ∈ a.2 → x ∈ b.2 := fun a b ha hb k q x hx => by
        obtain ⟨y, hy, ey⟩ := ha.suf x hx
        obtain ⟨i, hi, rfl⟩ := List.getElem_of_mem hy
        have q2 := congrArg (fun l => l[i]?) q
        simp only [List.getElem?_map, List.getElem?_eq_getElem hi, Option.map_some, Option.some.injEq] at q2
        rw [k] at ey
        have t1 : (a.2.any fun x => decide (x.cps.toList = (ws[i]).cps.toList.drop (n - b.1))) = true := List.any_eq_true.mpr ⟨x, hx, decide_eq_true ey⟩
        rw [q2] at t1
        obtain ⟨z, hz, ez⟩ := List.any_eq_true.mp t1
        have ez := of_decide_eq_true ez
        rw [str_inj (ey.trans ez.symm)]
        exact hz
      exact srtS_eq s1 s2 fun x => ⟨mem e g he hg ek eb x, mem g e hg he ek.symm (by rw [ek]; exact eb.symm) x⟩
theorem len_rests {ws : List Str} {n : Nat} {l : List (Nat × List Str)} (hl : ∀ e ∈ l, Rst ws n e.1 e.2) (nd : (l.map (·.2)).Nodup) : l.length ≤ 1 + 2 ^ ws.length * (n + 1) := by
  have n2 : (l.map (codeR ws n)).Nodup := by
    have nd := List.pairwise_map.mp nd
    refine List.pairwise_map.mpr (List.Pairwise.imp_of_mem ?_ nd)
    intro a b ha hb hne e
    exact hne (codeR_inj (hl a ha) (hl b hb) e)
  have q := nodup_le (m := List.range (1 + 2 ^ ws.length * (n + 1))) n2 fun x hx => by
    obtain ⟨e, he, rfl⟩ := List.mem_map.mp hx
    exact List.mem_range.mpr (codeR_lt (hl e he).kn)
  rw [List.length_map, List.length_range] at q
  exact q
end XT
/-! text * int -/
namespace XT
open PySem PySem.Spec PyProof.Rows L2
theorem op_mul_str {X : Cx} : OpR X (binaryOp .Mult) (fun x y H Q => ∃ a n, x = .str a ∧ y = .int n ∧ MulOk a n ∧ Q (.str (Txt.mul a n)) H) := by
  intro pins s σ H x y v u Q I rx ry h
  obtain ⟨a, n, rfl, rfl, hok, q⟩ := h
  obtain ⟨t, rfl⟩ := rx
  obtain ⟨t', rfl⟩ := ry
  exact SB.mul hok fun t' k => ⟨.str (Txt.mul a n), H, I.tok _, ⟨_, rfl⟩, q⟩
end XT
/-! rests_after, allows_all -/
namespace XT
open PySem PySem.Spec PyProof.Rows L2
def rstF : V → Str
  | .str y => cutS y (some 1) none
  | _ => Str.empty
def rstP (d : Nat) : V → Bool
  | .str y => y.cps.toList.headD 0 = d || y.cps.toList.headD 0 = 63
  | _ => false
theorem fold_app : ∀ (l : List (Array Nat)) (acc : Array Nat), (l.foldl (· ++ ·) acc).toList = acc.toList ++ (l.map Array.toList).flatten
  | [], acc => by simp
  | a :: l, acc => by
    rw [List.foldl_cons, fold_app l, Array.toList_append, List.map_cons, List.flatten_cons, List.append_assoc]
theorem str_cons {k : Nat} {y : Str} (h : y.cps.size = k + 1) : ∃ c, y.cps.toList = c :: (y.cps.toList.drop 1) := by
  have l : y.cps.toList.length = k + 1 := by rw [Array.length_toList]; exact h
  cases e : y.cps.toList with
  | nil => rw [e] at l; cases l
  | cons c t => exact ⟨c, rfl⟩
theorem mem_rst {d k : Nat} {rs : List Str} {x : Str} (hk : ∀ y ∈ rs, y.cps.size = k + 1) : x ∈ ((rs.map V.str).filter (rstP d)).map rstF ↔ InAft d rs x := by
  have tl : ∀ y : Str, (cutS y (some 1) none).cps.toList = y.cps.toList.drop 1 := fun y => cut_drop y 1
  rw [List.mem_map]
  constructor
  · rintro ⟨v, hv, rfl⟩
    obtain ⟨hv, hp⟩ := List.mem_filter.mp hv
    obtain ⟨y, hy, rfl⟩ := List.mem_map.mp hv
    obtain ⟨c, e⟩ := str_cons (hk y hy)
    have hp : (decide (y.cps.toList.headD 0 = d) || decide (y.cps.toList.headD 0 = 63)) = true := hp
    rw [e, List.headD_cons, Bool.or_eq_true, decide_eq_true_eq, decide_eq_true_eq] at hp
    refine ⟨y, hy, c, ?_, hp⟩
    rw [show (rstF (V.str y)).cps.toList = y.cps.toList.drop 1 from tl y]
    exact e
  · rintro ⟨y, hy, c, e, hc⟩
    refine ⟨.str y, List.mem_filter.mpr ⟨List.mem_map.mpr ⟨y, hy, rfl⟩, ?_⟩, ?_⟩
    · show (decide (y.cps.toList.headD 0 = d) || decide (y.cps.toList.headD 0 = 63)) = true
      rw [e, List.headD_cons, Bool.or_eq_true, decide_eq_true_eq, decide_eq_true_eq]
      exact hc
    · refine str_inj ?_
      rw [show (rstF (V.str y)).cps.toList = y.cps.toList.drop 1 from tl y, e]
      rfl
section
variable {P : Program} {w : World} {K : PySem.W.Frag} {mg : Str → Option Value} {base : Heap}
abbrev nRa : List Str := ["rests", "digit", "rest"]
theorem scRa : FnScope nRa ["rests", "digit"] (defScope sRestsAfter) := ⟨rfl, rfl, rfl, by decide +kernel, rfl, by decide +kernel, by decide +kernel⟩
def spRa : Sp := fun vs H Q _ => ∃ (T : Addr) (rs : List Str) (d k : Nat), vs = [.ref T, .str ⟨#[d]⟩] ∧ H T = some (.tup (rs.map V.str)) ∧ rs.length ≤ 1000 ∧ (∀ x ∈ rs, x.cps.size = k + 1) ∧ k ≤ 1000 ∧
  ∀ H' T' ss, Same H H' → SrtS ss → (∀ x, x ∈ ss ↔ InAft d rs x) → H' T' = some (.tup (ss.map V.str)) → Q (.ref T') H'
theorem ok_ra {f : Addr} {fd : FuncData} {k : Nat} (B : Bl mg) (F : Fun K "rests_after" "rests_after" sRestsAfter f fd) : FnOk P w K mg base CX0 (k + 1) f fd ["rests", "digit"] spRa := by
  refine F.ok scRa (fun vs H Q E h => ?_) (fun cdv A outer s H vs Q E hr h => ?_)
  · obtain ⟨T, rs, d, k, rfl, _⟩ := h
    rfl
  · obtain ⟨T, rs, d, k, rfl, hT, hl, hk, hk1, q⟩ := h
    refine ⟨_, pss_one (ps_ret (pe_callTy cr_tupO (by rfl) B.tuple bT (pa_cons (pe_callB (cr_sortX rfl) (by rfl) B.sorted bS (pa_cons
      (pe_scG (own := [("rest", 2)]) (g := gName 2) (tt := (tTest (tOp (rIn K false) (tOp rIxS (tVar 2) (tC (.int 0))) (tTup (tCons (tVar 1) (tCons (tC (.str "?")) tNil)))))) mkX addX rfl scRa.nd (pi_tup (pv 0)) (blkOk_by (own := [("rest", 2)]) (N := nRa) (sc := defScope sRestsAfter) (by decide +kernel))
        (fun _ _ _ _ _ => pg_name (i := 2) scRa.nd rfl (Or.inl rfl)) (fun _ _ _ _ _ => pts_one (pt_cmpR op_in_seq (pe_ix ix_str (pv 2) pe_int (fun _ _ => rfl)) (pe_tup (pa_cons (pv 1) (pa_cons pe_str pa_nil))) (by rfl))) (fun _ _ _ _ _ => pe_slice sl_str (pv 2) (po_some pe_int) po_none)) pa_nil)) pa_nil))), ?_⟩
    refine ⟨.ref T, rfl, T, rfl, ⟨_, SqT.of hT⟩, fun D nD => ?_⟩
    refine scx_tup (K := K) (xs := rs.map V.str) (rstP d) rstF nD (SqT.of hT) (by rw [List.length_map]; exact hl) (fun i z H2 hz s2 R1 R2 r1 r2 => ?_) (fun H2 n s2 hD => ?_)
    · rw [List.getElem?_map] at hz
      obtain ⟨y, hy, rfl⟩ := Option.map_eq_some_iff.mp hz
      have hys := hk y (List.mem_of_getElem? hy)
      obtain ⟨c, hc⟩ := str_cons hys
      have hat : atI y.cps.toList 0 = some c := by rw [hc]; exact atI_nat (j := 0) rfl
      have hyz : y.length ≤ sizeLine := szl (m := 10000) (by have : y.length = k + 1 := hys; omega) (by decide)
      refine ⟨rfl, .str y, rfl, y, 0, c, rfl, rfl, hyz, hat, .str ⟨#[d]⟩, rfl, sz (n := 2) (by decide), fun U nU => ⟨U, _, rfl, .inr (SqT.of upd_same), rfl, rfl, inV (.str ⟨#[c]⟩) [.str ⟨#[d]⟩, .str "?"], rfl, ?_⟩⟩
      rw [in_sign]
      have cc := same_new (o := .tup [.str ⟨#[d]⟩, .str "?"]) nU
      have hp : rstP d (.str y) = (decide (c = d) || decide (c = 63)) := by
        show (decide (y.cps.toList.headD 0 = d) || decide (y.cps.toList.headD 0 = 63)) = _
        rw [hc, List.headD_cons]
      cases hb : (decide (c = d) || decide (c = 63)) with
      | true => exact iteT ⟨.str y, rfl, 1, rfl, y, rfl, hyz, r2 (by rw [hp, hb]) _ cc⟩
      | false => exact iteF (r1 (by rw [hp, hb]) _ cc)
    refine ⟨D, _, n, rfl, hD, fun k hk => setIn_txt hk, fun ss L hs hm nL => ?_⟩
    refine ⟨L, _, rfl, .inl ⟨SqL.of upd_same, fun T' nT' => ?_⟩⟩
    exact q _ T' ss ((s2.trans (same_new nL)).trans (same_new nT')) hs (fun x => by rw [hm x, setIn_mem, mem_rst hk]) upd_same
theorem scAa : FnScope ["rests"] ["rests"] (defScope sAllowsAll) := ⟨rfl, rfl, rfl, by decide +kernel, rfl, by decide +kernel, by decide +kernel⟩
theorem flat_strs : ∀ l : List Str, (l.map V.str).all flatV = true
  | [] => rfl
  | _ :: l => flat_strs l
theorem in_strs {x : Str} : ∀ l : List Str, inV (.str x) (l.map V.str) = decide (x ∈ l)
  | [] => rfl
  | y :: l => by
    show (eqV (.str y) (.str x) || inV (.str x) (l.map V.str)) = _
    rw [in_strs l, show eqV (V.str y) (.str x) = (y == x) from rfl, Bool.eq_iff_iff, Bool.or_eq_true, decide_eq_true_eq, decide_eq_true_eq, List.mem_cons, beq_iff_eq]
    exact ⟨fun h => h.imp Eq.symm id, fun h => h.imp Eq.symm id⟩
theorem mulq_list (k : Nat) : (Txt.mul "?" (k : Int)).cps.toList = List.replicate k 63 := by
  have eq1 : (Str.ofString "?").cps = #[63] := by decide +kernel
  unfold Txt.mul
  by_cases h0 : (k : Int) < 1
  · rw [if_pos h0, show k = 0 by omega]
    rfl
  · rw [if_neg h0]
    by_cases h1 : ((k : Int) == 1 || (Str.ofString "?").length == 0) = true
    · rw [if_pos h1]
      have hl : (Str.ofString "?").length = 1 := by decide +kernel
      rw [hl] at h1
      have : (k : Int) = 1 := by simpa using h1
      rw [show k = 1 by omega, eq1]
      rfl
    · rw [if_neg h1]
      show ((List.replicate (k : Int).toNat (Str.ofString "?").cps).foldl (· ++ ·) #[]).toList = _
      rw [fold_app, List.map_replicate, Int.toNat_natCast, eq1]
      show [] ++ (List.replicate k [63]).flatten = _
      rw [List.nil_append, List.flatten_replicate_singleton]
/-- one of the rests has ? everywhere -/
def allQ (k : Nat) (rs : List Str) : Bool := rs.any fun x => decide (x.cps.toList = List.replicate k 63)
def spAa : Sp := fun vs H Q _ => ∃ (T : Addr) (rs : List Str) (k : Nat), vs = [.ref T] ∧ H T = some (.tup (rs.map V.str)) ∧ rs.length ≤ 1000 ∧ (∀ x ∈ rs, x.cps.size = k) ∧ k ≤ 1000 ∧ Q (.bl (allQ k rs)) H
theorem ok_aa {f : Addr} {fd : FuncData} {k : Nat} (B : Bl mg) (F : Fun K "allows_all" "allows_all" sAllowsAll f fd) : FnOk P w K mg base CX0 (k + 1) f fd ["rests"] spAa := by
  refine F.ok scAa (fun vs H Q E h => ?_) (fun cdv A outer s H vs Q E hr h => ?_)
  · obtain ⟨T, rs, k, rfl, _⟩ := h
    rfl
  · obtain ⟨T, rs, k, rfl, hT, hl, hk, hk1, q⟩ := h
    refine ⟨_, pss_one (ps_ret (pe_and (pe_cmpR op_gt (pe_callB call_len_seq (by rfl) B.len PySem.boot_len (pa_cons (pv 0) pa_nil)) pe_int (nomark _)) (pe_one (pe_cmpR op_in_seq (pe_op op_mul_str pe_str (pe_callB call_len_str (by rfl) B.len PySem.boot_len (pa_cons (pe_ix ix_tup (pv 0) pe_int (fun _ _ => rfl)) pa_nil))) (pv 0) (by rfl))))), ?_⟩
    refine ⟨.ref T, rfl, T, _, rfl, .inr (SqT.of hT), ((rs.map V.str).length : Int), 0, rfl, rfl, _, rfl, ?_⟩
    cases rs with
    | nil => exact iteF q
    | cons r rs =>
      have hr : r.length = k := hk r List.mem_cons_self
      rw [decide_eq_true (show (0 : Int) < (((r :: rs).map V.str).length : Int) by rw [List.length_map, List.length_cons]; omega)]
      refine iteT ⟨.ref T, rfl, T, _, 0, .str r, rfl, rfl, SqT.of hT, atI_nat (j := 0) rfl, r, rfl, szl (m := 1000) (by omega) (by decide), _, _, rfl, rfl, PyProof.Rows.mulOk_of 1000 1000 (by decide) (by omega) (by omega) (by omega) (by decide), .ref T, rfl, T, _, rfl, .inr (SqT.of hT), rfl, flat_strs _, ?_⟩
      rw [hr]
      have e : inV (.str (Txt.mul "?" (k : Int))) ((r :: rs).map V.str) = allQ k (r :: rs) := by
        rw [in_strs, Bool.eq_iff_iff, decide_eq_true_eq]
        unfold allQ
        rw [List.any_eq_true]
        exact ⟨fun h => ⟨_, h, decide_eq_true (mulq_list k)⟩, fun ⟨x, hx, e⟩ => by rw [← str_inj ((of_decide_eq_true e).trans (mulq_list k).symm)]; exact hx⟩
      show Q (.bl (inV (.str (Txt.mul "?" (k : Int))) ((r :: rs).map V.str))) H
      rw [e]
      exact q
end
end XT
/-! rests: what stays, levels, their number; differences -/
namespace XT
open PySem PySem.Spec PyProof.Rows L2
def KeepD (D : Addr) (H H' : Hp) : Prop := ∀ b o, b ≠ D → H b = some o → H' b = some o
theorem KeepD.trans {D : Addr} {H H' H'' : Hp} (a : KeepD D H H') (b : KeepD D H' H'') : KeepD D H H'' := fun x o n e => b x o n (a x o n e)
theorem KeepD.of {D : Addr} {H H' : Hp} (s : Same H H') : KeepD D H H' := fun x o _ e => s x o e
theorem Rst.lev {ws rs : List Str} {n k k' : Nat} (h : Rst ws n k rs) (h' : Rst ws n k' rs) (ne : rs ≠ []) : k = k' := by
  obtain ⟨x, hx⟩ := List.exists_mem_of_ne_nil rs ne
  exact (h.ok x hx).1.symm.trans (h'.ok x hx).1
theorem Rst.len {ws rs : List Str} {n k : Nat} (h : Rst ws n k rs) : rs.length ≤ ws.length := by
  rcases h.srt with s | ⟨e, _⟩
  · have q := nodupS_le (m := ws.map fun y => (⟨(y.cps.toList.drop (n - k)).toArray⟩ : Str)) s.nodup fun x hx => by
      obtain ⟨y, hy, e⟩ := h.suf x hx
      refine List.mem_map.mpr ⟨y, hy, str_inj ?_⟩
      show ((y.cps.toList.drop (n - k)).toArray).toList = _
      rw [List.toList_toArray, e]
    rw [List.length_map] at q
    exact q
  · rw [e]
    exact Nat.le_refl _
/-! the least mask that only one of two has -/
def IsDif (k : Nat) (rs us : List Str) : Option Nat → Prop
  | none => ∀ m, m < 2 ^ k → hasM k rs m = hasM k us m
  | some m => m < 2 ^ k ∧ hasM k rs m ≠ hasM k us m ∧ ∀ j, j < m → hasM k rs j = hasM k us j
theorem hasM_lo {k m : Nat} {rs ss : List Str} (hk : ∀ x ∈ rs, x.cps.toList.length = k + 1) (hs : ∀ x, x ∈ ss ↔ InAft 48 rs x) (hm : m < 2 ^ k) : hasM (k + 1) rs m = hasM k ss m := hasM_aft (b := 0) hk hs (by rw [Nat.div_eq_of_lt hm])
theorem hasM_hi {k m : Nat} {rs ss : List Str} (hk : ∀ x ∈ rs, x.cps.toList.length = k + 1) (hs : ∀ x, x ∈ ss ↔ InAft 49 rs x) (hm : m < 2 ^ k) : hasM (k + 1) rs (2 ^ k + m) = hasM k ss m := by
  rw [hasM_aft (b := 1) hk hs (by rw [Nat.add_div_left _ (Nat.pos_of_ne_zero (by simp)), Nat.div_eq_of_lt hm]), ← hasM_mod, Nat.add_mod_left, Nat.mod_eq_of_lt hm]
theorem two_succ (k : Nat) : 2 ^ (k + 1) = 2 ^ k + 2 ^ k := by rw [Nat.pow_succ]; omega
theorem dif_zero {k m : Nat} {rs us r0 u0 : List Str} (hr : ∀ x ∈ rs, x.cps.toList.length = k + 1) (hu : ∀ x ∈ us, x.cps.toList.length = k + 1) (h0 : ∀ x, x ∈ r0 ↔ InAft 48 rs x) (g0 : ∀ x, x ∈ u0 ↔ InAft 48 us x) (d : IsDif k r0 u0 (some m)) : IsDif (k + 1) rs us (some m) := by
  obtain ⟨d1, d2, d3⟩ := d
  have e := two_succ k
  refine ⟨by omega, ?_, fun j hj => ?_⟩
  · rw [hasM_lo hr h0 d1, hasM_lo hu g0 d1]
    exact d2
  · rw [hasM_lo hr h0 (by omega), hasM_lo hu g0 (by omega)]
    exact d3 j hj
theorem dif_one {k m : Nat} {rs us r1 u1 : List Str} (hr : ∀ x ∈ rs, x.cps.toList.length = k + 1) (hu : ∀ x ∈ us, x.cps.toList.length = k + 1) (z : ∀ m, m < 2 ^ k → hasM (k + 1) rs m = hasM (k + 1) us m) (h1 : ∀ x, x ∈ r1 ↔ InAft 49 rs x) (g1 : ∀ x, x ∈ u1 ↔ InAft 49 us x) (d : IsDif k r1 u1 (some m)) :
    IsDif (k + 1) rs us (some (2 ^ k + m)) := by
  obtain ⟨d1, d2, d3⟩ := d
  have e := two_succ k
  refine ⟨by omega, ?_, fun j hj => ?_⟩
  · rw [hasM_hi hr h1 d1, hasM_hi hu g1 d1]
    exact d2
  · by_cases hj2 : j < 2 ^ k
    · exact z j hj2
    · obtain ⟨i, rfl⟩ : ∃ i, j = 2 ^ k + i := ⟨j - 2 ^ k, by omega⟩
      rw [hasM_hi hr h1 (by omega), hasM_hi hu g1 (by omega)]
      exact d3 i (by omega)
theorem dif_none {k : Nat} {rs us r1 u1 : List Str} (hr : ∀ x ∈ rs, x.cps.toList.length = k + 1) (hu : ∀ x ∈ us, x.cps.toList.length = k + 1) (z : ∀ m, m < 2 ^ k → hasM (k + 1) rs m = hasM (k + 1) us m) (h1 : ∀ x, x ∈ r1 ↔ InAft 49 rs x) (g1 : ∀ x, x ∈ u1 ↔ InAft 49 us x) (d : IsDif k r1 u1 none) :
    IsDif (k + 1) rs us none := by
  intro j hj
  have e := two_succ k
  by_cases hj2 : j < 2 ^ k
  · exact z j hj2
  · obtain ⟨i, rfl⟩ : ∃ i, j = 2 ^ k + i := ⟨j - 2 ^ k, by omega⟩
    rw [hasM_hi hr h1 (by omega), hasM_hi hu g1 (by omega)]
    exact d i (by omega)
theorem dif_uniq {k : Nat} {rs us : List Str} : ∀ {o o' : Option Nat}, IsDif k rs us o → IsDif k rs us o' → o = o'
  | none, none, _, _ => rfl
  | none, some m, a, b => absurd (a m b.1) b.2.1
  | some m, none, a, b => absurd (b m a.1) a.2.1
  | some m, some j, a, b => by
    rcases Nat.lt_trichotomy m j with h | h | h
    · exact absurd (b.2.2 m h) a.2.1
    · rw [h]
    · exact absurd (a.2.2 j h) b.2.1
/-- the answer, after a start -/
def dV (start k : Nat) : Option Nat → V
  | none => .non
  | some m => .int ((start * 2 ^ k + m : Nat) : Int)
/-! how many pairs of rests -/
theorem len_pairs {ws vs : List Str} {n : Nat} {l : List (Nat × (List Str × List Str))} (hl : ∀ e ∈ l, Rst ws n e.1 e.2.1 ∧ Rst vs n e.1 e.2.2) (nd : (l.map (·.2)).Nodup) : l.length ≤ (1 + 2 ^ ws.length * (n + 1)) * (1 + 2 ^ vs.length * (n + 1)) := by
  have n2 : (l.map fun e => codeR ws n (e.1, e.2.1) + (1 + 2 ^ ws.length * (n + 1)) * codeR vs n (e.1, e.2.2)).Nodup := by
    have nd := List.pairwise_map.mp nd
    refine List.pairwise_map.mpr (List.Pairwise.imp_of_mem ?_ nd)
    intro a b ha hb hne e
    have l1 := codeR_lt (ws := ws) (e := (a.1, a.2.1)) (hl a ha).1.kn
    have l2 := codeR_lt (ws := ws) (e := (b.1, b.2.1)) (hl b hb).1.kn
    have p : 0 < 1 + 2 ^ ws.length * (n + 1) := by omega
    have q1 := congrArg (· / (1 + 2 ^ ws.length * (n + 1))) e
    rw [Nat.add_mul_div_left _ _ p, Nat.add_mul_div_left _ _ p, Nat.div_eq_of_lt l1, Nat.div_eq_of_lt l2, Nat.zero_add, Nat.zero_add] at q1
    rw [q1] at e
    have e := Nat.add_right_cancel e
    exact hne (Prod.ext (codeR_inj (hl a ha).1 (hl b hb).1 e) (codeR_inj (hl a ha).2 (hl b hb).2 q1))
  have q := nodup_le (m := List.range ((1 + 2 ^ ws.length * (n + 1)) * (1 + 2 ^ vs.length * (n + 1)))) n2 fun x hx => by
    obtain ⟨e, he, rfl⟩ := List.mem_map.mp hx
    have l1 := codeR_lt (ws := ws) (e := (e.1, e.2.1)) (hl e he).1.kn
    have l2 := codeR_lt (ws := vs) (e := (e.1, e.2.2)) (hl e he).2.kn
    have m := Nat.mul_le_mul_left (1 + 2 ^ ws.length * (n + 1)) (Nat.succ_le_of_lt l2)
    rw [Nat.succ_eq_add_one, Nat.mul_add, Nat.mul_one] at m
    exact List.mem_range.mpr (by omega)
  rw [List.length_map, List.length_range] at q
  exact q
theorem allQ_has {k : Nat} {rs : List Str} (h : (rs.any fun x => decide (x.cps.toList = List.replicate k 63)) = true) (m : Nat) : hasM k rs m = true := by
  obtain ⟨x, hx, e⟩ := List.any_eq_true.mp h
  have e := of_decide_eq_true e
  unfold hasM
  refine List.any_eq_true.mpr ⟨x, hx, ?_⟩
  have := fit_all (bitsL k m)
  rw [bitsL_len] at this
  rw [e]
  exact this
theorem has_zero {rs : List Str} (hs : ∀ x ∈ rs, x.cps.toList.length = 0) : hasM 0 rs 0 = decide (rs ≠ []) := by
  cases rs with
  | nil => rfl
  | cons r rs =>
    have e : r.cps.toList = [] := List.length_eq_zero_iff.mp (hs r List.mem_cons_self)
    rw [decide_eq_true (List.cons_ne_nil _ _)]
    unfold hasM
    exact List.any_eq_true.mpr ⟨r, List.mem_cons_self, by rw [e]; rfl⟩
end XT
/-! a dict whose keys are pairs of tuples of texts, each with True -/
namespace XT
open PySem PySem.Spec PyProof.Rows L2 PySem.W
abbrev PairS := List Str × List Str
abbrev RowP := Addr × PairS
def nkTx (ts : List Str) : NestedKey := .tup (ts.map .text)
def nkPr (p : PairS) : NestedKey := .tup [nkTx p.1, nkTx p.2]
theorem txs_inj : ∀ {a b : List Str}, a.map NestedKey.text = b.map NestedKey.text → a = b
  | [], [], _ => rfl
  | [], _ :: _, h => by cases h
  | _ :: _, [], h => by cases h
  | x :: a, y :: b, h => by
    rw [List.map_cons, List.map_cons] at h
    obtain ⟨h1, h2⟩ := List.cons.inj h
    rw [NestedKey.text.inj h1, txs_inj h2]
theorem nkPr_inj {p q : PairS} (h : nkPr p = nkPr q) : p = q := by
  have h := NestedKey.tup.inj h
  obtain ⟨h1, h2⟩ := List.cons.inj h
  obtain ⟨h2, _⟩ := List.cons.inj h2
  exact Prod.ext (txs_inj (NestedKey.tup.inj h1)) (txs_inj (NestedKey.tup.inj h2))
theorem dp_txs : ∀ ts : List Str, NestedKey.depthAll (ts.map .text) = 0
  | [] => by simp [NestedKey.depthAll]
  | t :: ts => by
    rw [List.map_cons]
    simp [NestedKey.depthAll, NestedKey.depth, dp_txs ts]
theorem nkPr_dp (p : PairS) : (nkPr p).depth = 2 := by
  unfold nkPr nkTx
  simp [NestedKey.depth, NestedKey.depthAll, dp_txs]
def PairAt (H : Hp) (e : RowP) : Prop := ∃ x y, H e.1 = some (.tup [.ref x, .ref y]) ∧ H x = some (.tup (e.2.1.map V.str)) ∧ H y = some (.tup (e.2.2.map V.str))
theorem PairAt.same {H H1 : Hp} {e : RowP} (h : PairAt H e) (s : Same H H1) : PairAt H1 e := let ⟨x, y, a, b, c⟩ := h; ⟨x, y, s _ _ a, s _ _ b, s _ _ c⟩
theorem txs_at {h : Heap} : ∀ {ts : List Str} {its : List Value}, Vals (ts.map V.str) its → NestedAll h (ts.map .text) its
  | [], _, .nil => .nil
  | t :: ts, _, .cons r z => by
    obtain ⟨tk, rfl⟩ := r
    exact .cons (.text _ _) (txs_at z)
def KDic (w : World) (h : Heap) (d : Addr) (M : List RowP) : Prop := (d == sysModules) = false ∧ ∃ o es ep, h.get? d = some o ∧ o.ExactDict ∧ o.data = .dict es ep ∧ es.toList = M.map (fun e => (⟨(nkPr e.2).hash w, .ref e.1, .bool true⟩ : DictEntry)) ∧ (M.map Prod.snd).Nodup
theorem KDic.at {w : World} {h h1 : Heap} {d : Addr} {M : List RowP} (R : KDic w h d M) (kp : ∀ o, h.get? d = some o → h1.get? d = some o) : KDic w h1 d M := let ⟨hd, o, es, ep, ho, r⟩ := R; ⟨hd, o, es, ep, kp o ho, r⟩
def KDicO (w : World) (d : Addr) (M : List RowP) : HO := .ext fun h => KDic w h d M
theorem kdo_new {w : World} {P : Program} {H : Hp} {h : Heap} {d : Addr} {M : List RowP} (R : KDic w h d M) : ObjOk P w H h d (KDicO w d M) := by
  have ⟨_, o, _, _, ho, _⟩ := R
  exact ⟨R, ⟨o, ho⟩, fun h1 h2 p k => KDic.at p k⟩
abbrev prE (e : RowP) : NestedKey × Addr × Value := (nkPr e.2, e.1, .bool true)
theorem nd_prE {M : List RowP} (h : (M.map Prod.snd).Nodup) : ((M.map prE).map (·.1)).Nodup := by
  rw [List.map_map, List.Nodup, List.pairwise_map]
  rw [List.Nodup, List.pairwise_map] at h
  exact h.imp fun n e => n (nkPr_inj e)
section
variable {X : Cx} {pins : List (Addr × Obj)} {σ : L2.St} {H : Hp} {s : Shared}
theorem txt_at (I : Inv X pins σ H s) {a : Addr} {ts : List Str} (h : H a = some (.tup (ts.map V.str))) : NestedIs s.heap (nkTx ts) (.ref a) := by
  obtain ⟨its, r, ⟨o, ho, hc, n, hd⟩, _⟩ := I.tuple (SqT.of h)
  exact .tup ho hc hd (by simpa using txs_at r)
theorem pair_is (I : Inv X pins σ H s) {e : RowP} (h : PairAt H e) : (nestedKind X.prog X.w).is s.heap (nkPr e.2) e.1 := by
  obtain ⟨x, y, h1, h2, h3⟩ := h
  obtain ⟨its, r, ⟨o, ho, hc, n, hd⟩, _⟩ := I.tuple (SqT.of h1)
  have z2 := txt_at I h2
  have z3 := txt_at I h3
  match its, r with
  | [_, _], .cons r1 (.cons r2 .nil) =>
    cases r1
    cases r2
    exact ⟨.tup ho hc hd (.cons z2 (.cons z3 .nil)), by rw [nkPr_dp]; decide⟩
theorem kd_get (I : Inv X pins σ H s) {d : Addr} {M : List RowP} (h : H d = some (KDicO X.w d M)) : KDic X.w s.heap d M := (I.hok d _ h).1
theorem kd_of (I : Inv X pins σ H s) {d : Addr} {M : List RowP} (h : H d = some (KDicO X.w d M)) (hM : ∀ e ∈ M, PairAt H e) : (d == sysModules) = false ∧ s.heap.DictOfH (nestedKind X.prog X.w) d (M.map prE) := by
  obtain ⟨hd, o, es, ep, ho, hex, hdt, he, nd⟩ := kd_get I h
  refine ⟨hd, o, es, ep, ho, hex, hdt, ?_, fun x hx => ?_, nd_prE nd⟩
  · rw [he, List.map_map]
    rfl
  · obtain ⟨e, he, rfl⟩ := List.mem_map.mp hx
    exact pair_is I (hM e he)
theorem atKey_pr {M : List RowP} {p : PairS} : (atKey (M.map prE) (nkPr p)).isSome = decide (p ∈ M.map Prod.snd) := by
  unfold atKey
  rw [Option.isSome_map, Bool.eq_iff_iff, List.find?_isSome, decide_eq_true_iff, List.mem_map]
  constructor
  · rintro ⟨x, hx, h⟩
    obtain ⟨e, he, rfl⟩ := List.mem_map.mp hx
    exact ⟨e, he, nkPr_inj (of_decide_eq_true h)⟩
  · rintro ⟨e, he, rfl⟩
    exact ⟨prE e, List.mem_map.mpr ⟨e, he, rfl⟩, decide_eq_true rfl⟩
/-- (a, b) in d -/
def rKIn (w : World) : R2 := fun x y H Q => ∃ (e : RowP) (d : Addr) (M : List RowP), x = .ref e.1 ∧ y = .ref d ∧ H d = some (KDicO w d M) ∧ PairAt H e ∧ (∀ e ∈ M, PairAt H e) ∧ Q (.bl (decide (e.2 ∈ M.map Prod.snd))) H
theorem op_inKD (hu : X.A.units + 64 < cLine) : OpR X (compareOp .In) (rKIn X.w) := by
  intro pins s σ H x y v u Q I rx ry h
  obtain ⟨e, d, M, rfl, rfl, hd, he, hM, q⟩ := h
  cases rx
  cases ry
  obtain ⟨hs, dd⟩ := kd_of I hd hM
  refine in_keyed (knd := nestedKind X.prog X.w) (k := nkPr e.2) (by show _ + 8 < _; simp only [Around.in1_units]; omega) (pair_is I he) hs ⟨_, dd, rfl⟩ ?_
  refine ⟨.bl (decide (e.2 ∈ M.map Prod.snd)), H, I.kept (t' := s.toks + (nkPr e.2).draws) (fun _ _ z => z), ?_, q⟩
  show Value.bool _ = Value.bool _
  congr 1
  rw [valueAt_pairsH, Option.isSome_map]
  exact atKey_pr
end
section
variable {X : Cx}
/-- d[(a, b)] = True, a new key -/
def sKPut (w : World) (td ty tv : TE) : TS := fun D σ H => tv σ H fun v H1 => td σ H1 fun x H2 => ty σ H2 fun y H3 => ∃ (e : RowP) (d : Addr) (M : List RowP), v = .bl true ∧ x = .ref d ∧ y = .ref e.1 ∧ H3 d = some (KDicO w d M) ∧ PairAt H3 e ∧ (∀ e ∈ M, PairAt H3 e) ∧ M.length < sizeLine ∧
  ∀ M', M' = (if e.2 ∈ M.map Prod.snd then M else M ++ [e]) → D.nx σ (upd H3 d (KDicO w d M'))
theorem ps_kput {o i value : Expr} {td ty tv : TE} {pos pos' : Pos} (hu : X.A.units + 64 < cLine) (ho : PE X o td) (hi : PE X i ty) (hv : PE X value tv) (hs : swapsWith value (some (.Subscript o i pos')) pos.line X.env = pure false) :
    PS X (.Assign [.Subscript o i pos'] value pos) (sKPut X.w td ty tv) := by
  refine ⟨fun pins s σ H D I h => ?_⟩
  refine wpAny_Assign_Subscript (thn (hv.run pins s σ H _ I h) fun r s1 ⟨v, H1, I1, rv, q1⟩ => thn (ho.run pins s1 σ H1 _ I1 q1) fun u s2 ⟨x, H2, I2, rx, q2⟩ => thn (hi.run pins s2 σ H2 _ I2 q2) fun iv s3 ⟨y, H3, I3, ry, e, d, M, ev, ex, ey, hd, he, hM, hz, q3⟩ => ?_) hs
  subst ev ex ey
  obtain rfl : u = Value.ref d := rx
  obtain rfl : iv = Value.ref e.1 := ry
  obtain rfl : r = Value.bool true := rv
  obtain ⟨hsys, dd⟩ := kd_of I3 hd hM
  have nd := (kd_get I3 hd).2
  refine wpAny_setItem_heap (knd := nestedKind X.prog X.w) (k := nkPr e.2) (hsz := by rw [List.length_map]; omega) (by show _ + 8 < _; simp only [Around.in1_units]; omega) (pair_is I3 he) dd fun h' dd' hs' => ?_
  obtain ⟨o2, es2, ep2, ho2, hex2, hdt2, he2, _, _⟩ := dd'
  have fin : ∀ M', M' = (if e.2 ∈ M.map Prod.snd then M else M ++ [e]) → es2.toList = M'.map (fun e => (⟨(nkPr e.2).hash X.w, .ref e.1, .bool true⟩ : DictEntry)) → (M'.map Prod.snd).Nodup → _ := fun M' eM e2 nd2 =>
    (⟨σ, _, I3.write (x := d) (e := d) (t' := s3.toks + (nkPr e.2).draws) (by rw [hd]; trivial) (.inl rfl) (fun c u hc hu => (hs'.2 c hc).trans hu) ⟨o2, ho2⟩ (kdo_new (show KDic X.w h' d M' from ⟨hsys, o2, es2, ep2, ho2, hex2, hdt2, e2, nd2⟩)), q3 M' eM⟩ : ∃ σ' H', Inv X pins σ' H' { s3 with heap := h', toks := s3.toks + (nkPr e.2).draws } ∧ D.nx σ' H')
  obtain ⟨_, _, _, _, _, _, _, ndm⟩ := nd
  by_cases hn : e.2 ∈ M.map Prod.snd
  · refine fin M (by rw [if_pos hn]) ?_ ndm
    have hso : (atKey (M.map prE) (nkPr e.2)).isSome = true := by rw [atKey_pr, decide_eq_true hn]
    rw [he2]
    unfold storedH
    rw [if_pos hso, List.map_map, List.map_map]
    refine List.map_congr_left fun c hc => ?_
    show entryOfKey _ (putAt (nkPr e.2) (.bool true) (prE c)) = _
    unfold putAt
    split <;> rfl
  · refine fin (M ++ [e]) (by rw [if_neg hn]) ?_ ?_
    · have hno : atKey (M.map prE) (nkPr e.2) = none := by
        have z := atKey_pr (M := M) (p := e.2)
        rw [decide_eq_false hn] at z
        cases h : atKey (M.map prE) (nkPr e.2) with
        | none => rfl
        | some q => rw [h] at z; cases z
      rw [he2, storedH_new hno, List.map_append, List.map_append, List.map_map]
      rfl
    · rw [List.map_append]
      refine List.nodup_append.mpr ⟨ndm, by simp, fun a ha b hb ab => ?_⟩
      rw [List.map_cons, List.map_nil, List.mem_singleton] at hb
      rw [ab, hb] at ha
      exact hn ha
/-- {} -/
def tKDNew (w : World) : TE := fun _ H Q => ∀ d, H d = none → Q (.ref d) (upd H d (KDicO w d []))
theorem pe_kdnew {pos : Pos} : PE X (.Dict [] [] pos) (tKDNew X.w) := ⟨fun pins s σ H Q I h => by
  have hb : (s.heap.objs.size == sysModules) = false := beq_eq_false_iff_ne.mpr (Ne.symm (Nat.ne_of_lt I.big))
  exact wpAny_Dict_empty ⟨.ref s.heap.objs.size, _, I.laid (a := s.heap.objs.size) (o := KDicO X.w s.heap.objs.size []) (t' := s.toks) (fun _ _ q => Heap.get?_push_of_some _ q) (Nat.le_refl _) (kdo_new ⟨hb, _, #[], 0, Heap.get?_push_size _ rfl, ⟨rfl, rfl, rfl⟩, rfl, rfl, List.nodup_nil⟩), rfl, h _ (I.hok.fresh (Nat.le_refl _))⟩⟩
end
end XT
/-! a for over a text -/
namespace XT
open PySem PySem.Spec PyProof.Rows L2
theorem fitL_snoc {ds ps : List Nat} {d c : Nat} (h : ds.length = ps.length) : fitL (ds ++ [d]) (ps ++ [c]) = (fitL ds ps && (decide (c = d) || decide (c = 63))) := by
  unfold fitL
  rw [List.zip_append h, List.all_append]
  simp
theorem for_str {x : Str} {g : TG} {tb : TS} {D : Ends} {σ : L2.St} {H : Hp} (Pv : Nat → L2.St → Hp → Prop) (h0 : Pv 0 σ H)
    (hs : ∀ i c σ H, x.cps.toList[i]? = some c → Pv i σ H → g (.str ⟨#[c]⟩) σ H fun σ2 H2 => tb { D with nx := Pv (i + 1), ct := Pv (i + 1), bk := D.nx } σ2 H2) (hd : ∀ σ H, Pv x.cps.size σ H → D.nx σ H) :
    ∃ W : Nat → Nat → L2.St → Hp → Prop, (∃ m, W 0 m σ H) ∧ ∀ i m σ H, W i m σ H →
      ((Its x).stop i H ∧ D.nx σ H) ∨ ((Its x).go i H ∧ ∃ N : L2.St → Hp → Prop, (∀ σ' H', N σ' H' → ∃ m', m' < m ∧ W (i + 1) m' σ' H') ∧ ∀ v H', (Its x).yld i H v H' → g v σ H' fun σ2 H2 => tb { D with nx := N, ct := N, bk := D.nx } σ2 H2) := by
  refine ⟨fun i m σ H => m = x.cps.size - i ∧ i ≤ x.cps.size ∧ Pv i σ H, ⟨x.cps.size, by simp, Nat.zero_le _, h0⟩, ?_⟩
  rintro i m σ H ⟨em, hi, p⟩
  rcases Nat.lt_or_ge i x.cps.size with lt | ge
  · refine .inr ⟨lt, Pv (i + 1), fun σ' H' p' => ⟨x.cps.size - (i + 1), by omega, rfl, lt, p'⟩, fun v H' y => ?_⟩
    obtain ⟨eH, c, hc, ev⟩ := y
    rw [eH, ev]
    exact hs i c σ H (by rw [Array.getElem?_toList]; exact hc) p
  · have e : i = x.cps.size := Nat.le_antisymm hi ge
    rw [e] at p
    exact .inl ⟨ge, hd σ H p⟩
end XT
/-! difference_below -/
namespace XT
open PySem PySem.Spec PyProof.Rows L2
theorem strs_lay : ∀ {rs : List Str}, (∀ x ∈ rs, PyData.strOk x = true) → PyData.canLayAll0 (rs.map PyData.str) = true
  | [], _ => rfl
  | r :: rs, o => by
    have h := strs_lay (rs := rs) fun x hx => o x (List.mem_cons_of_mem _ hx)
    have h1 := o r List.mem_cons_self
    simp [PyData.canLayAll0, PyData.canLay0, h, h1]
theorem ok_str {k : Nat} {x : Str} (h : OkK k x) : PyData.strOk x = true := by
  unfold PyData.strOk
  rw [← Array.all_toList, List.all_eq_true]
  intro c hc
  have := h.2 c hc
  unfold sgn3 at this
  have := of_decide_eq_true this
  simp only [List.mem_cons, List.not_mem_nil, or_false] at this
  exact decide_eq_true (by omega)
theorem strs_depth : ∀ rs : List Str, PyData.depthAll (rs.map PyData.str) ≤ 1
  | [] => by decide
  | r :: rs => by
    have h := strs_depth rs
    simp only [PyData.depthAll, PyData.depth, List.map] at h ⊢
    omega
theorem strs_shaped {rs : List Str} (o : ∀ x ∈ rs, PyData.strOk x = true) : SeqAt.shaped (.tuple (rs.map PyData.str)) = true := by
  have h1 : PyData.canLay0 (.tuple (rs.map PyData.str)) = true := by
    have h := strs_lay o
    simp [PyData.canLay0, h]
  have h2 : PyData.depth (.tuple (rs.map PyData.str)) ≤ 64 := by
    have h := strs_depth rs
    simp only [PyData.depth]
    omega
  unfold SeqAt.shaped
  rw [h1, Bool.true_and]
  exact decide_eq_true h2
theorem eqv_strs : ∀ rs us : List Str, PyData.eqvAll (rs.map PyData.str) (us.map PyData.str) = decide (rs = us)
  | [], [] => rfl
  | [], u :: us => by simp [PyData.eqvAll]
  | r :: rs, [] => by simp [PyData.eqvAll]
  | r :: rs, u :: us => by
    have ih := eqv_strs rs us
    simp only [List.map_cons, PyData.eqvAll, ih, PyData.eqv]
    rw [Bool.eq_iff_iff, Bool.and_eq_true, decide_eq_true_iff, decide_eq_true_iff, List.cons.injEq]
    first | rw [beq_iff_eq] | rw [decide_eq_true_iff]
theorem dp_strs {K : PySem.W.Frag} {H : Hp} : ∀ rs : List Str, DpAll K H (rs.map V.str) (rs.map PyData.str)
  | [] => .nil
  | r :: rs => .cons (.str r) (dp_strs rs)
theorem eq_strs {K : PySem.W.Frag} {H : Hp} {T U : Addr} {rs us : List Str} {Q : VK} (hT : H T = some (.tup (rs.map V.str))) (hU : H U = some (.tup (us.map V.str))) (o1 : ∀ x ∈ rs, PyData.strOk x = true) (o2 : ∀ x ∈ us, PyData.strOk x = true) (q : Q (.bl (decide (rs = us))) H) : rEqD K (.ref T) (.ref U) H Q := by
  refine ⟨.tuple (rs.map PyData.str), .tuple (us.map PyData.str), .tup (SqT.of hT) (dp_strs rs), .tup (SqT.of hU) (dp_strs us), strs_shaped o1, strs_shaped o2, ?_⟩
  have e : PyData.eqv (.tuple (rs.map PyData.str)) (.tuple (us.map PyData.str)) = decide (rs = us) := by
    have := eqv_strs rs us
    simpa [PyData.eqv] using this
  rw [e]
  exact q
/-- the pairs that are known to be alike -/
def KnP (w : World) (ws vs : List Str) (n : Nat) (H : Hp) (D : Addr) : Prop := ∃ l : List (Nat × RowP), H D = some (KDicO w D (l.map (·.2))) ∧ (∀ e ∈ l, PairAt H e.2 ∧ Rst ws n e.1 e.2.2.1 ∧ Rst vs n e.1 e.2.2.2 ∧ IsDif e.1 e.2.2.1 e.2.2.2 none) ∧ (l.map fun e => e.2.2).Nodup
theorem KnP.same {w : World} {ws vs : List Str} {n : Nat} {H H' : Hp} {D : Addr} (h : KnP w ws vs n H D) (s : Same H H') : KnP w ws vs n H' D := let ⟨l, a, b, c⟩ := h; ⟨l, s _ _ a, fun e he => ⟨(b e he).1.same s, (b e he).2⟩, c⟩
theorem kd_ne {w : World} {H : Hp} {T D : Addr} {xs : List V} {M : List RowP} (hT : H T = some (.tup xs)) (hD : H D = some (KDicO w D M)) : T ≠ D := fun e => by rw [e, hD] at hT; cases hT
theorem PairAt.put {w : World} {H : Hp} {D : Addr} {M M' : List RowP} {e : RowP} (h : PairAt H e) (hD : H D = some (KDicO w D M)) : PairAt (upd H D (KDicO w D M')) e := by
  obtain ⟨x, y, h1, h2, h3⟩ := h
  exact ⟨x, y, by rw [upd_ne (kd_ne h1 hD)]; exact h1, by rw [upd_ne (kd_ne h2 hD)]; exact h2, by rw [upd_ne (kd_ne h3 hD)]; exact h3⟩
theorem KnP.small {ws vs : List Str} {n : Nat} {H : Hp} {l : List (Nat × RowP)} (hn : n ≤ 40) (hw : ws.length ≤ 6) (hv : vs.length ≤ 6) (h : ∀ e ∈ l, PairAt H e.2 ∧ Rst ws n e.1 e.2.2.1 ∧ Rst vs n e.1 e.2.2.2 ∧ IsDif e.1 e.2.2.1 e.2.2.2 none) (nd : (l.map fun e => e.2.2).Nodup) : l.length < sizeLine := by
  have q := len_pairs (ws := ws) (vs := vs) (n := n) (l := l.map fun e => (e.1, e.2.2)) (fun e he => by
    obtain ⟨c, hc, rfl⟩ := List.mem_map.mp he
    exact ⟨(h c hc).2.1, (h c hc).2.2.1⟩) (by rw [List.map_map]; exact nd)
  rw [List.length_map] at q
  have a : 2 ^ ws.length ≤ 2 ^ 6 := Nat.pow_le_pow_right (by decide) hw
  have b : 2 ^ vs.length ≤ 2 ^ 6 := Nat.pow_le_pow_right (by decide) hv
  have a2 : 2 ^ ws.length * (n + 1) ≤ 2 ^ 6 * 41 := Nat.mul_le_mul a (by omega)
  have b2 : 2 ^ vs.length * (n + 1) ≤ 2 ^ 6 * 41 := Nat.mul_le_mul b (by omega)
  have c := Nat.mul_le_mul (show 1 + 2 ^ ws.length * (n + 1) ≤ 2625 by omega) (show 1 + 2 ^ vs.length * (n + 1) ≤ 2625 by omega)
  rw [sizeLine_eq]
  omega
section
variable {P : Program} {w : World} {K : PySem.W.Frag} {mg : Str → Option Value} {base : Heap}
abbrev nDf : List Str := ["one", "other", "start", "alike", "digit", "mask"]
theorem scDf : FnScope nDf ["one", "other", "start", "alike"] (defScope sDifferenceBelow) := ⟨rfl, rfl, rfl, by decide +kernel, rfl, by decide +kernel, by decide +kernel⟩
def spDf (w : World) (j : Nat) : Sp := fun as H Q _ => ∃ (T U D : Addr) (ws vs rs us : List Str) (n k start : Nat), as = [.ref T, .ref U, .int (start : Int), .ref D] ∧ k ≤ j ∧ n ≤ 40 ∧ ws.length ≤ 6 ∧ vs.length ≤ 6 ∧ Rst ws n k rs ∧ Rst vs n k us ∧ H T = some (.tup (rs.map V.str)) ∧ H U = some (.tup (us.map V.str)) ∧ KnP w ws vs n H D ∧
  ∀ H' o, KeepD D H H' → KnP w ws vs n H' D → IsDif k rs us o → Q (dV start k o) H'
theorem ok_df {f : Addr} {fd : FuncData} {i j : Nat} {sB : Sp} (B : Bl mg) (F : Fun K "difference_below" "difference_below" sDifferenceBelow f fd) (dR : DefR P w K mg base 1 "rests_after" spRa) (dA : DefR P w K mg base 1 "allows_all" spAa)
    (dB : DefR P w K mg base i "difference_below" sB) (hi : 1 ≤ i) (hB : ∀ jq, j = jq + 1 → ∀ vs H Q E, spDf w jq vs H Q E → sB vs H Q E) : FnOk P w K mg base CX0 (i + 1) f fd ["one", "other", "start", "alike"] (spDf w j) := by
  refine F.ok scDf (fun vs H Q E h => ?_) (fun cdv A outer s H as Q E hr h => ?_)
  · obtain ⟨T, U, D, ws, vs, rs, us, n, k, start, rfl, _⟩ := h
    rfl
  · obtain ⟨T, U, D, ws, vs, rs, us, n, k, start, rfl, hkj, hn, hwl, hvl, hrs, hus, hT, hU, hK, q⟩ := h
    have hr1 : Room 1 (A.deeper (envOfC "difference_below" (defScope sDifferenceBelow) s.heap.objs.size f cdv)) := hr.mono (by omega)
    refine ⟨_, pss_cons (ps_if (PW.pt (pw_or (pt_cmpR (op_eqD hr.units) (pv 0) (pv 1) (nomark _)) (pw_or (PW.pt (pw_and (pt_val (pe_def dA hr1 (by rfl) (pa_cons (pv 0) pa_nil))) (pw_and1 (pt_val (pe_def dA hr1 (by rfl) (pa_cons (pv 1) pa_nil)))))) (pw_or1 (pt_cmpR (op_inKD hr.units) (pe_tup (pa_cons (pv 0) (pa_cons (pv 1) pa_nil))) (pv 3) (by rfl)))))) (pss_one (ps_ret pe_non)) pss_nil)
      (pss_cons (ps_if (PW.pt (pw_or (pt_cmpR op_in_seq pe_str (pv 0) (by rfl)) (pw_or1 (pt_cmpR op_in_seq pe_str (pv 1) (by rfl))))) (pss_one (ps_ret (pv 2))) pss_nil)
      (pss_cons (ps_for PassesOwn.never rfl (pi_str pe_str) (pg_name (i := 4) scDf.nd rfl (by first | exact Or.inl rfl | exact Or.inr rfl))
      (pss_cons (ps_set (i := 5) scDf.nd rfl (by first | exact Or.inl rfl | exact Or.inr rfl) (pe_def dB hr (by rfl) (pa_cons (pe_def dR hr1 (by rfl) (pa_cons (pv 0) (pa_cons (pv 4) pa_nil))) (pa_cons (pe_def dR hr1 (by rfl) (pa_cons (pv 1) (pa_cons (pv 4) pa_nil))) (pa_cons (pe_op op_add (pe_op op_mul (pv 2) pe_int) (pe_callTy call_int_str (by rfl) B.int bInt (pa_cons (pv 4) pa_nil))) (pa_cons (pv 3) pa_nil))))))
      (pss_one (ps_if (pt_cmpR op_notN (pv 5) pe_non (nomark _)) (pss_one (ps_ret (pv 5))) pss_nil))))
      (pss_cons (ps_kput hr.units (pv 3) (pe_tup (pa_cons (pv 0) (pa_cons (pv 1) pa_nil))) pe_bl rfl)
      (pss_one (ps_ret pe_non))))), ?_⟩
    have hl1 := hrs.len
    have hl2 := hus.len
    have hkn := hrs.kn
    have sr : ∀ x ∈ rs, x.cps.size = k := fun x hx => (hrs.ok x hx).1
    have su : ∀ x ∈ us, x.cps.size = k := fun x hx => (hus.ok x hx).1
    have none_q : ∀ H', KeepD D H H' → KnP w ws vs n H' D → IsDif k rs us none → Q .non H' := fun H' a b c => q H' none a b c
    have ok1 : ∀ x ∈ rs, PyData.strOk x = true := fun x hx => ok_str (hrs.ok x hx)
    have ok2 : ∀ x ∈ us, PyData.strOk x = true := fun x hx => ok_str (hus.ok x hx)
    obtain ⟨l, hD, hl, nd⟩ := id hK
    have known : (rs, us) ∈ (l.map (·.2)).map Prod.snd → rs ≠ us → IsDif k rs us none := fun hm heq => by
      rw [List.map_map] at hm
      obtain ⟨e, he, ee⟩ := List.mem_map.mp hm
      have ee : e.2.2 = (rs, us) := ee
      obtain ⟨_, e1, e2, e3⟩ := hl e he
      rw [ee] at e1 e2 e3
      by_cases hne : rs = []
      · have hne2 : us ≠ [] := fun z => heq (by rw [hne, z])
        have := e2.lev hus hne2
        rw [this] at e3
        exact e3
      · have := e1.lev hrs hne
        rw [this] at e3
        exact e3
    have ev1 : EvT (decide (rs = us) || ((allQ k rs && allQ k us) || decide ((rs, us) ∈ (l.map (·.2)).map Prod.snd))) (tOr (tTest (tOp (rEqD K) (tVar 0) (tVar 1))) (tOr (tAnd (tB (tDf spAa (tCons (tVar 0) tNil))) (tB (tDf spAa (tCons (tVar 1) tNil)))) (tTest (tOp (rKIn w) (tTup (tCons (tVar 0) (tCons (tVar 1) tNil))) (tVar 3)))))
        [some (.ref T), some (.ref U), some (.int (start : Int)), some (.ref D), none, none] H :=
      evt_or (evt_test fun H1 s1 Q q => ⟨.ref T, rfl, .ref U, rfl, eq_strs (s1 _ _ hT) (s1 _ _ hU) ok1 ok2 (q _ _ (Same.refl _) rfl)⟩)
        (evt_or (evt_and (evt_b fun H1 s1 Q q => ⟨.ref T, rfl, T, rs, k, rfl, s1 _ _ hT, by omega, sr, by omega, q _ _ (Same.refl _) rfl⟩) (evt_b fun H1 s1 Q q => ⟨.ref U, rfl, U, us, k, rfl, s1 _ _ hU, by omega, su, by omega, q _ _ (Same.refl _) rfl⟩))
          (evt_test fun H1 s1 Q q => ⟨.ref T, rfl, .ref U, rfl, sz (n := 2) (by decide), fun S nS => ⟨.ref D, rfl, (S, (rs, us)), D, _, rfl, rfl, (s1.trans (same_new nS)) _ _ hD, ⟨T, U, upd_same, (s1.trans (same_new nS)) _ _ hT, (s1.trans (same_new nS)) _ _ hU⟩, fun e he => by
            obtain ⟨c, hc, rfl⟩ := List.mem_map.mp he
            exact (hl c hc).1.same (s1.trans (same_new nS)), q _ _ (same_new nS) rfl⟩⟩))
    refine ev1 H (Same.refl _) _ fun H2 s2 => ?_
    cases hb : (decide (rs = us) || ((allQ k rs && allQ k us) || decide ((rs, us) ∈ (l.map (·.2)).map Prod.snd))) with
    | true =>
      refine iteT (none_q H2 (KeepD.of s2) (hK.same s2) ?_)
      by_cases heq : rs = us
      · intro m _
        rw [heq]
      rw [decide_eq_false heq, Bool.false_or, Bool.or_eq_true, Bool.and_eq_true, decide_eq_true_iff] at hb
      rcases hb with ⟨a, b⟩ | hm
      · intro m _
        rw [allQ_has a, allQ_has b]
      · exact known hm heq
    | false =>
    rw [Bool.or_eq_false_iff, Bool.or_eq_false_iff, Bool.and_eq_false_iff, decide_eq_false_iff_not] at hb
    obtain ⟨heq, hall, _⟩ := hb
    refine iteF ?_
    have hT2 := s2 _ _ hT
    have hU2 := s2 _ _ hU
    have ev2 : EvT (decide (("" : Str) ∈ rs) || decide (("" : Str) ∈ us)) (tOr (tTest (tOp (rIn K false) (tC (.str "")) (tVar 0))) (tTest (tOp (rIn K false) (tC (.str "")) (tVar 1)))) [some (.ref T), some (.ref U), some (.int (start : Int)), some (.ref D), none, none] H2 :=
      evt_or (evt_test fun H1 s1 Q q => ⟨.ref T, rfl, T, _, rfl, .inr (SqT.of (s1 _ _ hT2)), rfl, flat_strs _, q _ _ (Same.refl _) (congrArg V.bl (in_strs _))⟩) (evt_test fun H1 s1 Q q => ⟨.ref U, rfl, U, _, rfl, .inr (SqT.of (s1 _ _ hU2)), rfl, flat_strs _, q _ _ (Same.refl _) (congrArg V.bl (in_strs _))⟩)
    have lr : ∀ x ∈ rs, x.cps.toList.length = k := fun x hx => (hrs.ok x hx).ln
    have lu : ∀ x ∈ us, x.cps.toList.length = k := fun x hx => (hus.ok x hx).ln
    refine ev2 H2 (Same.refl _) _ fun H3 s3 => ?_
    have s03 := s2.trans s3
    cases k with
    | zero =>
      have e0 : ∀ x : Str, x.cps.toList.length = 0 → x = ("" : Str) := fun x hx => str_inj (List.length_eq_zero_iff.mp hx)
      have hd : (rs ≠ [] ∧ us = []) ∨ (rs = [] ∧ us ≠ []) := by
        have al : ∀ {r : List Str}, (∀ x ∈ r, x.cps.toList.length = 0) → r ≠ [] → allQ 0 r = true := fun {r} h hne => by
          obtain ⟨x, hx⟩ := List.exists_mem_of_ne_nil _ hne
          exact List.any_eq_true.mpr ⟨x, hx, decide_eq_true (List.length_eq_zero_iff.mp (h x hx))⟩
        by_cases a : rs = []
        · by_cases b : us = []
          · exact absurd (a.trans b.symm) heq
          · exact .inr ⟨a, b⟩
        · by_cases b : us = []
          · exact .inl ⟨a, b⟩
          · rcases hall with z | z
            · rw [al lr a] at z; cases z
            · rw [al lu b] at z; cases z
      have ht : (decide (("" : Str) ∈ rs) || decide (("" : Str) ∈ us)) = true := by
        rw [Bool.or_eq_true, decide_eq_true_iff, decide_eq_true_iff]
        rcases hd with ⟨a, _⟩ | ⟨_, a⟩
        · obtain ⟨x, hx⟩ := List.exists_mem_of_ne_nil _ a
          exact .inl (e0 x (lr x hx) ▸ hx)
        · obtain ⟨x, hx⟩ := List.exists_mem_of_ne_nil _ a
          exact .inr (e0 x (lu x hx) ▸ hx)
      rw [ht]
      refine iteT ⟨_, rfl, ?_⟩
      have := q H3 (some 0) (KeepD.of s03) (hK.same s03) ⟨by decide, ?_, fun j hj => absurd hj (Nat.not_lt_zero _)⟩
      · have e : dV start 0 (some 0) = .int (start : Int) := by
          show V.int ((start * 2 ^ 0 + 0 : Nat) : Int) = _
          rw [Nat.pow_zero, Nat.mul_one, Nat.add_zero]
        rw [e] at this
        exact this
      · rw [has_zero lr, has_zero lu]
        rcases hd with ⟨a, b⟩ | ⟨a, b⟩
        · rw [decide_eq_true a, decide_eq_false (fun z => z b)]; decide
        · rw [decide_eq_true b, decide_eq_false (fun z => z a)]; decide
    | succ k' =>
    have hf : (decide (("" : Str) ∈ rs) || decide (("" : Str) ∈ us)) = false := by
      rw [Bool.or_eq_false_iff, decide_eq_false_iff_not, decide_eq_false_iff_not]
      exact ⟨fun z => Nat.succ_ne_zero k' (lr _ z).symm, fun z => Nat.succ_ne_zero k' (lu _ z).symm⟩
    rw [hf]
    obtain ⟨jq, rfl⟩ : ∃ jq, j = jq + 1 := ⟨j - 1, by omega⟩
    have hB' := hB jq rfl
    have TD : T ≠ D := kd_ne hT hD
    have UD : U ≠ D := kd_ne hU hD
    refine iteF ⟨"01", rfl, for_str (fun i σ H' => ∃ (z4 z5 : Option V), σ = [some (.ref T), some (.ref U), some (.int (start : Int)), some (.ref D), z4, z5] ∧ KeepD D H H' ∧ KnP w ws vs n H' D ∧ (1 ≤ i → ∀ m, m < 2 ^ k' → hasM (k' + 1) rs m = hasM (k' + 1) us m) ∧ (2 ≤ i → IsDif (k' + 1) rs us none)) ⟨none, none, rfl, KeepD.of s03, hK.same s03, fun z => absurd z (by decide), fun z => absurd z (by decide)⟩ (fun i c σ H4 hc h => ?_) (fun σ H4 h => ?_)⟩
    · obtain ⟨z4, z5, rfl, kp4, kn4, lo, hi'⟩ := h
      have hT4 := kp4 _ _ TD hT
      have hU4 := kp4 _ _ UD hU
      obtain ⟨b, hb, rfl, rfl⟩ : ∃ b, b < 2 ∧ i = b ∧ c = 48 + b := by
        have e : (("01" : Str)).cps.toList = [48, 49] := by decide +kernel
        rw [e] at hc
        match i, hc with
        | 0, hc => cases hc; exact ⟨0, by decide, rfl, rfl⟩
        | 1, hc => cases hc; exact ⟨1, by decide, rfl, rfl⟩
        | i + 2, hc => cases hc
      have hint : PySem.intText? (⟨#[48 + i]⟩ : Str) = some (i : Int) := by
        match i, hb with
        | 0, _ => decide +kernel
        | 1, _ => decide +kernel
      refine ⟨.ref T, rfl, .str ⟨#[48 + i]⟩, rfl, T, rs, 48 + i, k', rfl, hT4, by omega, sr, by omega, fun H5 T1 r1 sm5 srt1 mem1 hT5 => ⟨.ref U, rfl, .str ⟨#[48 + i]⟩, rfl, U, us, 48 + i, k', rfl, sm5 _ _ hU4, by omega, su, by omega, fun H6 U1 u1 sm6 srt2 mem2 hU6 => ⟨.int (start : Int), rfl, (start : Int), 2, rfl, rfl, .inr ⟨by decide, by decide⟩, .str ⟨#[48 + i]⟩, rfl, _, (i : Int), rfl, hint, (by decide : (1 : Nat) ≤ 640), _, _, rfl, rfl, .ref D, rfl, hB' _ _ _ _ ⟨T1, U1, D, ws, vs, r1, u1, n, k', start * 2 + i, ?_, by omega, hn, hwl, hvl, hrs.aft srt1 mem1, hus.aft srt2 mem2, sm6 _ _ hT5, hU6, (kn4.same sm5).same sm6, fun H7 o kp7 kn7 d7 => ?_⟩⟩⟩⟩
      · rw [Int.natCast_add, Int.natCast_mul]
        rfl
      have kp : KeepD D H H7 := (kp4.trans (KeepD.of (sm5.trans sm6))).trans kp7
      refine ⟨_, rfl, rfl, _, rfl, ?_⟩
      have e2 := two_succ k'
      cases o with
      | none =>
        refine iteF ⟨_, _, rfl, kp, kn7, fun _ => ?_, fun z => ?_⟩
        · by_cases hi0 : i = 0
          · subst hi0
            intro m hm
            rw [hasM_lo lr mem1 hm, hasM_lo lu mem2 hm]
            exact d7 m hm
          · exact lo (by omega)
        · have hi1 : i = 1 := by omega
          subst hi1
          exact dif_none lr lu (lo (by decide)) mem1 mem2 d7
      | some m =>
        refine iteT ⟨_, rfl, ?_⟩
        by_cases hi0 : i = 0
        · subst hi0
          have := q H7 (some m) kp kn7 (dif_zero lr lu mem1 mem2 d7)
          have e : dV (start * 2 + 0) k' (some m) = dV start (k' + 1) (some m) := congrArg V.int (congrArg Nat.cast (by
            rw [Nat.add_zero, Nat.mul_assoc, Nat.pow_succ, Nat.mul_comm 2 (2 ^ k')]))
          rw [e]
          exact this
        · have hi1 : i = 1 := by omega
          subst hi1
          have := q H7 (some (2 ^ k' + m)) kp kn7 (dif_one lr lu (lo (by decide)) mem1 mem2 d7)
          have e : dV (start * 2 + 1) k' (some m) = dV start (k' + 1) (some (2 ^ k' + m)) := congrArg V.int (congrArg Nat.cast (by
            rw [Nat.add_mul, Nat.one_mul, Nat.mul_assoc, Nat.pow_succ, Nat.mul_comm 2 (2 ^ k'), Nat.add_assoc]))
          rw [e]
          exact this
    · obtain ⟨z4, z5, rfl, kp4, kn4, _, hi'⟩ := h
      have dn := hi' (by decide +kernel)
      have hT4 := kp4 _ _ TD hT
      have hU4 := kp4 _ _ UD hU
      obtain ⟨l4, hD4, hl4, nd4⟩ := kn4
      refine ⟨.ref D, rfl, .ref T, rfl, .ref U, rfl, sz (n := 2) (by decide), fun S nS => ?_⟩
      have sS := same_new (o := .tup [.ref T, .ref U]) nS
      have pS : PairAt (upd H4 S (.tup [.ref T, .ref U])) (S, (rs, us)) := ⟨T, U, upd_same, sS _ _ hT4, sS _ _ hU4⟩
      refine ⟨(S, (rs, us)), D, _, rfl, rfl, rfl, sS _ _ hD4, pS, fun e he => ?_, ?_, fun M' eM => none_q _ ?_ ?_ dn⟩
      · obtain ⟨c, hc, rfl⟩ := List.mem_map.mp he
        exact (hl4 c hc).1.same sS
      · rw [List.length_map]
        exact KnP.small hn hwl hvl hl4 nd4
      · exact fun b o hb e => by rw [upd_ne hb]; exact sS _ _ (kp4 b o hb e)
      · have hDS := sS _ _ hD4
        by_cases hm : (rs, us) ∈ (l4.map (·.2)).map Prod.snd
        · rw [if_pos hm] at eM
          subst eM
          exact ⟨l4, upd_same, fun e he => ⟨((hl4 e he).1.same sS).put hDS, (hl4 e he).2⟩, nd4⟩
        · rw [if_neg hm] at eM
          subst eM
          refine ⟨l4 ++ [(k' + 1, (S, (rs, us)))], by rw [upd_same, List.map_append]; rfl, fun e he => ?_, ?_⟩
          · rcases List.mem_append.mp he with he | he
            · exact ⟨((hl4 e he).1.same sS).put hDS, (hl4 e he).2⟩
            · rw [List.mem_singleton.mp he]
              exact ⟨pS.put hDS, hrs, hus, dn⟩
          · rw [List.map_append]
            refine List.nodup_append.mpr ⟨nd4, by simp, fun a ha b hb e => ?_⟩
            rw [List.map_cons, List.map_nil, List.mem_singleton] at hb
            rw [e, hb] at ha
            exact hm (by rw [List.map_map]; exact ha)
theorem df_no {f : Addr} {fd : FuncData} {k : Nat} (F : Fun K "difference_below" "difference_below" sDifferenceBelow f fd) : FnOk P w K mg base CX0 (k + 1) f fd ["one", "other", "start", "alike"] (fun _ _ _ _ => False) := F.ok scDf (fun _ _ _ _ h => h.elim) (fun _ _ _ _ _ _ _ _ _ h => h.elim)
theorem df_all {f : Addr} {fd : FuncData} (B : Bl mg) (F : Fun K "difference_below" "difference_below" sDifferenceBelow f fd) (dR : DefR P w K mg base 1 "rests_after" spRa) (dA : DefR P w K mg base 1 "allows_all" spAa)
    (b : Binds K fd ["one", "other", "start", "alike"] []) (hm : mg "difference_below" = some (.ref f)) (hk : PySem.W.keepIn K (.ref f) = true) : ∀ j, DefR P w K mg base (j + 2) "difference_below" (spDf w j)
  | 0 => DefR.of (ok_df (i := 1) B F dR dA (DefR.of (k := 1) (df_no F) b hm hk) (Nat.le_refl _) (fun jq e => absurd e (by omega))) b hm hk
  | j + 1 => DefR.of (ok_df (i := j + 2) B F dR dA (df_all B F dR dA b hm hk j) (by omega) (fun jq e vs H Q E h => by cases (Nat.succ.inj e : j = jq); exact h)) b hm hk
end
end XT
/-! width_of -/
namespace XT
open PySem PySem.Spec PyProof.Rows L2
section
variable {P : Program} {w : World} {K : PySem.W.Frag} {mg : Str → Option Value} {base : Heap}
theorem scWo : FnScope ["wide"] ["wide"] (defScope sWidthOf) := ⟨rfl, rfl, rfl, by decide +kernel, rfl, by decide +kernel, by decide +kernel⟩
def spWo (K : PySem.W.Frag) : Sp := fun vs H Q _ => ∃ (T : Addr) (ws : List Str) (x : Str), vs = [.ref T] ∧ SqT K H T (ws.map V.str) ∧ ws[0]? = some x ∧ x.length ≤ 1000 ∧ Q (.int (x.length : Int)) H
theorem ok_wo {f : Addr} {fd : FuncData} {k : Nat} (B : Bl mg) (F : Fun K "width_of" "width_of" sWidthOf f fd) : FnOk P w K mg base CX0 (k + 1) f fd ["wide"] (spWo K) := by
  refine F.ok scWo (fun vs H Q E h => ?_) (fun cdv A outer s H vs Q E hr h => ?_)
  · obtain ⟨T, ws, x, rfl, _⟩ := h
    rfl
  · obtain ⟨T, ws, x, rfl, hT, hx, hl, q⟩ := h
    refine ⟨_, pss_one (ps_ret (pe_callB call_len_str (by rfl) B.len PySem.boot_len (pa_cons (pe_ix ix_tup (pv 0) pe_int (fun _ _ => rfl)) pa_nil))), ?_⟩
    exact ⟨.ref T, rfl, T, _, 0, .str x, rfl, rfl, hT, atI_nat (j := 0) (by rw [List.getElem?_map, hx]; rfl), x, rfl, szl (m := 1000) hl (by decide), q⟩
end
end XT
/-! an own exception class over any of the built-in ones that have their facts, its __init__ walked as a def -/
namespace XT
open PySem PySem.Spec PyProof.Rows L2
structure OexG (K : PySem.W.Frag) (C : Addr) : Prop where
  cls : ∃ (B newId initId : String) (bmB : List Value) (nm q : Str) (N : Addr) (bs bm : List Value) (sn : List Str) (sub : List Value) (ab : Bool) (col : Option Bool) (dd : Option Addr) (k0 k1 k2 k3 k5 : Option Value),
    ExcBaseFacts B newId initId bmB ∧ K.lookup C = some (excClassObj nm q C N bs bm true sn sub ab col dd k0 k1 k2 k3 k5 newId) ∧ PySem.W.excTail bmB bm = true ∧ (∀ self, refuseLoop self "__setattr__" bmB = pure ()) ∧ bmB.contains (.type "object") = true
  sa : PySem.W.findIn K (.ref C) "__setattr__" = some (some (.builtin "object.__setattr__"))
  exC : PySem.W.subIn K (.ref C) (.type "BaseException") = some true
  tyC : PySem.W.typeIn K (.ref C) = some (.type "type")
  kC : PySem.W.keepIn K (.ref C) = true
section
open Builtin Builtin.ObjectAttr PySem.HandSPX
variable {prog : Program} {w : World} {A : Around} {E : Value → Shared → Prop} {R : Result → Shared → Prop} {hp : Heap} {g : Array GenState} {d : Drawn} {t : Nat} {os : OsState}
/-- the first field of an exception, whatever built-in class stands under its own -/
theorem osaG {K : W.Frag} {name : Str} {tk : Tok} {v : Value} {x C : Addr} {fv : Array Value} {cd : ClassData}
    (X : K.In hp) (hx : hp.get? x = some { cls := .ref C, data := .fields fv }) (hcd : W.clsIn K C = some cd) (ne : cd.mro.isEmpty = false) (hob : cd.mro.contains (.type "object") = true) (hpass : ∀ self, refuseLoop self "__setattr__" cd.mro = pure ()) (hh : cd.hasDict = true) (ha : W.findIn K (.ref C) name = some none)
    (hq : ∀ h' tk' dx, (∀ b o, b ≠ x → hp.get? b = some o → h'.get? b = some o) → hp.objs.size ≤ dx → dx ≠ x → h'.get? x = some { cls := .ref C, dict := some dx, data := .fields fv } →
      h'.Ns1 dx (fun y => if y = name then some v else none) → R (.ok (.ret .none)) ⟨h', g, d, tk', os⟩) :
    codeAny (model prog w) A (.call (.builtin "object.__setattr__") ⟨[.ref x, .str name tk, v], []⟩) R ⟨hp, g, d, t, os⟩ := by
  have I : W.InstAt hp x { cls := .ref C, data := .fields fv } C none := ⟨hx, rfl, rfl, trivial⟩
  have SF := F.store_object
  have hxs : x ≠ hp.objs.size := Nat.ne_of_lt (Heap.lt_size hx)
  have sub : W.Looks (model prog w) hp (isInstance (.ref x) (.type "object")) true := I.type.andThen (W.looks_mroIn X (by unfold W.mroIn; rw [hcd, Option.bind_some, if_neg (by rw [ne]; decide), hob]))
  refine codeAny_call_builtin SF.slot.plain SF.entry (@W.check_slot (model prog w) _ _ ⟨hp, g, d, t, os⟩ "object.__setattr__" "object" "__setattr__" (.ref x) [.str name tk, v] [] _ SF.kind SF.split sub (SF.args (.ref x) (.str name tk) v) ?_)
  have hmr : W.Looks (model prog w) hp (mroOf (.ref C)) cd.mro := (W.looks_clsIn X hcd).andThen .now
  have L3 : W.Looks (model prog w) hp (storeTaker? none) none := .now
  have hcls : W.Looks (model prog w) hp (classData C) cd := W.looks_clsIn X hcd
  rw [W.osa_eq, refuse_eq]
  refine wpAny_bind (wpAny_bind (I.type.at (wpAny_bind (hmr.at ?_))))
  rw [hpass]
  refine wpAny_pure (wpAny_bind (I.type.at (wpAny_bind ((W.looks_findIn X ha).at (wpAny_bind (L3.at ?_))))))
  show wpAny _ _ (storeInOwnDict (.ref x) (.ref C) (.str name tk) name v false) _ _ _
  obtain ⟨nm, bs, mro, ns, qn, hd, sn, sb, ab, col, del⟩ := cd
  dsimp only at hh
  subst hh
  unfold storeInOwnDict ownDictForStores
  repeat (first | with_reducible refine store_in_new ?_ ?_ | with_reducible refine wpAny_loadPart_at hx ?_ | with_reducible refine hcls.at ?_ | wp_step)
  · exact ⟨_, #[], _, (Heap.get?_update_ne _ _ _ _ hxs.symm).trans (Heap.get?_push_at rfl rfl), rfl, fun e he => absurd he (by simp), fun _ => rfl⟩
  · intro h' tk' hn' hs
    have hx₁ : (hp.push { cls := .type "dict", data := .dict #[] }).get? x = some { cls := .ref C, data := .fields fv } := Heap.get?_push_of_some _ hx
    refine hq h' tk' hp.objs.size (fun b o hb ho => ?_) (Nat.le_refl _) hxs.symm ?_ hn'
    · exact (hs.2 b (Nat.ne_of_lt (Heap.lt_size ho))).trans ((Heap.get?_update_ne _ _ _ _ hb).trans (Heap.get?_push_of_some _ ho))
    · exact (hs.2 x hxs).trans (Heap.get?_update_self _ hx₁ rfl)
end
section
variable {X : Cx} {pins : List (Addr × Obj)} {σ : L2.St} {H : Hp} {s : Shared} {a C dx : Addr} {f : Str} {y : V} {u : Value} {fs : List (Str × V)} {Q : Unit → Shared → Prop} {E : Value → Shared → Prop} {A : Around}
theorem ostG (T : OexG X.K C) (I : Inv X pins σ H s) (e : H a = some (exo a C none)) (hno : PySem.W.findIn X.K (.ref C) f = some none) (ry : RelV y u)
    (h : ∀ dx s', H dx = none → dx ≠ a → Inv X pins σ (upd (upd H dx (exd dx [(f, y)])) a (exo a C (some dx))) s' → Q () s') : wpAny (model X.prog X.w) A (setAttr (.ref a) f u) Q E s := by
  obtain ⟨Bn, newId, initId, bmB, nm, q, N, bs, bm, sn, sub, ab, col, dd, k0, k1, k2, k3, k5, FB, hC, hbm, hpass, hob⟩ := T.cls
  have hcl : PySem.W.clsIn X.K C = some { name := nm, bases := bs, mro := .ref C :: bm, ns := N, qualname := q, hasDict := true, slotNames := sn, subclasses := sub, abstract := ab, collection := col, hasDel := false } := by unfold PySem.W.clsIn; rw [hC] <;> rfl
  obtain ⟨t1, ho⟩ := exo_at I.hok e
  obtain ⟨hp, g, d, t, os⟩ := s
  have hT : PySem.W.excTail bmB (.ref C :: bm) = true := hbm
  refine PySem.W.set_plain I.kIn (ox := { cls := .ref C, dict := none, data := .fields #[.ref t1, .none, .none, .none, .bool false, .none] }) (od := none) ⟨ho, rfl, rfl, trivial⟩ T.sa ?_
  refine osaG I.kIn ho hcl rfl ((PySem.W.excTail_contains "object" _ hT).trans hob) (fun self => PySem.W.excTail_pass self (hpass self) _ hT) rfl hno (fun h' tk' dx k dn dne hx hn => ?_)
  have hnd : H dx = none := I.hok.fresh dn
  have nd : ∀ {b : Addr} {o : Obj}, hp.get? b = some o → b ≠ dx := fun {b o} q => Nat.ne_of_lt (Nat.lt_of_lt_of_le (Heap.lt_size q) dn)
  have na : ∀ {b : Addr}, H b = none → b ≠ a := fun {b} n z => by
    rw [z, e] at n
    cases n
  have Un1 : Un X.fs [] H (upd (upd H dx (exd dx [(f, y)])) a (exo a C (some dx))) hp h' := {
    keep := fun b o q n _ _ => k b o (na n) q
    slot := fun b o q n _ _ => ⟨o.slots, k b o (na n) q⟩
    free := fun b o q n _ => by rw [upd_ne (na n), upd_ne (nd q)]; exact n
    there := fun b o q _ => by
      by_cases hb : b = a
      · exact ⟨_, by rw [hb]; exact hx⟩
      · exact ⟨o, k b o hb q⟩
    tups := fun b xs q => by rw [upd_ne (at_ne e q exo_tup), upd_ne (ne_of_none q hnd)]; exact q
    frzs := fun b o v q => by rw [upd_ne (at_ne e q exo_frz), upd_ne (ne_of_none q hnd)]; exact q
    tbls := fun b ps q => ⟨#[], by rw [upd_ne (at_ne e q exo_tbl), upd_ne (ne_of_none q hnd), q]; simp⟩ }
  refine h dx _ hnd dne (I.un (t' := tk') Un1 fun b o q => ?_)
  by_cases hb : b = a
  · subst hb
    rw [upd_same] at q
    cases q
    exact exo_ok hx
  · rw [upd_ne hb] at q
    by_cases hd : b = dx
    · subst hd
      rw [upd_same] at q
      cases q
      exact exd_ok hn (relO_put (fs := []) ry fun g => True.intro)
    · rw [upd_ne hd] at q
      exact (I.hok b o q).stay (fun c v hc z => k c v (by
          rcases hc with hc | hc
          · rw [hc]
            exact hb
          · exact at_ne e hc exo_own) z)
        (fun c hc => by rw [upd_ne (at_ne e hc exo_own), upd_ne (ne_of_none hc hnd)]; exact hc) (fun c xs hc => by rw [upd_ne (at_ne e hc exo_tup), upd_ne (ne_of_none hc hnd)]; exact hc)
end
/-- self.f = e, the first field -/
def tOsG (K : PySem.W.Frag) (f : Str) (to te : TE) : TS := fun D σ H => te σ H fun y H1 => to σ H1 fun x H2 => ∃ a C : Addr, x = .ref a ∧ OexG K C ∧ PySem.W.findIn K (.ref C) f = some none ∧
  H2 a = some (exo a C none) ∧ ∀ dx, H2 dx = none → dx ≠ a → D.nx σ (upd (upd H2 dx (exd dx [(f, y)])) a (exo a C (some dx)))
section
variable {X : Cx} {o e : Expr} {es : List Expr} {to te : TE} {ta : TA} {f : Str} {p p' p1 p2 pos : Pos}
theorem ps_ostG (ho : PE X o to) (he : PE X e te) (hs : swapsWith e (some (.Attribute o f p')) pos.line X.env = pure false := by rfl) : PS X (.Assign [.Attribute o f p'] e pos) (tOsG X.K f to te) := by
  refine ⟨fun pins s σ H D I h => ?_⟩
  refine plainObj_wpAny_Assign_Attribute (thn (he.run pins s σ H _ I h) fun v s1 ⟨y, H1, I1, r1, q1⟩ => thn (ho.run pins s1 σ H1 _ I1 q1) fun u s2 ⟨x, H2, I2, r2, a, C, ex, T, hno, ea, q⟩ => ?_) hs
  subst ex
  obtain rfl : u = Value.ref a := r2
  exact ostG T I2 ea hno r1 fun dx s' n ne J => ⟨σ, _, J, q dx n ne⟩
theorem pmk_oexG {CX : CXT} {x : Str} {C fI : Addr} {k : Nat} {fd : FuncData} {ps : List Str} {sp : Sp} {ds : List Value} {dvs : List V} (T : OexG X.K C) (iC : PySem.W.findIn X.K (.ref C) "__init__" = some (some (.ref fI))) (tI : PySem.W.typeIn X.K (.ref fI) = some (.type "function"))
    (F1 : FnOk X.prog X.w X.K X.mg X.base CX k fI fd ps sp) (hr : Room (k + 1) X.A) (hb : Binds X.K fd ps ds) (hd : Vals dvs ds) (hx : Passes CX X (fun _ _ _ => False)) (hg : Gl X x) (hm : X.mg x = some (.ref C)) (ha : PA X (e :: es) ta)
    (hdb : (x == ("__debug__" : Str)) = false := by decide) (he : starEach (e :: es) X.env = (false, eval e X.env) :: starEach es X.env := by rfl) (hpl : (backTo pos (starEach es X.env)).any (·.1) = false := by rfl) :
    PMk X (.Call (.Name x p) (e :: es) [] pos) (tMkO C sp dvs ta) := by
  intro pins s σ H Q I h
  obtain ⟨Bn, newId, initId, bmB, nm, q, N, bs, bm, sn, sub, ab, col, dd, k0, k1, k2, k3, k5, FB, hC, hbm, hpass, hob⟩ := T.cls
  refine wpAny_Call_Name_kw (ld_glob I hg hm ?_ hdb)
  refine PySem.W.callWith_K (h₀ := X.base) I.ok.mod.kin T.kC (thn (ha.run pos pins s σ H _ I h) fun us s1 ⟨vs, H1, I1, r1, hz, q1⟩ => ⟨I1.kIn, ?_⟩) he hpl
  show wpAny _ _ (call (.ref C) us) _ _ _
  obtain ⟨hp, g, dr, tk, os⟩ := s1
  have hsz : hp.objs.size ≤ hp.objs.size + 1 := Nat.le_succ _
  have hn : H1 (hp.objs.size + 1) = none := I1.hok.fresh hsz
  have hq := q1 (hp.objs.size + 1) hn
  have kk : ∀ b o, hp.get? b = some o → ((hp.push (PySem.W.kdv_tup us)).push (PySem.HandSPX.excO C hp.objs.size)).get? b = some o := fun b o e => Heap.get?_push_of_some _ (Heap.get?_push_of_some _ e)
  have hget : ((hp.push (PySem.W.kdv_tup us)).push (PySem.HandSPX.excO C hp.objs.size)).get? (hp.objs.size + 1) = some (PySem.HandSPX.excO C hp.objs.size) := by heap_get
  have I2 : Inv X pins σ (upd H1 (hp.objs.size + 1) (exo (hp.objs.size + 1) C none)) ⟨(hp.push (PySem.W.kdv_tup us)).push (PySem.HandSPX.excO C hp.objs.size), g, dr, tk, os⟩ :=
    I1.laid (t' := tk) (a := hp.objs.size + 1) (o := exo (hp.objs.size + 1) C none) (h' := (hp.push (PySem.W.kdv_tup us)).push (PySem.HandSPX.excO C hp.objs.size)) kk hsz (exo_ok hget)
  have r2 : Vals (V.ref (hp.objs.size + 1) :: (vs ++ dvs)) (Value.ref (hp.objs.size + 1) :: (us ++ ds)) := .cons rfl (r1.append hd)
  have hl : (Value.ref (hp.objs.size + 1) :: us ++ ds).length = ps.length := by
    have e := r2.length
    rw [F1.len _ _ _ _ hq] at e
    exact e.symm
  have hus : us.length ≤ sizeLine := by
    rw [← Paired.length r1, sizeLine_eq]
    omega
  refine wpAny_call (PySem.HandSPX.call_own FB (fun Y => PySem.W.excTail_contains Y bm hbm) (I1.kIn _ _ hC) (PySem.W.looks_findIn I1.kIn iC) (fun self => PySem.W.bind_fn I1.kIn self tI) hus
    (codeAny_mono (F1.run _ X.stack _ _ ⟨Value.ref (hp.objs.size + 1) :: us, []⟩ (Value.ref (hp.objs.size + 1) :: (us ++ ds)) _ _ (fun _ _ _ => False) (hr.make C us []) (I2.env0.make C us []) (hb _ (Value.ref (hp.objs.size + 1) :: us) I2.kIn hl) r2 hq) fun r s' hq' => ?_))
  cases r with
  | error er => exact hx pins σ _ _ er s' I2 hq'
  | ok fl =>
    cases fl with
    | ret u =>
      obtain ⟨v, H2, os2, bare2, un2, hok2, rv, ev, d, fs, ea, ed, hd1, q2⟩ := hq'
      subst ev
      obtain ⟨h2, g2, d2, t2, os'⟩ := s'
      exact ⟨rv, mk_end (raises_own T.exC T.tyC) I1 hsz kk un2 hok2 os2 bare2 ea ed hd1 q2⟩
    | next => exact False.elim hq'
    | brk => exact False.elim hq'
    | cont => exact False.elim hq'
end
end XT
/-! a caught error with a dict: isinstance; handed to a def -/
namespace XT
open PySem PySem.Spec PyProof.Rows L2
/-- what the class D of an error must say for isinstance -/
structure IsC (K : PySem.W.Frag) (D : Addr) : Prop where
  cl : (PySem.W.clsIn K D).isSome = true
  ga : PySem.W.findIn K (.ref D) "__getattribute__" = some (some (.builtin "BaseException.__getattribute__"))
  gg : PySem.W.findIn K (.ref D) "__getattr__" = some none
  sb : PySem.W.subIn K (.ref D) (.type "BaseException") = some true
  ha : PySem.W.findIn K (.ref D) "__class__" = some (some (.builtin "object.__class__"))
  hn : PySem.W.specialIn K (.builtin "object.__class__") "__get__" = some (some (.builtin "getset_descriptor.__get__"))
  ht : PySem.W.takesIn K (.builtin "object.__class__") = some true
  hm : PySem.W.mroIn K D (.type "object") = some true
section
variable {X : Cx} {a D : Addr} {oe : Obj} {cls : Value} {d : Option Addr} {pn : List (Addr × Obj)}
theorem inst_of {pins : List (Addr × Obj)} {σ : L2.St} {H : Hp} {s : Shared} {dd : Addr} {fs : List (Str × V)} (I : Inv (X.suite a ((a, oe) :: pn)) pins σ H s) (hz : Zc cls d oe) (hf : ∃ vs, oe.data = .fields vs) (ec : cls = .ref D) (ed : d = some dd) (hd : H dd = some (.xd fs)) :
    ∃ od, PySem.W.InstAt s.heap a oe D (some od) := by
  subst ec ed
  obtain ⟨ha, _⟩ := I.pin (a, oe) (List.mem_append_left _ List.mem_cons_self)
  obtain ⟨vs, hv⟩ := hf
  have hx : ObjOk X.prog X.w H s.heap dd (.xd fs) := I.hok dd _ hd
  obtain ⟨mA, hns, _⟩ := hx
  obtain ⟨od, ho, _⟩ := lookIn_ns hns
  exact ⟨od, ha, hz.1, by unfold PySem.W.notCls; rw [hv] <;> rfl, by rw [hz.2]; exact ho⟩
/-- isinstance(e, c) -/
def rIsD (K : PySem.W.Frag) (D a : Addr) (cls : Value) (d : Option Addr) : List V → Hp → VK → Prop := fun xs H Q => ∃ (c : V) (cv : Value) (b : Bool) (dd : Addr) (fs : List (Str × V)), xs = [.ref a, c] ∧ ClsV c cv ∧ cls = .ref D ∧ d = some dd ∧ H dd = some (.xd fs) ∧ PySem.W.kitOne K (.ref D) cv = some b ∧ Q (.bl b) H
theorem call_isD (C : IsC X.K D) (hz : Zc cls d oe) (hf : ∃ vs, oe.data = .fields vs) : CallR (X.suite a ((a, oe) :: pn)) (.builtin "isinstance") (rIsD X.K D a cls d) := by
  intro pins s σ H xs us Q I r h
  obtain ⟨c, cv, b, dd, fs, rfl, kc, ec, ed, hd, e, q⟩ := h
  obtain ⟨u1, u2, rfl, r1, r2⟩ := vals2 r
  cases (show u1 = Value.ref a from r1)
  have e2 := kc.eq r2
  subst e2
  obtain ⟨od, J⟩ := inst_of I hz hf ec ed hd
  exact PySem.W.kia_one (PySem.W.kitx_exc C.cl C.ga C.gg C.sb C.ha C.hn C.ht C.hm) I.kIn J e (fun z => nomatch z) fun tk => ⟨.bl b, H, I.tok tk, rfl, q⟩
/-- isinstance(e, (c1, c2, ..)) -/
def rIsDT (K : PySem.W.Frag) (D a : Addr) (cls : Value) (d : Option Addr) : List V → Hp → VK → Prop := fun xs H Q => ∃ (tp : Addr) (cs : List V) (ws : List Value) (b : Bool) (dd : Addr) (fs : List (Str × V)), xs = [.ref a, .ref tp] ∧ H tp = some (.tup cs) ∧ Paired ClsV cs ws ∧ cls = .ref D ∧ d = some dd ∧ H dd = some (.xd fs) ∧ PySem.W.kitAny K (.ref D) ws = some b ∧ Q (.bl b) H
theorem call_isDT (C : IsC X.K D) (hz : Zc cls d oe) (hf : ∃ vs, oe.data = .fields vs) : CallR (X.suite a ((a, oe) :: pn)) (.builtin "isinstance") (rIsDT X.K D a cls d) := by
  intro pins s σ H xs us Q I r h
  obtain ⟨tp, cs, ws, b, dd, fs, rfl, hT, kc, ec, ed, hd, e, q⟩ := h
  obtain ⟨u1, u2, rfl, r1, r2⟩ := vals2 r
  cases (show u1 = Value.ref a from r1)
  cases (show u2 = Value.ref tp from r2)
  obtain ⟨od, J⟩ := inst_of I hz hf ec ed hd
  have hx : ObjOk X.prog X.w H s.heap tp (.tup cs) := I.hok tp _ hT
  obtain ⟨_, its, rv, o, h1, h2, n, h3⟩ := hx
  have e3 := ClsV.all kc rv
  subst e3
  obtain ⟨oc, od2, dt, sl⟩ := o
  simp only at h2 h3
  subst h2 h3
  exact PySem.W.kia_tup (PySem.W.kitx_exc C.cl C.ga C.gg C.sb C.ha C.hn C.ht C.hm) I.kIn J h1 e (fun z => nomatch z) fun tk => ⟨.bl b, H, I.tok tk, rfl, q⟩
/-- f(e), e the error that is handled, by f's body -/
theorem pe_err {x par : Str} {st : Stmt} {f : Addr} {fd : FuncData} {N : List Str} {sp : Hp → VK → Prop} {e : Expr} {te : TE} {p pos : Pos} (F : Fun X.K x x st f fd) (S : FnScope N [par] (defScope st))
    (hb : ∀ (kV doc pm : Value) (an : Option Addr) (cdv ct u : Value), bindArgs (PySem.W.fnOf x x (defArgs st) (defBody st) (defScope st) .none kV doc pm an cdv ct) ⟨[u], []⟩ = pure [(par, u)])
    (hg : Gl X x) (hm : X.mg x = some (.ref f)) (hr : X.A.depth < recursionLimit)
    (hbody : ∀ (cdv : Value) (outer : List Env) (s : Shared) (H : Hp) (Q : VK), sp H Q → ∃ t, PSs ((cxOf CX0 X.prog X.w X.K X.mg X.base N x (defScope st) f cdv X.A outer s H E0).nox.suite a [(a, oe)]) (defBody st) t ∧ t { nx := fun _ H' => Q .non H', rt := Q } (start N [.ref a]) H)
    (he : PE (X.suite a ((a, oe) :: pn)) e te) (hdb : (x == ("__debug__" : Str)) = false := by decide) (hst : starEach [e] X.env = (false, eval e X.env) :: starEach [] X.env := by rfl) :
    PE (X.suite a ((a, oe) :: pn)) (.Call (.Name x p) [e] [] pos) (fun σ H Q => te σ H fun v H1 => v = .ref a ∧ sp H1 Q) := by
  have kp := F.kp
  obtain ⟨oc, od, kV, doc, pm, an, cdv, ct, osl, rfl, lk, hcd⟩ := F.ex
  refine ⟨fun pins s σ H Q I h => wpAny_Call_Name_kw (ld_glob I hg hm ?_ hdb)⟩
  refine PySem.W.callWith_K (h₀ := X.base) I.ok.mod.kin kp ?_ hst (by rfl)
  rw [hst]
  show wpAny _ _ (spliced ((false, eval e X.env) :: backTo pos (starEach [] X.env))) _ _ s
  refine Calls.spliced_cons (thn (he.run pins s σ H _ I h) fun u s1 ⟨v, H1, I1, r1, ev, hsp⟩ => ?_)
  subst ev
  cases (show u = Value.ref a from r1)
  refine Calls.spliced_nil ⟨I1.kIn, ?_⟩
  show wpAny _ _ (call (.ref f) [.ref a]) _ _ _
  have P1 := I1.pin (a, oe) (List.mem_append_left _ List.mem_cons_self)
  have hpin : L2H.PinOk X.stack H1 s1 (a, oe) := ⟨P1.1, P1.2.1, fun hmm => (List.mem_cons.mp (I1.stkSub a hmm)).elim P1.2.2.1 P1.2.2.2.1, P1.2.2.2.2⟩
  have e0 := I1.env0
  have KX : X.K.In s1.heap := I1.kIn
  have lim : s1.heap.NoLimit := I1.nolimit
  refine wpAny_call (codeAny_mono (R := CR CX0 X.stack X.prog X.w H1 s1 Q E0) ?_ fun r s2 z => ?_)
  · refine codeAny_call_function hr (KX _ _ lk) rfl S.co S.gen rfl (PySem.W.codeRec_of KX hcd) ?_
    rw [hb kV doc pm an cdv ct (.ref a)]
    refine wpAny_pure ?_
    have hkind : ∀ y ∈ [par].zip [Value.ref a], (defScope st).names.lookup y.1 = some .local ∨ ((defScope st).names.lookup y.1 = some .cell ∧ ((cellsFrom (s1.heap.objs.size + 1) (defScope st).names []).lookup y.1).isSome = true) := fun y hy => by
      rcases S.par y.1 (List.of_mem_zip hy).1 with q | q
      · exact .inl q
      · exact .inr ⟨q, PySem.W.cellsFrom_some _ _ _ (.inl q)⟩
    refine wpAny_newFunctionEnv_cells (s := s1) S.kind hkind fun env henv s3 x3 => ?_
    subst henv
    refine ⟨lim.keeps x3.toInCall.keep, codeAny_func ?_⟩
    obtain ⟨t, ht, hq⟩ := hbody cdv X.stack s1 H1 Q hsp
    have J := L2H.inv_startH (CX := CX0) (E := E0) S hpin e0 (vs := [.ref a]) rfl (.cons rfl .nil) x3
    have ht2 : PSs (L2H.cxH CX0 X.prog X.w X.K X.mg X.base N x (defScope st) f cdv (X.A.mark (some (.ref a))) X.stack s1 H1 E0 (a, oe)) (defBody st) t := PSs.nox ht
    refine wpAny_mono (ht2.run [] s3 _ H1 _ J hq) (fun fl s4 hs => ?_) fun e4 s4 hs => hs
    match fl, hs with
    | .ret u, ⟨v, σ4, H4, J4, rv, q⟩ => exact ⟨v, H4, J4.os, J4.bare, J4.base, J4.hok, rv, q⟩
    | .next, ⟨σ4, H4, J4, q⟩ => exact ⟨.non, H4, J4.os, J4.bare, J4.base, J4.hok, rfl, q⟩
    | .brk, ⟨_, _, _, q⟩ => exact q.elim
    | .cont, ⟨_, _, _, q⟩ => exact q.elim
  · match r, z with
    | .error e4, z => exact z.elim
    | .ok .next, z => exact z.elim
    | .ok .brk, z => exact z.elim
    | .ok .cont, z => exact z.elim
    | .ok (.ret u), z => exact I1.after z
end
end XT
/-! own errors: made with one field or with none, and raised by common_width -/
namespace XT
open PySem PySem.Spec PyProof.Rows L2
theorem PMk.imp {X : Cx} {e : Expr} {t t' : L2.St → Hp → XK → Prop} (h : PMk X e t) (i : ∀ σ H Q, t' σ H Q → t σ H Q) : PMk X e t' := fun pins s σ H Q I q => h pins s σ H Q I (i _ _ _ q)
/-- self.f = y in a class's __init__ -/
def spInit (K : PySem.W.Frag) (C : Addr) (f : Str) : Sp := fun vs H Q _ => ∃ (a : Addr) (y : V), vs = [.ref a, y] ∧ H a = some (exo a C none) ∧ ∀ dx, H dx = none → dx ≠ a → Q .non (upd (upd H dx (exd dx [(f, y)])) a (exo a C (some dx)))
/-- an own error class over ValueError with one field -/
structure ErrC (P : Program) (w : World) (K : PySem.W.Frag) (mg : Str → Option Value) (base : Heap) (x f : Str) (C : Addr) : Prop where
  T : OexC K C
  no : PySem.W.findIn K (.ref C) f = some none
  ini : ∃ (fI : Addr) (fd : FuncData) (ps : List Str), PySem.W.findIn K (.ref C) "__init__" = some (some (.ref fI)) ∧ PySem.W.typeIn K (.ref fI) = some (.type "function") ∧ FnOk P w K mg base CX0 1 fI fd ps (spInit K C f) ∧ Binds K fd ps []
  hm : mg x = some (.ref C)
theorem same_xd {H : Hp} {a dx C : Addr} {o o' : HO} {fs : List (Str × V)} (n : H a = none) (m : H dx = none) (ne : dx ≠ a) : Same H (upd (del (upd (upd (upd H a o) dx o') a (exo a C (some dx))) a) dx (.xd fs)) := fun b x e => by
  have h1 : b ≠ dx := ne_of_none e m
  have h2 : b ≠ a := ne_of_none e n
  rw [upd_ne h1, del_ne h2, upd_ne h2, upd_ne h1, upd_ne h2]
  exact e
section
variable {X : Cx} {C : Addr} {x f : Str} {e : Expr} {ta : TA} {p pos : Pos}
/-- C(e) -/
theorem pmk_err (R : ErrC X.prog X.w X.K X.mg X.base x f C) (hr : Room 2 X.A) (hg : Gl X x) (ha : PA X [e] ta)
    (hdb : (x == ("__debug__" : Str)) = false := by decide) (he : starEach [e] X.env = (false, eval e X.env) :: starEach [] X.env := by rfl) (hpl : (backTo pos (starEach [] X.env)).any (·.1) = false := by rfl) :
    PMk X (.Call (.Name x p) [e] [] pos) (tMkO C (spInit X.K C f) [] ta) := by
  obtain ⟨fI, fd, ps, hi, ht, F, hb⟩ := R.ini
  exact pmk_oex (CX := CX0) (k := 1) (dvs := []) (ds := []) R.T hi ht F hr hb .nil pass0 hg R.hm ha hdb he hpl
theorem mko_in {K : PySem.W.Frag} {H1 : Hp} {Q : XK} {y : V} (h : ∀ H' d, Same H1 H' → H' d = some (.xd [(f, y)]) → Q (.ref C) (some d) H') :
    [y].length ≤ 1000 ∧ ∀ a, H1 a = none → spInit K C f (.ref a :: ([y] ++ [])) (upd H1 a (exo a C none))
      (fun v H2 => v = .non ∧ ∃ (d : Addr) (fs : List (Str × V)), H2 a = some (exo a C (some d)) ∧ H2 d = some (exd d fs) ∧ H1 d = none ∧ Q (.ref C) (some d) (upd (del H2 a) d (.xd fs))) (fun _ _ _ => False) := by
  refine ⟨by simp, fun a n => ⟨a, y, rfl, upd_same, fun dx nd ne => ⟨rfl, dx, [(f, y)], upd_same, ?_, ?_, ?_⟩⟩⟩
  · exact (upd_ne ne).trans upd_same
  · rw [upd_ne ne] at nd
    exact nd
  · rw [upd_ne ne] at nd
    exact h _ dx (same_xd n nd ne) upd_same
/-- C(), no own __init__ -/
theorem pmk_none {bmB : List Value} {B newId initId : String} (F : ExcBaseFacts B newId initId bmB) (q : PySem.W.excIn X.K C bmB newId = true) (gC : X.mg x = some (.ref C)) (kC : PySem.W.keepIn X.K (.ref C) = true) (r : Raises X (.ref C)) (hg : Gl X x)
    (hdb : (x == ("__debug__" : Str)) = false := by decide) : PMk X (.Call (.Name x p) [] [] pos) (fun _ H Q => Q (.ref C) none H) := by
  intro pins s σ H Q I h
  refine wpAny_Call_Name_kw (ld_glob I hg gC ?_ hdb)
  refine PySem.W.callWith_K0 I.kIn kC ?_
  obtain ⟨bm, N, nm, qn, bs, hdct, sn, sub, ab, col, dd, k0, k1, k2, k3, k5, mN, hC, hN, hni, T⟩ := exc_obj I.kIn q
  obtain ⟨hp, g, dr, tk, os⟩ := s
  refine wpAny_call_exc_subT F T hC hN hni (fun h' e hm => ?_) (by show 0 ≤ sizeLine; omega)
  exact mk_of I hm r h (I.hok.gone hm.new)
end
end XT
namespace XT
open PySem PySem.Spec PyProof.Rows L2
/-- what the own error without fields needs -/
structure ErrN (K : PySem.W.Frag) (mg : Str → Option Value) (x : Str) (C : Addr) : Prop where
  ex : ∃ (bmB : List Value) (B newId initId : String), ExcBaseFacts B newId initId bmB ∧ PySem.W.excIn K C bmB newId = true
  exC : PySem.W.subIn K (.ref C) (.type "BaseException") = some true
  tyC : PySem.W.typeIn K (.ref C) = some (.type "type")
  kC : PySem.W.keepIn K (.ref C) = true
  hm : mg x = some (.ref C)
end XT
namespace XT
open PySem PySem.Spec PyProof.Rows L2
def DefX (P : Program) (w : World) (K : PySem.W.Frag) (mg : Str → Option Value) (base : Heap) (k : Nat) (x : Str) (sp : Sp) : Prop :=
  ∃ f fd ps, FnOk P w K mg base (L2.CX P w) k f fd ps sp ∧ Binds K fd ps [] ∧ mg x = some (.ref f) ∧ PySem.W.keepIn K (.ref f) = true
theorem DefX.of {P : Program} {w : World} {K : PySem.W.Frag} {mg : Str → Option Value} {base : Heap} {k : Nat} {x : Str} {sp : Sp} {f : Addr} {fd : FuncData} {ps : List Str}
    (F : FnOk P w K mg base (L2.CX P w) k f fd ps sp) (b : Binds K fd ps []) (hm : mg x = some (.ref f)) (hk : PySem.W.keepIn K (.ref f) = true) : DefX P w K mg base k x sp := ⟨f, fd, ps, F, b, hm, hk⟩
section
variable {X : Cx}
/-- f(e, ..), f may raise -/
theorem pe_defX {j : Nat} {x : Str} {sp : Sp} {W : WX} {e : Expr} {es : List Expr} {t : TA} {p pos : Pos} (D : DefX X.prog X.w X.K X.mg X.base j x sp) (hr : Room j X.A) (hg : Gl X x) (tk : Takes X W) (ha : PA X (e :: es) t)
    (hdb : (x == ("__debug__" : Str)) = false := by decide) (he : starEach (e :: es) X.env = (false, eval e X.env) :: starEach es X.env := by rfl) (hpl : (backTo pos (starEach es X.env)).any (·.1) = false := by rfl) :
    PE X (.Call (.Name x p) (e :: es) [] pos) (tCallS sp (WE W) t) := by
  obtain ⟨f, fd, ps, F, b, hm, hk⟩ := D
  exact pe_callS F hr hg hm hk b (fun σ => passAt tk σ) ha hdb he hpl
end
end XT
/-! methods that may raise -/
namespace XT
open PySem PySem.Spec PyProof.Rows L2
def MethX (P : Program) (w : World) (K : PySem.W.Frag) (mg : Str → Option Value) (base : Heap) (k : Nat) (C : Addr) (m : Str) (sp : Sp) : Prop := ∃ (f : Addr) (fd : FuncData) (ps : List Str), Cls K C ∧ Meth K C m f ∧ FnOk P w K mg base (L2.CX P w) k f fd ps sp ∧ Binds K fd ps []
abbrev MetX (P : Program) (w : World) (K : PySem.W.Frag) (mg : Str → Option Value) (base : Heap) (k : Nat) (f : Addr) (sp : Sp) : Prop := FnR P w K mg base (L2.CX P w) k f sp
theorem MetX.of {P : Program} {w : World} {K : PySem.W.Frag} {mg : Str → Option Value} {base : Heap} {k : Nat} {sp : Sp} {f : Addr} {fd : FuncData} {ps : List Str} (F : FnOk P w K mg base (L2.CX P w) k f fd ps sp) (b : Binds K fd ps []) : MetX P w K mg base k f sp :=
  (FnOk.raw F b .nil).imp fun vs H Q E h => by rw [List.append_nil]; exact h
def OwnX (P : Program) (w : World) (K : PySem.W.Frag) (mg : Str → Option Value) (base : Heap) (k : Nat) (C : Addr) (m : Str) (sp : Sp) : Prop := ∃ (f : Addr), Has K C m f ∧ PySem.W.fnIn K f = true ∧ MetX P w K mg base k f sp
def tMethX (C : Addr) (m : Str) (sp : Sp) (W : WX) (ta : TE) (t : TA) : TE := fun σ H Q => ta σ H fun x H1 => ∃ a dx fs, x = .ref a ∧ H1 a = some (.ins C dx fs) ∧ fs.lookup m = none ∧ t σ H1 fun vs H2 => sp (.ref a :: vs) H2 Q (WE W σ)
section
variable {X : Cx} {j k : Nat} {f C : Addr} {m : Str} {sp : Sp} {W : WX} {o e : Expr} {es : List Expr} {ta tb : TE} {t : TA} {apos pos : Pos}
theorem pe_methX {pl : Sem Bool} (he : PE X o ta) (D : MethX X.prog X.w X.K X.mg X.base k C m sp) (hr : Room k X.A) (tk : Takes X W) (ha : PA X (e :: es) t)
    (hst : starEach (e :: es) X.env = (false, eval e X.env) :: starEach es X.env := by rfl) (hpl : (backTo pos (starEach es X.env)).any (·.1) = false := by rfl)
    (ht : eval (.Call (.Attribute o m apos) (e :: es) [] pos) X.env = (do let ov ← eval o X.env; standAt apos.atName; let (f, first) ← holding [ov] (getMethod ov m pl); callWith pos f first (backTo pos (starEach (e :: es) X.env)) (backToKw pos (keywordEach [] X.env))) := by rfl) :
    PE X (.Call (.Attribute o m apos) (e :: es) [] pos) (tMethX C m sp W ta t) := by
  obtain ⟨f, fd, ps, c, hm, F, b⟩ := D
  refine ⟨fun pins s σ H Q I h => ?_⟩
  refine PySem.W.methodCall_KW (pl := pl) (thn (he.run pins s σ H _ I h) fun u s1 ⟨x, H1, I1, rx, a, dx, fs, ex, ea, l, q⟩ => ?_) ht
  subst ex
  obtain rfl : u = Value.ref a := rx
  refine getmeth_ok I1 ea c hm l ?_
  refine PySem.W.callWith_K (first := [.ref a]) (h₀ := X.base) I.ok.mod.kin hm.kp (thn (ha.run pos pins s1 σ H1 _ I1 q) fun us s2 ⟨vs, H2, I2, r, q2⟩ => ⟨I2.kIn, ?_⟩) hst hpl
  exact run_fnSD (E := WE W) (us := .ref a :: us) (vs := .ref a :: vs) (dvs := []) (ds := []) F hr b .nil (passAt tk σ) I2 (.cons rfl r) (by rw [List.append_nil]; exact q2)
theorem pe_methX0 {pl : Sem Bool} (he : PE X o ta) (D : MethX X.prog X.w X.K X.mg X.base k C m sp) (hr : Room k X.A) (tk : Takes X W)
    (ht : eval (.Call (.Attribute o m apos) [] [] pos) X.env = (do let ov ← eval o X.env; standAt apos.atName; let (f, first) ← holding [ov] (getMethod ov m pl); callWith pos f first (backTo pos (starEach [] X.env)) (backToKw pos (keywordEach [] X.env))) := by rfl) :
    PE X (.Call (.Attribute o m apos) [] [] pos) (tMethX C m sp W ta tNil) := by
  obtain ⟨f, fd, ps, c, hm, F, b⟩ := D
  refine ⟨fun pins s σ H Q I h => ?_⟩
  refine PySem.W.methodCall_KW (pl := pl) (thn (he.run pins s σ H _ I h) fun u s1 ⟨x, H1, I1, rx, a, dx, fs, ex, ea, l, q⟩ => ?_) ht
  subst ex
  obtain rfl : u = Value.ref a := rx
  refine getmeth_ok I1 ea c hm l ?_
  exact PySem.W.callWith_K0 (first := [.ref a]) I1.kIn hm.kp (run_fnSD (E := WE W) (us := [.ref a]) (vs := [.ref a]) (dvs := []) (ds := []) F hr b .nil (passAt tk σ) I1 (.cons rfl .nil) q)
theorem run_metX1 {pins : List (Addr × Obj)} {σ : L2.St} {H : Hp} {s : Shared} {us : List Value} {vs : List V} {Q : VK} (F : MetX X.prog X.w X.K X.mg X.base j f sp) (hr : Room (j + 1) X.A) (tk : Takes X W) (I : Inv X pins σ H s) (r : Vals vs us) (q : sp vs H Q (WE W σ)) : wpAny (model X.prog X.w) X.A.in1 (call (.ref f) us) (EP X pins σ Q) X.xe s := by
  refine wpAny_call (codeAny_mono (F X.A.in1 X.stack s H us vs Q (WE W σ) hr.in1 I.env0.in1 r q) fun r s2 hq => ?_)
  match r, hq with
  | .ok (.ret v), hq => exact I.after hq
  | .ok .next, hq => exact False.elim hq
  | .ok .brk, hq => exact False.elim hq
  | .ok .cont, hq => exact False.elim hq
  | .error e, hq => exact passAt tk σ pins H s e s2 I hq
/-- a[i], the class's __getitem__ may raise -/
def tIxX (C : Addr) (sp : Sp) (W : WX) (ta tb : TE) : TE := fun σ H Q => ta σ H fun x H1 => tb σ H1 fun y H2 => (∃ fs, InsAt H2 C x fs) ∧ sp [x, y] H2 Q (WE W σ)
theorem pe_ixX {a b : Expr} (D : OwnX X.prog X.w X.K X.mg X.base j C "__getitem__" sp) (hr : Room (j + 1) X.A) (tk : Takes X W) (ha : PE X a ta) (hb : PE X b tb) (hsl : ∀ v u, subscripted b true v u = runValue (.builtin "lifetime.subscript" ⟨[v, u], []⟩) := by intro _ _; with_unfolding_all rfl) : PE X (.Subscript a b pos) (tIxX C sp W ta tb) := by
  obtain ⟨f, h, hf, F⟩ := D
  refine ⟨fun pins s σ H Q I hq => ?_⟩
  refine Subscript_ (binT (R := fun x y H2 => (∃ fs, InsAt H2 C x fs) ∧ sp [x, y] H2 Q (WE W σ)) ha hb I hq fun v u s2 x y H2 I2 rx ry q => ?_)
  obtain ⟨⟨fs, a', dx, ex, hz⟩, q⟩ := q
  subst ex
  cases rx
  obtain ⟨od, J⟩ := inst_at I2 hz
  obtain ⟨m, fr⟩ := I2.fr
  exact PySem.W.sub_K fr I2.ok.mod.kin J h.at_ hf h.fn (run_metX1 (vs := [.ref a', y]) F hr tk I2 (.cons rfl (.cons ry .nil)) q) (hsl _ _)
end
end XT
/-! own errors with one field, over any built-in class -/
namespace XT
open PySem PySem.Spec PyProof.Rows L2
def spInitG (C : Addr) (f : Str) : Sp := fun vs H Q _ => ∃ (a : Addr) (y : V), vs = [.ref a, y] ∧ H a = some (exo a C none) ∧ ∀ dx, H dx = none → dx ≠ a → Q .non (upd (upd H dx (exd dx [(f, y)])) a (exo a C (some dx)))
structure ErrG (P : Program) (w : World) (K : PySem.W.Frag) (mg : Str → Option Value) (base : Heap) (x f : Str) (C : Addr) : Prop where
  T : OexG K C
  no : PySem.W.findIn K (.ref C) f = some none
  ini : ∃ (fI : Addr) (fd : FuncData) (ps : List Str), PySem.W.findIn K (.ref C) "__init__" = some (some (.ref fI)) ∧ PySem.W.typeIn K (.ref fI) = some (.type "function") ∧ FnOk P w K mg base CX0 1 fI fd ps (spInitG C f) ∧ Binds K fd ps []
  hm : mg x = some (.ref C)
section
variable {X : Cx} {C : Addr} {x f : Str} {e : Expr} {ta : TA} {p pos : Pos}
theorem pmk_errG (R : ErrG X.prog X.w X.K X.mg X.base x f C) (hr : Room 2 X.A) (hg : Gl X x) (ha : PA X [e] ta)
    (hdb : (x == ("__debug__" : Str)) = false := by decide) (he : starEach [e] X.env = (false, eval e X.env) :: starEach [] X.env := by rfl) (hpl : (backTo pos (starEach [] X.env)).any (·.1) = false := by rfl) :
    PMk X (.Call (.Name x p) [e] [] pos) (tMkO C (spInitG C f) [] ta) := by
  obtain ⟨fI, fd, ps, hi, ht, F, hb⟩ := R.ini
  exact pmk_oexG (CX := CX0) (k := 1) (dvs := []) (ds := []) R.T hi ht F hr hb .nil pass0 hg R.hm ha hdb he hpl
theorem mkoG_in {H1 : Hp} {Q : XK} {y : V} (h : ∀ H' d, Same H1 H' → H' d = some (.xd [(f, y)]) → Q (.ref C) (some d) H') :
    [y].length ≤ 1000 ∧ ∀ a, H1 a = none → spInitG C f (.ref a :: ([y] ++ [])) (upd H1 a (exo a C none))
      (fun v H2 => v = .non ∧ ∃ (d : Addr) (fs : List (Str × V)), H2 a = some (exo a C (some d)) ∧ H2 d = some (exd d fs) ∧ H1 d = none ∧ Q (.ref C) (some d) (upd (del H2 a) d (.xd fs))) (fun _ _ _ => False) := by
  refine ⟨by simp, fun a n => ⟨a, y, rfl, upd_same, fun dx nd ne => ⟨rfl, dx, [(f, y)], upd_same, ?_, ?_, ?_⟩⟩⟩
  · exact (upd_ne ne).trans upd_same
  · rw [upd_ne ne] at nd
    exact nd
  · rw [upd_ne ne] at nd
    exact h _ dx (same_xd n nd ne) upd_same
end
/-- a caught error with a field -/
structure CauG (K : PySem.W.Frag) (mg : Str → Option Value) (x f : Str) (C : Addr) : Prop where
  is : IsC K C
  xf : XfC K C
  no : PySem.W.findIn K (.ref C) f = some none
  hm : mg x = some (.ref C)
  exm : PySem.W.exmOne K (.ref C) (.ref C) = some true
theorem bLE : bootBuiltins "LookupError" = some (.type "LookupError") := by decide +kernel
theorem bVE : bootBuiltins "ValueError" = some (.type "ValueError") := by decide +kernel
end XT
/-! check_widths -/
namespace XT
open PySem PySem.Spec PyProof.Rows L2
section
variable {P : Program} {w : World} {K : PySem.W.Frag} {mg : Str → Option Value} {base : Heap}
theorem scCw : FnScope ["one", "other"] ["one", "other"] (defScope sCheckWidths) := ⟨rfl, rfl, rfl, by decide +kernel, rfl, by decide +kernel, by decide +kernel⟩
def spCw (K : PySem.W.Frag) (CW : Addr) : Sp := fun vs H Q E => ∃ (T U : Addr) (ws us : List Str) (n m : Nat), vs = [.ref T, .ref U] ∧ WideT H T ws n ∧ WideT H U us m ∧ (n = m → Q .non H) ∧ (n ≠ m → ∀ H' dd, Same H H' → H' dd = some (.xd [("index", .int 1)]) → E (.ref CW) (some dd) H')
theorem ok_cw {f CW : Addr} {fd : FuncData} {k : Nat} (B : Bl mg) (F : Fun K "check_widths" "check_widths" sCheckWidths f fd) (dW : DefR P w K mg base 1 "width_of" (spWo K)) (R : ErrG P w K mg base "OtherWidth" "index" CW) : FnOk P w K mg base (L2.CX P w) (k + 3) f fd ["one", "other"] (spCw K CW) := by
  refine F.okX scCw (fun vs H Q E h => ?_) (fun cdv A outer s H vs Q E hr h => ?_)
  · obtain ⟨T, U, ws, us, n, m, rfl, _⟩ := h
    rfl
  · obtain ⟨T, U, ws, us, n, m, rfl, hw, hu, q, qe⟩ := h
    have hr1 : Room 1 (A.deeper (envOfC "check_widths" (defScope sCheckWidths) s.heap.objs.size f cdv)) := hr.mono (by omega)
    have hr2 : Room 2 (A.deeper (envOfC "check_widths" (defScope sCheckWidths) s.heap.objs.size f cdv)) := hr.mono (by omega)
    refine ⟨_, pss_one (ps_if (pt_cmpR op_ne (PE.nox (pe_def dW hr1 (by rfl) (pa_cons (pv 0) pa_nil))) (PE.nox (pe_def dW hr1 (by rfl) (pa_cons (pv 1) pa_nil))) (nomark _)) (pss_one (ps_raise rfl (takes_of rfl rfl rfl rfl) (pmk_errG R hr2 (by rfl) (pa_cons pe_int pa_nil)))) pss_nil), ?_⟩
    obtain ⟨x0, hx0, hx0l, _⟩ := hw.hd
    obtain ⟨y0, hy0, hy0l, _⟩ := hu.hd
    have n40 := hw.n40
    have m40 := hu.n40
    refine ⟨.ref T, rfl, T, ws, x0, rfl, SqT.of hw.h, hx0, by omega, .ref U, rfl, U, us, y0, rfl, SqT.of hu.h, hy0, by omega, ?_⟩
    rw [hx0l, hy0l]
    refine ⟨rfl, _, rfl, ite2 (fun e => ?_) (fun e => ?_)⟩
    · have hne : n ≠ m := fun z => by subst z; simp at e
      exact mkoG_in fun H2 dd sm hdd => qe hne H2 dd sm hdd
    · exact q (by
        have e : ¬ (!decide (V.int (n : Int) = V.int (m : Int))) = true := e
        rw [Bool.not_eq_true', decide_eq_false_iff_not, Classical.not_not] at e
        have := V.int.inj e
        omega)
end
end XT
/-! first_difference -/
namespace XT
open PySem PySem.Spec PyProof.Rows L2
def oV : Option Nat → V
  | none => .non
  | some m => .int (m : Int)
theorem dV_zero (n : Nat) : ∀ o, dV 0 n o = oV o
  | none => rfl
  | some m => by
    show V.int ((0 * 2 ^ n + m : Nat) : Int) = _
    rw [Nat.zero_mul, Nat.zero_add]
    rfl
theorem keep_same {w : World} {H H' : Hp} {D : Addr} {M : List RowP} (nD : H D = none) (k : KeepD D (upd H D (KDicO w D M)) H') : Same H H' := fun b o e => k b o (ne_of_none e nD) (by rw [upd_ne (ne_of_none e nD)]; exact e)
section
variable {P : Program} {w : World} {K : PySem.W.Frag} {mg : Str → Option Value} {base : Heap}
theorem scFdi : FnScope ["one", "other"] ["one", "other"] (defScope sFirstDifference) := ⟨rfl, rfl, rfl, by decide +kernel, rfl, by decide +kernel, by decide +kernel⟩
def spFdi (CW : Addr) : Sp := fun vs H Q E => ∃ (T U : Addr) (ws us : List Str) (n m : Nat), vs = [.ref T, .ref U] ∧ WideT H T ws n ∧ WideT H U us m ∧
  (n = m → ∀ H' o, Same H H' → IsDif n ws us o → Q (oV o) H') ∧ (n ≠ m → ∀ H' dd, Same H H' → H' dd = some (.xd [("index", .int 1)]) → E (.ref CW) (some dd) H')
theorem ok_fdi {f CW : Addr} {fd : FuncData} {k : Nat} (F : Fun K "first_difference" "first_difference" sFirstDifference f fd) (dW : DefX P w K mg base 3 "check_widths" (spCw K CW)) (dD : DefR P w K mg base 42 "difference_below" (spDf w 40)) : FnOk P w K mg base (L2.CX P w) (k + 43) f fd ["one", "other"] (spFdi CW) := by
  refine F.okX scFdi (fun vs H Q E h => ?_) (fun cdv A outer s H vs Q E hr h => ?_)
  · obtain ⟨T, U, ws, us, n, m, rfl, _⟩ := h
    rfl
  · obtain ⟨T, U, ws, us, n, m, rfl, hw, hu, q, qe⟩ := h
    refine ⟨_, pss_cons (ps_expr (pe_defX dW (hr.mono (by omega)) (by rfl) (takes_of rfl rfl rfl rfl) (pa_cons (pv 0) (pa_cons (pv 1) pa_nil))))
      (PSs.nox (pss_one (ps_ret (pe_def dD (hr.mono (by omega)) (by rfl) (pa_cons (pv 0) (pa_cons (pv 1) (pa_cons pe_int (pa_cons pe_kdnew pa_nil)))))))), ?_⟩
    refine ⟨.ref T, rfl, .ref U, rfl, T, U, ws, us, n, m, rfl, hw, hu, fun e => ?_, fun ne H' dd sm hdd => qe ne H' dd sm hdd⟩
    subst e
    refine ⟨.ref T, rfl, .ref U, rfl, fun D nD => ?_⟩
    have sD := same_new (o := KDicO w D []) nD
    refine ⟨T, U, D, ws, us, ws, us, n, n, 0, rfl, hw.n40, hw.n40, hw.l6, hu.l6, rst_top hw.ok, rst_top hu.ok, sD _ _ hw.h, sD _ _ hu.h, ⟨[], upd_same, fun e he => absurd he (by simp), List.nodup_nil⟩, fun H' o kp _ d => ?_⟩
    rw [dV_zero]
    exact q rfl H' o (keep_same nD kp) d
end
end XT
/-! combined_character, combined -/
namespace XT
open PySem PySem.Spec PyProof.Rows L2
section
variable {P : Program} {w : World} {K : PySem.W.Frag} {mg : Str → Option Value} {base : Heap}
theorem scCch : FnScope ["one", "other"] ["one", "other"] (defScope sCombinedCharacter) := ⟨rfl, rfl, rfl, by decide +kernel, rfl, by decide +kernel, by decide +kernel⟩
def spCch : Sp := fun vs H Q _ => ∃ a b : Nat, vs = [.str ⟨#[a]⟩, .str ⟨#[b]⟩] ∧ Q (.str ⟨#[cch a b]⟩) H
theorem ok_cch {f : Addr} {fd : FuncData} {k : Nat} (F : Fun K "combined_character" "combined_character" sCombinedCharacter f fd) : FnOk P w K mg base CX0 (k + 1) f fd ["one", "other"] spCch := by
  refine F.ok scCch (fun vs H Q E h => ?_) (fun cdv A outer s H vs Q E hr h => ?_)
  · obtain ⟨a, b, rfl, _⟩ := h
    rfl
  · obtain ⟨a, b, rfl, q⟩ := h
    refine ⟨_, pss_cons (ps_if (PW.pt (pw_or (pt_cmpR op_eq (pv 0) pe_str (nomark _)) (pw_or1 (pt_cmpR op_eq (pv 1) pe_str (nomark _))))) (pss_one (ps_ret pe_str)) pss_nil)
      (pss_one (ps_ret (pe_ifExp (pt_cmpR op_eq (pv 0) (pv 1) (nomark _)) pe_str pe_str))), ?_⟩
    refine ⟨.str ⟨#[a]⟩, rfl, rfl, _, rfl, ?_⟩
    rw [q_str, strV_eq]
    by_cases ha : a = 63
    · rw [decide_eq_true ha]
      refine iteT (iteT ?_)
      have e : cch a b = 63 := if_pos (.inl ha)
      rw [e] at q
      exact q
    rw [decide_eq_false ha]
    refine iteF ⟨.str ⟨#[b]⟩, rfl, rfl, _, rfl, ?_⟩
    rw [strV_eq]
    by_cases hb : b = 63
    · rw [decide_eq_true hb]
      refine iteT ?_
      have e : cch a b = 63 := if_pos (.inr hb)
      rw [e] at q
      exact q
    rw [decide_eq_false hb]
    refine iteF ⟨.str ⟨#[a]⟩, rfl, .str ⟨#[b]⟩, rfl, rfl, _, rfl, ?_⟩
    rw [strV_eq]
    have e : cch a b = if a = b then 48 else 49 := if_neg (fun z => z.elim ha hb)
    rw [e] at q
    by_cases hab : a = b
    · rw [decide_eq_true hab]
      rw [if_pos hab] at q
      refine iteT ?_
      have e0 : (Str.ofString "0") = ⟨#[48]⟩ := by decide +kernel
      rw [e0]
      exact q
    · rw [decide_eq_false hab]
      rw [if_neg hab] at q
      refine iteF ?_
      have e0 : (Str.ofString "1") = ⟨#[49]⟩ := by decide +kernel
      rw [e0]
      exact q
abbrev nCb : List Str := ["one", "other", "x", "y"]
theorem scCb : FnScope nCb ["one", "other"] (defScope sCombined) := ⟨rfl, rfl, rfl, by decide +kernel, rfl, by decide +kernel, by decide +kernel⟩
def spComb : Sp := fun vs H Q _ => ∃ a x : Str, vs = [.str a, .str x] ∧ a.cps.size = x.cps.size ∧ a.cps.size ≤ 1000 ∧ ∀ H', Same H H' → Q (.str (comb a x)) H'
theorem ok_comb {f : Addr} {fd : FuncData} {k : Nat} (mZ : mg "zip" = none) (F : Fun K "combined" "combined" sCombined f fd) (dC : DefR P w K mg base 1 "combined_character" spCch) : FnOk P w K mg base CX0 (k + 2) f fd ["one", "other"] spComb := by
  refine F.ok scCb (fun vs H Q E h => ?_) (fun cdv A outer s H vs Q E hr h => ?_)
  · obtain ⟨a, x, rfl, _⟩ := h
    rfl
  · obtain ⟨a, x, rfl, hl, hz, q⟩ := h
    refine ⟨_, pss_one (ps_ret (pe_join pe_str (pe_lc (own := [("x", 2), ("y", 3)]) (g := (gTup K 2 (gCons (gName 2) (gCons (gName 3) gNil)))) (tt := tYes) (te := (tDf spCch (tCons (tVar 2) (tCons (tVar 3) tNil)))) rfl scCb.nd (pi_zipS (by rfl) mZ (pa_cons (pv 0) (pa_cons (pv 1) pa_nil))) (blkOk_by (own := [("x", 2), ("y", 3)]) (N := nCb) (sc := defScope sCombined) (by decide +kernel))
          (fun _ _ _ _ _ => (pg_tup rfl (pgs_cons (pg_name (i := 2) scCb.nd rfl (Or.inl rfl)) (pgs_cons (pg_name (i := 3) scCb.nd rfl (Or.inl rfl)) pgs_nil)))) (fun _ _ _ _ _ => pts_nil) (fun _ _ _ _ _ => pe_def dC (hr.mono (by omega)) (by rfl) (pa_cons (pv 2) (pa_cons (pv 3) pa_nil)))))), ?_⟩
    refine ⟨⟨_, rfl⟩, .str a, rfl, .str x, rfl, a, x, rfl, fun D nD => ?_⟩
    refine lcp_zipS (p := fun _ => true) (f := fun q => .str ⟨#[cch q.1 q.2]⟩) hl nD (small64 hz) (fun i c d T H2 hc hd s2 nT R1 R2 r1 r2 => ?_) (fun H2 s2 hD => ?_)
    · refine ⟨T, _, rfl, SqT.of upd_same, rfl, _, _, rfl, _, _, rfl, rfl, rfl, iteT (B := R1 (upd H2 T (.tup [.str ⟨#[c]⟩, .str ⟨#[d]⟩]))) ⟨.str ⟨#[c]⟩, rfl, .str ⟨#[d]⟩, rfl, c, d, rfl, r2 rfl _ (same_new nT)⟩⟩
    rw [List.filter_eq_self.mpr (fun _ _ => rfl)] at hD
    have hD' : H2 D = some (.lst (((combL a.cps.toList x.cps.toList).map fun c => (⟨#[c]⟩ : Str)).map V.str)) := by
      rw [hD]
      unfold combL
      rw [List.map_map, List.map_map]
      rfl
    refine ⟨_, D, _, rfl, rfl, .inl (SqL.of hD'), ?_, ?_⟩
    · rw [ones_sum, combL_len _ _ (by rw [Array.length_toList, Array.length_toList]; exact hl), Array.length_toList]
      show _ + _ * 0 ≤ _
      omega
    · rw [TL.join_eq]
      show Q (.str (Str.join Str.empty _)) H2
      rw [join_arr]
      exact q _ s2
end
end XT
/-! is_number at any data; _law_is_int -/
namespace XT
open PySem PySem.Spec PyProof.Rows L2
section
variable {P : Program} {w : World} {K : PySem.W.Frag} {mg : Str → Option Value} {base : Heap}
theorem scNumZ : FnScope ["value"] ["value"] (defScope sNum) := ⟨rfl, rfl, rfl, by decide +kernel, rfl, by decide +kernel, by decide +kernel⟩
def spNumZ (K : PySem.W.Frag) : Sp := fun vs H Q _ => ∃ v d, vs = [v] ∧ Dz K H v d ∧ Q (.bl (isN d)) H
theorem ok_numZ {f : Addr} {fd : FuncData} {k : Nat} (B : Bl mg) (F : Fun K "is_number" "is_number" sNum f fd) : FnOk P w K mg base CX0 (k + 1) f fd ["value"] (spNumZ K) := by
  refine F.ok scNumZ (fun vs H Q E h => ?_) (fun cdv A outer s H vs Q E hr h => ?_)
  · obtain ⟨v, d, rfl, _⟩ := h
    rfl
  · obtain ⟨v, d, rfl, hd, q⟩ := h
    refine ⟨_, pss_one (ps_ret (pe_and (pe_callB call_isi (by rfl) B.isinstance bI (pa_cons (pv 0) (pa_cons (pe_bltn (v := .ty "int") (by rfl) B.int bInt rfl) pa_nil)))
      (pe_one (pe_not (pe_callB call_isi (by rfl) B.isinstance bI (pa_cons (pv 0) (pa_cons (pe_bltn (v := .ty "bool") (by rfl) B.bool bBool rfl) pa_nil))))))), ?_⟩
    refine ⟨v, rfl, v, .ty "int", _, _, isIt d, rfl, .ty _, hd.ty, kitI d, isIt d, rfl, ?_⟩
    cases hi : isIt d with
    | false =>
      refine iteF ?_
      have e : isN d = false := by cases d <;> first | rfl | simp [isIt] at hi
      rw [e] at q
      exact q
    | true =>
      refine iteT ⟨v, rfl, v, .ty "bool", _, _, isBl d, rfl, .ty _, hd.ty, kitB' d, isBl d, rfl, ?_⟩
      have e : (!isBl d) = isN d := by cases d <;> first | rfl | simp [isIt] at hi
      rw [e]
      exact q
end
end XT
/-! is_mask at any data and any width up to 60 -/
namespace XT
open PySem PySem.Spec PyProof.Rows L2
section
variable {P : Program} {w : World} {K : PySem.W.Frag} {mg : Str → Option Value} {base : Heap}
theorem scMaskW : FnScope ["value", "width"] ["value", "width"] (defScope sMask) := ⟨rfl, rfl, rfl, by decide +kernel, rfl, by decide +kernel, by decide +kernel⟩
def spMaskW (K : PySem.W.Frag) : Sp := fun vs H Q _ => ∃ (v : V) (d : PyData) (n : Nat), vs = [v, .int (n : Int)] ∧ Dz K H v d ∧ n ≤ 60 ∧ Q (.bl (isM n d)) H
theorem ok_maskW {f : Addr} {fd : FuncData} {k : Nat} (F : Fun K "is_mask" "is_mask" sMask f fd) (dN : DefR P w K mg base 1 "is_number" (spNumZ K)) : FnOk P w K mg base CX0 (k + 2) f fd ["value", "width"] (spMaskW K) := by
  refine F.ok scMaskW (fun vs H Q E h => ?_) (fun cdv A outer s H vs Q E hr h => ?_)
  · obtain ⟨v, d, n, rfl, _⟩ := h
    rfl
  · obtain ⟨v, d, n, rfl, hd, hn, q⟩ := h
    refine ⟨_, pss_one (ps_ret (pe_and (pe_def dN (hr.mono (by omega)) (by rfl) (pa_cons (pv 0) pa_nil)) (pe_one (pe_chain op_le op_lt pe_int (pv 0) (pe_op op_shl pe_int (pv 1)))))), ?_⟩
    refine ⟨v, rfl, v, d, rfl, hd, isN d, rfl, ?_⟩
    cases hd with
    | int i =>
      refine iteT ⟨.int i, rfl, 0, i, rfl, rfl, _, rfl, ?_⟩
      by_cases h0 : (0 : Int) ≤ i
      · rw [decide_eq_true h0]
        refine iteT ⟨.int n, rfl, 1, n, rfl, rfl, cpowW hn, i, _, rfl, rfl, ?_⟩
        show Q (V.bl (decide (i < 1 * 2 ^ ((n : Int).toNat)))) H
        rw [shl1]
        have e : isM n (.int i) = decide (i < ((2 ^ n : Nat) : Int)) := by
          show (decide (0 ≤ i) && decide (i < ((2 ^ n : Nat) : Int))) = _
          rw [decide_eq_true h0, Bool.true_and]
        rw [e] at q
        exact q
      · rw [decide_eq_false h0]
        refine iteF ?_
        have e : isM n (.int i) = false := by
          show (decide (0 ≤ i) && decide (i < ((2 ^ n : Nat) : Int))) = _
          rw [decide_eq_false h0, Bool.false_and]
        rw [e] at q
        exact q
    | non => exact iteF q
    | bl b => exact iteF q
    | str x => exact iteF q
    | lst _ _ _ => exact iteF q
    | tup _ _ => exact iteF q
    | dct kvs _ => exact iteF q
end
end XT
/-! digits_of -/
namespace XT
open PySem PySem.Spec PyProof.Rows L2
section
variable {P : Program} {w : World} {K : PySem.W.Frag} {mg : Str → Option Value} {base : Heap}
theorem scDo : FnScope ["mask", "width"] ["mask", "width"] (defScope sDigitsOf) := ⟨rfl, rfl, rfl, by decide +kernel, rfl, by decide +kernel, by decide +kernel⟩
def spDo : Sp := fun vs H Q _ => ∃ (m n : Nat), vs = [.int (m : Int), .int (n : Int)] ∧ m < 2 ^ 900 ∧ n ≤ 1000 ∧ Q (.str (digW m n)) H
theorem ok_do {f : Addr} {fd : FuncData} {k : Nat} (F : Fun K "digits_of" "digits_of" sDigitsOf f fd) : FnOk P w K mg base CX0 (k + 1) f fd ["mask", "width"] spDo := by
  refine F.ok scDo (fun vs H Q E h => ?_) (fun cdv A outer s H vs Q E hr h => ?_)
  · obtain ⟨m, n, rfl, _⟩ := h
    rfl
  · obtain ⟨m, n, rfl, hm, hn, q⟩ := h
    refine ⟨_, pss_one (ps_ret (pe_bm PySem.F.plainAttrs_str PySem.F.slot_str_zfill PySem.F.type_str_zfill mt_zfill (pe_joined1 (pe_fmtB (by decide +kernel) (pv 0))) (pa_cons (pv 1) pa_nil))), ?_⟩
    refine ⟨.int m, rfl, m, rfl, hm, rfl, .int (n : Int), rfl, binS m, (n : Int), rfl, rfl, ?_, q⟩
    exact PyProof.Rows.padOk_of (by omega) (by omega)
end
end XT
/-! is_mask, digits_of, width_of -/
/-! wide_turned -/
namespace XT
open PySem PySem.Spec PyProof.Rows L2
section
variable {P : Program} {w : World} {K : PySem.W.Frag} {mg : Str → Option Value} {base : Heap}
abbrev nWt : List Str := ["wide", "mask", "width", "digits", "pattern"]
theorem scWt : FnScope nWt ["wide", "mask"] (defScope sWideTurned) := ⟨rfl, rfl, rfl, by decide +kernel, rfl, by decide +kernel, by decide +kernel⟩
/-- the patterns turned -/
def turnW (n m : Nat) (ws : List Str) : List Str := ws.map fun x => comb x (digW m n)
theorem WideT.turn {H H' : Hp} {T T' : Addr} {ws : List Str} {n m : Nat} (h : WideT H T ws n) (hm : m < 2 ^ n) (hT : H' T' = some (.tup ((turnW n m ws).map V.str))) : WideT H' T' (turnW n m ws) n := by
  refine ⟨hT, by unfold turnW; rw [List.length_map]; exact h.l1, by unfold turnW; rw [List.length_map]; exact h.l6, h.n1, h.n40, fun x hx => ?_⟩
  obtain ⟨y, hy, rfl⟩ := List.mem_map.mp hx
  exact okW_comb (h.ok y hy) (digW_len h.n1 hm)
def spWt (K : PySem.W.Frag) (CM : Addr) : Sp := fun vs H Q E => ∃ (T : Addr) (ws : List Str) (n : Nat) (v : V) (d : PyData), vs = [.ref T, v] ∧ WideT H T ws n ∧ Dz K H v d ∧
  (∀ m : Nat, d = .int (m : Int) → m < 2 ^ n → ∀ H' T', Same H H' → H' T' = some (.tup ((turnW n m ws).map V.str)) → Q (.ref T') H') ∧ (isM n d = false → ∀ H' dd, Same H H' → H' dd = some (.xd [("value", v)]) → E (.ref CM) (some dd) H')
theorem ok_wt {f CM : Addr} {fd : FuncData} {k : Nat} (B : Bl mg) (F : Fun K "wide_turned" "wide_turned" sWideTurned f fd) (dW : DefR P w K mg base 1 "width_of" (spWo K)) (dM : DefR P w K mg base 2 "is_mask" (spMaskW K)) (dD : DefR P w K mg base 1 "digits_of" spDo) (dC : DefR P w K mg base 2 "combined" spComb) (R : ErrG P w K mg base "NoMask" "value" CM) : FnOk P w K mg base (L2.CX P w) (k + 3) f fd ["wide", "mask"] (spWt K CM) := by
  refine F.okX scWt (fun vs H Q E h => ?_) (fun cdv A outer s H vs Q E hr h => ?_)
  · obtain ⟨T, ws, n, v, d, rfl, _⟩ := h
    rfl
  · obtain ⟨T, ws, n, v, d, rfl, hw, hd, q, qe⟩ := h
    have hr1 : Room 1 (A.deeper (envOfC "wide_turned" (defScope sWideTurned) s.heap.objs.size f cdv)) := hr.mono (by omega)
    have hr2 : Room 2 (A.deeper (envOfC "wide_turned" (defScope sWideTurned) s.heap.objs.size f cdv)) := hr.mono (by omega)
    refine ⟨_, pss_cons (ps_set (i := 2) scWt.nd rfl (by first | exact Or.inl rfl | exact Or.inr rfl) (PE.nox (pe_def dW hr1 (by rfl) (pa_cons (pv 0) pa_nil))))
      (pss_cons (ps_if (pt_not (pt_val (PE.nox (pe_def dM hr2 (by rfl) (pa_cons (pv 1) (pa_cons (pv 2) pa_nil)))))) (pss_one (ps_raise rfl (takes_of rfl rfl rfl rfl) (pmk_errG R hr2 (by rfl) (pa_cons (pv 1) pa_nil)))) pss_nil)
      (PSs.nox (pss_cons (ps_set (i := 3) scWt.nd rfl (by first | exact Or.inl rfl | exact Or.inr rfl) (pe_def dD hr1 (by rfl) (pa_cons (pv 1) (pa_cons (pv 2) pa_nil))))
      (pss_one (ps_ret (pe_callTy cr_tupO (by rfl) B.tuple bT (pa_cons (pe_lc (own := [("pattern", 4)]) (g := (gName 4)) (tt := tYes) (te := (tDf spComb (tCons (tVar 4) (tCons (tVar 3) tNil)))) rfl scWt.nd (pi_tup (pv 0)) (blkOk_by (own := [("pattern", 4)]) (N := nWt) (sc := defScope sWideTurned) (by decide +kernel))
          (fun _ _ _ _ _ => (pg_name (i := 4) scWt.nd rfl (Or.inl rfl))) (fun _ _ _ _ _ => pts_nil) (fun _ _ _ _ _ => pe_def dC hr2 (by rfl) (pa_cons (pv 4) (pa_cons (pv 3) pa_nil)))) pa_nil))))))), ?_⟩
    obtain ⟨x0, hx0, hx0l, _⟩ := hw.hd
    have n40 := hw.n40
    refine ⟨.ref T, rfl, T, ws, x0, rfl, SqT.of hw.h, hx0, by omega, ?_⟩
    rw [hx0l]
    refine ⟨v, rfl, .int (n : Int), rfl, v, d, n, rfl, hd, by omega, isM n d, rfl, ?_⟩
    cases hm : isM n d with
    | false => exact iteT ⟨v, rfl, mkoG_in fun H2 dd sm hdd => qe hm H2 dd sm hdd⟩
    | true =>
    obtain ⟨m, rfl, hmn⟩ := isM_int hm
    cases hd
    have hm60 : m < 2 ^ 900 := Nat.lt_of_lt_of_le hmn (Nat.pow_le_pow_right (by decide) (Nat.le_trans n40 (by decide)))
    refine iteF ⟨.int (m : Int), rfl, .int (n : Int), rfl, m, n, rfl, hm60, by omega, ?_⟩
    refine ⟨.ref T, rfl, T, rfl, ⟨_, SqT.of hw.h⟩, fun D nD => ?_⟩
    refine lcp_tup (K := K) (xs := ws.map V.str) (p := fun _ => true) (f := fun v => match v with | .str x => .str (comb x (digW m n)) | _ => .non) nD (SqT.of hw.h) (small64 (by rw [List.length_map]; have := hw.l6; omega)) (fun i y H2 hy s2 R1 R2 r1 r2 => ?_) (fun H2 s2 hD => ?_)
    · rw [List.getElem?_map] at hy
      obtain ⟨x, hx, rfl⟩ := Option.map_eq_some_iff.mp hy
      have okx := hw.ok x (List.mem_of_getElem? hx)
      refine ⟨rfl, iteT (B := R1 H2) ⟨.str x, rfl, .str (digW m n), rfl, x, digW m n, rfl, by rw [digW_len hw.n1 hmn]; exact okx.1, by have : x.cps.size = n := okx.1; omega, fun H3 s3 => r2 rfl _ s3⟩⟩
    rw [List.filter_eq_self.mpr (fun _ _ => rfl)] at hD
    have hD' : H2 D = some (.lst ((turnW n m ws).map V.str)) := by
      rw [hD]
      unfold turnW
      rw [List.map_map, List.map_map]
      rfl
    exact ⟨D, _, rfl, .inl ⟨SqL.of hD', fun T' nT' => q m rfl hmn _ T' (s2.trans (same_new nT')) upd_same⟩⟩
end
end XT
/-! indexes of masks -/
namespace XT
open PySem PySem.Spec PyProof.Rows L2
/-- how many masks are less -/
def rnk (n : Nat) (ws : List Str) (m : Nat) : Nat := ((List.range m).filter (hasM n ws)).length
theorem rnk_add (n : Nat) (ws : List Str) (a b : Nat) : rnk n ws (a + b) = rnk n ws a + ((List.range b).filter fun x => hasM n ws (a + x)).length := by
  unfold rnk
  rw [List.range_add, List.filter_append, List.length_append, List.filter_map, List.length_map]
  rfl
theorem rnk_mono {n : Nat} {ws : List Str} {a b : Nat} (h : a ≤ b) : rnk n ws a ≤ rnk n ws b := by
  obtain ⟨c, rfl⟩ := Nat.le.dest h
  rw [rnk_add]
  omega
theorem rnk_lt {n : Nat} {ws : List Str} {a b : Nat} (h : a < b) (ha : hasM n ws a = true) : rnk n ws a < rnk n ws b := by
  have h1 : rnk n ws (a + 1) = rnk n ws a + 1 := by
    rw [rnk_add]
    show _ + ((List.range 1).filter fun x => hasM n ws (a + x)).length = _
    rw [show List.range 1 = [0] from rfl, List.filter_cons, Nat.add_zero, ha]
    rfl
  have h2 := @rnk_mono n ws (a + 1) b h
  omega
theorem rnk_inj {n : Nat} {ws : List Str} {a b : Nat} (ha : hasM n ws a = true) (hb : hasM n ws b = true) (h : rnk n ws a = rnk n ws b) : a = b := by
  rcases Nat.lt_trichotomy a b with l | e | l
  · have := rnk_lt l ha; omega
  · exact e
  · have := rnk_lt l hb; omega
theorem rnk_top {n : Nat} {ws : List Str} : rnk n ws (2 ^ n) = cntW n ws := rfl
/-- the rests go on behind p -/
def PreR (ws : List Str) (n k : Nat) (rs : List Str) (p : Nat) : Prop := ∀ x, x < 2 ^ k → hasM k rs x = hasM n ws (p * 2 ^ k + x)
theorem pre_top {ws : List Str} {n : Nat} : PreR ws n n ws 0 := fun x _ => by rw [Nat.zero_mul, Nat.zero_add]
theorem PreR.aft {ws rs ss : List Str} {n k p b : Nat} (h : PreR ws n (k + 1) rs p) (hk : ∀ x ∈ rs, x.cps.toList.length = k + 1) (hs : ∀ x, x ∈ ss ↔ InAft (48 + b) rs x) (hb : b < 2) : PreR ws n k ss (2 * p + b) := fun x hx => by
  have hd : (b * 2 ^ k + x) / 2 ^ k = b := by
    rw [Nat.mul_comm, Nat.mul_add_div (Nat.pos_of_ne_zero (by simp)), Nat.div_eq_of_lt hx, Nat.add_zero]
  have hlt : b * 2 ^ k + x < 2 ^ (k + 1) := by
    have : b * 2 ^ k ≤ 1 * 2 ^ k := Nat.mul_le_mul_right _ (by omega)
    rw [Nat.pow_succ]
    omega
  have e1 := hasM_aft (m := b * 2 ^ k + x) hk hs (by rw [hd]; exact Nat.mod_eq_of_lt hb)
  have e2 : (b * 2 ^ k + x) % 2 ^ k = x := by
    rw [Nat.mul_comm, Nat.mul_add_mod, Nat.mod_eq_of_lt hx]
  rw [← hasM_mod (k := k) (m := b * 2 ^ k + x), e2] at e1
  rw [← e1, h _ hlt]
  congr 1
  rw [Nat.pow_succ, Nat.add_mul, Nat.mul_comm 2 p, Nat.mul_assoc, Nat.mul_comm (2 ^ k) 2, Nat.add_assoc]
theorem PreR.cnt {ws rs : List Str} {n k p : Nat} (h : PreR ws n k rs p) : rnk n ws (p * 2 ^ k + 2 ^ k) = rnk n ws (p * 2 ^ k) + cntW k rs := by
  rw [rnk_add]
  congr 1
  unfold cntW lotOf
  refine congrArg List.length (List.filter_congr fun x hx => ?_)
  exact (h x (List.mem_range.mp hx)).symm
/-- one digit 1 more -/
theorem PreR.one {ws rs s0 : List Str} {n k p : Nat} (h : PreR ws n (k + 1) rs p) (hk : ∀ x ∈ rs, x.cps.toList.length = k + 1) (h0 : ∀ x, x ∈ s0 ↔ InAft 48 rs x) : rnk n ws ((2 * p + 1) * 2 ^ k) = rnk n ws (p * 2 ^ (k + 1)) + cntW k s0 := by
  have q := (h.aft (b := 0) hk h0 (by decide)).cnt
  rw [Nat.add_zero] at q
  have e1 : 2 * p * 2 ^ k = p * 2 ^ (k + 1) := by rw [Nat.pow_succ, Nat.mul_comm 2 p, Nat.mul_assoc, Nat.mul_comm 2]
  rw [e1] at q
  rw [← q]
  congr 1
  rw [Nat.add_mul, e1, Nat.one_mul]
theorem PreR.zero {n k p : Nat} {ws : List Str} : rnk n ws ((2 * p + 0) * 2 ^ k) = rnk n ws (p * 2 ^ (k + 1)) := by
  rw [Nat.add_zero, Nat.pow_succ, Nat.mul_comm 2 p, Nat.mul_assoc, Nat.mul_comm 2]
end XT
/-! how many masks fit at least one pattern: by those that fit several -/
namespace XT
open PySem PySem.Spec PyProof.Rows L2
def comOk (p q : List Nat) : Bool := (p.zip q).all fun z => decide (z.1 = 63 ∨ z.2 = 63 ∨ z.1 = z.2)
def comV (p q : List Nat) : List Nat := (p.zip q).map fun z => if z.1 = 63 then z.2 else z.1
/-- the pattern of what fits both -/
def comS (x y : Str) : Option Str := if comOk x.cps.toList y.cps.toList = true then some ⟨(comV x.cps.toList y.cps.toList).toArray⟩ else none
theorem com_fit : ∀ (ds p q : List Nat), (∀ d ∈ ds, d ≠ 63) → ds.length = p.length → p.length = q.length → (fitL ds p && fitL ds q) = (comOk p q && fitL ds (comV p q))
  | [], [], [], _, _, _ => rfl
  | d :: ds, c :: p, e :: q, h, l1, l2 => by
    have ih := com_fit ds p q (fun x hx => h x (List.mem_cons_of_mem _ hx)) (Nat.succ.inj l1) (Nat.succ.inj l2)
    have hd := h d List.mem_cons_self
    show (((decide (c = d) || decide (c = 63)) && fitL ds p) && ((decide (e = d) || decide (e = 63)) && fitL ds q)) = ((decide (c = 63 ∨ e = 63 ∨ c = e) && comOk p q) && ((decide ((if c = 63 then e else c) = d) || decide ((if c = 63 then e else c) = 63)) && fitL ds (comV p q)))
    have e1 : ((decide (c = d) || decide (c = 63)) && (decide (e = d) || decide (e = 63))) = (decide (c = 63 ∨ e = 63 ∨ c = e) && (decide ((if c = 63 then e else c) = d) || decide ((if c = 63 then e else c) = 63))) := by
      by_cases h1 : c = 63
      · subst h1
        have h2 : ¬ (63 : Nat) = d := fun z => hd z.symm
        simp [h2]
      · by_cases h2 : e = 63
        · subst h2
          simp [h1]
        · by_cases h3 : c = e
          · subst h3
            simp [h1]
          · simp only [h1, h2, h3, if_false, or_self, decide_false, Bool.or_false, Bool.false_and]
            rw [Bool.and_eq_false_iff, decide_eq_false_iff_not, decide_eq_false_iff_not]
            by_cases h4 : c = d
            · exact .inr fun z => h3 (h4.trans z.symm)
            · exact .inl h4
    rw [show ∀ a b x y : Bool, ((a && x) && (b && y)) = ((a && b) && (x && y)) from by decide, e1, ih]
    have sw : ∀ a b x y : Bool, ((a && b) && (x && y)) = ((a && x) && (b && y)) := by decide
    exact sw _ _ _ _
  | [], _ :: _, _, _, l, _ => by cases l
  | _ :: _, [], _, _, l, _ => by cases l
  | [], [], _ :: _, _, _, l => by cases l
  | _ :: _, _ :: _, [], _, _, l => by cases l
theorem bits_ne (n m : Nat) : ∀ d ∈ bitsL n m, d ≠ 63 := fun d hd => by
  obtain ⟨i, hi, e⟩ := List.getElem_of_mem hd
  rw [bitsL_len] at hi
  have := bitsL_at n m i hi
  rw [List.getElem?_eq_getElem (by rw [bitsL_len]; exact hi), e] at this
  have e2 := Option.some.inj this
  have := Nat.mod_lt (m / 2 ^ (n - 1 - i)) (show 0 < 2 by decide)
  omega
abbrev fitS (n m : Nat) (x : Str) : Bool := fitL (bitsL n m) x.cps.toList
theorem okK_com {n : Nat} {x y z : Str} (hx : OkK n x) (hy : OkK n y) (h : comS x y = some z) : OkK n z := by
  unfold comS at h
  split at h
  · have h := Option.some.inj h
    subst h
    refine ⟨?_, fun c hc => ?_⟩
    · show ((comV x.cps.toList y.cps.toList).toArray).size = n
      rw [List.size_toArray]
      unfold comV
      rw [List.length_map, List.length_zip, hx.ln, hy.ln, Nat.min_self]
    · have hc : c ∈ ((comV x.cps.toList y.cps.toList).toArray).toList := hc
      rw [List.toList_toArray] at hc
      obtain ⟨z, hz, rfl⟩ := List.mem_map.mp hc
      obtain ⟨h1, h2⟩ := List.of_mem_zip hz
      split
      · exact hy.2 _ h2
      · exact hx.2 _ h1
  · cases h
/-- how much a number counts -/
def valG (n m : Nat) : List (Str × Int) → Int
  | [] => 0
  | e :: G => (if fitS n m e.1 = true then e.2 else 0) + valG n m G
/-- what a further pattern adds -/
def moreG (p : Str) : List (Str × Int) → List (Str × Int)
  | [] => []
  | e :: G => (match comS e.1 p with | some z => [(z, 0 - e.2)] | none => []) ++ moreG p G
def stepG (G : List (Str × Int)) (p : Str) : List (Str × Int) := G ++ ((p, 1) :: moreG p G)
theorem valG_app (n m : Nat) : ∀ a b : List (Str × Int), valG n m (a ++ b) = valG n m a + valG n m b
  | [], b => by show valG n m b = 0 + _; omega
  | e :: a, b => by
    show _ + valG n m (a ++ b) = _ + valG n m a + _
    rw [valG_app n m a b]
    omega
theorem valG_more {n m : Nat} {p : Str} (hp : OkK n p) : ∀ G : List (Str × Int), (∀ e ∈ G, OkK n e.1) → valG n m (moreG p G) = if fitS n m p = true then - valG n m G else 0
  | [], _ => by
    show (0 : Int) = _
    split <;> rfl
  | e :: G, h => by
    have ih := valG_more (m := m) hp G fun x hx => h x (List.mem_cons_of_mem _ hx)
    have he := h e List.mem_cons_self
    have cf := com_fit (bitsL n m) e.1.cps.toList p.cps.toList (bits_ne n m) (by rw [bitsL_len, he.ln]) (by rw [he.ln, hp.ln])
    show valG n m (_ ++ moreG p G) = if fitS n m p = true then - ((if fitS n m e.1 = true then e.2 else 0) + valG n m G) else 0
    rw [valG_app, ih]
    have one : valG n m (match comS e.1 p with | some z => [(z, 0 - e.2)] | none => []) = if (fitS n m e.1 && fitS n m p) = true then - e.2 else 0 := by
      show _ = if (fitL (bitsL n m) e.1.cps.toList && fitL (bitsL n m) p.cps.toList) = true then - e.2 else 0
      rw [cf]
      unfold comS
      cases hc : comOk e.1.cps.toList p.cps.toList with
      | true =>
        rw [if_pos rfl, Bool.true_and]
        show (if fitL (bitsL n m) ((comV e.1.cps.toList p.cps.toList).toArray).toList = true then (0 - e.2) else 0) + 0 = _
        rw [List.toList_toArray]
        split <;> omega
      | false =>
        rw [if_neg (by decide), Bool.false_and]
        rfl
    rw [one]
    cases fitS n m e.1 <;> cases fitS n m p <;> simp <;> omega
theorem okK_more {n : Nat} {p : Str} (hp : OkK n p) : ∀ G : List (Str × Int), (∀ e ∈ G, OkK n e.1 ∧ e.2.natAbs = 1) → ∀ e ∈ moreG p G, OkK n e.1 ∧ e.2.natAbs = 1
  | [], _, e, h => by cases h
  | g :: G, hG, e, h => by
    rcases List.mem_append.mp h with h | h
    · cases hc : comS g.1 p with
      | none => rw [hc] at h; cases h
      | some z =>
        rw [hc] at h
        have e1 := List.mem_singleton.mp h
        rw [e1]
        have hg := hG g List.mem_cons_self
        exact ⟨okK_com hg.1 hp hc, by show (0 - g.2).natAbs = 1; have := hg.2; omega⟩
    · exact okK_more hp G (fun x hx => hG x (List.mem_cons_of_mem _ hx)) e h
theorem okK_step {n : Nat} {p : Str} {G : List (Str × Int)} (hp : OkK n p) (hG : ∀ e ∈ G, OkK n e.1 ∧ e.2.natAbs = 1) : ∀ e ∈ stepG G p, OkK n e.1 ∧ e.2.natAbs = 1 := fun e he => by
  rcases List.mem_append.mp he with he | he
  · exact hG e he
  · rcases List.mem_cons.mp he with rfl | he
    · exact ⟨hp, rfl⟩
    · exact okK_more hp G hG e he
theorem more_len {p : Str} : ∀ G : List (Str × Int), (moreG p G).length ≤ G.length
  | [] => Nat.le_refl _
  | g :: G => by
    have ih := more_len (p := p) G
    show (_ ++ moreG p G).length ≤ G.length + 1
    rw [List.length_append]
    cases comS g.1 p with
    | none => show 0 + _ ≤ _; omega
    | some z => show 1 + _ ≤ _; omega
theorem step_len {p : Str} {G : List (Str × Int)} : (stepG G p).length ≤ 2 * G.length + 1 := by
  have := more_len (p := p) G
  unfold stepG
  rw [List.length_append, List.length_cons]
  omega
theorem okK_fold {n : Nat} : ∀ (ws : List Str) (G : List (Str × Int)), (∀ x ∈ ws, OkK n x) → (∀ e ∈ G, OkK n e.1 ∧ e.2.natAbs = 1) → ∀ e ∈ ws.foldl stepG G, OkK n e.1 ∧ e.2.natAbs = 1
  | [], G, _, hG => hG
  | x :: ws, G, hw, hG => okK_fold ws (stepG G x) (fun y hy => hw y (List.mem_cons_of_mem _ hy)) (okK_step (hw x List.mem_cons_self) hG)
theorem fold_len : ∀ (ws : List Str) (G : List (Str × Int)), (ws.foldl stepG G).length + 1 ≤ 2 ^ ws.length * (G.length + 1)
  | [], G => by simp
  | x :: ws, G => by
    have ih := fold_len ws (stepG G x)
    have s := step_len (p := x) (G := G)
    rw [List.foldl_cons, List.length_cons, Nat.pow_succ]
    refine Nat.le_trans ih ?_
    rw [Nat.mul_assoc]
    exact Nat.mul_le_mul_left _ (by omega)
/-- fitting one of the patterns -/
theorem valG_fold {n m : Nat} : ∀ (ws : List Str) (G : List (Str × Int)) (b : Bool), (∀ x ∈ ws, OkK n x) → (∀ e ∈ G, OkK n e.1 ∧ e.2.natAbs = 1) → valG n m G = (if b = true then 1 else 0) →
    valG n m (ws.foldl stepG G) = if (b || hasM n ws m) = true then 1 else 0
  | [], G, b, _, _, h => by
    have e : (b || hasM n [] m) = b := Bool.or_false b
    rw [e]
    exact h
  | x :: ws, G, b, hw, hG, h => by
    have hx := hw x List.mem_cons_self
    have v : valG n m (stepG G x) = if (b || fitS n m x) = true then 1 else 0 := by
      unfold stepG
      rw [valG_app]
      show _ + ((if fitS n m x = true then 1 else 0) + valG n m (moreG x G)) = _
      rw [valG_more hx G fun e he => (hG e he).1, h]
      cases b <;> cases fitS n m x <;> rfl
    have := valG_fold ws (stepG G x) (b || fitS n m x) (fun y hy => hw y (List.mem_cons_of_mem _ hy)) (okK_step hx hG) v
    rw [List.foldl_cons, this]
    have e : hasM n (x :: ws) m = (fitS n m x || hasM n ws m) := rfl
    rw [e, Bool.or_assoc]
theorem sumI_add {α : Type} (a b : α → Int) : ∀ l : List α, (l.map fun m => a m + b m).sum = (l.map a).sum + (l.map b).sum
  | [] => rfl
  | x :: l => by
    rw [List.map_cons, List.map_cons, List.map_cons, List.sum_cons, List.sum_cons, List.sum_cons, sumI_add a b l]
    omega
theorem sumI_if {α : Type} (p : α → Bool) (f : Int) : ∀ l : List α, (l.map fun m => if p m = true then f else 0).sum = f * ((l.filter p).length : Nat)
  | [] => by simp
  | x :: l => by
    rw [List.map_cons, List.sum_cons, sumI_if p f l, List.filter_cons]
    cases p x with
    | true =>
      rw [if_pos rfl, if_pos rfl, List.length_cons, Int.natCast_add, Int.mul_add]
      show f + _ = _ + f * 1
      rw [Int.mul_one, Int.add_comm]
    | false =>
      rw [if_neg (by decide), if_neg (by decide), Int.zero_add]
theorem sumI_zero {α : Type} : ∀ l : List α, (l.map fun _ => (0 : Int)).sum = 0
  | [] => rfl
  | x :: l => by rw [List.map_cons, List.sum_cons, sumI_zero l]; rfl
/-- one pattern -/
theorem cnt_one : ∀ (n : Nat) (p : List Nat), p.length = n → (∀ c ∈ p, sgn3 c = true) → ((List.range (2 ^ n)).filter fun m => fitL (bitsL n m) p).length = 2 ^ (p.count 63)
  | 0, p, hp, _ => by
    rw [List.length_eq_zero_iff.mp hp]
    rfl
  | n + 1, [], hp, _ => by cases hp
  | n + 1, c :: t, hp, hc => by
    have ht : t.length = n := Nat.succ.inj hp
    have ih := cnt_one n t ht fun x hx => hc x (List.mem_cons_of_mem _ hx)
    have hs : ∀ m b, m / 2 ^ n % 2 = b → fitL (bitsL (n + 1) m) (c :: t) = ((decide (c = 48 + b) || decide (c = 63)) && fitL (bitsL n m) t) := fun m b e => by
      rw [bitsL_cons, e]
      rfl
    rw [Nat.pow_succ, Nat.mul_two, List.range_add, List.filter_append, List.length_append, List.filter_map, List.length_map]
    have f0 : (List.range (2 ^ n)).filter (fun m => fitL (bitsL (n + 1) m) (c :: t)) = (List.range (2 ^ n)).filter fun m => (decide (c = 48) || decide (c = 63)) && fitL (bitsL n m) t := by
      refine List.filter_congr fun m hm => ?_
      have hm := List.mem_range.mp hm
      exact hs m 0 (by rw [Nat.div_eq_of_lt hm])
    have f1 : (List.range (2 ^ n)).filter ((fun m => fitL (bitsL (n + 1) m) (c :: t)) ∘ fun x => 2 ^ n + x) = (List.range (2 ^ n)).filter fun m => (decide (c = 49) || decide (c = 63)) && fitL (bitsL n m) t := by
      refine List.filter_congr fun m hm => ?_
      have hm := List.mem_range.mp hm
      show fitL (bitsL (n + 1) (2 ^ n + m)) (c :: t) = _
      rw [hs (2 ^ n + m) 1 (by rw [Nat.add_div_left _ (Nat.pos_of_ne_zero (by simp)), Nat.div_eq_of_lt hm]), ← bitsL_mod n (2 ^ n + m), Nat.add_mod_left, Nat.mod_eq_of_lt hm]
    rw [f0, f1, List.count_cons]
    have z : ((List.range (2 ^ n)).filter fun m => false && fitL (bitsL n m) t).length = 0 := by
      rw [List.length_eq_zero_iff, List.filter_eq_nil_iff]
      intro m _ h
      cases h
    rcases sgn3_cases (hc c List.mem_cons_self) with rfl | rfl | rfl
    · show ((List.range (2 ^ n)).filter fun m => true && fitL (bitsL n m) t).length + ((List.range (2 ^ n)).filter fun m => false && fitL (bitsL n m) t).length = _
      rw [z]
      simp only [Bool.true_and]
      rw [ih]
      rfl
    · show ((List.range (2 ^ n)).filter fun m => false && fitL (bitsL n m) t).length + ((List.range (2 ^ n)).filter fun m => true && fitL (bitsL n m) t).length = _
      rw [z]
      simp only [Bool.true_and]
      rw [ih, Nat.zero_add]
      rfl
    · show ((List.range (2 ^ n)).filter fun m => true && fitL (bitsL n m) t).length + ((List.range (2 ^ n)).filter fun m => true && fitL (bitsL n m) t).length = _
      simp only [Bool.true_and]
      rw [ih]
      show _ = 2 ^ (t.count 63 + 1)
      rw [Nat.pow_succ, Nat.mul_two]
/-- the law's number -/
def ieG (G : List (Str × Int)) : Int := (G.map fun e => e.2 * ((2 ^ (e.1.cps.toList.count 63) : Nat) : Int)).sum
def ieN (ws : List Str) : Int := ieG (ws.foldl stepG [])
theorem valG_sum {n : Nat} : ∀ G : List (Str × Int), (∀ e ∈ G, OkK n e.1) → ((List.range (2 ^ n)).map fun m => valG n m G).sum = ieG G
  | [], _ => sumI_zero _
  | e :: G, h => by
    have ih := valG_sum G fun x hx => h x (List.mem_cons_of_mem _ hx)
    show ((List.range (2 ^ n)).map fun m => (if fitS n m e.1 = true then e.2 else 0) + valG n m G).sum = _
    rw [sumI_add (fun m => if fitS n m e.1 = true then e.2 else 0) (fun m => valG n m G), ih, sumI_if (fun m => fitS n m e.1) e.2]
    have he := h e List.mem_cons_self
    rw [cnt_one n e.1.cps.toList he.ln he.2]
    show _ = (((e :: G).map fun e => e.2 * ((2 ^ (e.1.cps.toList.count 63) : Nat) : Int)).sum)
    rw [List.map_cons, List.sum_cons]
    rfl
theorem ie_cnt {n : Nat} {ws : List Str} (h : ∀ x ∈ ws, OkK n x) : ieN ws = (cntW n ws : Nat) := by
  unfold ieN
  rw [← valG_sum (n := n) _ fun e he => (okK_fold ws [] h (fun e he => by cases he) e he).1]
  have e : ((List.range (2 ^ n)).map fun m => valG n m (ws.foldl stepG [])) = (List.range (2 ^ n)).map fun m => if hasM n ws m = true then (1 : Int) else 0 := by
    refine List.map_congr_left fun m _ => ?_
    rw [valG_fold ws [] false h (fun e he => by cases he) rfl, Bool.false_or]
  rw [e, sumI_if (fun m => hasM n ws m) 1, Int.one_mul]
  rfl
end XT
/-! how many ones a number has -/
namespace XT
open PySem PySem.Spec PyProof.Rows L2 Builtin Builtin.Str
def pop (m : Nat) : Nat := (binL m).count 49
theorem pop_lt {m : Nat} (h : m < 2) : pop m = m := by
  have : m = 0 ∨ m = 1 := by omega
  rcases this with rfl | rfl <;> decide
theorem pop_half (m : Nat) : pop m = pop (m / 2) + m % 2 := by
  by_cases h : m < 2
  · have : m = 0 ∨ m = 1 := by omega
    rcases this with rfl | rfl <;> decide
  · unfold pop binL
    rw [Nat.toDigits_of_base_le (by decide) (by omega), List.map_append, List.count_append]
    congr 1
    have : m % 2 = 0 ∨ m % 2 = 1 := by omega
    rcases this with e | e <;> rw [e] <;> decide
theorem occ_count (s : PySem.Str) (c limit : Nat) : ∀ (k a : Nat) (st : Array Nat × Nat), st.snd ≤ a → st.fst.size + k ≤ limit →
    (forIn (List.range' a k) st (StrLaws.occBody s ⟨#[c]⟩ s.length limit)).run.fst.size = st.fst.size + ((List.range' a k).filter fun i => decide (s.cps.toList[i]? = some c)).length
  | 0, a, st, _, _ => by simp
  | k + 1, a, st, h1, h2 => by
    rw [List.range'_succ, List.forIn_cons, List.filter_cons]
    unfold StrLaws.occBody
    have hs := StrLaws.subAt_one s c a
    by_cases hc : s.cps.toList[a]? = some c
    · obtain ⟨q1, q2⟩ := hs.mpr hc
      have hif : ((st.fst.size < limit ∧ st.snd ≤ a) ∧ a + (⟨#[c]⟩ : PySem.Str).length ≤ s.length) ∧ subAt s ⟨#[c]⟩ a = true := ⟨⟨⟨by omega, h1⟩, q1⟩, q2⟩
      rw [if_pos hif, if_pos (decide_eq_true hc)]
      have ih := occ_count s c limit k (a + 1) (st.fst.push a, a + 1) (Nat.le_refl _) (by simp; omega)
      rw [Array.size_push] at ih
      rw [List.length_cons]
      refine Eq.trans ih ?_
      omega
    · have hif : ¬(((st.fst.size < limit ∧ st.snd ≤ a) ∧ a + (⟨#[c]⟩ : PySem.Str).length ≤ s.length) ∧ subAt s ⟨#[c]⟩ a = true) := fun z => hc (hs.mp ⟨z.1.2, z.2⟩)
      rw [if_neg hif, if_neg (by simpa using hc)]
      exact occ_count s c limit k (a + 1) st (by omega) (by omega)
theorem count_list (c : Nat) : ∀ l : List Nat, ((List.range' 0 (l.length + 1)).filter fun i => decide (l[i]? = some c)).length = l.count c
  | [] => by simp [List.range'_succ]
  | x :: l => by
    have ih := count_list c l
    have e : List.range' 0 ((x :: l).length + 1) = 0 :: (List.range' 0 (l.length + 1)).map (· + 1) := by
      rw [List.length_cons, List.range'_succ]
      congr 1
      rw [List.range'_eq_map_range, List.range'_eq_map_range, List.map_map]
      refine List.map_congr_left fun i _ => ?_
      show 0 + 1 + i = 0 + i + 1
      omega
    rw [e, List.filter_cons, List.filter_map, List.count_cons]
    have e2 : ((fun i => decide ((x :: l)[i]? = some c)) ∘ fun x => x + 1) = fun i => decide (l[i]? = some c) := by
      funext i
      simp
    rw [e2]
    by_cases hx : x = c
    · subst hx
      simp [ih]
    · simp [hx, ih]
theorem count_one (m : Nat) : (occurrences (binS m) ⟨#[49]⟩ 0 (binS m).length ((binS m).length + 1)).length = pop m := by
  rw [StrLaws.occ_eq, Array.length_toList]
  have h := occ_count (binS m) 49 ((binS m).length + 1) ((binS m).length + 1) 0 (#[], 0) (Nat.le_refl _) (by simp)
  have h2 := count_list 49 (binL m)
  have e : (binS m).cps.toList = binL m := by unfold binS; simp
  rw [e, binS_len] at h
  simp only [Nat.sub_zero]
  rw [binS_len]
  refine h.trans ?_
  rw [h2]
  show 0 + pop m = pop m
  omega
/-- the sign of two numbers -/
def sgn (a b : Nat) : Int := if pop (a &&& b) % 2 = 0 then 1 else -1
theorem and_half (a b : Nat) : (a &&& b) / 2 = a / 2 &&& b / 2 := Nat.and_div_two
theorem and_mod (a b : Nat) : (a &&& b) % 2 = a % 2 * (b % 2) := by
  have e : (a &&& b) &&& 1 = (a &&& 1) &&& (b &&& 1) := by
    apply Nat.eq_of_testBit_eq
    intro i
    simp only [Nat.testBit_and]
    cases a.testBit i <;> cases b.testBit i <;> cases (1 : Nat).testBit i <;> rfl
  rw [Nat.and_one_is_mod, Nat.and_one_is_mod, Nat.and_one_is_mod] at e
  rw [e]
  have h1 : a % 2 = 0 ∨ a % 2 = 1 := by omega
  have h2 : b % 2 = 0 ∨ b % 2 = 1 := by omega
  rcases h1 with h1 | h1 <;> rcases h2 with h2 | h2 <;> rw [h1, h2] <;> rfl
theorem sgn_step (a b : Nat) : sgn a b = (if a % 2 = 1 ∧ b % 2 = 1 then -1 else 1) * sgn (a / 2) (b / 2) := by
  unfold sgn
  rw [pop_half (a &&& b), and_half, and_mod]
  have h1 : a % 2 = 0 ∨ a % 2 = 1 := by omega
  have h2 : b % 2 = 0 ∨ b % 2 = 1 := by omega
  rcases h1 with h1 | h1 <;> rcases h2 with h2 | h2 <;> simp only [h1, h2] <;> simp <;> split <;> split <;> omega
theorem sgn_zeroL (b : Nat) : sgn 0 b = 1 := by
  unfold sgn
  rw [Nat.zero_and]
  decide
theorem sgn_comm (a b : Nat) : sgn a b = sgn b a := by
  unfold sgn
  rw [Nat.and_comm]
theorem sgn_zeroR (a : Nat) : sgn a 0 = 1 := by rw [sgn_comm, sgn_zeroL]
end XT
/-! a for over zip of two texts -/
namespace XT
open PySem PySem.Spec PyProof.Rows L2
theorem for_zipS {x y : Str} {g : TG} {tb : TS} {D : Ends} {σ : L2.St} {H : Hp} (hl : x.cps.size = y.cps.size) (Pv : Nat → L2.St → Hp → Prop) (h0 : Pv 0 σ H)
    (hs : ∀ i c d T σ H, x.cps[i]? = some c → y.cps[i]? = some d → Pv i σ H → H T = none → g (.ref T) σ (upd H T (.tup [.str ⟨#[c]⟩, .str ⟨#[d]⟩])) fun σ2 H2 => tb { D with nx := Pv (i + 1), ct := Pv (i + 1), bk := D.nx } σ2 H2) (hd : ∀ σ H, Pv x.cps.size σ H → D.nx σ H) :
    ∃ W : Nat → Nat → L2.St → Hp → Prop, (∃ m, W 0 m σ H) ∧ ∀ i m σ H, W i m σ H →
      ((ItzS x y).stop i H ∧ D.nx σ H) ∨ ((ItzS x y).go i H ∧ ∃ N : L2.St → Hp → Prop, (∀ σ' H', N σ' H' → ∃ m', m' < m ∧ W (i + 1) m' σ' H') ∧ ∀ v H', (ItzS x y).yld i H v H' → g v σ H' fun σ2 H2 => tb { D with nx := N, ct := N, bk := D.nx } σ2 H2) := by
  refine ⟨fun i m σ H => m = x.cps.size - i ∧ i ≤ x.cps.size ∧ Pv i σ H, ⟨x.cps.size, rfl, Nat.zero_le _, h0⟩, ?_⟩
  rintro i m σ H ⟨rfl, hi, p⟩
  rcases Nat.lt_or_ge i x.cps.size with lt | ge
  · refine .inr ⟨⟨lt, by omega⟩, Pv (i + 1), fun σ' H' p' => ⟨x.cps.size - (i + 1), by omega, rfl, lt, p'⟩, fun v H' z => ?_⟩
    obtain ⟨T, c, d, rfl, hT, rfl, f1, f2⟩ := z
    exact hs i c d T σ H f1 f2 p hT
  · have e : i = x.cps.size := by omega
    subst e
    exact .inl ⟨⟨Nat.le_refl _, by omega, .inl rfl⟩, hd σ H p⟩
theorem same_put {H H' : Hp} {L : Addr} {o : HO} (s : Same H H') (n : H L = none) : Same H (upd H' L o) := fun b x e => by
  rw [upd_ne (ne_of_none e n)]
  exact s _ _ e
end XT
/-! groups of patterns in the heap; count of "?" -/
namespace XT
open PySem PySem.Spec PyProof.Rows L2
abbrev sgL (cs : List Nat) : List V := (cs.map fun c => (⟨#[c]⟩ : Str)).map V.str
theorem in_twoQ {c d : Nat} : inV (.str "?") [.str ⟨#[c]⟩, .str ⟨#[d]⟩] = (decide (c = 63) || decide (d = 63)) := by
  have e : (Str.ofString "?") = ⟨#[63]⟩ := by decide +kernel
  show ((⟨#[c]⟩ : Str) == Str.ofString "?" || ((⟨#[d]⟩ : Str) == Str.ofString "?" || false)) = _
  rw [e, str1_eq, str1_eq, Bool.or_false]
theorem count_q (x : Str) : Txt.count x "?" = ((x.cps.toList.count 63 : Nat) : Int) := by
  have hl : x.cps.toList.length = x.length := by rw [Array.length_toList]; rfl
  unfold Txt.count
  rw [q_str]
  congr 1
  rw [StrLaws.occ_eq, Array.length_toList]
  have h := occ_count x 63 (x.length + 1) (x.length + 1) 0 (#[], 0) (Nat.le_refl _) (by simp)
  have h2 := count_list 63 x.cps.toList
  rw [hl] at h2
  simp only [Nat.sub_zero]
  refine h.trans ?_
  rw [h2]
  show 0 + _ = _
  omega
theorem com_snoc {p q : List Nat} {c d : Nat} (h : p.length = q.length) : comOk (p ++ [c]) (q ++ [d]) = (comOk p q && decide (c = 63 ∨ d = 63 ∨ c = d)) ∧ comV (p ++ [c]) (q ++ [d]) = comV p q ++ [if c = 63 then d else c] := by
  unfold comOk comV
  rw [List.zip_append h, List.all_append, List.map_append]
  exact ⟨by simp, rfl⟩
theorem com_bad : ∀ {p q : List Nat} {i c d : Nat}, p[i]? = some c → q[i]? = some d → ¬ (c = 63 ∨ d = 63 ∨ c = d) → comOk p q = false := fun {p q i c d} hp hq h => by
  unfold comOk
  rw [List.all_eq_false]
  have hz : (p.zip q)[i]? = some (c, d) := by rw [List.getElem?_zip_eq_some]; exact ⟨hp, hq⟩
  exact ⟨(c, d), List.mem_of_getElem? hz, by simpa using h⟩
theorem comV_len {p q : List Nat} (h : p.length = q.length) : (comV p q).length = p.length := by
  unfold comV
  rw [List.length_map, List.length_zip]
  omega
/-- the groups are in the heap -/
inductive GrAt (H : Hp) : List V → List (Str × Int) → Prop
  | nil : GrAt H [] []
  | cons {t : Addr} {g : Str} {f : Int} {xs : List V} {G : List (Str × Int)} (e : H t = some (.tup [.str g, .int f])) (r : GrAt H xs G) : GrAt H (.ref t :: xs) ((g, f) :: G)
theorem GrAt.same {H H' : Hp} {xs : List V} {G : List (Str × Int)} (h : GrAt H xs G) (s : Same H H') : GrAt H' xs G := by
  induction h with
  | nil => exact .nil
  | cons e _ ih => exact .cons (s _ _ e) ih
theorem GrAt.put {H : Hp} {L : Addr} {ys zs : List V} {xs : List V} {G : List (Str × Int)} (h : GrAt H xs G) (hL : H L = some (.lst ys)) : GrAt (upd H L (.lst zs)) xs G := by
  induction h with
  | nil => exact .nil
  | cons e _ ih => exact .cons (by rw [upd_ne fun z => by rw [z, hL] at e; cases e]; exact e) ih
theorem GrAt.app {H : Hp} {xs ys : List V} {G G' : List (Str × Int)} (h : GrAt H xs G) (k : GrAt H ys G') : GrAt H (xs ++ ys) (G ++ G') := by
  induction h with
  | nil => exact k
  | cons e _ ih => exact .cons e ih
theorem GrAt.len {H : Hp} {xs : List V} {G : List (Str × Int)} (h : GrAt H xs G) : xs.length = G.length := by
  induction h with
  | nil => rfl
  | cons e _ ih => rw [List.length_cons, List.length_cons, ih]
theorem GrAt.at {H : Hp} {xs : List V} {G : List (Str × Int)} (h : GrAt H xs G) : ∀ {i : Nat} {v : V}, xs[i]? = some v → ∃ t g f, v = .ref t ∧ G[i]? = some (g, f) ∧ H t = some (.tup [.str g, .int f]) := by
  induction h with
  | nil => intro i v e; cases e
  | @cons t g f xs G e _ ih =>
    intro i v e2
    cases i with
    | zero => exact ⟨t, g, f, (Option.some.inj e2).symm, rfl, e⟩
    | succ i => exact ih e2
theorem more_snoc {p : Str} : ∀ (G : List (Str × Int)) (e : Str × Int), moreG p (G ++ [e]) = moreG p G ++ (match comS e.1 p with | some z => [(z, 0 - e.2)] | none => [])
  | [], e => by show _ ++ [] = [] ++ _; rw [List.append_nil]; rfl
  | g :: G, e => by
    show _ ++ moreG p (G ++ [e]) = (_ ++ moreG p G) ++ _
    rw [more_snoc G e, List.append_assoc]
end XT
/-! how many masks are below a number: by heads -/
namespace XT
open PySem PySem.Spec PyProof.Rows L2
theorem bitsL_split (a : Nat) : ∀ k x : Nat, bitsL (a + k) x = bitsL a (x / 2 ^ k) ++ bitsL k x
  | 0, x => by
    rw [Nat.pow_zero, Nat.div_one]
    show bitsL a x = bitsL a x ++ []
    rw [List.append_nil]
  | k + 1, x => by
    show bitsL (a + k) (x / 2) ++ [48 + x % 2] = _ ++ (bitsL k (x / 2) ++ [48 + x % 2])
    rw [bitsL_split a k (x / 2), Nat.div_div_eq_div_mul, Nat.mul_comm, ← Nat.pow_succ, List.append_assoc]
theorem bitsL_inj : ∀ {n x y : Nat}, x < 2 ^ n → y < 2 ^ n → bitsL n x = bitsL n y → x = y
  | 0, x, y, hx, hy, _ => by
    rw [Nat.pow_zero] at hx hy
    omega
  | n + 1, x, y, hx, hy, h => by
    rw [Nat.pow_succ] at hx hy
    have h : bitsL n (x / 2) ++ [48 + x % 2] = bitsL n (y / 2) ++ [48 + y % 2] := h
    have h2 := List.append_inj h (by rw [bitsL_len, bitsL_len])
    have e := bitsL_inj (n := n) (by omega) (by omega) h2.1
    have e2 := List.cons.inj h2.2
    omega
theorem fitL_app {a b c d : List Nat} (h : a.length = c.length) : fitL (a ++ b) (c ++ d) = (fitL a c && fitL b d) := by
  unfold fitL
  rw [List.zip_append h, List.all_append]
theorem fitL_eq : ∀ {a c : List Nat}, a.length = c.length → (∀ x ∈ c, x ≠ 63) → (fitL a c = true ↔ a = c)
  | [], [], _, _ => ⟨fun _ => rfl, fun _ => rfl⟩
  | x :: a, y :: c, h, hc => by
    have ih := fitL_eq (a := a) (c := c) (Nat.succ.inj h) fun z hz => hc z (List.mem_cons_of_mem _ hz)
    show ((decide (y = x) || decide (y = 63)) && fitL a c) = true ↔ _
    rw [Bool.and_eq_true, Bool.or_eq_true, decide_eq_true_eq, decide_eq_true_eq, ih]
    have := hc y List.mem_cons_self
    constructor
    · rintro ⟨h1, rfl⟩
      rw [h1.elim id fun z => absurd z this]
    · intro e
      obtain ⟨e1, e2⟩ := List.cons.inj e
      exact ⟨.inl e1.symm, e2⟩
  | [], _ :: _, h, _ => by cases h
  | _ :: _, [], h, _ => by cases h
/-- the digits in front, 0, and ? in the rest -/
def headL (i k m : Nat) : List Nat := bitsL i (m / 2 ^ (k + 1)) ++ [48] ++ List.replicate k 63
theorem head_fit {i k m x : Nat} (hm : m < 2 ^ (i + 1 + k)) (hx : x < 2 ^ (i + 1 + k)) : fitL (bitsL (i + 1 + k) x) (headL i k m) = decide (x / 2 ^ k = 2 * (m / 2 ^ (k + 1))) := by
  have e1 : bitsL i (m / 2 ^ (k + 1)) ++ [48] = bitsL (i + 1) (2 * (m / 2 ^ (k + 1))) := by
    show _ = bitsL i (2 * (m / 2 ^ (k + 1)) / 2) ++ [48 + 2 * (m / 2 ^ (k + 1)) % 2]
    rw [show 2 * (m / 2 ^ (k + 1)) / 2 = m / 2 ^ (k + 1) by omega, show 2 * (m / 2 ^ (k + 1)) % 2 = 0 by omega]
  unfold headL
  rw [e1, bitsL_split (i + 1) k x, fitL_app (by rw [bitsL_len, bitsL_len])]
  have fa := fit_all (bitsL k x)
  rw [bitsL_len] at fa
  rw [fa, Bool.and_true, Bool.eq_iff_iff, decide_eq_true_eq, fitL_eq (by rw [bitsL_len, bitsL_len]) (bits_ne _ _)]
  have lt1 : x / 2 ^ k < 2 ^ (i + 1) := Nat.div_lt_of_lt_mul (by rw [← Nat.pow_add, Nat.add_comm k]; exact hx)
  have lt2 : m / 2 ^ (k + 1) < 2 ^ i := Nat.div_lt_of_lt_mul (by rw [← Nat.pow_add]; rw [show k + 1 + i = i + 1 + k by omega]; exact hm)
  constructor
  · intro h
    exact bitsL_inj lt1 (by have e := Nat.pow_succ 2 i; generalize m / 2 ^ (k + 1) = p at *; omega) h
  · intro h
    rw [h]
/-- the masks of a block -/
theorem block_cnt {P : Nat → Bool} {n k q : Nat} (hk : k ≤ n) (hq : q < 2 ^ (n - k)) : ((List.range (2 ^ n)).filter fun x => P x && decide (x / 2 ^ k = q)).length = ((List.range (2 ^ k)).filter fun y => P (q * 2 ^ k + y)).length := by
  have p0 : 0 < 2 ^ k := Nat.pos_of_ne_zero (by simp)
  have e : 2 ^ n = q * 2 ^ k + (2 ^ k + (2 ^ n - (q + 1) * 2 ^ k)) := by
    have h1 : (q + 1) * 2 ^ k ≤ 2 ^ (n - k) * 2 ^ k := Nat.mul_le_mul_right _ hq
    rw [← Nat.pow_add, Nat.sub_add_cancel hk] at h1
    have h3 : (q + 1) * 2 ^ k = q * 2 ^ k + 2 ^ k := by rw [Nat.add_mul, Nat.one_mul]
    rw [h3] at h1 ⊢
    obtain ⟨r, hr⟩ := Nat.le.dest h1
    rw [← hr, Nat.add_sub_cancel_left, Nat.add_assoc]
  rw [e, List.range_add, List.filter_append, List.length_append, List.filter_map, List.length_map, List.range_add, List.filter_append, List.length_append, List.filter_map, List.length_map]
  have z1 : ((List.range (q * 2 ^ k)).filter fun x => P x && decide (x / 2 ^ k = q)).length = 0 := by
    rw [List.length_eq_zero_iff, List.filter_eq_nil_iff]
    intro x hx h
    have hx := List.mem_range.mp hx
    rw [Bool.and_eq_true, decide_eq_true_eq] at h
    have := (Nat.div_lt_iff_lt_mul p0).mpr hx
    omega
  have z3 : ((List.range (2 ^ n - (q + 1) * 2 ^ k)).filter (((fun x => P x && decide (x / 2 ^ k = q)) ∘ fun x => q * 2 ^ k + x) ∘ fun x => 2 ^ k + x)).length = 0 := by
    rw [List.length_eq_zero_iff, List.filter_eq_nil_iff]
    intro x _ h
    have h : (P (q * 2 ^ k + (2 ^ k + x)) && decide ((q * 2 ^ k + (2 ^ k + x)) / 2 ^ k = q)) = true := h
    rw [Bool.and_eq_true, decide_eq_true_eq] at h
    have h2 := h.2
    rw [← Nat.add_assoc, show q * 2 ^ k + 2 ^ k = (q + 1) * 2 ^ k by rw [Nat.add_mul, Nat.one_mul], Nat.mul_comm, Nat.mul_add_div p0] at h2
    have h3 : q + 1 + x / 2 ^ k = q := h2
    generalize x / 2 ^ k = y at h3
    omega
  have z2 : (List.range (2 ^ k)).filter ((fun x => P x && decide (x / 2 ^ k = q)) ∘ fun x => q * 2 ^ k + x) = (List.range (2 ^ k)).filter fun y => P (q * 2 ^ k + y) := by
    refine List.filter_congr fun y hy => ?_
    have hy := List.mem_range.mp hy
    show (P (q * 2 ^ k + y) && decide ((q * 2 ^ k + y) / 2 ^ k = q)) = _
    rw [Nat.mul_comm, Nat.mul_add_div p0, Nat.div_eq_of_lt hy, Nat.add_zero, decide_eq_true rfl, Bool.and_true]
  rw [z1, z2, z3, Nat.zero_add, Nat.add_zero]
/-- the patterns that go on from a head -/
def belS (ws : List Str) (h : Str) : List Str := ws.filterMap fun x => comS x h
theorem bel_cnt {n i k m : Nat} {ws : List Str} {h : Str} (en : n = i + 1 + k) (hw : ∀ x ∈ ws, OkK n x) (hh : h.cps.toList = headL i k m) (hm : m < 2 ^ n) : cntW n (belS ws h) = ((List.range (2 ^ k)).filter fun y => hasM n ws (2 * (m / 2 ^ (k + 1)) * 2 ^ k + y)).length := by
  have lh : h.cps.toList.length = n := by
    rw [hh]
    unfold headL
    rw [List.length_append, List.length_append, bitsL_len, List.length_replicate, List.length_singleton]
    omega
  have lt2 : m / 2 ^ (k + 1) < 2 ^ i := Nat.div_lt_of_lt_mul (by rw [← Nat.pow_add]; rw [show k + 1 + i = i + 1 + k by omega, ← en]; exact hm)
  rw [← block_cnt (P := hasM n ws) (n := n) (k := k) (by omega) (by rw [en, show i + 1 + k - k = i + 1 by omega]; have e := Nat.pow_succ 2 i; generalize m / 2 ^ (k + 1) = p at *; omega)]
  unfold cntW lotOf
  refine congrArg List.length (List.filter_congr fun x hx => ?_)
  have hx := List.mem_range.mp hx
  have hf : fitL (bitsL n x) h.cps.toList = decide (x / 2 ^ k = 2 * (m / 2 ^ (k + 1))) := by
    rw [hh]
    subst en
    exact head_fit hm hx
  rw [← hf, Bool.eq_iff_iff, Bool.and_eq_true]
  unfold hasM belS
  rw [List.any_eq_true, List.any_eq_true]
  have cf : ∀ y ∈ ws, (fitL (bitsL n x) y.cps.toList && fitL (bitsL n x) h.cps.toList) = (comOk y.cps.toList h.cps.toList && fitL (bitsL n x) (comV y.cps.toList h.cps.toList)) := fun y hy => com_fit _ _ _ (bits_ne n x) (by rw [bitsL_len, (hw y hy).ln]) (by rw [(hw y hy).ln, lh])
  constructor
  · rintro ⟨z, hz, fz⟩
    obtain ⟨y, hy, e⟩ := List.mem_filterMap.mp hz
    unfold comS at e
    split at e
    · rename_i hok
      have e := Option.some.inj e
      subst e
      have fz : fitL (bitsL n x) ((comV y.cps.toList h.cps.toList).toArray).toList = true := fz
      rw [List.toList_toArray] at fz
      have c := cf y hy
      rw [hok, fz, Bool.true_and, Bool.and_eq_true] at c
      exact ⟨⟨y, hy, c.1⟩, c.2⟩
    · cases e
  · rintro ⟨⟨y, hy, fy⟩, fh⟩
    have c := cf y hy
    rw [fy, fh, Bool.true_and] at c
    have c := c.symm
    rw [Bool.and_eq_true] at c
    refine ⟨_, List.mem_filterMap.mpr ⟨y, hy, by unfold comS; rw [if_pos c.1]⟩, ?_⟩
    show fitL (bitsL n x) ((comV y.cps.toList h.cps.toList).toArray).toList = true
    rw [List.toList_toArray]
    exact c.2
/-- one digit 1 more -/
theorem bel_one {n i k m : Nat} {ws : List Str} {h : Str} (en : n = i + 1 + k) (hw : ∀ x ∈ ws, OkK n x) (hh : h.cps.toList = headL i k m) (hm : m < 2 ^ n) (hb : m / 2 ^ k % 2 = 1) : rnk n ws (m / 2 ^ k * 2 ^ k) = rnk n ws (m / 2 ^ (k + 1) * 2 ^ (k + 1)) + cntW n (belS ws h) := by
  rw [bel_cnt en hw hh hm]
  have e1 : m / 2 ^ k = 2 * (m / 2 ^ (k + 1)) + 1 := by
    rw [Nat.pow_succ, ← Nat.div_div_eq_div_mul]
    omega
  have e2 : 2 * (m / 2 ^ (k + 1)) * 2 ^ k = m / 2 ^ (k + 1) * 2 ^ (k + 1) := by
    rw [Nat.pow_succ, Nat.mul_comm 2 (m / (2 ^ k * 2)), Nat.mul_assoc, Nat.mul_comm 2]
  rw [e1, Nat.add_mul, Nat.one_mul, rnk_add, e2]
theorem bel_zero {n k m : Nat} {ws : List Str} (hb : m / 2 ^ k % 2 = 0) : rnk n ws (m / 2 ^ k * 2 ^ k) = rnk n ws (m / 2 ^ (k + 1) * 2 ^ (k + 1)) := by
  have e1 : m / 2 ^ k = 2 * (m / 2 ^ (k + 1)) := by
    rw [Nat.pow_succ, ← Nat.div_div_eq_div_mul]
    omega
  rw [e1, Nat.pow_succ, Nat.mul_comm 2 (m / (2 ^ k * 2)), Nat.mul_assoc, Nat.mul_comm 2]
end XT
/-! wide_keeps; the masks of a turned wide lot -/
namespace XT
open PySem PySem.Spec PyProof.Rows L2
theorem bitsL_sgn : ∀ n m c, c ∈ bitsL n m → c = 48 ∨ c = 49
  | 0, _, _, h => by cases h
  | n + 1, m, c, h => by
    rcases List.mem_append.mp (show c ∈ bitsL n (m / 2) ++ [48 + m % 2] from h) with h | h
    · exact bitsL_sgn n _ c h
    · rw [List.mem_singleton.mp h]
      omega
theorem digW_okW {n m : Nat} (h1 : 1 ≤ n) (hm : m < 2 ^ n) : OkW n (digW m n) := ⟨digW_len h1 hm, fun c hc => by
  rw [digW_bits h1 hm] at hc
  rcases bitsL_sgn _ _ _ hc with rfl | rfl <;> decide⟩
theorem has_one {n m b : Nat} (h1 : 1 ≤ n) (hm : m < 2 ^ n) (hb : b < 2 ^ n) : hasM n [digW m n] b = true ↔ b = m := by
  unfold hasM
  rw [List.any_cons, List.any_nil, Bool.or_false, digW_bits h1 hm, fitL_eq (by rw [bitsL_len, bitsL_len]) (fun x hx => by rcases bitsL_sgn _ _ _ hx with rfl | rfl <;> decide)]
  exact ⟨fun e => bitsL_inj hb hm e, fun e => by rw [e]⟩
theorem hasM_turn {n m x : Nat} {ws : List Str} (h1 : 1 ≤ n) (hw : ∀ y ∈ ws, OkW n y) (hm : m < 2 ^ n) (hx : x < 2 ^ n) : hasM n (turnW n m ws) x = hasM n ws (x ^^^ m) := by
  have hs : ∀ y, y ∈ turnW n m ws ↔ InSum ws [digW m n] y := fun y => by
    unfold turnW InSum
    rw [List.mem_map]
    constructor
    · rintro ⟨a, ha, rfl⟩
      exact ⟨a, ha, _, List.mem_singleton.mpr rfl, rfl⟩
    · rintro ⟨a, ha, b, hb, rfl⟩
      rw [List.mem_singleton.mp hb]
      exact ⟨a, ha, rfl⟩
  rw [Bool.eq_iff_iff, hasM_sum hw (fun y hy => by rw [List.mem_singleton.mp hy]; exact digW_okW h1 hm) hs hx]
  constructor
  · rintro ⟨a, b, ha, hb, h2, h3, rfl⟩
    rw [(has_one h1 hm hb).mp h3, xor_back]
    exact h2
  · intro h
    exact ⟨x ^^^ m, m, xor_lt hx hm, hm, h, (has_one h1 hm hm).mpr rfl, (xor_back _ _).symm⟩
/-- the mask keeps the wide lot -/
def kwB (n m : Nat) (ws : List Str) : Bool := decide (∀ x, x < 2 ^ n → hasM n ws x = hasM n ws (x ^^^ m))
theorem kwB_iff {n m : Nat} {ws : List Str} : kwB n m ws = true ↔ ∀ x, x < 2 ^ n → hasM n ws x = hasM n ws (x ^^^ m) := by
  unfold kwB
  exact decide_eq_true_iff
theorem oV_none : ∀ o : Option Nat, decide (oV o = V.non) = o.isNone
  | none => rfl
  | some m => rfl
theorem kw_dif {n m : Nat} {ws : List Str} (h1 : 1 ≤ n) (hw : ∀ y ∈ ws, OkW n y) (hm : m < 2 ^ n) : ∀ {o : Option Nat}, IsDif n ws (turnW n m ws) o → o.isNone = kwB n m ws
  | none, d => by
    have : kwB n m ws = true := kwB_iff.mpr fun x hx => by rw [d x hx, hasM_turn h1 hw hm hx]
    rw [this]
    rfl
  | some k, ⟨d1, d2, _⟩ => by
    cases h : kwB n m ws with
    | false => rfl
    | true =>
      have := kwB_iff.mp h k d1
      rw [hasM_turn h1 hw hm d1] at d2
      exact absurd this d2
section
variable {P : Program} {w : World} {K : PySem.W.Frag} {mg : Str → Option Value} {base : Heap}
theorem scKw : FnScope ["wide", "mask"] ["wide", "mask"] (defScope sWideKeeps) := ⟨rfl, rfl, rfl, by decide +kernel, rfl, by decide +kernel, by decide +kernel⟩
def spKw (K : PySem.W.Frag) (CM : Addr) : Sp := fun vs H Q E => ∃ (T : Addr) (ws : List Str) (n : Nat) (v : V) (d : PyData), vs = [.ref T, v] ∧ WideT H T ws n ∧ Dz K H v d ∧
  (∀ m : Nat, d = .int (m : Int) → m < 2 ^ n → ∀ H', Same H H' → Q (.bl (kwB n m ws)) H') ∧ (isM n d = false → ∀ H' dd, Same H H' → H' dd = some (.xd [("value", v)]) → E (.ref CM) (some dd) H')
theorem isM_nat {n m : Nat} (hm : m < 2 ^ n) : isM n (.int (m : Int)) = true := by
  show (decide ((0 : Int) ≤ m) && decide ((m : Int) < ((2 ^ n : Nat) : Int))) = true
  rw [decide_eq_true (by omega), decide_eq_true (by omega)]
  rfl
theorem ok_kw {f CW CM : Addr} {fd : FuncData} {k : Nat} (F : Fun K "wide_keeps" "wide_keeps" sWideKeeps f fd) (dF : DefX P w K mg base 43 "first_difference" (spFdi CW)) (dT : DefX P w K mg base 3 "wide_turned" (spWt K CM)) : FnOk P w K mg base (L2.CX P w) (k + 44) f fd ["wide", "mask"] (spKw K CM) := by
  refine F.okX scKw (fun vs H Q E h => ?_) (fun cdv A outer s H vs Q E hr h => ?_)
  · obtain ⟨T, ws, n, v, d, rfl, _⟩ := h
    rfl
  · obtain ⟨T, ws, n, v, d, rfl, hw, hd, q, qe⟩ := h
    refine ⟨_, pss_one (ps_ret (pe_cmpR op_isN (pe_defX dF (hr.mono (by omega)) (by rfl) (takes_of rfl rfl rfl rfl) (pa_cons (pv 0) (pa_cons (pe_defX dT (hr.mono (by omega)) (by rfl) (takes_of rfl rfl rfl rfl) (pa_cons (pv 0) (pa_cons (pv 1) pa_nil))) pa_nil))) pe_non (nomark _))), ?_⟩
    refine ⟨.ref T, rfl, .ref T, rfl, v, rfl, T, ws, n, v, d, rfl, hw, hd, fun m ed hm H2 T2 s2 hT2 => ?_, fun hm H2 dd sm hdd => qe hm H2 dd sm hdd⟩
    refine ⟨T, T2, ws, turnW n m ws, n, n, rfl, hw.same s2, hw.turn hm hT2, fun _ H3 o s3 d3 => ⟨rfl, ?_⟩, fun ne => absurd rfl ne⟩
    rw [oV_none, kw_dif hw.n1 hw.ok hm d3]
    exact q m ed hm H3 (s2.trans s3)
end
end XT
/-! turned wide lots: turns go together, numbers -/
namespace XT
open PySem PySem.Spec PyProof.Rows L2
theorem cch_two {c p q : Nat} (hc : sgn3 c = true) (hp : p < 2) (hq : q < 2) : cch (cch c (48 + p)) (48 + q) = cch c (48 + (p + q) % 2) := by
  rcases sgn3_cases hc with rfl | rfl | rfl <;> (match p, hp, q, hq with
    | 0, _, 0, _ => rfl
    | 0, _, 1, _ => rfl
    | 1, _, 0, _ => rfl
    | 1, _, 1, _ => rfl)
theorem combL_two : ∀ (n : Nat) (p : List Nat) (a b : Nat), p.length = n → (∀ c ∈ p, sgn3 c = true) → combL (combL p (bitsL n a)) (bitsL n b) = combL p (bitsL n (a ^^^ b))
  | 0, p, a, b, hp, _ => by
    rw [List.length_eq_zero_iff.mp hp]
    rfl
  | n + 1, p, a, b, hp, hs => by
    obtain ⟨p, c, rfl, hp1⟩ := snoc_len hp
    have ih := combL_two n p (a / 2) (b / 2) hp1 fun d hd => hs d (List.mem_append_left _ hd)
    have hc := hs c (List.mem_append_right _ List.mem_cons_self)
    show combL (combL (p ++ [c]) (bitsL n (a / 2) ++ [48 + a % 2])) (bitsL n (b / 2) ++ [48 + b % 2]) = combL (p ++ [c]) (bitsL n ((a ^^^ b) / 2) ++ [48 + (a ^^^ b) % 2])
    have l1 : p.length = (bitsL n (a / 2)).length := by rw [bitsL_len, hp1]
    rw [combL_snoc2 l1, combL_snoc2 (by rw [combL_len _ _ l1, hp1, bitsL_len]), combL_snoc2 (by rw [bitsL_len, hp1]), ih, Nat.xor_div_two, cch_two hc (Nat.mod_lt _ (by decide)) (Nat.mod_lt _ (by decide)), xor_m2, ← Nat.add_mod]
theorem cch_zero {c : Nat} (hc : sgn3 c = true) : cch c 48 = c := by rcases sgn3_cases hc with rfl | rfl | rfl <;> rfl
theorem combL_zero : ∀ (n : Nat) (p : List Nat), p.length = n → (∀ c ∈ p, sgn3 c = true) → combL p (bitsL n 0) = p
  | 0, p, hp, _ => by
    rw [List.length_eq_zero_iff.mp hp]
    rfl
  | n + 1, p, hp, hs => by
    obtain ⟨p, c, rfl, hp1⟩ := snoc_len hp
    show combL (p ++ [c]) (bitsL n (0 / 2) ++ [48 + 0 % 2]) = _
    rw [combL_snoc2 (by rw [bitsL_len, hp1]), Nat.zero_div, combL_zero n p hp1 fun d hd => hs d (List.mem_append_left _ hd)]
    rw [show 48 + 0 % 2 = 48 from rfl, cch_zero (hs c (List.mem_append_right _ List.mem_cons_self))]
section
variable {n a b : Nat} {ws us : List Str}
theorem okW_l {x : Str} (h : OkW n x) : x.cps.toList.length = n := by rw [Array.length_toList]; exact h.1
theorem comb_two {x : Str} (h1 : 1 ≤ n) (hx : OkW n x) (ha : a < 2 ^ n) (hb : b < 2 ^ n) : comb (comb x (digW a n)) (digW b n) = comb x (digW (a ^^^ b) n) := by
  refine str_inj ?_
  rw [comb_list, comb_list, comb_list, digW_bits h1 ha, digW_bits h1 hb, digW_bits h1 (xor_lt ha hb), combL_two n _ a b (okW_l hx) hx.2]
theorem comb_zero {x : Str} (h1 : 1 ≤ n) (hx : OkW n x) : comb x (digW 0 n) = x := by
  refine str_inj ?_
  rw [comb_list, digW_bits h1 (pow0 n), combL_zero n _ (okW_l hx) hx.2]
theorem turn_two (h1 : 1 ≤ n) (hw : ∀ x ∈ ws, OkW n x) (ha : a < 2 ^ n) (hb : b < 2 ^ n) : turnW n b (turnW n a ws) = turnW n (a ^^^ b) ws := by
  unfold turnW
  rw [List.map_map]
  exact List.map_congr_left fun x hx => comb_two h1 (hw x hx) ha hb
theorem turn_zero (h1 : 1 ≤ n) (hw : ∀ x ∈ ws, OkW n x) : turnW n 0 ws = ws := by
  unfold turnW
  exact (List.map_congr_left fun x hx => comb_zero h1 (hw x hx)).trans (List.map_id' ws)
theorem turn_back (h1 : 1 ≤ n) (hw : ∀ x ∈ ws, OkW n x) (ha : a < 2 ^ n) : turnW n a (turnW n a ws) = ws := by
  rw [turn_two h1 hw ha ha, Nat.xor_self, turn_zero h1 hw]
theorem cnt_turn (h1 : 1 ≤ n) (hw : ∀ x ∈ ws, OkW n x) (ha : a < 2 ^ n) : cntW n (turnW n a ws) = cntW n ws := by
  unfold cntW
  rw [lot_congr (P' := fun x => hasM n ws (x ^^^ a)) fun x hx => hasM_turn h1 hw ha hx]
  exact lot_len_xor ha
end
end XT
/-! the number whose ones stand where g says -/
namespace XT
open PySem PySem.Spec PyProof.Rows L2
def frN (g : Nat → Bool) : Nat → Nat
  | 0 => 0
  | i + 1 => 2 * frN g i + (if g i = true then 1 else 0)
theorem frN_lt (g : Nat → Bool) : ∀ i, frN g i < 2 ^ i
  | 0 => Nat.lt_succ_self 0
  | i + 1 => by
    have := frN_lt g i
    show 2 * frN g i + (if g i = true then 1 else 0) < _
    rw [Nat.pow_succ]
    split <;> omega
theorem frN_bits (g : Nat → Bool) : ∀ i, bitsL i (frN g i) = (List.range i).map fun j => 48 + (if g j = true then 1 else 0)
  | 0 => rfl
  | i + 1 => by
    have ih := frN_bits g i
    show bitsL i ((2 * frN g i + (if g i = true then 1 else 0)) / 2) ++ [48 + (2 * frN g i + (if g i = true then 1 else 0)) % 2] = _
    have e1 : (2 * frN g i + (if g i = true then 1 else 0)) / 2 = frN g i := by split <;> omega
    have e2 : (2 * frN g i + (if g i = true then 1 else 0)) % 2 = (if g i = true then 1 else 0) := by split <;> omega
    rw [e1, e2, ih, List.range_succ, List.map_append]
    rfl
theorem frN_sum (g : Nat → Bool) (n : Nat) : ∀ i, i ≤ n → (((List.range i).filter g).map fun k => 2 ^ (n - 1 - k)).sum = frN g i * 2 ^ (n - i)
  | 0, _ => by
    show 0 = 0 * _
    rw [Nat.zero_mul]
  | i + 1, h => by
    have e : n - i = (n - (i + 1)) + 1 := by omega
    have e2 : n - 1 - i = n - (i + 1) := by omega
    rw [List.range_succ, List.filter_append, List.map_append, List.sum_append, frN_sum g n i (by omega), e, Nat.pow_succ]
    show _ = (2 * frN g i + (if g i = true then 1 else 0)) * 2 ^ (n - (i + 1))
    rw [Nat.add_mul]
    have e3 : frN g i * (2 ^ (n - (i + 1)) * 2) = 2 * frN g i * 2 ^ (n - (i + 1)) := by
      rw [Nat.mul_comm (2 ^ _) 2, ← Nat.mul_assoc, Nat.mul_comm (frN g i) 2]
    rw [e3]
    cases hg : g i with
    | true =>
      rw [List.filter_cons, hg, if_pos rfl, if_pos rfl]
      show _ + (2 ^ (n - 1 - i) + 0) = _
      rw [e2]
      omega
    | false =>
      rw [List.filter_cons, hg, if_neg (by decide), if_neg (by decide)]
      show _ + 0 = _
      omega
theorem bits_le : ∀ (n : Nat) {a b : Nat}, a < 2 ^ n → b < 2 ^ n → (∀ i, i < n → ∀ c d, (bitsL n a)[i]? = some c → (bitsL n b)[i]? = some d → c ≤ d) → a ≤ b
  | 0, a, b, ha, hb, _ => by
    rw [Nat.pow_zero] at ha hb
    omega
  | n + 1, a, b, ha, hb, h => by
    rw [Nat.pow_succ] at ha hb
    have la : (bitsL n (a / 2)).length = n := bitsL_len _ _
    have lb : (bitsL n (b / 2)).length = n := bitsL_len _ _
    have ih := bits_le n (a := a / 2) (b := b / 2) (by omega) (by omega) fun i hi c d hc hd => h i (by omega) c d (by
      show (bitsL n (a / 2) ++ [48 + a % 2])[i]? = _
      rw [List.getElem?_append_left (by omega)]; exact hc) (by
      show (bitsL n (b / 2) ++ [48 + b % 2])[i]? = _
      rw [List.getElem?_append_left (by omega)]; exact hd)
    have hl := h n (by omega) (48 + a % 2) (48 + b % 2) (by
      show (bitsL n (a / 2) ++ [48 + a % 2])[n]? = _
      rw [List.getElem?_append_right (by omega), la, Nat.sub_self]; rfl) (by
      show (bitsL n (b / 2) ++ [48 + b % 2])[n]? = _
      rw [List.getElem?_append_right (by omega), lb, Nat.sub_self]; rfl)
    omega
end XT
/-! when a pattern fits -/
namespace XT
open PySem PySem.Spec PyProof.Rows L2
theorem fitL_iff {ds ps : List Nat} : fitL ds ps = true ↔ ∀ i c d : Nat, ds[i]? = some d → ps[i]? = some c → c = d ∨ c = 63 := by
  unfold fitL
  rw [List.all_eq_true]
  constructor
  · intro h i c d hd hc
    have := h (d, c) (List.mem_of_getElem? (List.getElem?_zip_eq_some.mpr ⟨hd, hc⟩))
    rw [Bool.or_eq_true, decide_eq_true_iff, decide_eq_true_iff] at this
    exact this
  · rintro h ⟨d, c⟩ hm
    obtain ⟨i, hi⟩ := List.mem_iff_getElem?.mp hm
    obtain ⟨hd, hc⟩ := List.getElem?_zip_eq_some.mp hi
    rw [Bool.or_eq_true, decide_eq_true_iff, decide_eq_true_iff]
    exact h i c d hd hc
end XT
/-! _law_pick, of data -/
namespace XT
open PySem PySem.Spec PyProof.Rows L2
section
variable {P : Program} {w : World} {K : PySem.W.Frag} {mg : Str → Option Value} {base : Heap}
theorem scPk : FnScope ["_law_stream_here", "_law_items"] ["_law_stream_here", "_law_items"] (defScope sLPick) := ⟨rfl, rfl, rfl, by decide +kernel, rfl, by decide +kernel, by decide +kernel⟩
def spPick (K : PySem.W.Frag) : Sp := fun vs H Q _ => ∃ (S : Sm) (t : Int) (L : Addr) (xs : List V) (ds : List PyData) (Nw : Addr → Prop), vs = [.ref S.s, .ref L] ∧ (∀ b, Nw b → Nof S b) ∧ Strm S H t ∧ t < 1000000 ∧ H L = some (.lst xs) ∧ L ≠ S.s ∧ L ≠ S.p ∧ DvAll K Nw H xs ds ∧ 0 < ds.length ∧ ds.length ≤ 1000 ∧
  ∀ (H' : Hp) (v : V) (d : PyData) (t' : Int), Step S H t H' t' 1 → Dv K Nw H' v d → d ∈ ds → Q v H'
theorem ok_pick {f : Addr} {fd : FuncData} {k : Nat} (B : Bl mg) (F : Fun K "_law_pick" "_law_pick" sLPick f fd) (dD : DefR P w K mg base 1 "_law_draw" spDrawN) : FnOk P w K mg base CX0 (k + 2) f fd ["_law_stream_here", "_law_items"] (spPick K) := by
  refine F.ok scPk (fun vs H Q E h => ?_) (fun cdv A outer s H vs Q E hr h => ?_)
  · obtain ⟨S, t, L, xs, ds, Nw, rfl, _⟩ := h
    rfl
  · obtain ⟨S, t, L, xs, ds, Nw, rfl, hw, st, ht, hL, n1, n2, all, l0, l1, q⟩ := h
    have hl := all.len
    refine ⟨_, pss_one (ps_ret (pe_ix ix_list (pv 1) (pe_def dD (hr.mono (by omega)) (by rfl) (pa_cons (pv 0) (pa_cons (pe_callB call_len_seq (by rfl) B.len PySem.boot_len (pa_cons (pv 1) pa_nil)) pa_nil))) (fun _ _ => rfl))), ?_⟩
    refine ⟨.ref L, rfl, .ref S.s, rfl, .ref L, rfl, L, xs, rfl, .inl (SqL.of hL), S, t, xs.length, rfl, st, by omega, by omega, by omega, fun H9 r t9 s9 hr => ?_⟩
    obtain ⟨d, hd, hz⟩ := all.at (List.getElem?_eq_getElem hr)
    exact ⟨L, xs, r, _, rfl, rfl, SqL.of (s9.keep L _ n1 n2 hL), atI_nat (List.getElem?_eq_getElem hr), q H9 _ d t9 s9 (hz.keepN hw s9.keep st) (List.mem_of_getElem? hd)⟩
end
end XT
/-! _law_pick: from a list of data, or from a text -/
namespace XT
open PySem PySem.Spec PyProof.Rows L2
section
variable {P : Program} {w : World} {K : PySem.W.Frag} {mg : Str → Option Value} {base : Heap}
def spPickS : Sp := fun vs H Q _ => ∃ (S : Sm) (t : Int) (x : Str), vs = [.ref S.s, .str x] ∧ Strm S H t ∧ t < 1000000 ∧ 0 < x.length ∧ x.length ≤ 1000 ∧ ∀ (H' : Hp) (c : Nat) (t' : Int), Step S H t H' t' 1 → c ∈ x.cps.toList → Q (.str ⟨#[c]⟩) H'
theorem ok_pick2 {f : Addr} {fd : FuncData} {k : Nat} (B : Bl mg) (F : Fun K "_law_pick" "_law_pick" sLPick f fd) (dD : DefR P w K mg base 1 "_law_draw" spDrawN) : FnOk P w K mg base CX0 (k + 2) f fd ["_law_stream_here", "_law_items"] (fun vs H Q E => spPick K vs H Q E ∨ spPickS vs H Q E) := by
  refine F.ok scPk (fun vs H Q E h => ?_) (fun cdv A outer s H vs Q E hr h => ?_)
  · rcases h with ⟨S, t, L, xs, ds, Nw, rfl, _⟩ | ⟨S, t, x, rfl, _⟩ <;> rfl
  · refine ⟨_, pss_one (ps_ret (pe_ix (ix_list.or ix_str) (pv 1) (pe_def dD (hr.mono (by omega)) (by rfl) (pa_cons (pv 0) (pa_cons (pe_callB (CallR.or call_len_seq call_len_str) (by rfl) B.len PySem.boot_len (pa_cons (pv 1) pa_nil)) pa_nil))) (fun _ _ => rfl))), ?_⟩
    rcases h with ⟨S, t, L, xs, ds, Nw, rfl, hw, st, ht, hL, n1, n2, all, l0, l1, q⟩ | ⟨S, t, x, rfl, st, ht, l0, l1, q⟩
    · have hl := all.len
      refine ⟨.ref L, rfl, .ref S.s, rfl, .ref L, rfl, .inl ⟨L, xs, rfl, .inl (SqL.of hL), S, t, xs.length, rfl, st, by omega, by omega, by omega, fun H9 r t9 s9 hr => ?_⟩⟩
      obtain ⟨d, hd, hz⟩ := all.at (List.getElem?_eq_getElem hr)
      exact .inl ⟨L, xs, r, _, rfl, rfl, SqL.of (s9.keep L _ n1 n2 hL), atI_nat (List.getElem?_eq_getElem hr), q H9 _ d t9 s9 (hz.keepN hw s9.keep st) (List.mem_of_getElem? hd)⟩
    · have hsz : x.length ≤ sizeLine := szl (m := 1000) l1 (by decide)
      refine ⟨.str x, rfl, .ref S.s, rfl, .str x, rfl, .inr ⟨x, rfl, hsz, S, t, x.length, rfl, st, by omega, by omega, by omega, fun H9 r t9 s9 hr => ?_⟩⟩
      have hr2 : r < x.cps.toList.length := by rw [Array.length_toList]; exact hr
      exact .inr ⟨x, r, x.cps.toList[r], rfl, rfl, hsz, atI_nat (List.getElem?_eq_getElem hr2), q H9 _ t9 s9 (List.getElem_mem hr2)⟩
theorem pick2_l {k : Nat} (D : DefR P w K mg base k "_law_pick" (fun vs H Q E => spPick K vs H Q E ∨ spPickS vs H Q E)) : DefR P w K mg base k "_law_pick" (spPick K) := by
  obtain ⟨f, F, h1, h2⟩ := D
  exact ⟨f, F.imp fun vs H Q E h => .inl h, h1, h2⟩
theorem pick2_s {k : Nat} (D : DefR P w K mg base k "_law_pick" (fun vs H Q E => spPick K vs H Q E ∨ spPickS vs H Q E)) : DefR P w K mg base k "_law_pick" spPickS := by
  obtain ⟨f, F, h1, h2⟩ := D
  exact ⟨f, F.imp fun vs H Q E h => .inr h, h1, h2⟩
end
end XT
/-! _law_pick of a text or a tuple -/
namespace XT
open PySem PySem.Spec PyProof.Rows L2
section
variable {P : Program} {w : World} {K : PySem.W.Frag} {mg : Str → Option Value} {base : Heap}
def spPickT : Sp := fun vs H Q _ => ∃ (S : Sm) (t : Int) (T : Addr) (xs : List V), vs = [.ref S.s, .ref T] ∧ Strm S H t ∧ t < 1000000 ∧ H T = some (.tup xs) ∧ 0 < xs.length ∧ xs.length ≤ 1000 ∧
  ∀ (H' : Hp) (v : V) (t' : Int), Step S H t H' t' 1 → v ∈ xs → Q v H'
theorem ok_pick3 {f : Addr} {fd : FuncData} {k : Nat} (B : Bl mg) (F : Fun K "_law_pick" "_law_pick" sLPick f fd) (dD : DefR P w K mg base 1 "_law_draw" spDrawN) : FnOk P w K mg base CX0 (k + 2) f fd ["_law_stream_here", "_law_items"] (fun vs H Q E => spPickT vs H Q E ∨ spPickS vs H Q E) := by
  refine F.ok scPk (fun vs H Q E h => ?_) (fun cdv A outer s H vs Q E hr h => ?_)
  · rcases h with ⟨S, t, T, xs, rfl, _⟩ | ⟨S, t, x, rfl, _⟩ <;> rfl
  · refine ⟨_, pss_one (ps_ret (pe_ix (ix_tup.or ix_str) (pv 1) (pe_def dD (hr.mono (by omega)) (by rfl) (pa_cons (pv 0) (pa_cons (pe_callB (CallR.or call_len_seq call_len_str) (by rfl) B.len PySem.boot_len (pa_cons (pv 1) pa_nil)) pa_nil))) (fun _ _ => rfl))), ?_⟩
    rcases h with ⟨S, t, T, xs, rfl, st, ht, hT, l0, l1, q⟩ | ⟨S, t, x, rfl, st, ht, l0, l1, q⟩
    · refine ⟨.ref T, rfl, .ref S.s, rfl, .ref T, rfl, .inl ⟨T, xs, rfl, .inr (SqT.of hT), S, t, xs.length, rfl, st, by omega, by omega, by omega, fun H9 r t9 s9 hr => ?_⟩⟩
      exact .inl ⟨T, xs, r, _, rfl, rfl, SqT.of (s9.keep.tup st hT), atI_nat (List.getElem?_eq_getElem hr), q H9 _ t9 s9 (List.getElem_mem hr)⟩
    · have hsz : x.length ≤ sizeLine := szl (m := 1000) l1 (by decide)
      refine ⟨.str x, rfl, .ref S.s, rfl, .str x, rfl, .inr ⟨x, rfl, hsz, S, t, x.length, rfl, st, by omega, by omega, by omega, fun H9 r t9 s9 hr => ?_⟩⟩
      have hr2 : r < x.cps.toList.length := by rw [Array.length_toList]; exact hr
      exact .inr ⟨x, r, x.cps.toList[r], rfl, rfl, hsz, atI_nat (List.getElem?_eq_getElem hr2), q H9 _ t9 s9 (List.getElem_mem hr2)⟩
theorem pick3_t {k : Nat} (D : DefR P w K mg base k "_law_pick" (fun vs H Q E => spPickT vs H Q E ∨ spPickS vs H Q E)) : DefR P w K mg base k "_law_pick" spPickT := by
  obtain ⟨f, F, h1, h2⟩ := D
  exact ⟨f, F.imp fun vs H Q E h => .inl h, h1, h2⟩
theorem pick3_s {k : Nat} (D : DefR P w K mg base k "_law_pick" (fun vs H Q E => spPickT vs H Q E ∨ spPickS vs H Q E)) : DefR P w K mg base k "_law_pick" spPickS := by
  obtain ⟨f, F, h1, h2⟩ := D
  exact ⟨f, F.imp fun vs H Q E h => .inr h, h1, h2⟩
end
end XT
/-! _law_mask_of -/
namespace XT
open PySem PySem.Spec PyProof.Rows L2
section
variable {P : Program} {w : World} {K : PySem.W.Frag} {mg : Str → Option Value} {base : Heap}
abbrev nMo : List Str := ["_law_stream_here", "_law_wide_here", "_law_pattern", "_law_mask", "_law_char"]
theorem scMo : FnScope nMo ["_law_stream_here", "_law_wide_here"] (defScope sLMaskOf) := ⟨rfl, rfl, rfl, by decide +kernel, rfl, by decide +kernel, by decide +kernel⟩
def spMaskOf : Sp := fun vs H Q _ => ∃ (S : Sm) (t : Int) (T : Addr) (ws : List Str) (n : Nat), vs = [.ref S.s, .ref T] ∧ Strm S H t ∧ t < 100000 ∧ WideT H T ws n ∧
  ∀ (H' : Hp) (m : Nat) (t' : Int), Step S H t H' t' 41 → m < 2 ^ n → hasM n ws m = true → Q (.int (m : Int)) H'
theorem ok_mo {f : Addr} {fd : FuncData} {k : Nat} (B : Bl mg) (F : Fun K "_law_mask_of" "_law_mask_of" sLMaskOf f fd) (dD : DefR P w K mg base 1 "_law_draw" spDrawN) (dP : DefR P w K mg base 2 "_law_pick" spPickT) : FnOk P w K mg base CX0 (k + 3) f fd ["_law_stream_here", "_law_wide_here"] spMaskOf := by
  refine F.ok scMo (fun vs H Q E h => ?_) (fun cdv A outer s H vs Q E hr h => ?_)
  · obtain ⟨S, t, T, ws, n, rfl, _⟩ := h
    rfl
  · obtain ⟨S, t, T, ws, n, rfl, st, ht, hw, q⟩ := h
    have hr1 : Room 1 (A.deeper (envOfC "_law_mask_of" (defScope sLMaskOf) s.heap.objs.size f cdv)) := hr.mono (by omega)
    have hr2 : Room 2 (A.deeper (envOfC "_law_mask_of" (defScope sLMaskOf) s.heap.objs.size f cdv)) := hr.mono (by omega)
    refine ⟨_, pss_cons (ps_par (i := 2) (j := 3) (by rfl) scMo.nd rfl rfl (by decide) rfl rfl (pa_cons (pe_def dP hr2 (by rfl) (pa_cons (pv 0) (pa_cons (pv 1) pa_nil))) (pa_cons pe_int pa_nil)) (by rfl))
      (pss_cons (ps_for PassesOwn.never rfl (pi_str (pv 2)) (pg_name (i := 4) scMo.nd rfl (by first | exact Or.inl rfl | exact Or.inr rfl))
      (pss_one (ps_set (i := 3) scMo.nd rfl (by first | exact Or.inl rfl | exact Or.inr rfl) (pe_op op_add (pe_op op_mul pe_int (pv 3)) (pe_ifExp (pt_cmpR op_eq (pv 4) pe_str (nomark _)) (pe_def dD hr1 (by rfl) (pa_cons (pv 0) (pa_cons pe_int pa_nil))) (pe_callTy call_int_str (by rfl) B.int bInt (pa_cons (pv 4) pa_nil)))))))
      (pss_one (ps_ret (pv 3)))), ?_⟩
    refine ⟨.ref S.s, rfl, .ref T, rfl, S, t, T, _, rfl, st, by omega, hw.h, by rw [List.length_map]; exact hw.l1, by rw [List.length_map]; have := hw.l6; omega, fun H1 v t1 s1 hv => ?_⟩
    obtain ⟨x, hx, rfl⟩ := List.mem_map.mp hv
    have okx := hw.ok x hx
    have n40 := hw.n40
    have hxl : x.cps.toList.length = n := by rw [Array.length_toList]; exact okx.1
    refine ⟨_, _, rfl, .str x, rfl, x, rfl, for_str (fun i σ H' => ∃ (m : Nat) (t' : Int) (z4 : Option V), σ = [some (.ref S.s), some (.ref T), some (.str x), some (.int (m : Int)), z4] ∧ Step S H t H' t' (1 + i) ∧ m < 2 ^ i ∧ fitL (bitsL i m) (x.cps.toList.take i) = true) ⟨0, t1, _, rfl, s1, by decide, rfl⟩ (fun i c σ H2 hc h => ?_) (fun σ H2 h => ?_)⟩
    · obtain ⟨m, t2, z4, rfl, s2, hm, hf⟩ := h
      have hi : i < n := by rw [← hxl]; exact (List.getElem?_eq_some_iff.mp hc).1
      have hi2 := s2.hi
      have hsg := okx.2 c (List.mem_of_getElem? hc)
      have htk : x.cps.toList.take (i + 1) = x.cps.toList.take i ++ [c] := by rw [List.take_add_one, hc]; rfl
      have hm40 : m < 2 ^ 40 := Nat.lt_of_lt_of_le hm (Nat.pow_le_pow_right (by decide) (by omega))
      have next : ∀ (b : Nat) (H3 : Hp) (t3 : Int), b < 2 → Step S H t H3 t3 (1 + (i + 1)) → (decide (c = 48 + b) || decide (c = 63)) = true → ∃ (m' : Nat) (t' : Int) (z4 : Option V), ([some (.ref S.s), some (.ref T), some (.str x), some (.int (2 * (m : Int) + (b : Int))), some (.str ⟨#[c]⟩)] : L2.St) = [some (.ref S.s), some (.ref T), some (.str x), some (.int (m' : Int)), z4] ∧ Step S H t H3 t' (1 + (i + 1)) ∧ m' < 2 ^ (i + 1) ∧ fitL (bitsL (i + 1) m') (x.cps.toList.take (i + 1)) = true := by
        intro b H3 t3 hb s3 hcb
        refine ⟨2 * m + b, t3, _, by rw [Int.natCast_add, Int.natCast_mul]; rfl, s3, by rw [Nat.pow_succ]; omega, ?_⟩
        show fitL (bitsL i ((2 * m + b) / 2) ++ [48 + (2 * m + b) % 2]) _ = true
        rw [show (2 * m + b) / 2 = m by omega, show (2 * m + b) % 2 = b by omega, htk, fitL_snoc (by rw [bitsL_len, List.length_take, hxl]; omega), hf, hcb]
        rfl
      refine ⟨.int (m : Int), rfl, 2, (m : Int), rfl, rfl, .inl ⟨by decide, by decide⟩, .str ⟨#[c]⟩, rfl, rfl, _, rfl, ite2 (fun hq => ?_) (fun hq => ?_)⟩
      · have hc63 : c = 63 := by
          have e : (V.str ⟨#[c]⟩ : V) = .str "?" := of_decide_eq_true hq
          have e2 := congrArg (fun s : Str => s.cps.toList) (V.str.inj e)
          have e3 : [c] = [63] := e2.trans (by decide +kernel)
          simpa using e3
        refine ⟨.ref S.s, rfl, S, t2, 2, rfl, s2.st, by decide, by decide, by omega, fun H3 r t3 s3 hr => ⟨_, _, rfl, rfl, ?_⟩⟩
        exact next r H3 t3 hr ((s2.trans s3).mono (by omega)) (by rw [hc63]; simp)
      · have hcn : c ≠ 63 := fun e => hq (decide_eq_true (by
          rw [e]
          exact congrArg V.str (str_of_list (by decide +kernel))))
        obtain ⟨b, hb, rfl⟩ : ∃ b, b < 2 ∧ c = 48 + b := by
          unfold sgn3 at hsg
          have h := of_decide_eq_true hsg
          simp only [List.mem_cons, List.not_mem_nil, or_false] at h
          rcases h with e | e | e
          · exact ⟨0, by decide, e⟩
          · exact ⟨1, by decide, e⟩
          · exact absurd e hcn
        have hint : PySem.intText? (⟨#[48 + b]⟩ : Str) = some (b : Int) := by
          match b, hb with
          | 0, _ => decide +kernel
          | 1, _ => decide +kernel
        refine ⟨.str ⟨#[48 + b]⟩, rfl, _, (b : Int), rfl, hint, (by decide : (1 : Nat) ≤ 640), _, _, rfl, rfl, ?_⟩
        exact next b H2 t2 hb (s2.mono (by omega)) (by simp)
    · obtain ⟨m, t2, z4, rfl, s2, hm, hf⟩ := h
      have hsz : x.cps.size = n := okx.1
      rw [hsz] at s2 hm hf
      rw [List.take_of_length_le (by omega)] at hf
      exact ⟨_, rfl, q H2 m t2 (s2.mono (by omega)) hm (List.any_eq_true.mpr ⟨x, hx, hf⟩)⟩
end
end XT
/-! arguments and lists, piece by piece -/
namespace XT
open PySem PySem.Spec PyProof.Rows L2
def AllV : List RV → Hp → List V → Prop
  | [], _, [] => True
  | R :: Rs, H, v :: vs => R H v ∧ AllV Rs H vs
  | _, _, _ => False
def StyA (Rs : List RV) : Prop := ∀ R ∈ Rs, Sty R
theorem allV_same : ∀ {Rs : List RV} {H H' : Hp} {vs : List V}, StyA Rs → Same H H' → AllV Rs H vs → AllV Rs H' vs
  | [], _, _, [], _, _, h => h
  | R :: Rs, _, _, v :: vs, hs, e, h => ⟨hs R List.mem_cons_self _ _ _ e h.1, allV_same (fun R' h' => hs R' (List.mem_cons_of_mem _ h')) e h.2⟩
theorem allV_len : ∀ {Rs : List RV} {H : Hp} {vs : List V}, AllV Rs H vs → vs.length = Rs.length
  | [], _, [], _ => rfl
  | R :: Rs, _, v :: vs, h => by rw [List.length_cons, List.length_cons, allV_len h.2]
theorem allV_at : ∀ {Rs : List RV} {H : Hp} {vs : List V} {j : Nat} {R : RV}, AllV Rs H vs → Rs[j]? = some R → ∃ v, vs[j]? = some v ∧ R H v
  | [], _, _, _, _, _, e => by simp at e
  | R :: Rs, _, v :: vs, 0, _, h, e => by cases e; exact ⟨v, rfl, h.1⟩
  | R :: Rs, _, v :: vs, j + 1, _, h, e => allV_at (j := j) h.2 e
theorem allV_of : ∀ {Rs : List RV} {H : Hp} {vs : List V}, vs.length = Rs.length → (∀ (j : Nat) (R : RV) (v : V), Rs[j]? = some R → vs[j]? = some v → R H v) → AllV Rs H vs
  | [], _, [], _, _ => trivial
  | R :: Rs, _, v :: vs, hl, h => ⟨h 0 R v rfl rfl, allV_of (Nat.succ.inj hl) fun j R' v' a b => h (j + 1) R' v' a b⟩
theorem allV_app : ∀ {Rs Ss : List RV} {H : Hp} {vs us : List V}, AllV Rs H vs → AllV Ss H us → AllV (Rs ++ Ss) H (vs ++ us)
  | [], _, _, [], _, _, h => h
  | R :: Rs, _, _, v :: vs, _, h, k => ⟨h.1, allV_app h.2 k⟩
/-- a list whose items are so -/
abbrev isLst (Rs : List RV) : RV := fun H z => ∃ L vs, z = .ref L ∧ H L = some (.lst vs) ∧ AllV Rs H vs
theorem sty_lst {Rs : List RV} (h : StyA Rs) : Sty (isLst Rs) := fun _ _ _ e ⟨L, vs, ez, hL, a⟩ => ⟨L, vs, ez, e _ _ hL, allV_same h e a⟩
def EvA (Rs : List RV) (t : TA) (σ : L2.St) (H : Hp) : Prop := ∀ H', Same H H' → ∀ Q : List V → Hp → Prop, (∀ H2 vs, Same H' H2 → AllV Rs H2 vs → Q vs H2) → t σ H' Q
section
variable {R : RV} {Rs Ss : List RV} {t : TE} {ta : TA} {σ : L2.St} {H : Hp}
theorem eva_nil : EvA [] tNil σ H := fun H1 s1 Q q => q _ _ (Same.refl _) trivial
theorem eva_cons (hs : Sty R) (a : Ev R t σ H) (b : EvA Rs ta σ H) : EvA (R :: Rs) (tCons t ta) σ H := fun H1 s1 Q q =>
  a H1 s1 _ fun H2 x s2 gx => b H2 (s1.trans s2) _ fun H3 vs s3 gv => q _ _ (s2.trans s3) ⟨hs _ _ _ s3 gx, gv⟩
theorem ev_lst (hs : StyA Rs) (hl : Rs.length ≤ 1000) (a : EvA Rs ta σ H) : Ev (isLst Rs) (tLst ta) σ H := fun H1 s1 Q q =>
  a H1 s1 _ fun H2 vs s2 gv => ⟨by rw [allV_len gv]; exact sz hl, fun L nL => q _ _ (s2.trans (same_new nL)) ⟨L, vs, rfl, upd_same, allV_same hs (same_new nL) gv⟩⟩
theorem of_cat (hs : StyA Rs) (hs' : StyA Ss) (hl : Rs.length + Ss.length ≤ 1000) : OpF (isLst Rs) (isLst Ss) rCat (isLst (Rs ++ Ss)) := fun H x y ⟨L, vs, ex, hL, a⟩ ⟨L', us, ey, hL', a'⟩ Q q =>
  ⟨L, L', vs, us, ex, ey, hL, hL', by rw [allV_len a, allV_len a']; exact sz hl, fun p np => q _ _ (same_new np) ⟨p, _, rfl, upd_same, allV_app (allV_same hs (same_new np) a) (allV_same hs' (same_new np) a')⟩⟩
theorem styA_nil : StyA [] := fun _ h => absurd h (by simp)
theorem styA_cons (a : Sty R) (b : StyA Rs) : StyA (R :: Rs) := fun R' h => by
  rcases List.mem_cons.mp h with e | e
  · rw [e]; exact a
  · exact b R' e
theorem styA_map {α : Type} {f : α → RV} (h : ∀ x, Sty (f x)) (l : List α) : StyA (l.map f) := fun R' hR => by
  obtain ⟨x, _, rfl⟩ := List.mem_map.mp hR
  exact h x
end
/-- .. and stays so when a list is written -/
def StyL (R : RV) : Prop := ∀ (H : Hp) (D : Addr) (xs ys : List V) (z : V), H D = some (.lst xs) → R H z → R (upd H D (.lst ys)) z
theorem styL_lot (n : Nat) (p : Nat → Bool) : StyL (isLot n p) := fun _ _ _ _ _ e h => lot_upd e h
theorem styL_v (v : V) : StyL (isV v) := fun _ _ _ _ _ _ h => h
/-- [te for x in xs], a list of any kind -/
theorem ev_lcL {K : PySem.W.Frag} {i : Nat} {Rs Ss : List RV} {t te : TE} {σ : L2.St} {H : Hp} (hl : Rs.length = Ss.length) (hN : Rs.length ≤ 1000) (hR : StyA Rs) (hS : StyA Ss) (hL : ∀ S ∈ Ss, StyL S) (a : Ev (isLst Rs) t σ H) (hw : ∀ z : V, wipe ((wipe σ [i]).set i (some z)) [i] = wipe σ [i])
    (b : ∀ (j : Nat) (R S : RV) (z : V) (H1 : Hp), Rs[j]? = some R → Ss[j]? = some S → R H1 z → Same H H1 → Ev S te ((wipe σ [i]).set i (some z)) H1) : Ev (isLst Ss) (tLc (iList K t) (gName i) tYes te [i]) σ H := fun H1 s1 Q q =>
  a H1 s1 _ fun H2 x s2 ⟨L, vs, ex, hLv, gv⟩ => by
    have hvl : vs.length = Rs.length := allV_len gv
    refine ⟨L, ex, ⟨_, SqL.of hLv⟩, fun D nD => lcg_list (G := fun j y H => ∀ S, Ss[j]? = some S → S H y) ⟨fun {j y H H'} h e S hs => hS S (List.mem_of_getElem? hs) _ _ _ e (h S hs), fun {j y H D xs ys} h e S hs => hL S (List.mem_of_getElem? hs) _ _ _ _ _ e (h S hs)⟩ nD (SqL.of hLv) (by omega) (fun j z Hc hz sc => ?_) (fun H3 hpv => ?_)⟩
    · intro R1 R2 h2
      have hj : j < Rs.length := by rw [← hvl]; exact (List.getElem?_eq_some_iff.mp hz).1
      have hj2 : j < Ss.length := by omega
      obtain ⟨z', hz', gz⟩ := allV_at gv (List.getElem?_eq_getElem hj)
      cases hz.symm.trans hz'
      refine ⟨hw z, ?_⟩
      exact iteT (B := R1 Hc) (b j _ _ z Hc (List.getElem?_eq_getElem hj) (List.getElem?_eq_getElem hj2) (hR _ (List.getElem_mem hj) _ _ _ sc gz) ((s1.trans s2).trans sc) Hc (Same.refl _) _ fun H4 o s4 go => h2 _ _ s4 fun S hs => by
        cases hs.symm.trans (List.getElem?_eq_getElem hj2)
        exact go)
    · obtain ⟨s3, ys, hD, hyl, hys⟩ := hpv
      exact q _ _ (s2.trans s3) ⟨D, ys, rfl, hD, allV_of (by rw [hyl, hvl, hl]) fun j R v hRj hv => hys j v hv R hRj⟩
/-- t[i] -/
theorem of_ixT {K : PySem.W.Frag} {ms : List Nat} {i m : Nat} (h : ms[i]? = some m) : OpF (isTup ms) (isV (.int (i : Int))) (rIxT K) (isV (.int (m : Int))) := fun H x y ⟨q', ex, hq⟩ ey Q q =>
  ⟨q', _, i, .int (m : Int), ex, ey, SqT.of hq, atI_nat (by unfold vm; rw [List.getElem?_map, h]; rfl), q _ _ (Same.refl _) rfl⟩
/-- tuple(xs) -/
abbrev isLsN (ms : List Nat) : RV := fun H z => LsN H z ms
theorem sty_lsN (ms : List Nat) : Sty (isLsN ms) := fun _ _ _ e h => h.same e
theorem ev_tupO {K : PySem.W.Frag} {ms : List Nat} {t : TE} {σ : L2.St} {H : Hp} (a : Ev (isLsN ms) t σ H) : Ev (isTup ms) (tCB (rTupO K) (tCons t tNil)) σ H := fun H1 s1 Q q =>
  a H1 s1 _ fun H2 x s2 ⟨y, e, hy⟩ => ⟨y, _, by rw [e], .inl ⟨SqL.of hy, fun T nT => q _ _ (s2.trans (same_new nT)) ⟨T, rfl, upd_same⟩⟩⟩
/-- [te for x in range(n)], ints -/
theorem ev_lcR {i N : Nat} {ms : List Nat} {ta te : TE} {σ : L2.St} {H : Hp} (hl : ms.length = N) (hN : N ≤ 1000) (hw : ∀ z : V, wipe ((wipe σ [i]).set i (some z)) [i] = wipe σ [i])
    (a : Ev (isV (.int (N : Int))) ta σ H) (b : ∀ (j m : Nat) (H1 : Hp), ms[j]? = some m → Same H H1 → Ev (isV (.int (m : Int))) te ((wipe σ [i]).set i (some (.int (j : Int)))) H1) : Ev (isLsN ms) (tLc (iRng1 (tCons ta tNil)) (gName i) tYes te [i]) σ H := fun H1 s1 Q q =>
  a H1 s1 _ fun H2 x s2 ex => by
    refine ⟨(N : Int), by rw [ex], by omega, by omega, fun D nD => lcg_range (n := N) (G := fun j y _ => ∀ m, ms[j]? = some m → y = .int (m : Int)) ⟨fun h _ => h, fun h _ => h⟩ nD hN (fun j Hc hj sc => ?_) (fun H3 hpv => ?_)⟩
    · intro R1 R2 h2
      have hm : ms[j]? = some ms[j] := List.getElem?_eq_getElem (by omega)
      rw [Int.zero_add]
      refine ⟨hw _, ?_⟩
      exact iteT (B := R1 Hc) (b j _ Hc hm ((s1.trans s2).trans sc) Hc (Same.refl _) _ fun H4 o s4 go => h2 _ _ s4 fun m e => by
        cases e.symm.trans hm
        exact go)
    · obtain ⟨s3, ys, hD, hyl, hys⟩ := hpv
      refine q _ _ (s2.trans s3) ⟨D, rfl, ?_⟩
      have e : ys = vm ms := List.ext_getElem? fun j => by
        rcases Nat.lt_or_ge j N with lt | ge
        · have h1 := List.getElem?_eq_getElem (l := ys) (i := j) (by omega)
          have h2 := List.getElem?_eq_getElem (l := ms) (i := j) (by omega)
          rw [h1, hys j _ h1 _ h2]
          unfold vm
          rw [List.getElem?_map, h2]
          rfl
        · rw [List.getElem?_eq_none (by omega), List.getElem?_eq_none (by rw [vm_len]; omega)]
      rw [hD, e]
/-- [x for x in range(n) if tt] -/
theorem ev_lcF {i N : Nat} (q : Nat → Bool) {ta : TE} {tt : TT} {σ : L2.St} {H : Hp} (hi : i < σ.length) (hN : N ≤ 1000) (hw : ∀ z : V, wipe ((wipe σ [i]).set i (some z)) [i] = wipe σ [i]) (he : ∀ z : V, ((wipe σ [i]).set i (some z))[i]? = some (some z))
    (a : Ev (isV (.int (N : Int))) ta σ H) (b : ∀ (j : Nat) (H1 : Hp), j < N → Same H H1 → EvT (q j) tt ((wipe σ [i]).set i (some (.int (j : Int)))) H1) : Ev (isLsN ((List.range N).filter q)) (tLc (iRng1 (tCons ta tNil)) (gName i) tt (tVar i) [i]) σ H := fun H1 s1 Q q' =>
  a H1 s1 _ fun H2 x s2 ex => by
    refine ⟨(N : Int), by rw [ex], by omega, by omega, fun D nD => lcp_range (n := N) (p := q) (f := fun m => .int (m : Int)) nD (small64 hN) (fun j Hc hj sc => ?_) (fun H3 s3 hD => ?_)⟩
    · intro R1 R2 h1 h2
      rw [Int.zero_add]
      refine ⟨hw _, b j Hc hj ((s1.trans s2).trans sc) Hc (Same.refl _) _ fun H4 s4 => ?_⟩
      cases hq : q j with
      | true => exact iteT ⟨_, he _, h2 hq _ s4⟩
      | false => exact iteF (h1 hq _ s4)
    · exact q' _ _ (s2.trans s3) ⟨D, rfl, hD⟩
theorem of_neN {K : PySem.W.Frag} {ms ks : List Nat} : OpF (isLsN ms) (isLsN ks) (rNeD K) (isB (!decide (ms = ks))) := fun H x y gx gy Q q => ne_lstN gx gy (q _ _ (Same.refl _) rfl)
theorem ev_lst0 {σ : L2.St} {H : Hp} : Ev (isLsN []) (tLst tNil) σ H := fun H1 s1 Q q => ⟨sz (show 0 ≤ 1000 by decide), fun T nT => q _ _ (same_new nT) ⟨T, rfl, by rw [upd_same]; rfl⟩⟩
theorem lots_dp {K : PySem.W.Frag} {n : Nat} : ∀ {ps : List (Nat → Bool)} {H : Hp} {vs : List V}, AllV (ps.map (isLot n)) H vs → DpAll K H vs (ps.map (dLot n))
  | [], _, [], _ => .nil
  | p :: ps, _, v :: vs, h => .cons h.1.dp (lots_dp h.2)
theorem lots_eqv {n : Nat} : ∀ {ps qs : List (Nat → Bool)}, ps.length = qs.length → (∀ (j : Nat) (p q : Nat → Bool), ps[j]? = some p → qs[j]? = some q → ∀ m, m < 2 ^ n → p m = q m) → PyData.eqvAll (ps.map (dLot n)) (qs.map (dLot n)) = true
  | [], [], _, _ => rfl
  | p :: ps, q :: qs, hl, h => by
    show (PyData.eqv (dLot n p) (dLot n q) && PyData.eqvAll (ps.map (dLot n)) (qs.map (dLot n))) = true
    rw [eqv_lot (h 0 p q rfl rfl), lots_eqv (Nat.succ.inj hl) fun j p q a b => h (j + 1) p q a b]
    rfl
theorem lots_shaped {n : Nat} (hn : n ≤ 6) : ∀ {ps : List (Nat → Bool)}, ps.length ≤ 64 → SeqAt.shaped (.list (ps.map (dLot n))) = true := by
  intro ps _
  have h : ∀ ps : List (Nat → Bool), ShwAll (ps.map (dLot n)) (1002 * ps.length) 2 := fun ps => by
    induction ps with
    | nil => exact (ShwAll.nil (k := 2)).mono (Nat.zero_le _) (Nat.le_refl _)
    | cons p ps ih => exact (ShwAll.cons (shw_lot hn p) ih).mono (by rw [List.length_cons]; omega) (Nat.le_refl _)
  exact (h ps).list.shaped (show 2 + 1 ≤ 64 by decide)
/-- two lists of lots -/
theorem of_neLs {K : PySem.W.Frag} {n : Nat} {ps qs : List (Nat → Bool)} (hn : n ≤ 6) (h64 : ps.length ≤ 64) (hl : ps.length = qs.length) (h : ∀ (j : Nat) (p q : Nat → Bool), ps[j]? = some p → qs[j]? = some q → ∀ m, m < 2 ^ n → p m = q m) : OpF (isLst (ps.map (isLot n))) (isLst (qs.map (isLot n))) (rNeD K) (isB false) := fun H x y ⟨L, vs, ex, hL, a⟩ ⟨L', us, ey, hL', a'⟩ Q q => by
  subst ex ey
  refine ⟨_, _, .lst (SqL.of hL) (lots_dp a), .lst (SqL.of hL') (lots_dp a'), lots_shaped hn h64, lots_shaped hn (by omega), q _ _ (Same.refl _) (congrArg V.bl ?_)⟩
  show (!(PyData.eqvAll (ps.map (dLot n)) (qs.map (dLot n)))) = false
  rw [lots_eqv hl h]
  rfl
end XT
/-! expressions whose value is known as data -/
namespace XT
open PySem PySem.Spec PyProof.Rows L2
abbrev isD (K : PySem.W.Frag) (d : PyData) : RV := fun H z => Dz K H z d
theorem sty_d (K : PySem.W.Frag) (d : PyData) : Sty (isD K d) := fun _ _ _ e h => h.same e
section
variable {K : PySem.W.Frag} {R : RV} {t te : TE} {ta : TA} {σ : L2.St} {H : Hp} {d : PyData} {ds : List PyData}
theorem ev_varD {i : Nat} {v : V} (e : σ[i]? = some (some v)) (h : Dz K H v d) : Ev (isD K d) (tVar i) σ H := ev_var (sty_d K d) e h
theorem ev_i {k : Int} (h : Ev (isV (.int k)) t σ H) : Ev (isD K (.int k)) t σ H := h.mono fun H z e => by subst e; exact .int k
theorem ev_b {b : Bool} (h : Ev (isB b) t σ H) : Ev (isD K (.bool b)) t σ H := h.mono fun H z e => by subst e; exact .bl b
theorem ev_s {x : Str} (h : Ev (isV (.str x)) t σ H) : Ev (isD K (.str x)) t σ H := h.mono fun H z e => by subst e; exact .str x
theorem ev_n (h : Ev (isV .non) t σ H) : Ev (isD K .none) t σ H := h.mono fun H z e => by subst e; exact .non
theorem dz_vm {H : Hp} : ∀ ms : List Nat, DzAll K H (vm ms) (ms.map fun (m : Nat) => .int (m : Int))
  | [] => .nil
  | m :: ms => .cons (.int m) (dz_vm ms)
theorem lot_dz {H : Hp} {v : V} {n : Nat} {p : Nat → Bool} (h : LotAt H v n p) : Dz K H v (dLot n p) := by
  obtain ⟨a, b, rfl, h1, h2⟩ := h
  exact .tup (SqT.of h1) (.cons (.int _) (.cons (.tup (SqT.of h2) (dz_vm _)) .nil))
theorem ev_lotD {n : Nat} {p : Nat → Bool} (h : Ev (isLot n p) t σ H) : Ev (isD K (dLot n p)) t σ H := h.mono fun H z g => lot_dz g
def dTup (ms : List Nat) : PyData := .tuple (ms.map fun (m : Nat) => .int (m : Int))
theorem tup_dz {H : Hp} {v : V} {ms : List Nat} (h : TupAt H v ms) : Dz K H v (dTup ms) := by
  obtain ⟨q, rfl, h⟩ := h
  exact .tup (SqT.of h) (dz_vm _)
theorem ev_tupD {ms : List Nat} (h : Ev (isTup ms) t σ H) : Ev (isD K (dTup ms)) t σ H := h.mono fun H z g => tup_dz g
theorem allV_dz : ∀ {ds : List PyData} {H : Hp} {vs : List V}, AllV (ds.map (isD K)) H vs → DzAll K H vs ds
  | [], _, [], _ => .nil
  | d :: ds, _, v :: vs, h => .cons h.1 (allV_dz h.2)
theorem styA_d : StyA (ds.map (isD K)) := styA_map (fun d => sty_d K d) ds
theorem eva_consD (a : Ev (isD K d) te σ H) (b : EvA (ds.map (isD K)) ta σ H) : EvA ((d :: ds).map (isD K)) (tCons te ta) σ H := eva_cons (sty_d K d) a b
theorem ev_lstD (hl : ds.length ≤ 1000) (a : EvA (ds.map (isD K)) ta σ H) : Ev (isD K (.list ds)) (tLstB ta) σ H := fun H1 s1 Q q =>
  a H1 s1 _ fun H2 vs s2 gv => by
    have g := allV_dz gv
    have hz := g.len
    exact ⟨sz (by omega), fun L nL bL => q _ _ (s2.trans (same_new nL)) (.lst (SqL.of upd_same) bL (g.same (same_new nL)))⟩
theorem ev_tuD (hl : ds.length ≤ 1000) (a : EvA (ds.map (isD K)) ta σ H) : Ev (isD K (.tuple ds)) (tTup ta) σ H := fun H1 s1 Q q =>
  a H1 s1 _ fun H2 vs s2 gv => by
    have g := allV_dz gv
    have hz := g.len
    exact ⟨sz (by omega), fun L nL => q _ _ (s2.trans (same_new nL)) (.tup (SqT.of upd_same) (g.same (same_new nL)))⟩
/-- what repr can tell -/
structure ShD (d : PyData) : Prop where
  dp : d.depth ≤ 64
  sh : d.showable = true
  ln : d.shown.length ≤ sizeLine
theorem Gd.shD {M n k : Nat} {d : PyData} (h : Gd M n k d) (hM : M < 10 ^ 40) (hn : n ≤ 10000000) (hk : k ≤ 64) : ShD d := by
  have s := shown_le hM d h.f
  have z := h.z
  have p := h.p
  exact ⟨by omega, s.1, szl (m := n) (by omega) (by omega)⟩
theorem ev_reprD (s : ShD d) (a : Ev (isD K d) t σ H) : Ev (isV (.str d.shown)) (tCB (rReprA K) (tCons t tNil)) σ H := fun H1 s1 Q q =>
  a H1 s1 _ fun H2 x s2 gx => ⟨x, d, rfl, gx, s.dp, s.sh, s.ln, q _ _ s2 rfl⟩
theorem of_neS {x y : Str} : OpF (isV (.str x)) (isV (.str y)) rNe (isB (!decide (x = y))) := fun H u v ex ey Q q => by
  subst ex ey
  refine ⟨rfl, q _ _ (Same.refl _) (congrArg V.bl (congrArg (!·) ?_))⟩
  rw [Bool.eq_iff_iff, decide_eq_true_iff, decide_eq_true_iff]
  exact ⟨fun e => V.str.inj e, fun e => by rw [e]⟩
theorem of_eqS {x y : Str} : OpF (isV (.str x)) (isV (.str y)) rEq (isB (decide (x = y))) := fun H u v ex ey Q q => by
  subst ex ey
  refine ⟨rfl, q _ _ (Same.refl _) (congrArg V.bl ?_)⟩
  rw [Bool.eq_iff_iff, decide_eq_true_iff, decide_eq_true_iff]
  exact ⟨fun e => V.str.inj e, fun e => by rw [e]⟩
/-- repr(a) != repr(b), of the same data -/
theorem evt_reprs {t' : TE} {e : PyData} (s : ShD d) (he : d = e) (a : Ev (isD K d) t σ H) (b : Ev (isD K e) t' σ H) : EvT false (tTest (tOp rNe (tCB (rReprA K) (tCons t tNil)) (tCB (rReprA K) (tCons t' tNil)))) σ H := by
  subst he
  refine evt_test ((ev_op (sty_v _) (ev_reprD s a) (ev_reprD s b) of_neS).mono fun H z e => ?_)
  rw [e, decide_eq_true rfl]
  rfl
theorem evt_repr1 {i : Nat} {x : Str} (s : ShD d) (he : x = d.shown) (h : σ[i]? = some (some (.str x))) (a : Ev (isD K d) t σ H) : EvT false (tTest (tOp rNe (tCB (rReprA K) (tCons t tNil)) (tVar i))) σ H := by
  subst he
  refine evt_test ((ev_op (sty_v _) (ev_reprD s a) (ev_var (sty_v _) h rfl) of_neS).mono fun H z e => ?_)
  rw [e, decide_eq_true rfl]
  rfl
end
/-- data whose parts are small -/
theorem gd_lot {M n : Nat} (hM : 64 ≤ M) (hn : n ≤ 6) (p : Nat → Bool) : Gd M 5000 2 (dLot n p) := by
  have hl := lot_len hn p
  have h6 := pow6 hn
  have g : ∀ ms : List Nat, (∀ m ∈ ms, m ≤ M) → GdAll M (62 * ms.length) 0 (ms.map fun (m : Nat) => PyData.int (m : Int)) := fun ms => by
    induction ms with
    | nil => intro _; exact GdAll.nil
    | cons m ms ih => intro h; exact (GdAll.cons (gd_int (by have := h m List.mem_cons_self; omega)) (ih fun x hx => h x (List.mem_cons_of_mem _ hx))).mono (Nat.le_refl _) (by rw [List.length_cons]; omega) (Nat.le_refl _)
  have g1 := (g (lotOf n p) fun m hm => by have := (mem_lot.mp hm).1; omega).tuple
  have g2 := (GdAll.cons ((gd_int (M := M) (i := (n : Int)) (by omega)).mono (Nat.le_refl _) (Nat.le_refl _) (Nat.zero_le 1)) (GdAll.cons g1 GdAll.nil)).tuple
  exact g2.mono (Nat.le_refl _) (by omega) (Nat.le_refl _)
end XT
/-! wide lots as data; statements by Ev -/
namespace XT
open PySem PySem.Spec PyProof.Rows L2
def tS (ss : List Str) : PyData := .tuple (ss.map PyData.str)
theorem gs {x : Str} (h : TxOk x) (l : x.length ≤ 41) : Gd (10 ^ 39 + 2) 412 0 (.str x) := gd_str h l
theorem gStrs : ∀ ss : List Str, (∀ x ∈ ss, TxOk x ∧ x.length ≤ 41) → GdAll (10 ^ 39 + 2) (414 * ss.length) 0 (ss.map PyData.str)
  | [], _ => GdAll.nil
  | x :: ss, h => (GdAll.cons (gs (h x List.mem_cons_self).1 (h x List.mem_cons_self).2) (gStrs ss fun y hy => h y (List.mem_cons_of_mem x hy))).mono (Nat.le_refl _) (by rw [List.length_cons]; omega) (Nat.le_refl _)
theorem dz_strs {K : PySem.W.Frag} {H : Hp} : ∀ ss : List Str, DzAll K H (ss.map V.str) (ss.map PyData.str)
  | [] => .nil
  | x :: ss => .cons (.str x) (dz_strs ss)
theorem WideT.dz {K : PySem.W.Frag} {H : Hp} {T : Addr} {ws : List Str} {n : Nat} (h : WideT H T ws n) : Dz K H (.ref T) (tS ws) := .tup (SqT.of h.h) (dz_strs ws)
theorem okW_tx {n : Nat} {x : Str} (h : OkW n x) (hn : n ≤ 41) : TxOk x ∧ x.length ≤ 41 := ⟨fun c hc => by
    have h := h.2 c hc
    unfold sgn3 at h
    have h := of_decide_eq_true h
    simp only [List.mem_cons, List.not_mem_nil, or_false] at h
    rcases h with rfl | rfl | rfl <;> decide, by have := h.1; omega⟩
theorem WideT.gd {H : Hp} {T : Addr} {ws : List Str} {n : Nat} (h : WideT H T ws n) : Gd (10 ^ 39 + 2) 2500 1 (tS ws) := (gStrs ws fun x hx => okW_tx (h.ok x hx) (by have := h.n40; omega)).tuple.mono (Nat.le_refl _) (by have := h.l6; omega) (Nat.le_refl _)
section
variable {R R' : RV} {ta tb : TE} {σ : L2.St} {H : Hp} {u : TS} {D : Ends}
theorem par_ev {i j : Nat} (hR : Sty R) (a : Ev R ta σ H) (b : Ev R' tb σ H) (q : ∀ H2 x y, Same H H2 → R H2 x → R' H2 y → u D ((σ.set i (some x)).set j (some y)) H2) : tSeq (tPar i j (tCons ta (tCons tb tNil))) u D σ H :=
  a H (Same.refl _) _ fun H2 x s2 gx => b H2 s2 _ fun H3 y s3 gy => ⟨x, y, rfl, q H3 x y (s2.trans s3) (hR _ _ _ s3 gx) gy⟩
theorem ev_and2 {b c : Bool} (h : Ev (isB b) ta σ H) (k : b = true → Ev (isB c) tb σ H) : Ev (isB (b && c)) (tAndV ta tb) σ H := fun H1 s1 Q q => h H1 s1 _ fun H2 z s2 e => by
  refine ⟨b, e, ?_⟩
  cases b with
  | true => exact iteT (k rfl H2 (s1.trans s2) _ fun H3 z3 s3 e3 => q _ _ (s2.trans s3) e3)
  | false => exact iteF (q _ _ s2 rfl)
end
end XT
/-! expressions that draw, and that change what they own -/
namespace XT
open PySem PySem.Spec PyProof.Rows L2
abbrev Ow := Addr → Prop
abbrev HpP := Hp → Prop
/-- all but the owned cells stays -/
def KeepX (X : Ow) (H H' : Hp) : Prop := ∀ b o, ¬ X b → H b = some o → H' b = some o
theorem KeepX.refl (X : Ow) (H : Hp) : KeepX X H H := fun _ _ _ h => h
theorem KeepX.trans {X : Ow} {H H1 H2 : Hp} (a : KeepX X H H1) (b : KeepX X H1 H2) : KeepX X H H2 := fun c o n h => b c o n (a c o n h)
theorem KeepX.of {X : Ow} {H H' : Hp} (a : Same H H') : KeepX X H H' := fun c o _ h => a c o h
theorem KeepX.mono {X Y : Ow} {H H' : Hp} (a : KeepX X H H') (h : ∀ b, X b → Y b) : KeepX Y H H' := fun c o n e => a c o (fun z => n (h c z)) e
/-- what is owned and what is a tuple stays -/
def Sim (X : Ow) (H H' : Hp) : Prop := ∀ b o, H b = some o → (X b ∨ ∃ xs, o = .tup xs) → H' b = some o
theorem Sim.of {X : Ow} {H H' : Hp} (a : Same H H') : Sim X H H' := fun b o e _ => a b o e
theorem Sim.put {X : Ow} {H : Hp} {D : Addr} {xs : List V} {o : HO} (h : H D = some (.lst xs)) (n : ¬ X D) : Sim X H (upd H D o) := fun b o' e c => by
  have : b ≠ D := fun z => by
    subst z
    rcases c with c | ⟨ys, rfl⟩
    · exact n c
    · rw [h] at e; cases e
  rw [upd_ne this]
  exact e
/-- true by what is owned and by tuples alone -/
def StyW (X : Ow) (W : HpP) : Prop := ∀ H H', Sim X H H' → W H → W H'
/-- what changes: a list, an instance -/
def MutO (o : HO) : Prop := (∃ xs, o = .lst xs) ∨ ∃ C dx fs, o = .ins C dx fs
def noW : HpP := fun _ => True
def noX : Ow := fun _ => False
theorem sty_no (X : Ow) : StyW X noW := fun _ _ _ _ => trivial
theorem StyW.and {X : Ow} {W V : HpP} (a : StyW X W) (b : StyW X V) : StyW X (fun H => W H ∧ V H) := fun H H' s h => ⟨a H H' s h.1, b H H' s h.2⟩
def XS (S : Sm) (X : Ow) : Ow := fun b => b = S.s ∨ b = S.p ∨ b = S.q ∨ X b
/-- a stream that has been drawn from so often at most, and what else is owned -/
structure Wld (S : Sm) (X : Ow) (W : HpP) (B : Int) (H : Hp) : Prop where
  t : ∃ t, Strm S H t ∧ t ≤ B
  w : W H
  o : ∀ b, X b → b ≠ S.s ∧ b ≠ S.p ∧ b ≠ S.q ∧ ∃ o, H b = some o ∧ MutO o
section
variable {S : Sm} {X : Ow} {W W1 W2 W3 : HpP} {B B1 B2 B3 : Int} {H H' : Hp}
theorem Wld.own (h : Wld S X W B H) {b : Addr} (c : XS S X b) : ∃ o, H b = some o ∧ MutO o := by
  obtain ⟨⟨t, ⟨big, st⟩, _⟩, _, o⟩ := h
  rcases c with rfl | rfl | rfl | c
  · exact ⟨_, st.hs, .inl ⟨_, rfl⟩⟩
  · exact ⟨_, st.hp, .inl ⟨_, rfl⟩⟩
  · exact ⟨_, st.hq, .inl ⟨_, rfl⟩⟩
  · exact (o b c).2.2.2
theorem Wld.new (h : Wld S X W B H) {b : Addr} (e : H b = none) : ¬ XS S X b := fun c => by
  obtain ⟨o, e2, _⟩ := h.own c
  rw [e] at e2; cases e2
/-- what never changes is not owned -/
theorem Wld.nown (h : Wld S X W B H) {b : Addr} {o : HO} (e : H b = some o) (n : ¬ MutO o) : ¬ XS S X b := fun c => by
  obtain ⟨o', e2, m⟩ := h.own c
  rw [e] at e2; cases e2; exact n m
theorem Wld.fix (h : Wld S X W B H) (k : KeepX (XS S X) H H') {b : Addr} {o : HO} (e : H b = some o) (n : ¬ MutO o) : H' b = some o := k b _ (h.nown e n) e
theorem nm_tup {xs : List V} : ¬ MutO (.tup xs) := fun h => by rcases h with ⟨_, e⟩ | ⟨_, _, _, e⟩ <;> cases e
theorem Wld.ntup (h : Wld S X W B H) {b : Addr} {xs : List V} (e : H b = some (.tup xs)) : ¬ XS S X b := h.nown e nm_tup
theorem Wld.tup (h : Wld S X W B H) (k : KeepX (XS S X) H H') {b : Addr} {xs : List V} (e : H b = some (.tup xs)) : H' b = some (.tup xs) := k b _ (h.ntup e) e
theorem Wld.mono (h : Wld S X W B H) (b : B ≤ B1) : Wld S X W B1 H := ⟨let ⟨t, st, l⟩ := h.t; ⟨t, st, Int.le_trans l b⟩, h.w, h.o⟩
theorem Wld.imp (h : Wld S X W B H) (i : W H → W1 H) : Wld S X W1 B H := ⟨h.t, i h.w, h.o⟩
theorem Wld.sim (sw : StyW X W) (h : Wld S X W B H) (s : Sim (XS S X) H H') : Wld S X W B H' := by
  obtain ⟨⟨t, ⟨big, st⟩, l⟩, w, o⟩ := h
  refine ⟨⟨t, ⟨big, s _ _ st.hs (.inl (.inl rfl)), s _ _ st.hp (.inl (.inr (.inl rfl))), s _ _ st.hq (.inl (.inr (.inr (.inl rfl)))), st.sp, st.sq, st.pq, st.ne, st.t0⟩, l⟩, sw H H' (fun b o' e c => s b o' e (c.imp (fun z => .inr (.inr (.inr z))) id)) w, fun b c => ?_⟩
  obtain ⟨n1, n2, n3, o', e, nt⟩ := o b c
  exact ⟨n1, n2, n3, o', s _ _ e (.inl (.inr (.inr (.inr c)))), nt⟩
theorem Wld.same (sw : StyW X W) (h : Wld S X W B H) (s : Same H H') : Wld S X W B H' := h.sim sw (Sim.of s)
theorem Wld.step (sw : StyW X W) (h : Wld S X W B H) {t t' : Int} {k : Nat} (st : Strm S H t) (l : t ≤ B) (s : Step S H t H' t' k) : Wld S X W (B + k) H' ∧ KeepX (XS S X) H H' := by
  refine ⟨⟨⟨t', s.st, by have := s.hi; omega⟩, sw H H' (fun b o e c => ?_) h.w, fun b c => ?_⟩, fun b o n e => s.keep b o (fun z => n (.inl z)) (fun z => n (.inr (.inl z))) e⟩
  · rcases c with c | ⟨xs, rfl⟩
    · obtain ⟨n1, n2, _⟩ := h.o b c
      exact s.keep b o n1 n2 e
    · exact s.keep.tup st e
  · obtain ⟨n1, n2, n3, o', e, nt⟩ := h.o b c
    exact ⟨n1, n2, n3, o', s.keep b o' n1 n2 e, nt⟩
/-- what is true of a value stays true while only owned cells change -/
def StyK (S : Sm) (X : Ow) (R : RV) : Prop := ∀ (W : HpP) (B : Int) (H H' : Hp) (z : V), Wld S X W B H → KeepX (XS S X) H H' → R H z → R H' z
theorem sk_v (v : V) : StyK S X (isV v) := fun _ _ _ _ _ _ _ h => h
theorem LotAt.kx {v : V} {n : Nat} {p : Nat → Bool} (h : LotAt H v n p) (w : Wld S X W B H) (k : KeepX (XS S X) H H') : LotAt H' v n p := by
  obtain ⟨a, b, e, h1, h2⟩ := h
  exact ⟨a, b, e, w.tup k h1, w.tup k h2⟩
theorem TupAt.kx {v : V} {ms : List Nat} (h : TupAt H v ms) (w : Wld S X W B H) (k : KeepX (XS S X) H H') : TupAt H' v ms := by
  obtain ⟨a, e, h1⟩ := h
  exact ⟨a, e, w.tup k h1⟩
theorem WideT.kx {T : Addr} {ws : List Str} {n : Nat} (h : WideT H T ws n) (w : Wld S X W B H) (k : KeepX (XS S X) H H') : WideT H' T ws n := ⟨w.tup k h.h, h.l1, h.l6, h.n1, h.n40, h.ok⟩
theorem sk_lot (n : Nat) (p : Nat → Bool) : StyK S X (isLot n p) := fun _ _ _ _ _ w k h => h.kx w k
theorem sk_tup (ms : List Nat) : StyK S X (isTup ms) := fun _ _ _ _ _ w k h => h.kx w k
theorem sk_ex {α : Type} {P : α → RV} (h : ∀ a, StyK S X (P a)) : StyK S X (fun H z => ∃ a, P a H z) := fun W B H H' z w k ⟨a, q⟩ => ⟨a, h a W B H H' z w k q⟩
theorem sk_pure (p : V → Prop) : StyK S X (fun _ z => p z) := fun _ _ _ _ _ _ _ h => h
/-- from H on, in the world W B, the expression gives a value of which R is true, in the world W' B' -/
def EvD (S : Sm) (X : Ow) (W : HpP) (B : Int) (W' : HpP) (B' : Int) (R : RV) (t : TE) (σ : L2.St) (H : Hp) : Prop :=
  ∀ H', KeepX (XS S X) H H' → Wld S X W B H' → ∀ Q : VK, (∀ H2 z, KeepX (XS S X) H' H2 → Wld S X W' B' H2 → R H2 z → Q z H2) → t σ H' Q
def EvDT (S : Sm) (X : Ow) (W : HpP) (B : Int) (W' : HpP) (B' : Int) (b : Bool) (t : TT) (σ : L2.St) (H : Hp) : Prop :=
  ∀ H', KeepX (XS S X) H H' → Wld S X W B H' → ∀ Q : Bool → Hp → Prop, (∀ H2, KeepX (XS S X) H' H2 → Wld S X W' B' H2 → Q b H2) → t σ H' Q
def EvDA (S : Sm) (X : Ow) (W : HpP) (B : Int) (W' : HpP) (B' : Int) (Rs : List RV) (t : TA) (σ : L2.St) (H : Hp) : Prop :=
  ∀ H', KeepX (XS S X) H H' → Wld S X W B H' → ∀ Q : List V → Hp → Prop, (∀ H2 vs, KeepX (XS S X) H' H2 → Wld S X W' B' H2 → AllV Rs H2 vs → Q vs H2) → t σ H' Q
variable {R Ra Rb Rc : RV} {Rs : List RV} {t ta tb : TE} {ts : TA} {σ : L2.St}
theorem EvD.kx (h : EvD S X W B W1 B1 R t σ H) (k : KeepX (XS S X) H H') : EvD S X W B W1 B1 R t σ H' := fun H2 s w Q q => h H2 (k.trans s) w Q q
theorem EvD.mono {R' : RV} (h : EvD S X W B W1 B1 R t σ H) (i : ∀ H z, R H z → R' H z) : EvD S X W B W1 B1 R' t σ H := fun H2 s w Q q => h H2 s w Q fun H3 z s3 w3 g => q H3 z s3 w3 (i _ _ g)
theorem EvD.mono2 {R' : RV} (h : EvD S X W B W1 B1 R t σ H) (i : ∀ H z, Wld S X W1 B1 H → R H z → R' H z) : EvD S X W B W1 B1 R' t σ H := fun H2 s w Q q => h H2 s w Q fun H3 z s3 w3 g => q H3 z s3 w3 (i _ _ w3 g)
theorem EvD.late (h : EvD S X W B W1 B1 R t σ H) (b : B1 ≤ B2) : EvD S X W B W1 B2 R t σ H := fun H2 s w Q q => h H2 s w Q fun H3 z s3 w3 g => q H3 z s3 (w3.mono b) g
theorem ed_pure (sw : StyW X W) (f : ∀ H', KeepX (XS S X) H H' → Wld S X W B H' → Ev R t σ H') : EvD S X W B W B R t σ H := fun H1 s w Q q => f H1 s w H1 (Same.refl _) _ fun H2 z s2 g => q H2 z (KeepX.of s2) (w.same sw s2) g
theorem ed_var {i : Nat} {z : V} (hs : StyK S X R) (w0 : Wld S X W3 B3 H) (e : σ[i]? = some (some z)) (h : R H z) : EvD S X W B W B R (tVar i) σ H := fun H2 s w Q q => ⟨z, e, q _ _ (KeepX.refl _ _) w (hs _ _ _ _ _ w0 s h)⟩
theorem ed_varV {i : Nat} {v : V} (e : σ[i]? = some (some v)) : EvD S X W B W B (isV v) (tVar i) σ H := fun H2 s w Q q => ⟨v, e, q _ _ (KeepX.refl _ _) w rfl⟩
theorem ed_c (v : V) : EvD S X W B W B (isV v) (tC v) σ H := fun H2 s w Q q => q _ _ (KeepX.refl _ _) w rfl
theorem ed_op {r : R2} (sw : StyW X W2) (ha : StyK S X Ra) (a : EvD S X W B W1 B1 Ra ta σ H) (b : EvD S X W1 B1 W2 B2 Rb tb σ H) (f : OpF Ra Rb r Rc) : EvD S X W B W2 B2 Rc (tOp r ta tb) σ H := fun H1 s1 w1 Q q =>
  a H1 s1 w1 _ fun H2 x s2 w2 gx => b H2 (s1.trans s2) w2 _ fun H3 y s3 w3 gy => f H3 x y (ha _ _ _ _ _ w2 s3 gx) gy _ fun H4 z s4 gz => q H4 z ((s2.trans s3).trans (KeepX.of s4)) (w3.same sw s4) gz
theorem ed_opW {r : R2} (sw : StyW X W2) (ha : StyK S X Ra) (a : EvD S X W B W1 B1 Ra ta σ H) (b : EvD S X W1 B1 W2 B2 Rb tb σ H) (f : ∀ H x y, Wld S X W2 B2 H → Ra H x → Rb H y → ∀ Q : VK, (∀ H2 z, Same H H2 → Rc H2 z → Q z H2) → r x y H Q) : EvD S X W B W2 B2 Rc (tOp r ta tb) σ H := fun H1 s1 w1 Q q =>
  a H1 s1 w1 _ fun H2 x s2 w2 gx => b H2 (s1.trans s2) w2 _ fun H3 y s3 w3 gy => f H3 x y w3 (ha _ _ _ _ _ w2 s3 gx) gy _ fun H4 z s4 gz => q H4 z ((s2.trans s3).trans (KeepX.of s4)) (w3.same sw s4) gz
theorem ed_test {b : Bool} (h : EvD S X W B W1 B1 (isB b) t σ H) : EvDT S X W B W1 B1 b (tTest t) σ H := fun H1 s1 w1 Q q => h H1 s1 w1 _ fun H2 z s2 w2 e => ⟨b, e, q _ s2 w2⟩
theorem ed_b {b : Bool} (h : EvD S X W B W1 B1 (isB b) t σ H) : EvDT S X W B W1 B1 b (tB t) σ H := fun H1 s1 w1 Q q => h H1 s1 w1 _ fun H2 z s2 w2 e => ⟨b, e, q _ s2 w2⟩
theorem ed_not {b : Bool} {t : TT} (h : EvDT S X W B W1 B1 b t σ H) : EvDT S X W B W1 B1 (!b) (tNot t) σ H := fun H1 s1 w1 Q q => h H1 s1 w1 _ fun H2 s2 w2 => q _ s2 w2
theorem ed_tpure {b : Bool} {t : TT} (sw : StyW X W) (f : ∀ H', KeepX (XS S X) H H' → Wld S X W B H' → EvT b t σ H') : EvDT S X W B W B b t σ H := fun H1 s w Q q => f H1 s w H1 (Same.refl _) _ fun H2 s2 => q H2 (KeepX.of s2) (w.same sw s2)
theorem ed_or {b c : Bool} {t u : TT} (h : EvDT S X W B W1 B1 b t σ H) (k : b = false → EvDT S X W1 B1 W2 B2 c u σ H) (k2 : b = true → ∀ H, Wld S X W1 B1 H → Wld S X W2 B2 H) : EvDT S X W B W2 B2 (b || c) (tOr t u) σ H := fun H1 s1 w1 Q q => h H1 s1 w1 _ fun H2 s2 w2 => by
  cases b with
  | true => exact iteT (q _ s2 (k2 rfl _ w2))
  | false => exact iteF (k rfl H2 (s1.trans s2) w2 _ fun H3 s3 w3 => q _ (s2.trans s3) w3)
theorem ed_and {b c : Bool} {t u : TT} (h : EvDT S X W B W1 B1 b t σ H) (k : b = true → EvDT S X W1 B1 W2 B2 c u σ H) (k2 : b = false → ∀ H, Wld S X W1 B1 H → Wld S X W2 B2 H) : EvDT S X W B W2 B2 (b && c) (tAnd t u) σ H := fun H1 s1 w1 Q q => h H1 s1 w1 _ fun H2 s2 w2 => by
  cases b with
  | true => exact iteT (k rfl H2 (s1.trans s2) w2 _ fun H3 s3 w3 => q _ (s2.trans s3) w3)
  | false => exact iteF (q _ s2 (k2 rfl _ w2))
theorem ed_ifE {b : Bool} {c : TT} (h : EvDT S X W B W1 B1 b c σ H) (k1 : b = true → EvD S X W1 B1 W2 B2 R ta σ H) (k2 : b = false → EvD S X W1 B1 W2 B2 R tb σ H) : EvD S X W B W2 B2 R (tIf c ta tb) σ H := fun H1 s1 w1 Q q => h H1 s1 w1 _ fun H2 s2 w2 => by
  cases b with
  | true => exact iteT (k1 rfl H2 (s1.trans s2) w2 _ fun H3 z s3 w3 g => q _ _ (s2.trans s3) w3 g)
  | false => exact iteF (k2 rfl H2 (s1.trans s2) w2 _ fun H3 z s3 w3 g => q _ _ (s2.trans s3) w3 g)
theorem eda_nil : EvDA S X W B W B [] tNil σ H := fun H1 s1 w Q q => q _ _ (KeepX.refl _ _) w trivial
theorem eda_cons (hs : StyK S X R) (a : EvD S X W B W1 B1 R t σ H) (b : EvDA S X W1 B1 W2 B2 Rs ts σ H) : EvDA S X W B W2 B2 (R :: Rs) (tCons t ts) σ H := fun H1 s1 w1 Q q =>
  a H1 s1 w1 _ fun H2 x s2 w2 gx => b H2 (s1.trans s2) w2 _ fun H3 vs s3 w3 gv => q _ _ (s2.trans s3) w3 ⟨hs _ _ _ _ _ w2 s3 gx, gv⟩
/-! statements -/
theorem asg_ed {g : TG} {u : TS} {D : Ends} (h : EvD S X W B W1 B1 R t σ H) (w : Wld S X W B H) (q : ∀ H2 z, KeepX (XS S X) H H2 → Wld S X W1 B1 H2 → R H2 z → g z σ H2 (u D)) : tSeq (tAsg t g) u D σ H := h H (KeepX.refl _ _) w _ fun H2 z s2 w2 gz => q H2 z s2 w2 gz
theorem ret_ed {D : Ends} (h : EvD S X W B W1 B1 R t σ H) (w : Wld S X W B H) (q : ∀ H2 z, KeepX (XS S X) H H2 → Wld S X W1 B1 H2 → R H2 z → D.rt z H2) : tRet t D σ H := h H (KeepX.refl _ _) w _ fun H2 z s2 w2 gz => q H2 z s2 w2 gz
theorem ifs_ed {b : Bool} {t : TT} {u v rest : TS} {D : Ends} (h : EvDT S X W B W1 B1 b t σ H) (w : Wld S X W B H) (q1 : b = true → ∀ H2, KeepX (XS S X) H H2 → Wld S X W1 B1 H2 → u { D with nx := rest D } σ H2) (q2 : b = false → ∀ H2, KeepX (XS S X) H H2 → Wld S X W1 B1 H2 → v { D with nx := rest D } σ H2) : tSeq (tIfS t u v) rest D σ H := h H (KeepX.refl _ _) w _ fun H2 s2 w2 => by
  cases b with
  | true => exact iteT (q1 rfl H2 s2 w2)
  | false => exact iteF (q2 rfl H2 s2 w2)
theorem if_ed {b : Bool} {t : TT} {u v : TS} {D : Ends} (h : EvDT S X W B W1 B1 b t σ H) (w : Wld S X W B H) (q1 : b = true → ∀ H2, KeepX (XS S X) H H2 → Wld S X W1 B1 H2 → u D σ H2) (q2 : b = false → ∀ H2, KeepX (XS S X) H H2 → Wld S X W1 B1 H2 → v D σ H2) : tIfS t u v D σ H := h H (KeepX.refl _ _) w _ fun H2 s2 w2 => by
  cases b with
  | true => exact iteT (q1 rfl H2 s2 w2)
  | false => exact iteF (q2 rfl H2 s2 w2)
theorem par_ed {i j : Nat} {u : TS} {D : Ends} (ha : StyK S X Ra) (a : EvD S X W B W1 B1 Ra ta σ H) (b : EvD S X W1 B1 W2 B2 Rb tb σ H) (w : Wld S X W B H) (q : ∀ H2 x y, KeepX (XS S X) H H2 → Wld S X W2 B2 H2 → Ra H2 x → Rb H2 y → u D ((σ.set i (some x)).set j (some y)) H2) : tSeq (tPar i j (tCons ta (tCons tb tNil))) u D σ H :=
  a H (KeepX.refl _ _) w _ fun H2 x s2 w2 gx => b H2 s2 w2 _ fun H3 y s3 w3 gy => ⟨x, y, rfl, q H3 x y (s2.trans s3) w3 (ha _ _ _ _ _ w2 s3 gx) gy⟩
end
end XT
/-! draws; comprehensions that draw -/
namespace XT
open PySem PySem.Spec PyProof.Rows L2
/-- a list of one's own: n values, of each of which G is true -/
def isLG (S : Sm) (X : Ow) (G : V → Prop) (n : Nat) : RV := fun H z => ∃ L vs, z = .ref L ∧ H L = some (.lst vs) ∧ vs.length = n ∧ (∀ v ∈ vs, G v) ∧ ¬ XS S X L
theorem sk_lg {S : Sm} {X : Ow} (G : V → Prop) (n : Nat) : StyK S X (isLG S X G n) := fun _ _ _ _ _ w k ⟨L, vs, ez, hL, hl, hG, nX⟩ => ⟨L, vs, ez, k L _ nX hL, hl, hG, nX⟩
section
variable {S : Sm} {X : Ow} {W W1 W2 W3 : HpP} {B B1 B2 B3 : Int} {H H' : Hp} {R Ra Rb Rc : RV} {t ta tb te : TE} {σ : L2.St}
theorem ed_draw {m : Nat} (sw : StyW X W2) (m0 : 0 < m) (m1 : m ≤ 1000) (hB : B2 < 100000000) (a : EvD S X W B W1 B1 (isV (.ref S.s)) ta σ H) (b : EvD S X W1 B1 W2 B2 (isV (.int (m : Int))) tb σ H) : EvD S X W B W2 (B2 + 1) (fun _ z => ∃ r : Nat, z = .int (r : Int) ∧ r < m) (tDf spDrawN (tCons ta (tCons tb tNil))) σ H := fun H1 s1 w1 Q q =>
  a H1 s1 w1 _ fun H2 x s2 w2 ex => b H2 (s1.trans s2) w2 _ fun H3 y s3 w3 ey => by
    obtain ⟨t, st, ht⟩ := w3.t
    refine ⟨S, t, m, by rw [ex, ey], st, m0, m1, by omega, fun H4 r t4 s4 hr => ?_⟩
    obtain ⟨w4, k4⟩ := w3.step sw st ht s4
    exact q _ _ ((s2.trans s3).trans k4) w4 ⟨r, rfl, hr⟩
/-- a comprehension over range(n), every turn of which may draw d times -/
theorem ed_lcR {i n d : Nat} {G : V → Prop} (sw : StyW X W1) (hn : n ≤ 1000) (hw : ∀ z : V, wipe ((wipe σ [i]).set i (some z)) [i] = wipe σ [i]) (a : EvD S X W B W1 B1 (isV (.int (n : Int))) ta σ H)
    (b : ∀ (j : Nat) (H1 : Hp) (B' : Int), j < n → B1 ≤ B' → B' ≤ B1 + d * j → KeepX (XS S X) H H1 → EvD S X W1 B' W1 (B' + d) (fun _ z => G z) te ((wipe σ [i]).set i (some (.int (j : Int)))) H1) :
    EvD S X W B W1 (B1 + d * n) (isLG S X G n) (tLc (iRng1 (tCons ta tNil)) (gName i) tYes te [i]) σ H := fun H1 s1 w1 Q q =>
  a H1 s1 w1 _ fun H2 x s2 w2 ex => by
    subst ex
    refine ⟨(n : Int), rfl, by omega, by omega, fun D nD => ?_⟩
    have nX := w2.new nD
    refine lc_range (lo := 0) (n := n) (fun j H' => ∃ acc : List V, KeepX (XS S X) H2 H' ∧ Wld S X W1 (B1 + d * j) H' ∧ H' D = some (.lst acc) ∧ acc.length = j ∧ ∀ v ∈ acc, G v) ⟨[], KeepX.of (same_new nD), (w2.same sw (same_new nD)).mono (by omega), upd_same, rfl, by simp⟩ (fun j H' hj h => ?_) (fun H' h => ?_)
    · obtain ⟨acc, k, w, hD, hl, hG⟩ := h
      refine ⟨hw _, ?_⟩
      dsimp only [tYes]
      rw [if_pos rfl, Int.zero_add]
      refine b j H' _ hj (by have := Int.mul_nonneg (Int.natCast_nonneg d) (Int.natCast_nonneg j); omega) (Int.le_refl _) ((s1.trans s2).trans k) H' (KeepX.refl _ _) w _ fun H3 y k3 w3 gy => ?_
      have hD3 := k3 D _ nX hD
      have k3' : KeepX (XS S X) H2 (upd H3 D (.lst (acc ++ [y]))) := fun c o n e => by
        rw [upd_ne (ne_of_none e nD)]
        exact k3 c o n (k c o n e)
      have e : B1 + (d : Int) * (j : Int) + d = B1 + d * ((j + 1 : Nat) : Int) := by
        rw [Int.natCast_add, Int.mul_add]
        omega
      rw [e] at w3
      refine ⟨acc, hD3, small64 (by omega), acc ++ [y], k3', w3.sim sw (Sim.put hD3 nX), upd_same, by rw [List.length_append, hl]; rfl, fun v hv => ?_⟩
      rcases List.mem_append.mp hv with hv | hv
      · exact hG v hv
      · rw [List.mem_singleton.mp hv]; exact gy
    · obtain ⟨acc, k, w, hD, hl, hG⟩ := h
      exact q _ _ (s2.trans k) w ⟨D, acc, rfl, hD, hl, hG, nX⟩
end
end XT
/-! set(t), t[a:b], t + u of tuples; a comprehension over a tuple, with draws -/
namespace XT
open PySem PySem.Spec PyProof.Rows L2
section
variable {P : Program} {w : World} {A : Around} {E : Value → Shared → Prop} {s : Shared}
theorem set_tupI {l : Addr} {items : Array Value} (ns : List Int) {Q : Value → Shared → Prop} (hh : A.handled = none) (hl : s.heap.IsTuple l items) (hit : IntsAre items.toList ns) (hb : ns.length + 1 < scanBound)
    (h : ∀ (hp : Heap) (tk c : Nat), SetR w hp s.heap.objs.size (fun j => decide (j ∈ ns)) c → c ≤ ns.length → (∀ b o, s.heap.get? b = some o → hp.get? b = some o) → Q (.ref s.heap.objs.size) { s with heap := hp, toks := tk }) :
    wpAny (model P w) A (call (.type "set") [.ref l]) Q E s := by
  have hz : items.size = ns.length := by
    have e := IntsAre.length hit
    rwa [Array.length_toList] at e
  obtain ⟨mc, mt, m0⟩ := F.called_set.mro
  have m1 := F.called_set.made
  have m2 := F.called_set.sub
  have m3 := F.called_set.notType
  have m4 := F.called_set.canCreate
  have m5 := F.typeCall_set_1 (.ref l)
  refine wpAny_call (codeAny_of_tree ?_)
  show wpAny _ _ (callAny (.type "set") _) _ _ _
  refine wpAny_pure ⟨Code.quiet_builtin _ (by decide +kernel), codeAny_builtin F.entry_type_call ?_⟩
  rw [Around.under_plain (weight_type_call_type "set" [.ref l] []) rfl]
  repeat (any_goals (first | assumption | wp_step))
  refine codeAny_mono (code_set_led1 (.ref l) (E := E) (Q₁ := fun v s1 => v = .ref s.heap.objs.size ∧ s1 = withS w s) ⟨rfl, rfl⟩) fun r s1 hr => ?_
  match r, hr with
  | .error e, hr => exact hr
  | .ok .next, hr => exact hr.elim
  | .ok .brk, hr => exact hr.elim
  | .ok .cont, hr => exact hr.elim
  | .ok (.ret v), hr =>
    obtain ⟨rfl, rfl⟩ := hr
    have g0 : (s.heap.push (newS w)).get? s.heap.objs.size = some (newS w) := Heap.get?_push_size _ rfl
    have g1 : Shared.TypeIs (withS w s) (.ref s.heap.objs.size) "set" := ⟨_, g0, rfl⟩
    have g2 := F.called_set.init.lookup
    have g3 := F.called_set.init.bind (.ref s.heap.objs.size)
    repeat (any_goals (first | assumption | wp_step))
    refine codeAny_mono (codeAny_call_builtin (R := wants (afterS w s ns) E) F.called_set.init.plain F.entry_set_init (check_set_init_1 g1 ?_)) fun r2 s2 hr2 => ?_
    · obtain ⟨ol, hol, hcl, nl, hdl⟩ := hl
      obtain ⟨oc, od, odt, osl⟩ := ol
      simp only at hcl hdl
      subst hcl hdl
      have hol1 : (s.heap.push (newS w)).get? l = some { cls := .type "tuple", dict := od, data := .seq items nl, slots := osl } := Heap.get?_push_of_some _ hol
      have n1 := F.sub_tuple_set
      have n2 := F.sub_tuple_frozenset
      have n3 : (Value.type "tuple" == Value.type "dict") = false := by decide
      have hl1 : (s.heap.push (newS w)).IsTuple l items := ⟨_, hol1, rfl, nl, rfl⟩
      have lS : l < s.heap.objs.size := Heap.lt_size hol
      have z1 : (s.heap.push (newS w)).objs.size = s.heap.objs.size + 1 := Heap.size_push ..
      unfold Builtin.«set.__init__» noKeywords Builtin.Frozenset.updateFrom
      generalize hPI : pyIter = PI
      wp_walk
      subst hPI
      refine wpAny_pyIter_tuple hl1 (wpAny_bind (wpAny_runValue ?_))
      refine set_update_ints ((Walks.tuple (by simp [hh]) _ l (by rw [z1]; exact Nat.ne_of_lt (Nat.lt_succ_of_lt lS)) items).toS) s.heap.objs.size (by rw [z1]; simp only [List.mem_cons, List.not_mem_nil, or_false, not_or]; exact ⟨Nat.ne_of_lt (Nat.lt_succ_self _), Nat.ne_of_gt lS⟩) ns hz hb (items_at hit hz) (items.size - 0) 0 _ (by omega) (Nat.zero_le _)
        ⟨⟨_, Heap.get?_push_size _ rfl, rfl, rfl⟩, hl1.push _⟩ ⟨0, Nat.le_refl 0, setR_new_at (Heap.get?_push_of_some _ g0)⟩ ?_
      intro s3 c hm hc hS
      obtain ⟨h3, ge, dr, tk, os⟩ := s3
      obtain rfl : ge = s.gens := hm.gens
      obtain rfl : dr = s.drawn := hm.drawn
      obtain rfl : os = s.os := hm.os
      show wpAny _ _ _ _ _ _
      refine wpAny_pure ?_
      show wpAny _ _ (ret Value.none) _ _ _
      rw [hz] at hc
      refine wpAny_pure ⟨rfl, h3, tk, c, rfl, hS, hc, fun b o e => ?_⟩
      have b0 : b < s.heap.objs.size := Heap.lt_size e
      exact hm.heap b o (by rw [z1]; simp only [List.mem_cons, List.not_mem_nil, or_false, not_or]; exact ⟨Nat.ne_of_lt b0, Nat.ne_of_lt (Nat.lt_succ_of_lt b0)⟩) (Heap.get?_push_of_some _ (Heap.get?_push_of_some _ e))
    · match r2, hr2 with
      | .error e, hr2 => exact hr2
      | .ok .next, hr2 => exact hr2.elim
      | .ok .brk, hr2 => exact hr2.elim
      | .ok .cont, hr2 => exact hr2.elim
      | .ok (.ret v), hr2 =>
        obtain ⟨rfl, hp, tk, c, rfl, hS, hc, hk⟩ := hr2
        repeat (any_goals (first | assumption | wp_step))
        exact h _ _ _ hS hc hk
end
section
variable {X : Cx}
/-- set(t) -/
def rSetT (K : PySem.W.Frag) (w : World) : List V → Hp → VK → Prop := fun vs H Q => ∃ (a : Addr) (ns : List Int), vs = [V.ref a] ∧ SqT K H a (ns.map V.int) ∧ ns.length ≤ 1000 ∧ ∀ (p : Addr) (c : Nat), H p = none → Q (.ref p) (upd H p (SetO w p (fun j => decide (j ∈ ns)) c))
theorem cr_setT (hc : X.calm = true) : CallR X (.type "set") (rSetT X.K X.w) := by
  intro pins s σ H vs us Q I r h
  obtain ⟨a, ns, rfl, hs, hn, q⟩ := h
  obtain ⟨its, rv, hl, hz⟩ := I.tuple hs
  rw [Vals.ref1 r]
  refine set_tupI ns (I.ok.hd hc) hl (by simpa using rv.ints) (by unfold scanBound; omega) fun hp tk c hS hcn hk => ?_
  exact ⟨.ref _, _, I.laid (t' := tk) hk (Nat.le_refl _) (setO_new hS), rfl, q _ c (I.hok.fresh (Nat.le_refl _))⟩
end
/-- [m for m in t if draw ..]: some of the masks, in their order -/
theorem lcd_tup {K : PySem.W.Frag} {a : Addr} {g : TG} {tt : TT} {te : TE} {vs : List Nat} {σ : L2.St} {H1 : Hp} {D : Addr} {Qd : Hp → Prop} {S : Sm} {t0 : Int} {ms : List Nat} {d : Nat} (st0 : Strm S H1 t0) (nD : H1 D = none) (hA : H1 a = some (.tup (vm ms))) (hn : ms.length ≤ 1000)
    (ht : ∀ (i : Nat) (m : Nat) H t, ms[i]? = some m → Step S H1 t0 H t (d * i) → ∀ (R1 : Hp → Prop) (R2 : V → Hp → Prop), (∀ H3 t3, Step S H t H3 t3 d → R1 H3) → (∀ H4 t4, Step S H t H4 t4 d → R2 (.int (m : Int)) H4) →
      g (.int (m : Int)) (wipe σ vs) H fun σ2 H2 => wipe σ2 vs = wipe σ vs ∧ tt σ2 H2 fun b H3 => if b = true then te σ2 H3 R2 else R1 H3)
    (hd : ∀ H ks t, Step S H1 t0 H t (d * ms.length) → H D = some (.lst (vm ks)) → ks.Sublist ms → Qd H) :
    ∃ W : Nat → Nat → Hp → Prop, (∃ m, W 0 m (upd H1 D (.lst []))) ∧ ∀ i m H, W i m H →
      ((Itt K a).stop i H ∧ Qd H) ∨ ((Itt K a).go i H ∧ ∃ Nx : Hp → Prop, (∀ H', Nx H' → ∃ m', m' < m ∧ W (i + 1) m' H') ∧ ∀ x H', (Itt K a).yld i H x H' → g x (wipe σ vs) H' fun σ2 H2 => wipe σ2 vs = wipe σ vs ∧ tt σ2 H2 fun b H3 =>
        if b = true then te σ2 H3 fun y H4 => ∃ acc, H4 D = some (.lst acc) ∧ acc.length < sizeLine ∧ Nx (upd H4 D (.lst (acc ++ [y]))) else Nx H3) := by
  refine lc_tup (xs := vm ms) (fun i H => ∃ (ks : List Nat) (t : Int), Step S H1 t0 H t (d * i) ∧ H D = some (.lst (vm ks)) ∧ ks.Sublist (ms.take i)) ⟨[], t0, ((Step.refl st0).same (same_new nD)).mono (Nat.zero_le _), upd_same, by simp⟩ (fun i H _ h => ?_) (fun i x H hx h => ?_) (fun H h => ?_)
  · obtain ⟨_, _, s, _⟩ := h
    exact SqT.of (s.keep.tup st0 hA)
  · obtain ⟨m, hm, rfl⟩ := mem_vm hx
    have hi : i < ms.length := (List.getElem?_eq_some_iff.mp hm).1
    obtain ⟨ks, t, stp, hD, hk⟩ := h
    have hkl : ks.length ≤ i := by
      have h1 := hk.length_le
      rw [List.length_take] at h1
      omega
    refine ht i m H t hm stp _ _ (fun H3 t3 s3 => ?_) (fun H4 t4 s4 => ?_)
    · refine ⟨ks, t3, (stp.trans s3).mono (by rw [Nat.mul_succ]; exact Nat.le_refl _), s3.keep.mine st0 nD hD, ?_⟩
      rw [List.take_add_one]
      exact hk.trans (List.sublist_append_left _ _)
    · have hD4 := s4.keep.mine st0 nD hD
      obtain ⟨nDs, nDp, nDq⟩ := strm_ne st0 nD
      have z := stp.trans s4
      refine ⟨_, hD4, small64 (by rw [vm_len]; omega), ks ++ [m], t4, ⟨fun b o n1 n2 e => ?_, strm_upd z.st nDs nDp nDq, z.lo, by have := z.hi; rw [Nat.mul_succ]; exact this⟩, ?_, ?_⟩
      · rw [upd_ne (ne_of_none e nD)]
        exact z.keep b o n1 n2 e
      · rw [upd_same]; unfold vm; rw [List.map_append]; rfl
      · rw [List.take_add_one, hm]
        exact hk.append (List.Sublist.refl _)
  · rw [vm_len] at h
    obtain ⟨ks, t, s, hD, hk⟩ := h
    rw [List.take_length] at hk
    exact hd H ks t s hD hk
/-- some masks of a lot, in their order, are a lot -/
theorem sub_lot {n : Nat} {p : Nat → Bool} {ks : List Nat} (h : ks.Sublist (lotOf n p)) : vm ks = vm (lotOf n fun m => decide (m ∈ ks)) := by
  have r := lot_rising n p
  have r2 : (ks.map fun (m : Nat) => (m : Int)).Pairwise (· < ·) := r.sublist (h.map _)
  rw [vm_ints ks]
  refine rising_lot r2 fun k => ?_
  rw [List.mem_map]
  constructor
  · rintro ⟨m, hm, rfl⟩
    exact ⟨m, rfl, (mem_lot.mp (h.subset hm)).1, decide_eq_true hm⟩
  · rintro ⟨m, rfl, _, hm⟩
    exact ⟨m, of_decide_eq_true hm, rfl⟩
/-- sorted(set(ns)) of masks -/
theorem sort_set {n : Nat} {ks : List Nat} {ns : List Int} (asc : ns.Pairwise (· < ·)) (hk : ∀ k ∈ ks, k < 2 ^ n) (hm : ∀ k : Int, k ∈ ns ↔ decide (k ∈ ks.map fun (m : Nat) => (m : Int)) = true) : ns.map V.int = vm (lotOf n fun m => decide (m ∈ ks)) := by
  refine rising_lot asc fun z => ?_
  rw [hm z, decide_eq_true_iff, List.mem_map]
  constructor
  · rintro ⟨m, h1, h2⟩
    exact ⟨m, h2.symm, hk m h1, decide_eq_true h1⟩
  · rintro ⟨m, h1, h2, h3⟩
    exact ⟨m, of_decide_eq_true h3, h1.symm⟩
end XT
/-! cuts and sums of tuples that are laid -/
namespace XT
open PySem PySem.Spec PyProof.Rows L2
section
variable {X : Cx}
def rSlV : V → Option Int → Option Int → Hp → VK → Prop := fun x lo hi H Q => ∃ a xs, x = .ref a ∧ H a = some (.tup xs) ∧ ∀ H' p, Same H H' → H' p = some (.tup (cutV xs lo hi)) → Q (.ref p) H'
theorem sl_tupV : SlR X rSlV := by
  intro pins s σ H x v vl vu lo hi sl Q I rx hs pl pu h
  obtain ⟨a, xs, rfl, hx, q⟩ := h
  exact sl_tupA pins s σ H _ v vl vu lo hi sl Q I rx hs pl pu ⟨a, xs, rfl, SqT.of hx, fun hw => q H a (Same.refl H) (by rw [cutV_whole hw]; exact hx), fun _ p np => q _ p (same_new np) upd_same⟩
def rCatV : R2 := fun x y H Q => ∃ a b xs ys, x = .ref a ∧ y = .ref b ∧ H a = some (.tup xs) ∧ H b = some (.tup ys) ∧ xs.length + ys.length ≤ sizeLine ∧ ∀ H' p, Same H H' → H' p = some (.tup (xs ++ ys)) → Q (.ref p) H'
theorem op_catV : OpR X (binaryOp .Add) rCatV := by
  intro pins s σ H x y v u Q I rx ry h
  obtain ⟨a, b, xs, ys, rfl, rfl, ha, hb, hz, q⟩ := h
  exact op_catA pins s σ H _ _ v u Q I rx ry ⟨a, b, xs, ys, rfl, rfl, SqT.of ha, SqT.of hb, hz, fun e => q H b (Same.refl H) (by rw [e]; exact hb), fun _ e => q H a (Same.refl H) (by rw [e, List.append_nil]; exact ha), fun _ _ p np => q _ p (same_new np) upd_same⟩
end
theorem cut_vm (ms : List Nat) (lo hi : Option Int) : ∃ ks : List Nat, cutV (vm ms) lo hi = vm ks ∧ ks.Sublist ms := by
  refine ⟨(ms.drop (HT.sIx (vm ms).length 0 lo)).take (HT.sIx (vm ms).length (vm ms).length hi - HT.sIx (vm ms).length 0 lo), ?_, (List.take_sublist _ _).trans (List.drop_sublist _ _)⟩
  unfold cutV vm
  rw [← List.map_drop, ← List.map_take]
end XT
/-! more comprehensions as values -/
namespace XT
open PySem PySem.Spec PyProof.Rows L2
/-- [te for x in range(n)], of any kind -/
theorem ev_lcRG {i N : Nat} {Rs : List RV} {ta te : TE} {σ : L2.St} {H : Hp} (hl : Rs.length = N) (hN : N ≤ 1000) (hL : ∀ S ∈ Rs, StyL S) (hS : StyA Rs) (hw : ∀ z : V, wipe ((wipe σ [i]).set i (some z)) [i] = wipe σ [i])
    (a : Ev (isV (.int (N : Int))) ta σ H) (b : ∀ (j : Nat) (R : RV) (H1 : Hp), Rs[j]? = some R → Same H H1 → Ev R te ((wipe σ [i]).set i (some (.int (j : Int)))) H1) : Ev (isLst Rs) (tLc (iRng1 (tCons ta tNil)) (gName i) tYes te [i]) σ H := fun H1 s1 Q q =>
  a H1 s1 _ fun H2 x s2 ex => by
    refine ⟨(N : Int), by rw [ex], by omega, by omega, fun D nD => lcg_range (n := N) (G := fun j y H => ∀ S, Rs[j]? = some S → S H y) ⟨fun {j y H H'} h e S hs => hS S (List.mem_of_getElem? hs) _ _ _ e (h S hs), fun {j y H D xs ys} h e S hs => hL S (List.mem_of_getElem? hs) _ _ _ _ _ e (h S hs)⟩ nD hN (fun j Hc hj sc => ?_) (fun H3 hpv => ?_)⟩
    · intro R1 R2 h2
      have hj2 : j < Rs.length := by omega
      rw [Int.zero_add]
      refine ⟨hw _, ?_⟩
      exact iteT (B := R1 Hc) (b j _ Hc (List.getElem?_eq_getElem hj2) ((s1.trans s2).trans sc) Hc (Same.refl _) _ fun H4 o s4 go => h2 _ _ s4 fun S hs => by
        cases hs.symm.trans (List.getElem?_eq_getElem hj2)
        exact go)
    · obtain ⟨s3, ys, hD, hyl, hys⟩ := hpv
      exact q _ _ (s2.trans s3) ⟨D, ys, rfl, hD, allV_of (by rw [hyl, hl]) fun j R v hRj hv => hys j v hv R hRj⟩
/-- [te for x in xs if ..], none -/
theorem ev_lcLN {K : PySem.W.Frag} {i : Nat} {Rs : List RV} {t te : TE} {tt : TT} {σ : L2.St} {H : Hp} (hN : Rs.length ≤ 1000) (hR : StyA Rs) (a : Ev (isLst Rs) t σ H) (hw : ∀ z : V, wipe ((wipe σ [i]).set i (some z)) [i] = wipe σ [i])
    (b : ∀ (j : Nat) (R : RV) (z : V) (H1 : Hp), Rs[j]? = some R → R H1 z → Same H H1 → EvT false tt ((wipe σ [i]).set i (some z)) H1) : Ev (isLsN []) (tLc (iList K t) (gName i) tt te [i]) σ H := fun H1 s1 Q q =>
  a H1 s1 _ fun H2 x s2 ⟨L, vs, ex, hLv, gv⟩ => by
    have hvl : vs.length = Rs.length := allV_len gv
    refine ⟨L, ex, ⟨_, SqL.of hLv⟩, fun D nD => ?_⟩
    refine lc_list (xs := vs) (fun j H => PvP H2 D [] H) ⟨same_new nD, upd_same⟩ (fun j Hc _ h => SqL.of (h.1 _ _ hLv)) (fun j z Hc hz h => ?_) (fun H4 h => q _ _ (s2.trans h.1) ⟨D, rfl, h.2⟩)
    have hj : j < Rs.length := by rw [← hvl]; exact (List.getElem?_eq_some_iff.mp hz).1
    obtain ⟨z', hz', gz⟩ := allV_at gv (List.getElem?_eq_getElem hj)
    cases hz.symm.trans hz'
    refine ⟨hw _, ?_⟩
    refine b j _ z Hc (List.getElem?_eq_getElem hj) (hR _ (List.getElem_mem hj) _ _ _ h.1 gz) ((s1.trans s2).trans h.1) Hc (Same.refl _) _ fun H4 s4 => iteF ⟨h.1.trans s4, s4 _ _ h.2⟩
/-- xs[i] -/
theorem of_ixLs {K : PySem.W.Frag} {Rs : List RV} {j : Nat} {R : RV} (h : Rs[j]? = some R) : OpF (isLst Rs) (isV (.int (j : Int))) (rIxL K) R := fun H x y ⟨L, vs, ex, hL, al⟩ ey Q q => by
  subst ex ey
  obtain ⟨v, hv, gv⟩ := allV_at al h
  exact ⟨L, vs, j, v, rfl, rfl, SqL.of hL, atI_nat hv, q _ _ (Same.refl _) gv⟩
end XT
/-! comprehensions whose values are given one by one -/
namespace XT
open PySem PySem.Spec PyProof.Rows L2
section
variable {K : PySem.W.Frag} {a : Addr} {g : TG} {tt : TT} {te : TE} {vs : List Nat} {σ : L2.St} {H1 : Hp} {D : Addr} {Qd : Hp → Prop}
theorem lcq_list {xs : List V} (ys : List V) (hl : ys.length = xs.length) (nD : H1 D = none) (hA : SqL K H1 a xs) (hz : xs.length < sizeLine) (ht : ∀ (i : Nat) x y H, xs[i]? = some x → ys[i]? = some y → Same H1 H → TurnP g tt te vs σ x y true H)
    (hd : ∀ H, Same H1 H → H D = some (.lst ys) → Qd H) :
    ∃ W : Nat → Nat → Hp → Prop, (∃ m, W 0 m (upd H1 D (.lst []))) ∧ ∀ i m H, W i m H →
      ((Itl K a).stop i H ∧ Qd H) ∨ ((Itl K a).go i H ∧ ∃ Nx : Hp → Prop, (∀ H', Nx H' → ∃ m', m' < m ∧ W (i + 1) m' H') ∧ ∀ x H', (Itl K a).yld i H x H' → g x (wipe σ vs) H' fun σ2 H2 => wipe σ2 vs = wipe σ vs ∧ tt σ2 H2 fun b H3 =>
        if b = true then te σ2 H3 fun y H4 => ∃ acc, H4 D = some (.lst acc) ∧ acc.length < sizeLine ∧ Nx (upd H4 D (.lst (acc ++ [y]))) else Nx H3) := by
  refine lc_list (xs := xs) (fun i H => PvP H1 D (ys.take i) H) ⟨same_new nD, upd_same⟩ (fun i H _ h => h.1.seq hA) (fun i x H hx h => ?_) (fun H h => ?_)
  · have hi : i < xs.length := (List.getElem?_eq_some_iff.mp hx).1
    have hy : ys[i]? = some (ys[i]'(by omega)) := List.getElem?_eq_getElem _
    exact pvp_turn nD h (by rw [List.length_take]; omega) (ht i x _ H hx hy h.1) _ (by rw [List.take_add_one, hy]; rfl)
  · have h2 := h.2
    rw [← hl, List.take_length] at h2
    exact hd H h.1 h2
theorem lcq_tup {xs : List V} (ys : List V) (hl : ys.length = xs.length) (nD : H1 D = none) (hA : SqT K H1 a xs) (hz : xs.length < sizeLine) (ht : ∀ (i : Nat) x y H, xs[i]? = some x → ys[i]? = some y → Same H1 H → TurnP g tt te vs σ x y true H)
    (hd : ∀ H, Same H1 H → H D = some (.lst ys) → Qd H) :
    ∃ W : Nat → Nat → Hp → Prop, (∃ m, W 0 m (upd H1 D (.lst []))) ∧ ∀ i m H, W i m H →
      ((Itt K a).stop i H ∧ Qd H) ∨ ((Itt K a).go i H ∧ ∃ Nx : Hp → Prop, (∀ H', Nx H' → ∃ m', m' < m ∧ W (i + 1) m' H') ∧ ∀ x H', (Itt K a).yld i H x H' → g x (wipe σ vs) H' fun σ2 H2 => wipe σ2 vs = wipe σ vs ∧ tt σ2 H2 fun b H3 =>
        if b = true then te σ2 H3 fun y H4 => ∃ acc, H4 D = some (.lst acc) ∧ acc.length < sizeLine ∧ Nx (upd H4 D (.lst (acc ++ [y]))) else Nx H3) := by
  refine lc_tup (xs := xs) (fun i H => PvP H1 D (ys.take i) H) ⟨same_new nD, upd_same⟩ (fun i H _ h => Same.sqT h.1 hA) (fun i x H hx h => ?_) (fun H h => ?_)
  · have hi : i < xs.length := (List.getElem?_eq_some_iff.mp hx).1
    have hy : ys[i]? = some (ys[i]'(by omega)) := List.getElem?_eq_getElem _
    exact pvp_turn nD h (by rw [List.length_take]; omega) (ht i x _ H hx hy h.1) _ (by rw [List.take_add_one, hy]; rfl)
  · have h2 := h.2
    rw [← hl, List.take_length] at h2
    exact hd H h.1 h2
theorem cutV_takeN (xs : List V) (k : Nat) : cutV xs none (some (k : Int)) = xs.take k := by
  unfold cutV
  rw [HT.sIx_none, HT.sIx_nat, List.drop_zero, Nat.sub_zero]
  rcases Nat.le_total k xs.length with h | h
  · rw [Nat.min_eq_left h]
  · rw [Nat.min_eq_right h, List.take_of_length_le (Nat.le_refl _), List.take_of_length_le h]
theorem cutV_dropN (xs : List V) (k : Nat) : cutV xs (some (k : Int)) none = xs.drop k := by
  unfold cutV
  rw [HT.sIx_none, HT.sIx_nat]
  rcases Nat.le_total k xs.length with h | h
  · rw [Nat.min_eq_left h]
    exact List.take_of_length_le (by rw [List.length_drop]; exact Nat.le_refl _)
  · rw [Nat.min_eq_right h, List.drop_eq_nil_of_le (Nat.le_refl _), List.drop_eq_nil_of_le h, List.take_nil]
end
end XT
/-! a comprehension that filters a tuple; a list of any things beside [] -/
namespace XT
open PySem PySem.Spec PyProof.Rows L2
abbrev isTV (xs : List V) : RV := fun H z => ∃ T, z = .ref T ∧ H T = some (.tup xs)
abbrev isLV (xs : List V) : RV := fun H z => ∃ D, z = .ref D ∧ H D = some (.lst xs)
theorem sty_tv (xs : List V) : Sty (isTV xs) := fun _ _ _ e ⟨T, ez, h⟩ => ⟨T, ez, e _ _ h⟩
theorem sty_lV (xs : List V) : Sty (isLV xs) := fun _ _ _ e ⟨T, ez, h⟩ => ⟨T, ez, e _ _ h⟩
section
variable {K : PySem.W.Frag} {t : TE} {tt : TT} {σ : L2.St} {H : Hp} {xs : List V}
theorem ev_lcTF {i : Nat} (p : V → Bool) (hN : xs.length ≤ 1000) (a : Ev (isTV xs) t σ H) (hw : ∀ z : V, wipe ((wipe σ [i]).set i (some z)) [i] = wipe σ [i]) (he : ∀ z : V, ((wipe σ [i]).set i (some z))[i]? = some (some z))
    (b : ∀ z ∈ xs, ∀ H1, Same H H1 → EvT (p z) tt ((wipe σ [i]).set i (some z)) H1) : Ev (isLV (xs.filter p)) (tLc (iTup K t) (gName i) tt (tVar i) [i]) σ H := fun H1 s1 Q q =>
  a H1 s1 _ fun H2 x s2 ⟨T, ex, hT⟩ => by
    subst ex
    refine ⟨T, rfl, ⟨_, SqT.of hT⟩, fun D nD => lcp_tup (p := p) (f := id) nD (SqT.of hT) (small64 hN) (fun j z Hc hz sc => ?_) (fun H3 s3 hD => ?_)⟩
    · intro R1 R2 h1 h2
      refine ⟨hw _, b z (List.mem_of_getElem? hz) Hc ((s1.trans s2).trans sc) Hc (Same.refl _) _ fun H4 s4 => ?_⟩
      cases hq : p z with
      | true => exact iteT ⟨_, he _, h2 hq _ s4⟩
      | false => exact iteF (h1 hq _ s4)
    · exact q _ _ (s2.trans s3) ⟨D, rfl, by rw [hD, List.map_id]⟩
theorem ev_lcTM {i : Nat} {te : TE} (f : V → V) (hN : xs.length ≤ 1000) (a : Ev (isTV xs) t σ H) (hw : ∀ z : V, wipe ((wipe σ [i]).set i (some z)) [i] = wipe σ [i])
    (b : ∀ z ∈ xs, ∀ H1, Same H H1 → Ev (isV (f z)) te ((wipe σ [i]).set i (some z)) H1) : Ev (isLV (xs.map f)) (tLc (iTup K t) (gName i) tYes te [i]) σ H := fun H1 s1 Q q =>
  a H1 s1 _ fun H2 x s2 ⟨T, ex, hT⟩ => by
    subst ex
    refine ⟨T, rfl, ⟨_, SqT.of hT⟩, fun D nD => lcp_tup (p := fun _ => true) (f := f) nD (SqT.of hT) (small64 hN) (fun j z Hc hz sc => ?_) (fun H3 s3 hD => ?_)⟩
    · intro R1 R2 h1 h2
      refine ⟨hw _, iteT (B := R1 Hc) (b z (List.mem_of_getElem? hz) Hc ((s1.trans s2).trans sc) Hc (Same.refl _) _ fun H4 y s4 ey => ?_)⟩
      rw [ey]
      exact h2 rfl _ s4
    · exact q _ _ (s2.trans s3) ⟨D, rfl, by rw [hD, List.filter_eq_self.mpr (fun _ _ => rfl)]⟩
theorem ev_tupLV (a : Ev (isLV xs) t σ H) : Ev (isTV xs) (tCB (rTupO K) (tCons t tNil)) σ H := fun H1 s1 Q q =>
  a H1 s1 _ fun H2 x s2 ⟨D, ex, hD⟩ => ⟨D, xs, by rw [ex], .inl ⟨SqL.of hD, fun U nU => q _ _ (s2.trans (same_new nU)) ⟨U, rfl, upd_same⟩⟩⟩
theorem ev_nil : Ev (isLV []) (tLst tNil) σ H := fun H1 s1 Q q => ⟨sz (n := 0) (by decide), fun L nL => q _ _ (same_new nL) ⟨L, rfl, upd_same⟩⟩
theorem of_eqEL : OpF (isLV xs) (isLV []) (rEqEL K) (isB xs.isEmpty) := fun H x y ⟨D, ex, hD⟩ ⟨E, ey, hE⟩ Q q => ⟨D, E, xs, ex, ey, SqL.of hD, SqL.of hE, q _ _ (Same.refl _) rfl⟩
theorem of_neEL : OpF (isLV xs) (isLV []) (rNeEL K) (isB (!xs.isEmpty)) := fun H x y ⟨D, ex, hD⟩ ⟨E, ey, hE⟩ Q q => ⟨D, E, xs, ex, ey, SqL.of hD, SqL.of hE, q _ _ (Same.refl _) rfl⟩
/-- t[:k], t + u -/
theorem ev_cutK {k : Nat} (a : Ev (isTV xs) t σ H) : Ev (isTV (xs.take k)) (tSl rSlV t tNoPart (tPart (tC (.int (k : Int))))) σ H := fun H1 s1 Q q =>
  a H1 s1 _ fun H2 x s2 ⟨T, ex, hT⟩ => ⟨(k : Int), rfl, T, _, ex, hT, fun H3 p s3 hp => q _ _ (s2.trans s3) ⟨p, rfl, by rw [hp, cutV_takeN]⟩⟩
theorem of_catT {ys : List V} (hl : xs.length + ys.length ≤ 1000) : OpF (isTV xs) (isTV ys) rCatV (isTV (xs ++ ys)) := fun H x y ⟨T, ex, hT⟩ ⟨U, ey, hU⟩ Q q => ⟨T, U, _, _, ex, ey, hT, hU, sz hl, fun H' p s h => q _ _ s ⟨p, rfl, h⟩⟩
end
end XT
/-! patterns that are drawn -/
namespace XT
open PySem PySem.Spec PyProof.Rows L2
theorem occ_in (s sub : Str) (hi limit : Nat) : ∀ (l : List Nat) (st : Array Nat × Nat), (∀ i ∈ st.fst.toList, i + sub.length ≤ hi) → ∀ i ∈ (forIn l st (StrLaws.occBody s sub hi limit)).run.fst.toList, i + sub.length ≤ hi
  | [], st, h => h
  | a :: l, st, h => by
    rw [List.forIn_cons]
    unfold StrLaws.occBody
    split
    · rename_i hc
      refine occ_in s sub hi limit l _ fun i hi' => ?_
      simp only [Array.toList_push, List.mem_append, List.mem_singleton] at hi'
      rcases hi' with h1 | rfl
      · exact h i h1
      · exact hc.1.2
    · exact occ_in s sub hi limit l _ h
theorem occ_first {x y : Str} {i : Nat} {rest : List Nat} (h : Builtin.Str.occurrences x y 0 x.length 1 = i :: rest) : i + y.length ≤ x.length := by
  rw [StrLaws.occ_eq] at h
  exact occ_in x y x.length 1 _ (#[], 0) (by simp) i (by rw [h]; exact List.mem_cons_self)
abbrev isPat (n : Nat) : RV := fun _ z => ∃ x, z = .str x ∧ OkW n x
/-- a tuple of lo to hi patterns of n signs -/
abbrev isTP (n lo hi : Nat) : RV := fun H z => ∃ (T : Addr) (ws : List Str), z = .ref T ∧ H T = some (.tup (ws.map V.str)) ∧ lo ≤ ws.length ∧ ws.length ≤ hi ∧ ∀ x ∈ ws, OkW n x
theorem sk_tp {S : Sm} {X : Ow} (n lo hi : Nat) : StyK S X (isTP n lo hi) := fun _ _ _ _ _ w k ⟨T, ws, ez, h, a, b, c⟩ => ⟨T, ws, ez, w.tup k h, a, b, c⟩
theorem sty_tp (n lo hi : Nat) : Sty (isTP n lo hi) := fun _ _ _ e ⟨T, ws, ez, h, a, b, c⟩ => ⟨T, ws, ez, e _ _ h, a, b, c⟩
theorem sk_pat {S : Sm} {X : Ow} (n : Nat) : StyK S X (isPat n) := fun _ _ _ _ _ _ _ h => h
theorem WideT.tp {H : Hp} {T : Addr} {ws : List Str} {n : Nat} (h : WideT H T ws n) {hi : Nat} (l : ws.length ≤ hi) : isTP n 1 hi H (.ref T) := ⟨T, ws, rfl, h.h, h.l1, l, h.ok⟩
section
variable {K : PySem.W.Frag} {S : Sm} {X : Ow} {W W1 W2 W3 : HpP} {B B1 B2 B3 : Int} {H H' : Hp} {R Ra Rb Rc : RV} {t ta tb te : TE} {σ : L2.St}
abbrev rAddStr : R2 := fun x y H Q => ∃ i j : Str, x = .str i ∧ y = .str j ∧ i.length + j.length ≤ sizeLine ∧ Q (.str (i ++ j)) H
/-- x[:k] + e + x[k + 1:] -/
theorem ed_put {i j k n : Nat} {y : Str} (ok : OkW n y) (hn : n ≤ 40) (hk : k < n) (hi : σ[i]? = some (some (.str y))) (hj : σ[j]? = some (some (.int (k : Int)))) (e : EvD S X W B W1 B1 (isPat 1) te σ H) :
    EvD S X W B W1 B1 (isPat n) (tOp rAddStr (tOp rAddStr (tSl rSlS (tVar i) tNoPart (tPart (tVar j))) te) (tSl rSlS (tVar i) (tPart (tOp (rI0 fun i j => .int (i + j)) (tVar j) (tC (.int 1)))) tNoPart)) σ H := fun H1 s1 w1 Q q => by
  have hy : y.length ≤ sizeLine := szl (m := 1000) (by have := ok.1; omega) (by decide)
  refine ⟨.str y, hi, .int (k : Int), hj, (k : Int), rfl, y, rfl, hy, e H1 s1 w1 _ fun H2 z s2 w2 ⟨x, ex, okx⟩ => ⟨_, x, rfl, ex, ?_, .str y, hi, .int (k : Int), hj, (k : Int), 1, rfl, rfl, (k : Int) + 1, rfl, y, rfl, hy, _, _, rfl, rfl, ?_, q H2 _ s2 w2 ⟨_, rfl, okW_put ok hk okx⟩⟩⟩
  · have e1 : (cutS y none (some (k : Int))).length = k := by
      show (cutS y none (some (k : Int))).cps.size = k
      have hl : y.cps.toList.length = n := by rw [Array.length_toList]; exact ok.1
      rw [← Array.length_toList, cut_take, List.length_take]
      omega
    have := okx.1
    exact szl (m := 1000) (by omega) (by decide)
  · have := (okW_put ok hk okx).1
    have e3 : (cutS y none (some (k : Int)) ++ x ++ cutS y (some ((k : Int) + 1)) none).length = (cutS y none (some (k : Int)) ++ x).length + (cutS y (some ((k : Int) + 1)) none).length := by
      show ((cutS y none (some (k : Int)) ++ x).cps ++ (cutS y (some ((k : Int) + 1)) none).cps).size = _
      rw [Array.size_append]
      rfl
    exact szl (m := 1000) (by omega) (by decide)
theorem put_len {n k : Nat} {y e : Str} (ok : OkW n y) (hk : k < n) (l : e.length = 1) : (cutS y none (some (k : Int)) ++ e ++ cutS y (some ((k : Int) + 1)) none).length = n ∧ (cutS y none (some (k : Int))).length + e.length ≤ n ∧ (cutS y none (some (k : Int)) ++ e).length + (cutS y (some ((k : Int) + 1)) none).length = n := by
  have hl : y.cps.toList.length = n := by rw [Array.length_toList]; exact ok.1
  have e1 : (cutS y none (some (k : Int))).length = k := by
    show (cutS y none (some (k : Int))).cps.size = k
    rw [← Array.length_toList, cut_take, List.length_take]
    omega
  have e2 : (cutS y (some ((k : Int) + 1)) none).length = n - (k + 1) := by
    show (cutS y (some ((k : Int) + 1)) none).cps.size = _
    rw [← Array.length_toList, show (k : Int) + 1 = ((k + 1 : Nat) : Int) by omega, cut_drop, List.length_drop]
    omega
  have e3 : (cutS y none (some (k : Int)) ++ e ++ cutS y (some ((k : Int) + 1)) none).length = (cutS y none (some (k : Int)) ++ e).length + (cutS y (some ((k : Int) + 1)) none).length := by
    show ((cutS y none (some (k : Int)) ++ e).cps ++ (cutS y (some ((k : Int) + 1)) none).cps).size = _
    rw [Array.size_append]
    rfl
  have e4 : (cutS y none (some (k : Int)) ++ e).length = (cutS y none (some (k : Int))).length + e.length := by
    show ((cutS y none (some (k : Int))).cps ++ e.cps).size = _
    rw [Array.size_append]
    rfl
  omega
theorem ev_putV {i j k n : Nat} {y e : Str} (ok : OkW n y) (hn : n ≤ 40) (hk : k < n) (l : e.length = 1) (hi : σ[i]? = some (some (.str y))) (hj : σ[j]? = some (some (.int (k : Int)))) (a : Ev (isV (.str e)) te σ H) :
    Ev (isV (.str (cutS y none (some (k : Int)) ++ e ++ cutS y (some ((k : Int) + 1)) none))) (tOp rAddStr (tOp rAddStr (tSl rSlS (tVar i) tNoPart (tPart (tVar j))) te) (tSl rSlS (tVar i) (tPart (tOp (rI0 fun i j => .int (i + j)) (tVar j) (tC (.int 1)))) tNoPart)) σ H := fun H1 s1 Q q => by
  have hy : y.length ≤ sizeLine := szl (m := 1000) (by have := ok.1; omega) (by decide)
  obtain ⟨l1, l2, l3⟩ := put_len ok hk l
  exact ⟨.str y, hi, .int (k : Int), hj, (k : Int), rfl, y, rfl, hy, a H1 s1 _ fun H2 z s2 ez => ⟨_, e, rfl, ez, szl (m := 1000) (by omega) (by decide), .str y, hi, .int (k : Int), hj, (k : Int), 1, rfl, rfl, (k : Int) + 1, rfl, y, rfl, hy, _, _, rfl, rfl, szl (m := 1000) (by omega) (by decide), q H2 _ s2 rfl⟩⟩
/-- t[i], a pattern of a tuple -/
theorem of_ixP {n lo hi k : Nat} (hk : k < lo) : OpF (isTP n lo hi) (isV (.int (k : Int))) (rIxT K) (isPat n) := fun H x y ⟨T, ws, ex, hT, l, _, ok⟩ ey Q q => by
  have hw : k < ws.length := by omega
  exact ⟨T, _, (k : Int), .str (ws[k]'hw), ex, ey, SqT.of hT, atI_nat (by rw [List.getElem?_map, List.getElem?_eq_getElem hw]; rfl), q _ _ (Same.refl _) ⟨_, rfl, ok _ (List.getElem_mem _)⟩⟩
theorem of_ixPv {n k : Nat} {ws : List Str} {T : Addr} {x : Str} (hx : ws[k]? = some x) : OpF (fun H z => z = .ref T ∧ H T = some (.tup (ws.map V.str))) (isV (.int (k : Int))) (rIxT K) (isV (.str x)) := fun H z y ⟨ez, hT⟩ ey Q q =>
  ⟨T, _, (k : Int), .str x, ez, ey, SqT.of hT, atI_nat (by rw [List.getElem?_map, hx]; rfl), q _ _ (Same.refl _) rfl⟩
theorem ev_lenP {n : Nat} (hn : n ≤ 40) (a : Ev (isPat n) t σ H) {r : List V → Hp → VK → Prop} (hr : ∀ (x : Str) H Q, x.length ≤ sizeLine → Q (.int (x.length : Nat)) H → r [.str x] H Q) : Ev (isV (.int (n : Int))) (tCB r (tCons t tNil)) σ H := fun H1 s1 Q q =>
  a H1 s1 _ fun H2 z s2 ⟨x, ez, ok⟩ => by
    subst ez
    refine hr x H2 _ (szl (m := 1000) (by have := ok.1; omega) (by decide)) (q _ _ s2 ?_)
    show V.int (x.length : Nat) = _
    rw [ok.1]
theorem ed_tupP {n : Nat} (sw : StyW X W1) (a : EvD S X W B W1 B1 (isPat n) t σ H) : EvD S X W B W1 B1 (isTP n 1 1) (tTup (tCons t tNil)) σ H := fun H1 s1 w1 Q q =>
  a H1 s1 w1 _ fun H2 z s2 w2 ⟨y, ez, ok⟩ => ⟨sz (n := 1) (by decide), fun U nU => q _ _ (s2.trans (KeepX.of (same_new nU))) (w2.same sw (same_new nU)) ⟨U, [y], rfl, by rw [upd_same, ez]; rfl, Nat.le_refl _, Nat.le_refl _, fun z hz => by rw [List.mem_singleton.mp hz]; exact ok⟩⟩
/-- a, b = e, f, where one is a cell -/
theorem asg2_ed {i j : Nat} {u : TS} {D : Ends} (ha : StyK S X Ra) (hb : ∀ H z p o, H p = none → Rb H z → Rb (upd H p o) z) (ha2 : ∀ H z p o, H p = none → Ra H z → Ra (upd H p o) z) (sw : StyW X W2) (a : EvD S X W B W1 B1 Ra ta σ H) (b : EvD S X W1 B1 W2 B2 Rb tb σ H) (w : Wld S X W B H)
    (q : ∀ H2 x y, KeepX (XS S X) H H2 → Wld S X W2 B2 H2 → Ra H2 x → Rb H2 y → u D ((σ.set i (some x)).set j (some y)) H2) : tSeq (tAsg (tTup (tCons ta (tCons tb tNil))) (gTup K 2 (gCons (gName i) (gCons (gName j) gNil)))) u D σ H :=
  a H (KeepX.refl _ _) w _ fun H2 x s2 w2 gx => b H2 s2 w2 _ fun H3 y s3 w3 gy => ⟨sz (n := 2) (by decide), fun T nT => ⟨T, _, rfl, SqT.of upd_same, rfl, _, _, rfl, _, _, rfl, rfl,
    q _ x y ((s2.trans s3).trans (KeepX.of (same_new nT))) (w3.same sw (same_new nT)) (ha2 _ _ _ _ nT (ha _ _ _ _ _ w2 s3 gx)) (hb _ _ _ _ nT gy)⟩⟩
end
end XT
/-! statements that draw; lists of one's own -/
namespace XT
open PySem PySem.Spec PyProof.Rows L2
section
variable {K : PySem.W.Frag} {S : Sm} {X : Ow} {W W1 W2 W3 : HpP} {B B1 B2 B3 : Int} {H H' : Hp} {R Ra Rb Rc : RV} {t ta tb tc te : TE} {σ : L2.St}
theorem KeepX.put {X : Ow} {L : Addr} {o : HO} (k : KeepX X H H') (n : H L = none) : KeepX X H (upd H' L o) := fun b o' c e => by
  rw [upd_ne (ne_of_none e n)]
  exact k b o' c e
theorem Wld.put {L : Addr} {xs : List V} {o : HO} (sw : StyW X W) (w : Wld S X W B H) (hL : H L = some (.lst xs)) (n : ¬ XS S X L) : Wld S X W B (upd H L o) := w.sim sw (Sim.put hL n)
/-- a new list of one's own -/
abbrev isNL (S : Sm) (X : Ow) (H0 : Hp) (xs : List V) : RV := fun H z => ∃ L, z = .ref L ∧ H L = some (.lst xs) ∧ H0 L = none ∧ ¬ XS S X L
theorem sk_nl (H0 : Hp) (xs : List V) : StyK S X (isNL S X H0 xs) := fun _ _ _ _ _ _ k ⟨L, ez, h, a, b⟩ => ⟨L, ez, k L _ b h, a, b⟩
theorem Wld.free (w : Wld S X W B H') (k : KeepX (XS S X) H H') {L : Addr} (e : H' L = none) : H L = none := by
  cases h : H L with
  | none => rfl
  | some o =>
    have := k L o (w.new e) h
    rw [e] at this
    cases this
theorem ed_nil (sw : StyW X W) : EvD S X W B W B (isNL S X H []) (tLst tNil) σ H := fun H1 k1 w1 Q q => ⟨sz (n := 0) (by decide), fun L nL => q _ _ (KeepX.of (same_new nL)) (w1.same sw (same_new nL)) ⟨L, rfl, upd_same, w1.free k1 nL, w1.new nL⟩⟩
theorem par3_ed {i j l : Nat} {u : TS} {D : Ends} (ha : StyK S X Ra) (hb : StyK S X Rb) (a : EvD S X W B W1 B1 Ra ta σ H) (b : EvD S X W1 B1 W2 B2 Rb tb σ H) (c : EvD S X W2 B2 W3 B3 Rc tc σ H) (w : Wld S X W B H)
    (q : ∀ H2 x y z, KeepX (XS S X) H H2 → Wld S X W3 B3 H2 → Ra H2 x → Rb H2 y → Rc H2 z → u D (((σ.set i (some x)).set j (some y)).set l (some z)) H2) : tSeq (tPar3 i j l (tCons ta (tCons tb (tCons tc tNil)))) u D σ H :=
  a H (KeepX.refl _ _) w _ fun H2 x s2 w2 gx => b H2 s2 w2 _ fun H3 y s3 w3 gy => c H3 (s2.trans s3) w3 _ fun H4 z s4 w4 gz => ⟨x, y, z, rfl, q H4 x y z ((s2.trans s3).trans s4) w4 (ha _ _ _ _ _ w3 s4 (ha _ _ _ _ _ w2 s3 gx)) (hb _ _ _ _ _ w3 s4 gy) gz⟩
theorem app_ed {i : Nat} {L : Addr} {xs : List V} {D : Ends} (hi : σ[i]? = some (some (.ref L))) (nX : ¬ XS S X L) (hL : H L = some (.lst xs)) (hz : xs.length < 1000) (a : EvD S X W B W1 B1 R te σ H) (w : Wld S X W B H)
    (q : ∀ H2 z, KeepX (XS S X) H H2 → Wld S X W1 B1 H2 → R H2 z → H2 L = some (.lst xs) → D.nx σ (upd H2 L (.lst (xs ++ [z])))) : tDrop (tBM K "list" rAppend (tVar i) (tCons te tNil)) D σ H :=
  ⟨.ref L, hi, .inl ⟨rfl, _, SqL.of hL⟩, a H (KeepX.refl _ _) w _ fun H2 z k2 w2 g => ⟨L, xs, z, rfl, rfl, k2 L _ nX hL, small64 (by omega), q H2 z k2 w2 g (k2 L _ nX hL)⟩⟩
theorem apps_ed {i : Nat} {L : Addr} {xs : List V} {D : Ends} {rest : TS} (hi : σ[i]? = some (some (.ref L))) (nX : ¬ XS S X L) (hL : H L = some (.lst xs)) (hz : xs.length < 1000) (a : EvD S X W B W1 B1 R te σ H) (w : Wld S X W B H)
    (q : ∀ H2 z, KeepX (XS S X) H H2 → Wld S X W1 B1 H2 → R H2 z → H2 L = some (.lst xs) → rest D σ (upd H2 L (.lst (xs ++ [z])))) : tSeq (tDrop (tBM K "list" rAppend (tVar i) (tCons te tNil))) rest D σ H := app_ed (D := { D with nx := rest D }) hi nX hL hz a w q
/-- for x in e -/
theorem for_edL {D : Ends} {g : TG} {tb : TS} (a : EvD S X W B W1 B1 R te σ H) (w : Wld S X W B H) (q : ∀ H2 z, KeepX (XS S X) H H2 → Wld S X W1 B1 H2 → R H2 z → tFor (iList K (tC z)) g tb D σ H2) : tFor (iList K te) g tb D σ H := a H (KeepX.refl _ _) w _ fun H2 z k2 w2 g2 => q H2 z k2 w2 g2
theorem fors_edL {D : Ends} {g : TG} {tb rest : TS} (a : EvD S X W B W1 B1 R te σ H) (w : Wld S X W B H) (q : ∀ H2 z, KeepX (XS S X) H H2 → Wld S X W1 B1 H2 → R H2 z → tFor (iList K (tC z)) g tb { D with nx := rest D } σ H2) : tSeq (tFor (iList K te) g tb) rest D σ H := a H (KeepX.refl _ _) w _ fun H2 z k2 w2 g2 => q H2 z k2 w2 g2
/-- a, b = e, f, one of them a cell; nothing is drawn -/
theorem asg2_ev {i j : Nat} {u : TS} {D : Ends} (ha : Sty Ra) (hb : Sty Rb) (a : Ev Ra ta σ H) (b : Ev Rb tb σ H)
    (q : ∀ H2 x y, Same H H2 → Ra H2 x → Rb H2 y → u D ((σ.set i (some x)).set j (some y)) H2) : tSeq (tAsg (tTup (tCons ta (tCons tb tNil))) (gTup K 2 (gCons (gName i) (gCons (gName j) gNil)))) u D σ H :=
  a H (Same.refl _) _ fun H2 x s2 gx => b H2 s2 _ fun H3 y s3 gy => ⟨sz (n := 2) (by decide), fun T nT => ⟨T, _, rfl, SqT.of upd_same, rfl, _, _, rfl, _, _, rfl, rfl,
    q _ x y ((s2.trans s3).trans (same_new nT)) (ha _ _ _ (same_new nT) (ha _ _ _ s3 gx)) (hb _ _ _ (same_new nT) gy)⟩⟩
/-- [i for i in range(n) if t] -/
theorem ev_lcRF {i n : Nat} {tt : TT} (p : Nat → Bool) (hn : n ≤ 1000) (hw : ∀ z : V, wipe ((wipe σ [i]).set i (some z)) [i] = wipe σ [i]) (he : ∀ z : V, ((wipe σ [i]).set i (some z))[i]? = some (some z)) (a : Ev (isV (.int (n : Int))) ta σ H)
    (b : ∀ (j : Nat) (H1 : Hp), j < n → Same H H1 → EvT (p j) tt ((wipe σ [i]).set i (some (.int (j : Int)))) H1) : Ev (isLV (((List.range n).filter p).map fun (m : Nat) => V.int (m : Int))) (tLc (iRng1 (tCons ta tNil)) (gName i) tt (tVar i) [i]) σ H := fun H1 s1 Q q =>
  a H1 s1 _ fun H2 x s2 ex => by
    subst ex
    refine ⟨(n : Int), rfl, by omega, by omega, fun D nD => ?_⟩
    refine lcp_range (n := n) (p := p) (f := fun (m : Nat) => .int (m : Int)) nD (small64 hn) (fun j H3 hj s3 => ?_) (fun H3 s3 hD => q _ _ (s2.trans s3) ⟨D, rfl, hD⟩)
    intro R1 R2 r1 r2
    rw [Int.zero_add]
    refine ⟨hw _, b j H3 hj ((s1.trans s2).trans s3) H3 (Same.refl _) _ fun H4 s4 => ?_⟩
    cases hp : p j with
    | true => exact iteT ⟨_, he _, r2 hp _ s4⟩
    | false => exact iteF (r1 hp _ s4)
theorem ifs_no0 {b : Bool} {t : TT} {rest : TS} {D : Ends} (h : EvT b t σ H) (e : b = false) (q : ∀ H2, Same H H2 → rest D σ H2) : tSeq (tIfS t tNever tNext) rest D σ H := if_no h e q
/-- (a,), (a, b) of given values -/
theorem ev_tv1 {x : V} (a : Ev (isV x) ta σ H) : Ev (isTV [x]) (tTup (tCons ta tNil)) σ H := fun H1 s1 Q q => a H1 s1 _ fun H2 u s2 eu => ⟨sz (n := 1) (by decide), fun T nT => q _ _ (s2.trans (same_new nT)) ⟨T, rfl, by rw [upd_same, eu]⟩⟩
theorem ev_tv2 {x y : V} (a : Ev (isV x) ta σ H) (b : Ev (isV y) tb σ H) : Ev (isTV [x, y]) (tTup (tCons ta (tCons tb tNil))) σ H := fun H1 s1 Q q => a H1 s1 _ fun H2 u s2 eu => b H2 (s1.trans s2) _ fun H3 v s3 ev => ⟨sz (n := 2) (by decide), fun T nT => q _ _ ((s2.trans s3).trans (same_new nT)) ⟨T, rfl, by rw [upd_same, eu, ev]⟩⟩
theorem ifs_ev {b : Bool} {t : TT} {u rest : TS} {D : Ends} (h : EvT b t σ H) (q1 : b = true → ∀ H2, Same H H2 → u { D with nx := rest D } σ H2) (q2 : b = false → ∀ H2, Same H H2 → rest D σ H2) : tSeq (tIfS t u tNext) rest D σ H := h H (Same.refl _) _ fun H2 s2 => by
  cases b with
  | true => exact iteT (q1 rfl H2 s2)
  | false => exact iteF (q2 rfl H2 s2)
theorem if_ev {b : Bool} {t : TT} {u : TS} {D : Ends} (h : EvT b t σ H) (q1 : b = true → ∀ H2, Same H H2 → u D σ H2) (q2 : b = false → ∀ H2, Same H H2 → D.nx σ H2) : tIfS t u tNext D σ H := h H (Same.refl _) _ fun H2 s2 => by
  cases b with
  | true => exact iteT (q1 rfl H2 s2)
  | false => exact iteF (q2 rfl H2 s2)
/-- a list display -/
abbrev isLO (S : Sm) (X : Ow) (Rs : List RV) : RV := fun H z => ∃ L vs, z = .ref L ∧ H L = some (.lst vs) ∧ AllV Rs H vs ∧ ¬ XS S X L
theorem ed_lst {Rs : List RV} {ta : TA} (sw : StyW X W1) (hs : StyA Rs) (hl : Rs.length ≤ 1000) (a : EvDA S X W B W1 B1 Rs ta σ H) : EvD S X W B W1 B1 (isLO S X Rs) (tLst ta) σ H := fun H1 k1 w1 Q q =>
  a H1 k1 w1 _ fun H2 vs k2 w2 gv => ⟨by rw [allV_len gv]; exact sz hl, fun L nL => q _ _ (k2.trans (KeepX.of (same_new nL))) (w2.same sw (same_new nL)) ⟨L, vs, rfl, upd_same, allV_same hs (same_new nL) gv, w2.new nL⟩⟩
theorem allV_kx : ∀ {Rs : List RV} {H H' : Hp} {vs : List V}, (∀ R ∈ Rs, StyK S X R) → Wld S X W B H → KeepX (XS S X) H H' → AllV Rs H vs → AllV Rs H' vs
  | [], _, _, [], _, _, _, h => h
  | R :: Rs, _, _, v :: vs, hs, w, e, h => ⟨hs R List.mem_cons_self _ _ _ _ _ w e h.1, allV_kx (fun R' h' => hs R' (List.mem_cons_of_mem _ h')) w e h.2⟩
/-- ''.join of signs that are drawn -/
theorem ed_joinP {n : Nat} {r : V → List V → Hp → VK → Prop} (hn : n ≤ 1000) (a : EvD S X W B W1 B1 (isLG S X (fun z => ∃ c : Nat, z = .str ⟨#[c]⟩ ∧ sgn3 c = true) n) te σ H)
    (hr : ∀ (cs : List Nat) p H Q, H p = some (.lst ((cs.map fun c => (⟨#[c]⟩ : Str)).map V.str)) → cs.length ≤ 1000 → Q (.str (Str.join Str.empty (cs.map fun c => (⟨#[c]⟩ : Str)))) H → r (.str "") [.ref p] H Q) : EvD S X W B W1 B1 (isPat n) (tM1 r (tC (.str "")) te) σ H := fun H1 s1 w1 Q q => by
  refine ⟨⟨_, rfl⟩, a H1 s1 w1 _ fun H2 z s2 w2 ⟨L, vs, ez, hL, hl, hG, nX⟩ => ?_⟩
  obtain ⟨cs, e, hc⟩ : ∃ cs : List Nat, vs = (cs.map fun c => (⟨#[c]⟩ : Str)).map V.str ∧ ∀ c ∈ cs, sgn3 c = true := by
    clear hL hl
    induction vs with
    | nil => exact ⟨[], rfl, by simp⟩
    | cons v vs ih =>
      obtain ⟨cs, e, hc⟩ := ih fun v hv => hG v (List.mem_cons_of_mem _ hv)
      obtain ⟨c, ec, h1⟩ := hG v List.mem_cons_self
      refine ⟨c :: cs, by rw [e, ec]; rfl, fun x hx => ?_⟩
      rcases List.mem_cons.mp hx with rfl | hx
      · exact h1
      · exact hc x hx
  subst e ez
  rw [List.length_map, List.length_map] at hl
  have ok := okW_join cs hc
  rw [hl] at ok
  exact hr cs L H2 _ hL (by omega) (q _ _ s2 w2 ⟨_, rfl, ok⟩)
/-- a + b, texts -/
theorem of_addS {a b : Str} (h : a.length + b.length ≤ 1000) : OpF (isV (.str a)) (isV (.str b)) rAddStr (isV (.str (a ++ b))) := fun H x y ex ey Q q => ⟨a, b, ex, ey, szl (m := 1000) h (by decide), q _ _ (Same.refl _) rfl⟩
theorem of_addP {n m : Nat} (h : n + m ≤ 1000) : OpF (isPat n) (isPat m) rAddStr (isPat (n + m)) := fun H x y ⟨a, ex, ha⟩ ⟨b, ey, hb⟩ Q q => by
  refine ⟨a, b, ex, ey, szl (m := 1000) (by have := ha.1; have := hb.1; omega) (by decide), q _ _ (Same.refl _) ⟨_, rfl, ?_, fun c hc => ?_⟩⟩
  · show (a.cps ++ b.cps).size = _
    rw [Array.size_append]
    have h1 : a.cps.size = n := ha.1
    have h2 : b.cps.size = m := hb.1
    rw [h1, h2]
  · rw [str_app_list] at hc
    rcases List.mem_append.mp hc with hc | hc
    · exact ha.2 c hc
    · exact hb.2 c hc
end
end XT
/-! _law_draw, below great numbers; _law_pick of numbers -/
namespace XT
open PySem PySem.Spec PyProof.Rows L2
section
variable {P : Program} {w : World} {K : PySem.W.Frag} {mg : Str → Option Value} {base : Heap}
def spDrawI : Sp := fun vs H Q _ => ∃ (S : Sm) (t m : Int), vs = [.ref S.s, .int m] ∧ Strm S H t ∧ 0 < m ∧ m.natAbs < 2 ^ 60 ∧ t < 1000000000000 ∧
  ∀ (H' : Hp) (r t' : Int), Keep S H H' → Strm S H' t' → t ≤ t' → t' ≤ t + 1 → 0 ≤ r → r < m → Q (.int r) H'
theorem ok_drawI {f : Addr} {fd : FuncData} {k : Nat} (F : Fun K "_law_draw" "_law_draw" sDraw f fd) (ml : mg "len" = none) : FnOk P w K mg base CX0 (k + 1) f fd ["_law_stream_here", "_law_many"] spDrawI := by
  refine F.ok scD (fun vs H Q E h => ?_) (fun cdv A outer s H vs Q E hr h => ?_)
  · obtain ⟨S, t, m, rfl, _⟩ := h
    rfl
  · obtain ⟨S, t, m, rfl, ⟨big0, hS0⟩, m0, m1, t1, q⟩ := h
    refine ⟨_, pss_cons (ps_while PassesOwn.never
        (pt_cmpR (op_neD hr.units) (pe_ix ix_list (pv 0) pe_int (fun _ _ => rfl)) (pe_lst pa_nil) (nomark _))
        (pss_cons (ps_set (i := 2) scD.nd rfl (.inl rfl) (pe_ix ix_list (pe_ix ix_list (pv 0) pe_int (fun _ _ => rfl)) pe_int (fun _ _ => rfl)))
        (pss_cons (ps_if (pt_cmpR op_gt (pv 2) pe_int (nomark _))
          (pss_cons (ps_asg (pe_op op_fdivW (pv 2) (pv 1)) (pg_sub (pe_ix ix_list (pv 0) pe_int (fun _ _ => rfl)) pe_int set_list))
          (pss_one (ps_ret (pe_op op_mod (pv 2) (pv 1))))) pss_nil)
        (pss_one (ps_expr (pe_bm PySem.F.plainAttrs_list PySem.F.slot_list_pop PySem.F.type_list_pop mt_popAt (pe_ix ix_list (pv 0) pe_int (fun _ _ => rfl)) (pa_cons pe_int pa_nil)))))))
      (pss_cons (ps_set (i := 3) scD.nd rfl (.inl rfl) (pe_op op_add (pe_ix ix_list (pv 0) pe_int (fun _ _ => rfl)) pe_int))
      (pss_cons (ps_asg (pv 3) (pg_sub (pv 0) pe_int set_list))
      (pss_cons (ps_set (i := 4) scD.nd rfl (.inl rfl) (pe_op op_mod (pe_ix ix_list (pe_ix ix_list (pv 0) pe_int (fun _ _ => rfl)) (pe_op op_mod (pv 3) (pe_callB call_len_seq (by rfl) ml PySem.boot_len (pa_cons (pe_ix ix_list (pv 0) pe_int (fun _ _ => rfl)) pa_nil))) (fun _ _ => rfl)) pe_int))
      (pss_cons (ps_set (i := 5) scD.nd rfl (.inl rfl) (pe_op op_mod (pe_op op_add (pe_op op_add (pe_op op_mul (pv 4) (pe_op op_add pe_int (pe_op op_mul pe_int (pv 3)))) (pe_op op_mul (pe_op op_mul pe_int (pv 3)) (pv 3))) pe_int) pe_int))
      (pss_one (ps_ret (pe_op op_mod (pe_op op_fdiv (pe_op op_mod (pe_op op_mul (pv 5) (pv 5)) pe_int) pe_int) (pv 1)))))))), ?_⟩
    refine ⟨fun n σ H1 => ∃ big y2, σ = [some (.ref S.s), some (.int m), y2, none, none, none] ∧ n = big.length ∧ StrmB S H1 t big ∧ Keep S H H1,
      ⟨big0.length, big0, none, rfl, rfl, hS0, Keep.refl S H⟩, ?_⟩
    rintro n σ H1 ⟨big, y2, rfl, rfl, hS, hk⟩
    -- while stream[0] != []
    refine ⟨.ref S.s, rfl, S.s, _, 0, .ref S.p, rfl, rfl, SqL.of hS.hs, rfl, Nat.zero_le _, fun z nz => ?_⟩
    have sm : Same H1 (upd H1 z (.lst [])) := same_new nz
    have hz : (upd H1 z (.lst [])) z = some (.lst []) := upd_same
    have hS' := hS.same sm
    have hk' : Keep S H (upd H1 z (.lst [])) := hk.trans (Keep.of sm)
    generalize upd H1 z (.lst []) = H2 at *
    clear hS hk sm nz
    refine ⟨_, _, .lst (SqL.of hS'.hp) (dpInts big), .lst (SqL.of hz) .nil, ke_shaped big, rfl, _, rfl, ?_⟩
    cases big with
    | cons x rest =>
      have e : (!PyData.eqv (.list ((x :: rest).map PyData.int)) (.list [])) = true := rfl
      rw [e]
      refine iteT ?_
      refine ⟨fun σ' H' => ∃ y2, σ' = [some (.ref S.s), some (.int m), y2, none, none, none] ∧ StrmB S H' t rest ∧ Keep S H H', ?_, ?_⟩
      · rintro σ' H' ⟨y, rfl, h1, h2⟩
        exact ⟨rest.length, Nat.lt_succ_self _, rest, y, rfl, rfl, h1, h2⟩
      · refine ⟨.ref S.s, rfl, S.s, _, 0, .ref S.p, rfl, rfl, SqL.of hS'.hs, rfl, S.p, _, 0, .int x, rfl, rfl, SqL.of hS'.hp, atI_nat (j := 0) rfl, ?_⟩
        refine ⟨.int x, rfl, x, 0, rfl, rfl, _, rfl, ite2 (fun hx => ?_) (fun hx => ?_)⟩
        · refine ⟨.int x, rfl, .int m, rfl, x, m, rfl, rfl, wide_div m0 m1 (by decide) (by decide), ?_⟩
          refine ⟨.ref S.s, rfl, S.s, _, 0, .ref S.p, rfl, rfl, SqL.of hS'.hs, rfl, S.p, _, 0, 0, rfl, rfl, hS'.hp, ix0 (Nat.succ_pos _), ?_⟩
          refine ⟨.int x, rfl, .int m, rfl, x, m, rfl, rfl, m0, ?_⟩
          refine q _ _ t (fun b o n1 n2 eb => ?_) ⟨(x / m) :: rest, ?_⟩ (Int.le_refl _) (by omega) (Int.emod_nonneg _ (by omega)) (Int.emod_lt_of_pos _ m0)
          · rw [upd_ne n2]; exact hk' b o n1 n2 eb
          · refine ⟨?_, upd_same, ?_, hS'.sp, hS'.sq, hS'.pq, hS'.ne, hS'.t0⟩
            · rw [upd_ne hS'.sp]; exact hS'.hs
            · rw [upd_ne hS'.pq.symm]; exact hS'.hq
        · refine ⟨.ref S.s, rfl, S.s, _, 0, .ref S.p, rfl, rfl, SqL.of hS'.hs, rfl, .inl ⟨rfl, _, SqL.of hS'.hp⟩, S.p, _, 0, 0, .int x, rfl, rfl, hS'.hp, by decide, by decide, sq0 (Nat.succ_pos _), rfl, ?_⟩
          refine ⟨_, rfl, ⟨?_, upd_same, ?_, hS'.sp, hS'.sq, hS'.pq, hS'.ne, hS'.t0⟩, fun b o n1 n2 eb => ?_⟩
          · rw [upd_ne hS'.sp]; exact hS'.hs
          · rw [upd_ne hS'.pq.symm]; exact hS'.hq
          · rw [upd_ne n2]; exact hk' b o n1 n2 eb
    | nil =>
      have e : (!PyData.eqv (.list (([] : List Int).map PyData.int)) (.list [])) = false := rfl
      rw [e]
      refine iteF ?_
      have t0 := hS'.t0
      -- turn = stream[2] + 1; stream[2] = turn
      refine ⟨.ref S.s, rfl, S.s, _, 2, .int t, rfl, rfl, SqL.of hS'.hs, rfl, t, 1, rfl, rfl, ?_⟩
      refine ⟨.int (t + 1), rfl, .ref S.s, rfl, S.s, _, 2, 2, rfl, rfl, hS'.hs, rfl, ?_⟩
      generalize hH3 : upd H2 S.s (.lst ([V.ref S.p, .ref S.q, .int t].set 2 (.int (t + 1)))) = H3
      have hS3 : StrmB S H3 (t + 1) [] := by
        subst hH3
        refine ⟨upd_same, ?_, ?_, hS'.sp, hS'.sq, hS'.pq, hS'.ne, by omega⟩
        · rw [upd_ne hS'.sp.symm]; exact hS'.hp
        · rw [upd_ne hS'.sq.symm]; exact hS'.hq
      have hk3 : Keep S H H3 := fun b o n1 n2 eb => by
        subst hH3
        rw [upd_ne n1]; exact hk' b o n1 n2 eb
      clear hH3
      -- cell
      have hl : (0 : Int) < ((S.cs.map V.int).length : Nat) := by rw [List.length_map]; have := hS'.ne; omega
      have hm1 : (t + 1) % ((S.cs.map V.int).length : Nat) < ((S.cs.map V.int).length : Nat) := Int.emod_lt_of_pos _ hl
      have hm0 : 0 ≤ (t + 1) % ((S.cs.map V.int).length : Nat) := Int.emod_nonneg _ (by omega)
      obtain ⟨j, hj⟩ : ∃ j : Nat, (t + 1) % ((S.cs.map V.int).length : Nat) = j := ⟨_, (Int.toNat_of_nonneg hm0).symm⟩
      have hjl : j < S.cs.length := by rw [List.length_map] at hm1 hj; omega
      have hat : atI (S.cs.map V.int) ((t + 1) % ((S.cs.map V.int).length : Nat)) = some (.int S.cs[j]) := by
        rw [hj]
        refine atI_nat ?_
        rw [List.getElem?_map, List.getElem?_eq_getElem hjl]
        rfl
      refine ⟨.ref S.s, rfl, S.s, _, 1, .ref S.q, rfl, rfl, SqL.of hS3.hs, rfl, .int (t + 1), rfl, .ref S.s, rfl, S.s, _, 1, .ref S.q, rfl, rfl, SqL.of hS3.hs, rfl, S.q, _, rfl, .inl (SqL.of hS3.hq), _, _, rfl, rfl, hl, ?_⟩
      have k87 : (0 : Int) < 2147483587 := by decide
      have k47 : (0 : Int) < 2147483647 := by decide
      have k29 : (0 : Int) < 2147483629 := by decide
      refine ⟨S.q, _, _, .int S.cs[j], rfl, rfl, SqL.of hS3.hq, hat, S.cs[j], _, rfl, rfl, k87, ?_⟩
      obtain ⟨c1, c0⟩ := pm87 (x := S.cs[j])
      obtain ⟨c, hc⟩ : ∃ c, S.cs[j] % 2147483587 = c := ⟨_, rfl⟩
      rw [hc] at c1 c0
      -- mixed
      refine ⟨.int c, congrArg (fun x => some (some (V.int x))) hc, .int (t + 1), rfl, 40692, t + 1, rfl, rfl, .inl ⟨by decide, by decide⟩, 69621, 40692 * (t + 1), rfl, rfl, c, 69621 + 40692 * (t + 1), rfl, rfl, .inl ⟨by omega, by omega⟩, ?_⟩
      refine ⟨.int (t + 1), rfl, 48271, t + 1, rfl, rfl, .inl ⟨by decide, by decide⟩, .int (t + 1), rfl, 48271 * (t + 1), t + 1, rfl, rfl, .inr ⟨by omega, by omega⟩, c * (69621 + 40692 * (t + 1)), 48271 * (t + 1) * (t + 1), rfl, rfl, _, 47, rfl, rfl, c * (69621 + 40692 * (t + 1)) + 48271 * (t + 1) * (t + 1) + 47, 2147483647, rfl, rfl, k47, ?_⟩
      obtain ⟨d1, d0⟩ := pm31 (x := c * (69621 + 40692 * (t + 1)) + 48271 * (t + 1) * (t + 1) + 47)
      obtain ⟨d, hd⟩ : ∃ d, (c * (69621 + 40692 * (t + 1)) + 48271 * (t + 1) * (t + 1) + 47) % 2147483647 = d := ⟨_, rfl⟩
      rw [hd] at d1 d0
      have ed : some (some (V.int ((c * (69621 + 40692 * (t + 1)) + 48271 * (t + 1) * (t + 1) + 47) % 2147483647))) = some (some (V.int d)) := congrArg (fun x => some (some (V.int x))) hd
      refine ⟨.int d, ed, .int d, ed, d, d, rfl, rfl, .inl ⟨by omega, by omega⟩, d * d, 2147483629, rfl, rfl, k29, d * d % 2147483629, 16, rfl, rfl, ⟨by decide, by decide⟩, .int m, rfl, _, m, rfl, rfl, m0, ?_⟩
      exact q _ _ (t + 1) hk3 ⟨_, hS3⟩ (by omega) (Int.le_refl _) (Int.emod_nonneg _ (by omega)) (Int.emod_lt_of_pos _ m0)
def spDrawW : Sp := fun vs H Q _ => ∃ (S : Sm) (t : Int) (m : Nat), vs = [.ref S.s, .int (m : Int)] ∧ Strm S H t ∧ 0 < m ∧ m < 2 ^ 60 ∧ t < 100000000 ∧
  ∀ (H' : Hp) (r : Nat) (t' : Int), Step S H t H' t' 1 → r < m → Q (.int (r : Int)) H'
theorem drawW {k : Nat} {x : Str} (D : DefR P w K mg base k x spDrawI) : DefR P w K mg base k x spDrawW := by
  obtain ⟨f, F, h1, h2⟩ := D
  refine ⟨f, F.imp fun vs H Q E ⟨S, t, m, ev, st, m0, m1, t1, q⟩ => ⟨S, t, m, ev, st, by omega, by rw [Int.natAbs_natCast]; exact m1, by omega, fun H' r t' k s a b r0 r1 => ?_⟩, h1, h2⟩
  obtain ⟨n, rfl⟩ := Int.eq_ofNat_of_zero_le r0
  exact q H' n t' ⟨k, s, a, b⟩ (by omega)
theorem drawWN {k : Nat} {x : Str} (D : DefR P w K mg base k x spDrawW) : DefR P w K mg base k x spDrawN := by
  obtain ⟨f, F, h1, h2⟩ := D
  exact ⟨f, F.imp fun vs H Q E ⟨S, t, m, ev, st, m0, m1, t1, q⟩ => ⟨S, t, m, ev, st, m0, by omega, t1, q⟩, h1, h2⟩
end
end XT
/-! a comprehension over a text that draws; cuts from the end -/
namespace XT
open PySem PySem.Spec PyProof.Rows L2
section
variable {K : PySem.W.Frag} {g : TG} {tt : TT} {te : TE} {vs : List Nat} {σ : L2.St} {H1 : Hp} {D : Addr} {Qd : Hp → Prop} {S : Sm} {t0 : Int} {G : PyData → Prop} {d : Nat} {x : Str}
theorem lcz_str (st0 : Strm S H1 t0) (nD : H1 D = none) (hn : x.cps.size ≤ 1000) (ht : ∀ (i c : Nat) H t, x.cps.toList[i]? = some c → Step S H1 t0 H t (d * i) → NwOk S H (Nod S D) → TurnZ K S D G d g tt te vs σ (.str ⟨#[c]⟩) H t) (hd : ∀ H, PvZ K S G d H1 t0 D x.cps.size H → Qd H) :
    ∃ W : Nat → Nat → Hp → Prop, (∃ m, W 0 m (upd H1 D (.lst []))) ∧ ∀ i m H, W i m H →
      ((Its x).stop i H ∧ Qd H) ∨ ((Its x).go i H ∧ ∃ Nx : Hp → Prop, (∀ H', Nx H' → ∃ m', m' < m ∧ W (i + 1) m' H') ∧ ∀ v H', (Its x).yld i H v H' → g v (wipe σ vs) H' fun σ2 H2 => wipe σ2 vs = wipe σ vs ∧ tt σ2 H2 fun b H3 =>
        if b = true then te σ2 H3 fun y H4 => ∃ acc, H4 D = some (.lst acc) ∧ acc.length < sizeLine ∧ Nx (upd H4 D (.lst (acc ++ [y]))) else Nx H3) :=
  lc_str (fun i H => PvZ K S G d H1 t0 D i H) ⟨[], [], t0, ((Step.refl st0).same (same_new nD)).mono (Nat.zero_le _), upd_same, .nil, by simp, rfl⟩ (fun i c H hc h => pvz_turn st0 nD (by have := (List.getElem?_eq_some_iff.mp hc).1; rw [Array.length_toList] at this; omega) h fun t s o => ht i c H t hc s o) hd
end
theorem sIx_neg {n k d : Nat} (hk : 0 < k) : HT.sIx n d (some (-(k : Int))) = n - k := by
  show (if -(k : Int) < 0 then (-(k : Int) + (n : Int)).toNat else min (-(k : Int)).toNat n) = n - k
  rw [if_pos (by omega)]
  omega
theorem cutV_last (xs : List V) {k : Nat} (hk : 0 < k) : cutV xs (some (-(k : Int))) none = xs.drop (xs.length - k) := by
  unfold cutV
  rw [sIx_neg hk, HT.sIx_none]
  exact List.take_of_length_le (by rw [List.length_drop]; exact Nat.le_refl _)
theorem cutV_but (xs : List V) {k : Nat} (hk : 0 < k) : cutV xs none (some (-(k : Int))) = xs.take (xs.length - k) := by
  unfold cutV
  rw [sIx_neg hk, HT.sIx_none, List.drop_zero, Nat.sub_zero]
end XT
/-! _law_some_masks -/
namespace XT
open PySem PySem.Spec PyProof.Rows L2
section
variable {S : Sm} {X : Ow} {W W1 W2 : HpP} {B B1 B2 : Int} {H : Hp} {ta tb : TE} {σ : L2.St}
theorem ed_drawW {m : Nat} (sw : StyW X W2) (m0 : 0 < m) (m1 : m < 2 ^ 60) (hB : B2 < 100000000) (a : EvD S X W B W1 B1 (isV (.ref S.s)) ta σ H) (b : EvD S X W1 B1 W2 B2 (isV (.int (m : Int))) tb σ H) : EvD S X W B W2 (B2 + 1) (fun _ z => ∃ r : Nat, z = .int (r : Int) ∧ r < m) (tDf spDrawW (tCons ta (tCons tb tNil))) σ H := fun H1 s1 w1 Q q =>
  a H1 s1 w1 _ fun H2 x s2 w2 ex => b H2 (s1.trans s2) w2 _ fun H3 y s3 w3 ey => by
    obtain ⟨t, st, ht⟩ := w3.t
    refine ⟨S, t, m, by rw [ex, ey], st, m0, m1, by omega, fun H4 r t4 s4 hr => ?_⟩
    obtain ⟨w4, k4⟩ := w3.step sw st ht s4
    exact q _ _ ((s2.trans s3).trans k4) w4 ⟨r, rfl, hr⟩
abbrev isM2 (n : Nat) : RV := fun _ z => ∃ m : Nat, z = .int (m : Int) ∧ m < 2 ^ n
theorem ed_mo {n : Nat} {ws : List Str} {B3 : Int} (sw : StyW X W2) (hB : B2 < 99000) (h3 : B2 + 41 = B3) (a : EvD S X W B W1 B1 (isV (.ref S.s)) ta σ H) (b : EvD S X W1 B1 W2 B2 (fun H z => ∃ T, z = .ref T ∧ WideT H T ws n) tb σ H) : EvD S X W B W2 B3 (isM2 n) (tDf spMaskOf (tCons ta (tCons tb tNil))) σ H := h3 ▸ fun H1 s1 w1 Q q =>
  a H1 s1 w1 _ fun H2 x s2 w2 ex => b H2 (s1.trans s2) w2 _ fun H3 y s3 w3 ⟨T, ey, hT⟩ => by
    obtain ⟨t, st, ht⟩ := w3.t
    refine ⟨S, t, T, ws, n, by rw [ex, ey], st, by omega, hT, fun H4 m t4 s4 hm _ => ?_⟩
    obtain ⟨w4, k4⟩ := w3.step sw st ht s4
    exact q _ _ ((s2.trans s3).trans k4) w4 ⟨m, rfl, hm⟩
theorem of_xorM {n : Nat} : OpF (isM2 n) (isM2 n) rXor (isM2 n) := fun H x y ⟨a, ex, ha⟩ ⟨b, ey, hb⟩ Q q => ⟨a, b, ex, ey, q _ _ (Same.refl _) ⟨a ^^^ b, congrArg V.int (bx a b), xor_lt ha hb⟩⟩
end
theorem of_ixC {x : Str} {i c : Nat} (l : x.length ≤ 1000) (h : x.cps.toList[i]? = some c) : OpF (isV (.str x)) (isV (.int (i : Int))) rIxS (isV (.str ⟨#[c]⟩)) := fun H a b ea eb Q q => ⟨x, (i : Int), _, ea, eb, szl (m := 1000) l (by decide), atI_nat h, q _ _ (Same.refl _) rfl⟩
theorem of_neC {a b : Str} : OpF (isV (.str a)) (isV (.str b)) rNe (isB (!decide (V.str a = V.str b))) := fun H x y ex ey Q q => by
  subst ex ey
  exact ⟨rfl, q _ _ (Same.refl _) rfl⟩
/-- whether the pattern has no ? there -/
def noQ (i : Nat) : V → Bool
  | .str x => !decide (x.cps.toList[i]? = some 63)
  | _ => false
theorem evt_noQ {x : Str} {n i j k : Nat} {σ : L2.St} {H : Hp} (ok : OkW n x) (hn : n ≤ 1000) (hi : i < n) (e1 : σ[j]? = some (some (.str x))) (e2 : σ[k]? = some (some (.int (i : Int)))) : EvT (noQ i (.str x)) (tTest (tOp rNe (tOp rIxS (tVar j) (tVar k)) (tC (.str "?")))) σ H := by
  have hl : x.cps.toList.length = n := by rw [Array.length_toList]; exact ok.1
  obtain ⟨c, hc⟩ : ∃ c, x.cps.toList[i]? = some c := ⟨_, List.getElem?_eq_getElem (by rw [hl]; exact hi)⟩
  have e : noQ i (.str x) = !decide (V.str ⟨#[c]⟩ = V.str "?") := by
    rw [q_str, strV_eq]
    show (!decide (x.cps.toList[i]? = some 63)) = _
    rw [hc]
    congr 1
    exact decide_eq_decide.mpr ⟨fun z => Option.some.inj z, fun z => by rw [z]⟩
  rw [e]
  exact evt_test (ev_op (sty_v _) (ev_op (sty_v _) (ev_var (sty_v _) e1 rfl) (ev_var (sty_v _) e2 rfl) (of_ixC (by rw [show x.length = n from ok.1]; exact hn) hc)) (ev_c _) of_neC)
theorem WideT.take {H H' : Hp} {T T' : Addr} {ws : List Str} {n c : Nat} (h : WideT H T ws n) (h1 : 1 ≤ c) (hT : H' T' = some (.tup ((ws.take c).map V.str))) : WideT H' T' (ws.take c) n :=
  ⟨hT, by rw [List.length_take]; have := h.l1; omega, by rw [List.length_take]; have := h.l6; omega, h.n1, h.n40, fun x hx => h.ok x (List.mem_of_mem_take hx)⟩
theorem WideT.last {H H' : Hp} {T T' : Addr} {ws : List Str} {n : Nat} (h : WideT H T ws n) (hT : H' T' = some (.tup ((ws.drop (ws.length - 1)).map V.str))) : WideT H' T' (ws.drop (ws.length - 1)) n :=
  ⟨hT, by rw [List.length_drop]; have := h.l1; omega, by rw [List.length_drop]; have := h.l6; omega, h.n1, h.n40, fun x hx => h.ok x (List.mem_of_mem_drop hx)⟩
theorem ev_cutL {xs : List V} {t : TE} {σ : L2.St} {H : Hp} (a : Ev (isTV xs) t σ H) : Ev (isTV (xs.drop (xs.length - 1))) (tSl rSlV t (tPart (tUn (rU fun i => .int (-i)) (tC (.int 1)))) tNoPart) σ H := fun H1 s1 Q q =>
  a H1 s1 _ fun H2 x s2 ⟨T, ex, hT⟩ => ⟨1, rfl, -(1 : Int), rfl, T, _, ex, hT, fun H3 p s3 hp => q _ _ (s2.trans s3) ⟨p, rfl, by rw [hp]; exact congrArg (fun l => some (HO.tup l)) (cutV_last xs (k := 1) (by decide))⟩⟩
section
variable {P : Program} {w : World} {K : PySem.W.Frag} {mg : Str → Option Value} {base : Heap}
abbrev nSk : List Str := ["_law_stream_here", "_law_wide_here", "_law_size", "_law_free", "_law_place", "_law_found", "_law_k", "_law_pattern"]
theorem scSk : FnScope nSk ["_law_stream_here", "_law_wide_here"] (defScope sLSomeMasks) := ⟨rfl, rfl, rfl, by decide +kernel, rfl, by decide +kernel, by decide +kernel⟩
def spSk : Sp := fun vs H Q _ => ∃ (S : Sm) (X : Ow) (W : HpP) (B : Int) (T : Addr) (ws : List Str) (n : Nat), vs = [.ref S.s, .ref T] ∧ StyW X W ∧ Wld S X W B H ∧ B < 90000 ∧ WideT H T ws n ∧
  ∀ H' z, KeepX (XS S X) H H' → Wld S X W (B + 300) H' → isLG S X (fun v => ∃ m : Nat, v = .int (m : Int) ∧ m < 2 ^ n) 8 H' z → Q z H'
theorem ok_sk {f : Addr} {fd : FuncData} {k : Nat} (B0 : Bl mg) (F : Fun K "_law_some_masks" "_law_some_masks" sLSomeMasks f fd) (dD : DefR P w K mg base 1 "_law_draw" spDrawW) (dM : DefR P w K mg base 3 "_law_mask_of" spMaskOf) : FnOk P w K mg base CX0 (k + 4) f fd ["_law_stream_here", "_law_wide_here"] spSk := by
  refine F.ok scSk (fun vs H Q E h => ?_) (fun cdv A outer s H vs Q E hr0 h => ?_)
  · obtain ⟨S, X, W, B, T, ws, n, rfl, _⟩ := h
    rfl
  · obtain ⟨S, X, W, B, T, ws, n, rfl, sw, wd, hB, hw, q⟩ := h
    have hr : Room 3 (A.deeper (envOfC "_law_some_masks" (defScope sLSomeMasks) s.heap.objs.size f cdv)) := hr0.mono (by omega)
    have hr1 : Room 1 (A.deeper (envOfC "_law_some_masks" (defScope sLSomeMasks) s.heap.objs.size f cdv)) := hr0.mono (by omega)
    refine ⟨_, pss_cons (ps_par (i := 2) (j := 3) (by rfl) scSk.nd rfl rfl (by decide) rfl rfl (pa_cons (pe_callB call_len_str (by rfl) B0.len PySem.boot_len (pa_cons (pe_ix ix_tup (pv 1) pe_int (fun _ _ => rfl)) pa_nil)) (pa_cons pe_int pa_nil)) (by rfl))
      (pss_cons (ps_for PassesOwn.never rfl (pi_range1 (by rfl) B0.range (pa_cons (pv 2) pa_nil)) (pg_name (i := 4) scSk.nd rfl (by first | exact Or.inl rfl | exact Or.inr rfl))
      (pss_one (ps_if (PW.pt (pw_and (pt_cmpR (op_eqEL (Nat.lt_of_le_of_lt (Nat.le_add_right _ _) hr.units)) (pe_lc (own := [("_law_pattern", 7)]) (g := (gName 7)) (tt := (tTest (tOp rNe (tOp rIxS (tVar 7) (tVar 4)) (tC (.str "?"))))) (te := (tVar 7)) rfl scSk.nd (pi_tup (pv 1)) (blkOk_by (own := [("_law_pattern", 7)]) (N := nSk) (sc := defScope sLSomeMasks) (by decide +kernel))
          (fun _ _ _ _ _ => (pg_name (i := 7) scSk.nd rfl (Or.inl rfl))) (fun _ _ _ _ _ => pts_one (pt_cmpR op_ne (pe_ix ix_str (pv 7) (pv 4) (fun _ _ => rfl)) pe_str (nomark _))) (fun _ _ _ _ _ => pv 7)) (pe_lst pa_nil) (nomark _)) (pw_and1 (pt_cmpR op_eq (pe_def dD hr1 (by rfl) (pa_cons (pv 0) (pa_cons pe_int pa_nil))) pe_int (nomark _))))) (pss_one (ps_set (i := 3) scSk.nd rfl (by first | exact Or.inl rfl | exact Or.inr rfl) (pe_op op_add (pv 3) (pe_op op_shl pe_int (pe_op op_sub (pe_op op_sub (pv 2) pe_int) (pv 4)))))) pss_nil)))
      (pss_cons (ps_set (i := 5) scSk.nd rfl (by first | exact Or.inl rfl | exact Or.inr rfl) (pe_lst (pa_cons pe_int (pa_cons (pv 3) (pa_cons (pe_op op_sub (pe_op op_shl pe_int (pv 2)) pe_int) (pa_cons (pe_op op_xor (pv 3) (pe_op op_shl pe_int (pe_def dD hr1 (by rfl) (pa_cons (pv 0) (pa_cons (pv 2) pa_nil))))) (pa_cons (pe_def dD hr1 (by rfl) (pa_cons (pv 0) (pa_cons (pe_op op_shl pe_int (pv 2)) pa_nil))) pa_nil)))))))
      (pss_one (ps_ret (pe_op op_cat (pv 5) (pe_lc (own := [("_law_k", 6)]) (g := (gName 6)) (tt := tYes) (te := (tOp rXor (tDf spMaskOf (tCons (tVar 0) (tCons (tSl rSlV (tVar 1) tNoPart (tPart (tC (.int 1)))) tNil))) (tDf spMaskOf (tCons (tVar 0) (tCons (tSl rSlV (tVar 1) (tPart (tUn (rU fun i => .int (-i)) (tC (.int 1)))) tNoPart) tNil))))) rfl scSk.nd (pi_range1 (by rfl) B0.range (pa_cons pe_int pa_nil)) (blkOk_by (own := [("_law_k", 6)]) (N := nSk) (sc := defScope sLSomeMasks) (by decide +kernel))
          (fun _ _ _ _ _ => (pg_name (i := 6) scSk.nd rfl (Or.inl rfl))) (fun _ _ _ _ _ => pts_nil) (fun _ _ _ _ _ => pe_op op_xor (pe_def dM hr (by rfl) (pa_cons (pv 0) (pa_cons (pe_slice sl_tupV (pv 1) po_none (po_some pe_int)) pa_nil))) (pe_def dM hr (by rfl) (pa_cons (pv 0) (pa_cons (pe_slice sl_tupV (pv 1) (po_some (pe_un un_neg pe_int)) po_none) pa_nil)))))))))), ?_⟩
    obtain ⟨x0, hx0, hx0l, _⟩ := hw.hd
    have n40 := hw.n40
    have n1 := hw.n1
    have hv0 : atI (ws.map V.str) 0 = some (.str x0) := atI_nat (j := 0) (by rw [List.getElem?_map, hx0]; rfl)
    refine ⟨.ref T, rfl, T, _, 0, .str x0, rfl, rfl, SqT.of hw.h, hv0, x0, rfl, szl (m := 1000) (by omega) (by decide), ?_⟩
    rw [hx0l]
    refine ⟨_, _, rfl, .int (n : Int), rfl, (n : Int), rfl, by omega, by omega, for_range (lo := 0) (n := n) (fun i σ H' => ∃ (fr c : Nat) (z4 : Option V), σ = [some (.ref S.s), some (.ref T), some (.int (n : Int)), some (.int (fr : Int)), z4, none, none, none] ∧ KeepX (XS S X) H H' ∧ Wld S X W (B + i) H' ∧ fr = c * 2 ^ (n - i) ∧ c < 2 ^ i) ⟨0, 0, none, rfl, KeepX.refl _ _, wd.mono (by omega), by simp, by decide⟩ (fun i σ H2 hi h => ?_) (fun σ H2 h => ?_)⟩
    · obtain ⟨fr, c, z4, rfl, k2, wd2, hfr, hc⟩ := h
      rw [Int.zero_add]
      have hw2 := hw.kx wd k2
      have wl := hw.l6
      have e1 : Ev (isB ((ws.map V.str).filter (noQ i)).isEmpty) (tOp (rEqEL K) (tLc (iTup K (tVar 1)) (gName 7) (tTest (tOp rNe (tOp rIxS (tVar 7) (tVar 4)) (tC (.str "?")))) (tVar 7) [7]) (tLst tNil)) [some (.ref S.s), some (.ref T), some (.int (n : Int)), some (.int (fr : Int)), some (.int (i : Int)), none, none, none] H2 :=
        ev_op (sty_lV _) (ev_lcTF _ (by rw [List.length_map]; omega) (ev_var (sty_tv _) rfl ⟨T, rfl, hw2.h⟩) (fun _ => rfl) (fun _ => rfl) fun z hz H1 s1 => by
          obtain ⟨x, hx, rfl⟩ := List.mem_map.mp hz
          exact evt_noQ (hw.ok x hx) (by omega) hi rfl rfl) ev_nil of_eqEL
      refine e1 H2 (Same.refl _) _ fun H3 z s3 ez => ⟨_, ez, ?_⟩
      have k3 := k2.trans (KeepX.of s3)
      have wd3 := wd2.same sw s3
      have pe : 2 ^ (n - i) = 2 * 2 ^ (n - (i + 1)) := by rw [show n - i = (n - (i + 1)) + 1 by omega, Nat.pow_succ]; omega
      have c2 : c * 2 ^ (n - i) = (2 * c) * 2 ^ (n - (i + 1)) := by rw [pe, ← Nat.mul_assoc, Nat.mul_comm c 2]
      have hs : 2 ^ (i + 1) = 2 * 2 ^ i := by rw [Nat.pow_succ]; omega
      cases ((ws.map V.str).filter (noQ i)).isEmpty with
      | false => exact iteF ⟨fr, 2 * c, _, rfl, k3, wd3.mono (by omega), by rw [hfr, c2], by omega⟩
      | true =>
        obtain ⟨t, st, ht⟩ := wd3.t
        refine iteT ⟨.ref S.s, rfl, S, t, 2, rfl, st, by decide, by decide, by omega, fun H4 r t4 s4 hr4 => ⟨rfl, _, rfl, ?_⟩⟩
        obtain ⟨wd4, k4⟩ := wd3.step sw st ht s4
        have k5 := k3.trans k4
        refine ite2 (fun _ => ?_) (fun _ => ⟨fr, 2 * c, _, rfl, k5, wd4.mono (by omega), by rw [hfr, c2], by omega⟩)
        refine ⟨.int (fr : Int), rfl, .int (n : Int), rfl, (n : Int), 1, rfl, rfl, .int (i : Int), rfl, (n : Int) - 1, (i : Int), rfl, rfl, 1, (n : Int) - 1 - (i : Int), rfl, rfl, ?_, (fr : Int), _, rfl, rfl, ?_⟩
        · rw [show (n : Int) - 1 - (i : Int) = ((n - (i + 1) : Nat) : Int) by omega]
          exact cpowW (by omega)
        rw [show (n : Int) - 1 - (i : Int) = ((n - (i + 1) : Nat) : Int) by omega, shl1]
        exact ⟨fr + 2 ^ (n - (i + 1)), 2 * c + 1, _, by rw [Int.natCast_add]; rfl, k5, wd4.mono (by omega), by rw [hfr, c2, Nat.add_mul, Nat.one_mul], by omega⟩
    · obtain ⟨fr, c, z4, rfl, k2, wd2, hfr, hc⟩ := h
      have hw2 := hw.kx wd k2
      have wl := hw.l6
      have wl1 := hw.l1
      have hfn : fr < 2 ^ n := by rw [hfr, Nat.sub_self, Nat.pow_zero, Nat.mul_one]; exact hc
      have p40 : 2 ^ n ≤ 2 ^ 40 := Nat.pow_le_pow_right (by decide) n40
      have p0 := pow0 n
      have of_shN : ∀ {a : Nat}, a ≤ 40 → OpF (isV (.int 1)) (isV (.int (a : Int))) (rI CPow fun i j => .int (i * 2 ^ j.toNat)) (isV (.int ((2 ^ a : Nat) : Int))) := fun {a} ha H x y ex ey Q q => ⟨1, (a : Int), ex, ey, cpowW (by omega), q _ _ (Same.refl _) (congrArg V.int (shl1 a))⟩
      have sM : StyK S X (isM2 n) := fun _ _ _ _ _ _ _ h => h
      have sMs : StyA [isM2 n, isM2 n, isM2 n, isM2 n, isM2 n] := fun R hR => by
        simp only [List.mem_cons, List.not_mem_nil, or_false] at hR
        rcases hR with rfl | rfl | rfl | rfl | rfl <;> exact fun _ _ _ _ h => h
      have toM : ∀ {t : TE} {σ : L2.St} {H : Hp} {B B' : Int} {W W' : HpP} {m : Nat}, m < 2 ^ n → EvD S X W B W' B' (isV (.int (m : Int))) t σ H → EvD S X W B W' B' (isM2 n) t σ H := fun {_ _ _ _ _ _ _ m} hm a => a.mono fun H z e => ⟨m, e, hm⟩
      refine asg_ed (W1 := W) (B1 := B + n + 1 + 1) (R := isLO S X [isM2 n, isM2 n, isM2 n, isM2 n, isM2 n]) (ed_lst sw sMs (Nat.le_of_ble_eq_true rfl)
        (eda_cons sM (toM (m := 0) p0 (ed_c _)) (eda_cons sM (toM hfn (ed_varV rfl)) (eda_cons sM (ed_op (W1 := W) (B1 := B + n) (Ra := isV (.int ((2 ^ n : Nat) : Int))) sw (sk_v _) (ed_op (W1 := W) (B1 := B + n) sw (sk_v _) (ed_c _) (ed_varV rfl) (of_shN n40)) (ed_c (.int 1)) (fun H x y ex ey Q q => ⟨((2 ^ n : Nat) : Int), 1, ex, ey, q _ _ (Same.refl _) ⟨2 ^ n - 1, congrArg V.int (by omega), by omega⟩⟩))
        (eda_cons sM (ed_op (W1 := W) (B1 := B + n) (Ra := isM2 n) sw sM (toM hfn (ed_varV rfl)) (ed_op (W1 := W) (B1 := B + n) (Ra := isV (.int 1)) sw (sk_v _) (ed_c _) (ed_drawW (m := n) (W1 := W) (B1 := B + n) sw (by omega) (by omega) (by omega) (ed_varV rfl) (ed_varV rfl)) (fun H x y ex ⟨r, ey, hr⟩ Q q => ⟨1, (r : Int), ex, ey, cpowW (by omega), q _ _ (Same.refl _) ⟨2 ^ r, congrArg V.int (shl1 r), Nat.pow_lt_pow_right (by decide) hr⟩⟩)) of_xorM)
        (eda_cons sM (ed_drawW (m := 2 ^ n) (W1 := W) (B1 := B + n + 1) sw p0 (by omega) (by omega) (ed_varV rfl) (ed_op (W1 := W) (B1 := B + n + 1) sw (sk_v _) (ed_c _) (ed_varV rfl) (of_shN n40))) eda_nil)))))) wd2 fun H3 v3 k3 wd3 g3 => ?_
      have hw3 := hw2.kx wd2 k3
      have eT : ∀ {j : Nat} {H' : Hp}, KeepX (XS S X) H3 H' → Ev (isTV (ws.map V.str)) (tVar 1) ((wipe [some (.ref S.s), some (.ref T), some (.int (n : Int)), some (.int (fr : Int)), z4, some v3, none, none] [6]).set 6 (some (.int (j : Int)))) H' := fun k => ev_var (sty_tv _) rfl ⟨T, rfl, (hw3.kx wd3 k).h⟩
      have skO : StyK S X (isLO S X [isM2 n, isM2 n, isM2 n, isM2 n, isM2 n]) := fun H1 H2 z _ _ w1 k ⟨L, vs, ez, hL, hv, nX⟩ => ⟨L, vs, ez, k L _ nX hL, allV_kx (fun R hR => by
        simp only [List.mem_cons, List.not_mem_nil, or_false] at hR
        rcases hR with rfl | rfl | rfl | rfl | rfl <;> exact sM) w1 k hv, nX⟩
      refine ret_ed (W1 := W) (B1 := B + n + 1 + 1 + (82 : Nat) * (3 : Nat)) (R := isLG S X (fun v => ∃ m : Nat, v = .int (m : Int) ∧ m < 2 ^ n) 8) (ed_opW (W1 := W) (B1 := B + n + 1 + 1) (Ra := isLO S X [isM2 n, isM2 n, isM2 n, isM2 n, isM2 n]) (Rb := isLG S X (fun v => ∃ m : Nat, v = .int (m : Int) ∧ m < 2 ^ n) 3) sw skO (ed_var skO wd3 rfl g3)
        (ed_lcR (n := 3) (d := 82) (W1 := W) (B1 := B + n + 1 + 1) sw (by decide) (fun _ => rfl) (ed_c _) fun j H4 B' hj hb1 hb2 k4 => ed_op (W1 := W) (B1 := B' + 41) (Ra := isM2 n) (Rb := isM2 n) sw sM
          (ed_mo (ws := ws.take 1) (W1 := W) (B1 := B') sw (by omega) rfl (ed_varV rfl) (ed_pure sw fun H5 k5 w5 => (ev_cutK (k := 1) (eT (k4.trans k5))).mono fun H6 z ⟨T', ez, hT'⟩ => ⟨T', ez, hw.take (by decide) (by rw [List.map_take]; exact hT')⟩))
          (ed_mo (ws := ws.drop (ws.length - 1)) (W1 := W) (B1 := B' + 41) sw (by omega) (by omega) (ed_varV rfl) (ed_pure sw fun H5 k5 w5 => (ev_cutL (eT (k4.trans k5))).mono fun H6 z ⟨T', ez, hT'⟩ => ⟨T', ez, hw.last (by rw [List.map_drop]; rw [List.length_map] at hT'; exact hT')⟩)) of_xorM)
        (fun H4 x y w4 gx gy Q q => by
          obtain ⟨L1, vs, rfl, h1, hv, n1⟩ := gx
          obtain ⟨L2, us, rfl, h2, lu, hu, n2⟩ := gy
          match vs, hv with
          | [a, b, c, d, e], hv =>
            refine ⟨L1, L2, _, _, rfl, rfl, h1, h2, by rw [lu]; exact sz (n := 8) (by decide), fun p np => q _ _ (same_new np) ⟨p, _, rfl, upd_same, by rw [List.length_append, lu]; rfl, fun v hv' => ?_, w4.new np⟩⟩
            rcases List.mem_append.mp hv' with h | h
            · obtain ⟨ha, hb, hc, hd, he, _⟩ := hv
              simp only [List.mem_cons, List.not_mem_nil, or_false] at h
              rcases h with rfl | rfl | rfl | rfl | rfl
              · exact ha
              · exact hb
              · exact hc
              · exact hd
              · exact he
            · exact hu v h)) wd3 fun H4 z4 k4 wd4 g4 => ?_
      exact q _ _ ((k2.trans k3).trans k4) (wd4.mono (by omega)) g4
end
end XT
/-! six patterns told apart by their heads -/
namespace XT
open PySem PySem.Spec PyProof.Rows L2
theorem combL_at {xs ys : List Nat} {i a b : Nat} (ha : xs[i]? = some a) (hb : ys[i]? = some b) : (combL xs ys)[i]? = some (cch a b) := by
  unfold combL
  rw [List.getElem?_map, List.getElem?_zip_eq_some.mpr (show xs[i]? = some (a, b).1 ∧ ys[i]? = some (a, b).2 from ⟨ha, hb⟩)]
  rfl
theorem dig_fr {n i : Nat} {g : Nat → Bool} (n1 : 1 ≤ n) (hi : i < n) : (digW (frN g n) n).cps.toList[i]? = some (48 + (if g i = true then 1 else 0)) := by
  rw [digW_bits n1 (frN_lt g n), frN_bits, List.getElem?_map, List.getElem?_range hi]
  rfl
theorem turn_fix {n : Nat} {ws : List Str} {g : Nat → Bool} (n1 : 1 ≤ n) (ok : ∀ x ∈ ws, OkW n x) (h : ∀ i, i < n → g i = true → ∀ x ∈ ws, x.cps.toList[i]? = some 63) : turnW n (frN g n) ws = ws := by
  unfold turnW
  refine (List.map_congr_left fun x hx => ?_).trans (List.map_id _)
  have okx := ok x hx
  have hl : x.cps.toList.length = n := by rw [Array.length_toList]; exact okx.1
  have hd : (digW (frN g n) n).cps.toList.length = n := by rw [digW_bits n1 (frN_lt g n), bitsL_len]
  refine str_of_list ?_
  rw [comb_list]
  refine List.ext_getElem? fun i => ?_
  by_cases hi : i < n
  · obtain ⟨c, hc⟩ : ∃ c, x.cps.toList[i]? = some c := ⟨_, List.getElem?_eq_getElem (by rw [hl]; exact hi)⟩
    rw [combL_at hc (dig_fr n1 hi)]
    show some (cch c _) = x.cps.toList[i]?
    rw [hc]
    congr 1
    unfold cch
    cases hg : g i with
    | true =>
      have := h i hi hg x hx
      rw [hc] at this
      rw [if_pos (.inl (Option.some.inj this))]
      exact (Option.some.inj this).symm
    | false =>
      rw [if_neg (by decide : ¬ (false = true))]
      rcases sgn3_cases (okx.2 c (List.mem_of_getElem? hc)) with rfl | rfl | rfl <;> rfl
  · rw [List.getElem?_eq_none (by rw [combL_len _ _ (by rw [hl, hd]), hl]; omega)]
    exact (List.getElem?_eq_none (by show x.cps.toList.length ≤ i; rw [hl]; omega)).symm
theorem kw_fix {n m : Nat} {ws : List Str} (n1 : 1 ≤ n) (ok : ∀ x ∈ ws, OkW n x) (hm : m < 2 ^ n) (e : ∀ x, x < 2 ^ n → hasM n (turnW n m ws) x = hasM n ws x) : kwB n m ws = true := kwB_iff.mpr fun x hx => by rw [← hasM_turn n1 ok hm hx, e x hx]
theorem one_bit0 : ∀ q : Fin 40, frN (fun i => decide (i = q.val)) 40 = 2 ^ (39 - q.val) := by decide +kernel
theorem one_dig {q i : Nat} (hq : q < 40) (hi : i < 40) : (digW (2 ^ (39 - q)) 40).cps.toList[i]? = some (48 + (if i = q then 1 else 0)) := by
  have h := dig_fr (g := fun i => decide (i = q)) (n := 40) (by decide) hi
  have e := one_bit0 ⟨q, hq⟩
  dsimp only at e
  rw [e] at h
  rw [h]
  by_cases hh : i = q
  · rw [decide_eq_true hh, if_pos rfl, if_pos hh]
  · rw [decide_eq_false hh, if_neg (by decide), if_neg hh]
def sixK : List Str := ["0000", "001?", "010?", "011?", "100?", "101?"]
theorem six_far : ∀ i j : Fin 6, i ≠ j → ∃ p : Fin 3, ∃ c e : Nat, (sixK[i]).cps.toList[p.val]? = some c ∧ (sixK[j]).cps.toList[p.val]? = some e ∧ c ≠ e ∧ c ≠ 63 ∧ e ≠ 63 := by
  have h : ∀ i j : Fin 6, i ≠ j → ∃ p : Fin 3, ((sixK[i]).cps.toList[p.val]?.getD 63) ≠ ((sixK[j]).cps.toList[p.val]?.getD 63) ∧ ((sixK[i]).cps.toList[p.val]?.getD 63) ≠ 63 ∧ ((sixK[j]).cps.toList[p.val]?.getD 63) ≠ 63 := by decide +kernel
  intro i j ne
  obtain ⟨p, h1, h2, h3⟩ := h i j ne
  refine ⟨p, _, _, ?_, ?_, h1, h2, h3⟩
  · cases hc : (sixK[i]).cps.toList[p.val]? with
    | none => rw [hc] at h2; exact absurd rfl h2
    | some c => rfl
  · cases hc : (sixK[j]).cps.toList[p.val]? with
    | none => rw [hc] at h3; exact absurd rfl h3
    | some c => rfl
theorem six_ok : ∀ x ∈ sixK, x.length = 4 ∧ ∀ c ∈ x.cps.toList, sgn3 c = true := by
  have h : sixK.all (fun x => decide (x.length = 4) && x.cps.toList.all sgn3) = true := by decide +kernel
  intro x hx
  have := List.all_eq_true.mp h x hx
  rw [Bool.and_eq_true, decide_eq_true_iff] at this
  exact ⟨this.1, fun c hc => List.all_eq_true.mp this.2 c hc⟩
/-- the six patterns, made so far -/
structure SixL (i : Nat) (ws : List Str) : Prop where
  l : ws.length = i
  ok : ∀ x ∈ ws, OkW 40 x
  hd : ∀ (j : Nat) (x h : Str), ws[j]? = some x → sixK[j]? = some h → x.cps.toList.take 4 = h.cps.toList
theorem SixL.snoc {i : Nat} {ws : List Str} {h t : Str} (s : SixL i ws) (hh : sixK[i]? = some h) (ht : OkW 36 t) : SixL (i + 1) (ws ++ [h ++ t]) := by
  obtain ⟨h3, hs⟩ := six_ok h (List.mem_of_getElem? hh)
  have l3 : h.cps.toList.length = 4 := by rw [Array.length_toList]; exact h3
  refine ⟨by rw [List.length_append, s.l]; rfl, fun x hx => ?_, fun j x h' hx hh' => ?_⟩
  · rcases List.mem_append.mp hx with hx | hx
    · exact s.ok x hx
    · rw [List.mem_singleton.mp hx]
      refine ⟨?_, fun c hc => ?_⟩
      · show (h.cps ++ t.cps).size = _
        rw [Array.size_append]
        have a : h.cps.size = 4 := h3
        have b : t.cps.size = 36 := ht.1
        rw [a, b]
      · rw [str_app_list] at hc
        rcases List.mem_append.mp hc with hc | hc
        · exact hs c hc
        · exact ht.2 c hc
  · rcases Nat.lt_or_ge j i with lt | ge
    · rw [List.getElem?_append_left (by rw [s.l]; exact lt)] at hx
      exact s.hd j x h' hx hh'
    · have e : j = i := by
        have := (List.getElem?_eq_some_iff.mp hx).1
        rw [List.length_append, s.l] at this
        have : j < i + 1 := this
        omega
      subst e
      rw [List.getElem?_append_right (by rw [s.l]; exact Nat.le_refl _), s.l, Nat.sub_self] at hx
      have ex : x = h ++ t := (Option.some.inj hx).symm
      rw [hh] at hh'
      rw [ex, ← Option.some.inj hh', str_app_list, List.take_append_of_le_length (by omega), ← l3, List.take_length]
/-- a mask with a one where a pattern has a digit keeps them not -/
theorem six_near {ws : List Str} {q s : Nat} {y : Str} (six : SixL 6 ws) (h3 : 3 ≤ q) (hq : q < 40) (hy : ws[s]? = some y) (ne : y.cps.toList[q]? ≠ some 63) : ∃ x, x < 2 ^ 40 ∧ hasM 40 ws x = true ∧ hasM 40 (turnW 40 (2 ^ (39 - q)) ws) x = false := by
  have hs : s < 6 := by rw [← six.l]; exact (List.getElem?_eq_some_iff.mp hy).1
  have oky := six.ok y (List.mem_of_getElem? hy)
  have yl : y.cps.toList.length = 40 := by rw [Array.length_toList]; exact oky.1
  have dN : ∀ i, i < 40 → (digW (2 ^ (39 - q)) 40).cps.toList[i]? = some (48 + (if i = q then 1 else 0)) := fun i hi => one_dig hq hi
  generalize 2 ^ (39 - q) = N at dN ⊢
  generalize hgx : (fun i : Nat => decide (y.cps.toList[i]? = some 49)) = gx
  have dx : ∀ i c, i < 40 → y.cps.toList[i]? = some c → c ≠ 63 → (bitsL 40 (frN gx 40))[i]? = some c := fun i c hi hc hn => by
    rw [frN_bits, List.getElem?_map, List.getElem?_range hi, ← hgx]
    show some (48 + (if decide (y.cps.toList[i]? = some 49) = true then 1 else 0)) = some c
    rw [hc]
    rcases sgn3_cases (oky.2 c (List.mem_of_getElem? hc)) with rfl | rfl | rfl
    · rfl
    · rfl
    · exact absurd rfl hn
  have lX := frN_lt gx 40
  generalize frN gx 40 = X at dx lX
  refine ⟨X, lX, List.any_eq_true.mpr ⟨y, List.mem_of_getElem? hy, fitL_iff.mpr fun i c d hd hc => ?_⟩, ?_⟩
  · by_cases h63 : c = 63
    · exact .inr h63
    · have hi : i < 40 := by rw [← yl]; exact (List.getElem?_eq_some_iff.mp hc).1
      rw [dx i c hi hc h63] at hd
      exact .inl (Option.some.inj hd)
  · unfold hasM turnW
    rw [List.any_map, List.any_eq_false]
    intro z hz hf
    obtain ⟨j, hj⟩ := List.mem_iff_getElem?.mp hz
    rw [Function.comp_apply, comb_list] at hf
    have hj6 : j < 6 := by rw [← six.l]; exact (List.getElem?_eq_some_iff.mp hj).1
    have hf := fitL_iff.mp hf
    by_cases hjs : j = s
    · subst hjs
      rw [hy] at hj
      have e := Option.some.inj hj
      subst e
      obtain ⟨c, hc⟩ : ∃ c, y.cps.toList[q]? = some c := ⟨_, List.getElem?_eq_getElem (by rw [yl]; exact hq)⟩
      have hn : c ≠ 63 := fun e => ne (by rw [hc, e])
      have dg := dN q hq
      rw [if_pos rfl] at dg
      have := hf q _ c (dx q c hq hc hn) (combL_at hc dg)
      rcases sgn3_cases (oky.2 c (List.mem_of_getElem? hc)) with rfl | rfl | rfl
      · exact this.elim (by decide) (by decide)
      · exact this.elim (by decide) (by decide)
      · exact absurd rfl hn
    · obtain ⟨p, c, e, hc, he, ne', c6, e6⟩ := six_far ⟨j, hj6⟩ ⟨s, hs⟩ (fun z => hjs (congrArg Fin.val z))
      have hz3 := six.hd j z _ hj (List.getElem?_eq_getElem (l := sixK) (i := j) hj6)
      have hx3 := six.hd s y _ hy (List.getElem?_eq_getElem (l := sixK) (i := s) hs)
      have p3 := p.isLt
      have hc : sixK[j].cps.toList[p.val]? = some c := hc
      have he : sixK[s].cps.toList[p.val]? = some e := he
      rw [← hz3, List.getElem?_take, if_pos (by omega)] at hc
      rw [← hx3, List.getElem?_take, if_pos (by omega)] at he
      have dg := dN p.val (by omega)
      rw [if_neg (by omega : ¬ p.val = q)] at dg
      have := hf p.val _ e (dx p.val e (by omega) he e6) (combL_at hc dg)
      have hcc : cch c (48 + 0) = c := by
        rcases sgn3_cases ((six.ok z hz).2 c (List.mem_of_getElem? hc)) with rfl | rfl | rfl <;> rfl
      rw [hcc] at this
      exact this.elim ne' c6
theorem six_kw {ws : List Str} {g : Nat → Bool} {q s : Nat} {y : Str} (six : SixL 6 ws) (hg : ∀ i, i < 40 → g i = true → ∀ x ∈ ws, x.cps.toList[i]? = some 63) (h3 : 3 ≤ q) (hq : q < 40) (hy : ws[s]? = some y) (ne : y.cps.toList[q]? ≠ some 63) :
    frN g 40 < 2 ^ 40 ∧ kwB 40 (frN g 40) ws = true ∧ frN g 40 ^^^ 2 ^ (39 - q) < 2 ^ 40 ∧ kwB 40 (frN g 40 ^^^ 2 ^ (39 - q)) ws = false := by
  have lf := frN_lt g 40
  have lq : 2 ^ (39 - q) < 2 ^ 40 := Nat.pow_lt_pow_right (by decide) (by omega)
  have tf := turn_fix (by decide) six.ok hg
  refine ⟨lf, kw_fix (by decide) six.ok lf fun x hx => by rw [tf], xor_lt lf lq, ?_⟩
  obtain ⟨x, hx, h1, h2⟩ := six_near six h3 hq hy ne
  cases hk : kwB 40 (frN g 40 ^^^ 2 ^ (39 - q)) ws with
  | false => rfl
  | true =>
    have := kwB_iff.mp hk x hx
    rw [← hasM_turn (by decide) six.ok (xor_lt lf lq) hx, ← turn_two (by decide) six.ok lf lq, tf, h1, h2] at this
    cases this
end XT
/-! list.count at flat values -/
namespace XT
open PySem PySem.Spec PyProof.Rows L2
section
variable {X : Cx}
theorem count_eqU {x : V} : ∀ {xs : List V} {us : List Value}, Vals xs us → xs.all flatV = true → us.countP (eqU x) = xs.countP fun y => eqV y x
  | [], _, h, _ => by
    cases h
    rfl
  | y :: xs, _, h, f => by
    cases h with
    | cons r t =>
      rw [List.all_cons, Bool.and_eq_true] at f
      rw [List.countP_cons, List.countP_cons, count_eqU t f.2, eqU_of r f.1]
def rCntF (K : PySem.W.Frag) : V → List V → Hp → VK → Prop := fun x xs H Q => ∃ (p : Addr) (ys : List V) (y : V), x = .ref p ∧ xs = [y] ∧ SqL K H p ys ∧ flatV y = true ∧ ys.all flatV = true ∧ Q (.int (ys.countP (fun z => eqV z y) : Nat)) H
theorem mt_lcountF : MtR X "list.count" (rCntF X.K) := by
  intro pins s σ H x xs v us Q I rx rxs h
  obtain ⟨p, ys, y, rfl, rfl, hs, fy, fys, q⟩ := h
  cases rx
  obtain ⟨u, rfl, ru⟩ := rxs.one
  obtain ⟨its, rv, ⟨⟨cls, dd, data, sl⟩, n, ho, hc, hdn, hd⟩, hlen⟩ := I.list hs
  simp only at hc hd
  subst hc hd
  refine call_meets PySem.F.slot_list_count ⟨_, ho, rfl⟩ PySem.F.entry_list_count (PySem.F.args_list_count_2 _ _)
    (SeqAt.list_countAt p its.toArray n dd sl u (eqU y)) ⟨ho, fun u' hu' => mem_eqAt ru fy rv fys u' (by simpa using hu'), ?_⟩
  have ec : its.toArray.toList.countP (eqU y) = ys.countP fun z => eqV z y := count_eqU rv fys
  refine ⟨.int (ys.countP (fun z => eqV z y) : Nat), H, I.tok _, ⟨s.toks, ?_⟩, q⟩
  show Value.int ((its.toArray.toList.countP (eqU y) : Nat) : Int) s.toks = Value.int ((ys.countP (fun z => eqV z y) : Nat) : Int) s.toks
  rw [ec]
end
end XT
/-! isinstance of a caught error by Ev; lists of given values -/
namespace XT
open PySem PySem.Spec PyProof.Rows L2
/-- a class that is the j-th of the sixteen, and no other -/
abbrev NmI (K : PySem.W.Frag) (mg : Str → Option Value) (D : Addr) (x : Str) (b : Bool) : Prop := ∃ c : Addr, mg x = some (.ref c) ∧ PySem.W.kitOne K (.ref D) (.ref c) = some b
theorem kit_self {K : PySem.W.Frag} {D : Addr} {b : Bool} (h : b = true := by rfl) : PySem.W.kitOne K (.ref D) (.ref D) = some b := by
  subst h
  unfold PySem.W.kitOne
  rw [if_pos (by simp)]
section
variable {K : PySem.W.Frag} {D a dd : Addr} {cls : Value} {d : Option Addr} {fs : List (Str × V)} {c : Addr} {b : Bool} {σ : L2.St} {H : Hp}
theorem ev_isi (h0 : σ[0]? = some (some (.ref a))) (ec : cls = .ref D) (ed : d = some dd) (hd : H dd = some (.xd fs)) (hk : PySem.W.kitOne K (.ref D) (.ref c) = some b) : Ev (isB b) (tCB (rIsD K D a cls d) (tCons (tVar 0) (tCons (tC (.ref c)) tNil))) σ H := fun H1 s1 Q q =>
  ⟨_, h0, .ref c, .ref c, b, dd, fs, rfl, .own _, ec, ed, s1 _ _ hd, hk, q _ _ (Same.refl _) rfl⟩
theorem ev_isy {T : String} (h0 : σ[0]? = some (some (.ref a))) (ec : cls = .ref D) (ed : d = some dd) (hd : H dd = some (.xd fs)) (hk : PySem.W.kitOne K (.ref D) (.type T) = some b) : Ev (isB b) (tCB (rIsD K D a cls d) (tCons (tVar 0) (tCons (tC (.ty T)) tNil))) σ H := fun H1 s1 Q q =>
  ⟨_, h0, .ty T, .type T, b, dd, fs, rfl, .ty _, ec, ed, s1 _ _ hd, hk, q _ _ (Same.refl _) rfl⟩
end
def tStrs : List Str → TA
  | [] => tNil
  | x :: xs => tCons (tC (.str x)) (tStrs xs)
abbrev isStrs (xs : List Str) : List RV := xs.map fun x => isV (.str x)
theorem styA_v : ∀ vs : List V, StyA (vs.map isV) := fun vs => styA_map (fun v => sty_v v) vs
theorem eva_strs {σ : L2.St} {H : Hp} : ∀ xs : List Str, EvA ((xs.map V.str).map isV) (tStrs xs) σ H
  | [] => eva_nil
  | x :: xs => eva_cons (sty_v _) (ev_c _) (eva_strs xs)
/-- a list of given values -/
abbrev isLv (vs : List V) : RV := fun H z => ∃ L, z = .ref L ∧ H L = some (.lst vs)
theorem allV_v : ∀ {vs us : List V} {H : Hp}, AllV (vs.map isV) H us → us = vs
  | [], [], _, _ => rfl
  | v :: vs, u :: us, _, h => by
    obtain ⟨e, h⟩ := h
    rw [allV_v h]
    exact congrArg (· :: vs) e
theorem ev_lv {vs : List V} {ta : TA} {σ : L2.St} {H : Hp} (hl : vs.length ≤ 1000) (a : EvA (vs.map isV) ta σ H) : Ev (isLv vs) (tLst ta) σ H := (ev_lst (styA_v vs) (by rw [List.length_map]; exact hl) a).mono fun H z ⟨L, us, e, hL, g⟩ => ⟨L, e, by rw [hL, allV_v g]⟩
theorem sty_lv (vs : List V) : Sty (isLv vs) := fun _ _ _ e ⟨L, ez, hL⟩ => ⟨L, ez, e _ _ hL⟩
theorem of_catv {vs us : List V} (hl : vs.length + us.length ≤ 1000) : OpF (isLv vs) (isLv us) rCat (isLv (vs ++ us)) := fun H x y ⟨L, ex, hL⟩ ⟨L', ey, hL'⟩ Q q =>
  ⟨L, L', vs, us, ex, ey, hL, hL', sz hl, fun p np => q _ _ (same_new np) ⟨p, rfl, upd_same⟩⟩
section
variable {K : PySem.W.Frag} {vs : List V} {t : TE} {σ : L2.St} {H : Hp}
theorem ev_cntT (f : vs.all flatV = true) (a : Ev (isLv vs) t σ H) : Ev (isV (.int ((vs.countP fun z => eqV z (.bl true)) : Nat))) (tBM K "list" (rCntF K) t (tCons (tC (.bl true)) tNil)) σ H := fun H1 s1 Q q =>
  a H1 s1 _ fun H2 x s2 ⟨L, ex, hL⟩ => by
    subst ex
    exact ⟨.inl ⟨rfl, _, SqL.of hL⟩, L, vs, .bl true, rfl, rfl, SqL.of hL, rfl, f, q _ _ s2 rfl⟩
theorem ev_idxT {j : Nat} {z : V} (f : vs.all flatV = true) (e : vs[j]? = some z) (ez : eqV z (.bl true) = true) (no : ∀ (m : Nat) (z' : V), m < j → vs[m]? = some z' → eqV z' (.bl true) = false) (a : Ev (isLv vs) t σ H) : Ev (isV (.int (j : Int))) (tBM K "list" (rIndex K) t (tCons (tC (.bl true)) tNil)) σ H := fun H1 s1 Q q =>
  a H1 s1 _ fun H2 x s2 ⟨L, ex, hL⟩ => by
    subst ex
    exact ⟨.inl ⟨rfl, _, SqL.of hL⟩, L, vs, .bl true, j, z, rfl, rfl, SqL.of hL, rfl, f, e, ez, no, q _ _ s2 rfl⟩
theorem of_neB3 {x y z : Bool} : OpF (isLv [.bl x, .bl y, .bl z]) (isLv [.bl x, .bl y, .bl z]) (rNeD K) (isB false) := fun H u v ⟨L, eu, hL⟩ ⟨L', ev, hL'⟩ Q q => by
  subst eu ev
  have all : DpAll K H [.bl x, .bl y, .bl z] [.bool x, .bool y, .bool z] := .cons (.bl x) (.cons (.bl y) (.cons (.bl z) .nil))
  refine ⟨.list [.bool x, .bool y, .bool z], .list [.bool x, .bool y, .bool z], .lst (SqL.of hL) all, .lst (SqL.of hL') all, by cases x <;> cases y <;> cases z <;> decide +kernel, by cases x <;> cases y <;> cases z <;> decide +kernel, q _ _ (Same.refl _) ?_⟩
  cases x <;> cases y <;> cases z <;> rfl
theorem ev_bool3 {x y z : Bool} : Ev (isLv [.bl x, .bl y, .bl z]) (tLst (tCons (tC (.bl x)) (tCons (tC (.bl y)) (tCons (tC (.bl z)) tNil)))) σ H := ev_lv (vs := [_, _, _]) (Nat.le_of_ble_eq_true rfl) (eva_cons (sty_v _) (ev_c _) (eva_cons (sty_v _) (ev_c _) (eva_cons (sty_v _) (ev_c _) eva_nil)))
theorem of_ixLv {vs : List V} {j : Nat} {v : V} (e : vs[j]? = some v) : OpF (isLv vs) (isV (.int (j : Int))) (rIxL K) (isV v) := fun H x y ⟨L, ex, hL⟩ ey Q q =>
  ⟨L, vs, j, v, ex, ey, SqL.of hL, atI_nat e, q _ _ (Same.refl _) rfl⟩
theorem of_ixB {vs us : List V} {c : Bool} : OpF (isLst [isLv vs, isLv us]) (isV (.int (if c = true then 1 else 0))) (rIxL K) (isLv (if c = true then us else vs)) := fun H x y ⟨L, ws, ex, hL, g⟩ ey Q q => by
  match ws, g with
  | [u1, u2], g =>
    cases c with
    | true => exact ⟨L, _, 1, u2, ex, ey, SqL.of hL, rfl, q _ _ (Same.refl _) g.2.1⟩
    | false => exact ⟨L, _, 0, u1, ex, ey, SqL.of hL, rfl, q _ _ (Same.refl _) g.1⟩
theorem ev_intB {c : Bool} (a : Ev (isB c) t σ H) : Ev (isV (.int (if c = true then 1 else 0))) (tCB (fun xs H Q => ∃ b, xs = [.bl b] ∧ Q (.int (if b = true then 1 else 0)) H) (tCons t tNil)) σ H := fun H1 s1 Q q =>
  a H1 s1 _ fun H2 x s2 ex => ⟨c, by rw [ex], q _ _ s2 rfl⟩
end
theorem kit_or {K : PySem.W.Frag} {t c : Value} {cs : List Value} {b b' : Bool} (h : PySem.W.kitOne K t c = some b) (r : PySem.W.kitAny K t cs = some b') : PySem.W.kitAny K t (c :: cs) = some (b || b') := by
  cases b with
  | true => exact L2.kitAny_cons h (fun z => nomatch z) (fun _ => rfl)
  | false => exact L2.kitAny_cons h (fun _ => r) (fun z => nomatch z)
theorem own_all : ∀ cs : List Addr, Paired ClsV (cs.map V.ref) (cs.map Value.ref)
  | [] => .nil
  | c :: cs => .cons (.own _) (own_all cs)
abbrev tRefs : List Addr → TA
  | [] => tNil
  | c :: cs => tCons (tC (.ref c)) (tRefs cs)
theorem eva_refs {σ : L2.St} {H : Hp} : ∀ cs : List Addr, EvA ((cs.map V.ref).map isV) (tRefs cs) σ H
  | [] => eva_nil
  | c :: cs => eva_cons (sty_v _) (ev_c _) (eva_refs cs)
/-- isinstance(e, (c1, c2, ..)) -/
theorem ev_isT {K : PySem.W.Frag} {D a dd : Addr} {cls : Value} {d : Option Addr} {fs : List (Str × V)} {cs : List Addr} {b : Bool} {σ : L2.St} {H : Hp} {ta : TA} (h0 : σ[0]? = some (some (.ref a))) (ec : cls = .ref D) (ed : d = some dd) (hd : H dd = some (.xd fs))
    (hl : cs.length ≤ 1000) (ht : EvA ((cs.map V.ref).map isV) ta σ H) (hk : PySem.W.kitAny K (.ref D) (cs.map Value.ref) = some b) : Ev (isB b) (tCB (rIsDT K D a cls d) (tCons (tVar 0) (tCons (tTup ta) tNil))) σ H := fun H1 s1 Q q =>
  ⟨_, h0, ht H1 s1 _ fun H2 vs s2 g => by
    have e := allV_v g
    subst e
    exact ⟨sz (by rw [List.length_map]; exact hl), fun T nT => ⟨T, cs.map V.ref, cs.map Value.ref, b, dd, fs, rfl, upd_same, own_all cs, ec, ed, ((s1.trans s2).trans (same_new nT)) _ _ hd, hk, q _ _ (s2.trans (same_new nT)) rfl⟩⟩⟩
end XT
/-! _law_only: the value of a LookupError of the package -/
namespace XT
open PySem PySem.Spec PyProof.Rows L2
/-- a class that is the j-th of NoIndex, NoMask, NoVersion, and no other -/
structure LkC (K : PySem.W.Frag) (mg : Str → Option Value) (x : Str) (D : Addr) (j : Nat) : Prop where
  c : CauG K mg x "value" D
  lt : j < 3
  k0 : NmI K mg D "NoIndex" (decide (0 = j))
  k1 : NmI K mg D "NoMask" (decide (1 = j))
  k2 : NmI K mg D "NoVersion" (decide (2 = j))
  kT : NmI K mg D "TurnError" false
  kL : PySem.W.kitOne K (.ref D) (.type "LookupError") = some true
  mL : mg "LookupError" = none
abbrev nOn : List Str := ["_law_error", "_law_flags"]
theorem scOn : FnScope nOn ["_law_error"] (defScope sLOnly) := ⟨rfl, rfl, rfl, by decide +kernel, rfl, by decide +kernel, by decide +kernel⟩
def spOn (D : Addr) (cls : Value) (d : Option Addr) : Hp → VK → Prop := fun H Q => ∃ (dd : Addr) (v : V), cls = .ref D ∧ d = some dd ∧ H dd = some (.xd [("value", v)]) ∧ ∀ H' L, Same H H' → L ≠ sysModules → H' L = some (.lst [v]) → Q (.ref L) H'
theorem f3_count {j : Nat} (h : j < 3) : (([.bl (decide (0 = j)), .bl (decide (1 = j)), .bl (decide (2 = j))] : List V).countP fun z => eqV z (.bl true)) = 1 := by
  match j, h with
  | 0, _ => rfl
  | 1, _ => rfl
  | 2, _ => rfl
theorem pe_only {X : Cx} {a : Addr} {oe : Obj} {cls : Value} {d : Option Addr} {pn : List (Addr × Obj)} {x : Str} {f D : Addr} {fd : FuncData} {e : Expr} {te : TE} {p pos : Pos} {j : Nat} (B : Bl X.mg) (N : LkC X.K X.mg x D j) (hz : Zc cls d oe) (hf : ∃ vs, oe.data = .fields vs)
    (F : Fun X.K "_law_only" "_law_only" sLOnly f fd) (hg : Gl X "_law_only") (hm : X.mg "_law_only" = some (.ref f)) (hr : X.A.depth < recursionLimit) (he : PE (X.suite a ((a, oe) :: pn)) e te)
    (hst : starEach [e] X.env = (false, eval e X.env) :: starEach [] X.env := by rfl) :
    PE (X.suite a ((a, oe) :: pn)) (.Call (.Name "_law_only" p) [e] [] pos) (fun σ H Q => te σ H fun v H1 => v = .ref a ∧ spOn D cls d H1 Q) := by
  refine pe_err F scOn (fun _ _ _ _ _ _ _ => rfl) hg hm hr (fun cdv outer s H Q h => ?_) he (by decide) hst
  obtain ⟨C, lt, ⟨c0, m0, k0⟩, ⟨c1, m1, k1⟩, ⟨c2, m2, k2⟩, ⟨cT, mT, kT⟩, kL, mL⟩ := N
  obtain ⟨dd, v, ec, ed, hd, q⟩ := h
  refine ⟨_, pss_cons (ps_set (i := 1) scOn.nd rfl (by first | exact Or.inl rfl | exact Or.inr rfl) (pe_lst (pa_cons (pe_callB (call_isD C.is hz hf) (by rfl) B.isinstance bI (pa_cons (pv 0) (pa_cons (pe_glob (v := .ref c0) (by rfl) m0 rfl) pa_nil))) (pa_cons (pe_callB (call_isD C.is hz hf) (by rfl) B.isinstance bI (pa_cons (pv 0) (pa_cons (pe_glob (v := .ref c1) (by rfl) m1 rfl) pa_nil))) (pa_cons (pe_callB (call_isD C.is hz hf) (by rfl) B.isinstance bI (pa_cons (pv 0) (pa_cons (pe_glob (v := .ref c2) (by rfl) m2 rfl) pa_nil))) pa_nil)))))
      (pss_cons (ps_if (PW.pt (pw_or (pt_cmpR op_ne (pe_bm PySem.F.plainAttrs_list PySem.F.slot_list_count PySem.F.type_list_count mt_lcountF (pv 1) (pa_cons pe_bl pa_nil)) pe_int (nomark _))
        (pw_or (pt_val (pe_callB (call_isD C.is hz hf) (by rfl) B.isinstance bI (pa_cons (pv 0) (pa_cons (pe_glob (v := .ref cT) (by rfl) mT rfl) pa_nil))))
        (pw_or1 (pt_not (pt_val (pe_callB (call_isD C.is hz hf) (by rfl) B.isinstance bI (pa_cons (pv 0) (pa_cons (pe_bltn (v := .ty "LookupError") (by rfl) mL bLE rfl) pa_nil))))))))) pss_never pss_nil)
      (pss_one (ps_ret (pe_lstB (pa_cons (pe_xf C.xf C.no hz hf (pv 0)) pa_nil))))), ?_⟩
  refine asg_ev (ev_lv (vs := [_, _, _]) (Nat.le_of_ble_eq_true rfl) (eva_cons (sty_v _) (ev_isi rfl ec ed hd k0) (eva_cons (sty_v _) (ev_isi rfl ec ed hd k1) (eva_cons (sty_v _) (ev_isi rfl ec ed hd k2) eva_nil)))) fun H1 z1 s1 g1 => ?_
  obtain ⟨LF, rfl, hF⟩ := g1
  have d1 := s1 _ _ hd
  refine ifs_no (evt_or (evt_test (ev_op (sty_v _) (ev_cntT rfl (ev_var (sty_lv _) rfl ⟨LF, rfl, hF⟩)) (ev_c _) of_neI)) (evt_or (evt_b (ev_isi rfl ec ed d1 kT)) (evt_not (evt_b (ev_isy rfl ec ed d1 kL))))) (by rw [f3_count lt]; rfl) fun H2 s2 => ?_
  subst ec ed
  refine ⟨.ref a, rfl, rfl, rfl, dd, _, v, rfl, s2 _ _ d1, rfl, sz (n := 1) (by decide), fun L nL bL => ?_⟩
  exact q _ L ((s1.trans s2).trans (same_new nL)) bL upd_same
end XT
/-! _law_told -/
namespace XT
open PySem PySem.Spec PyProof.Rows L2
def dKw (n : Nat) (ws : List Str) (d : PyData) : PyData := if isM n d = true then .bool (kwB n (iv d).toNat ws) else .list [d]
section
variable {P : Program} {w : World} {K : PySem.W.Frag} {mg : Str → Option Value} {base : Heap}
theorem scTd : FnScope ["_law_wide_here", "_law_value", "_law_error"] ["_law_wide_here", "_law_value"] (defScope sTold) := ⟨rfl, rfl, rfl, by decide +kernel, rfl, by decide +kernel, by decide +kernel⟩
def spTdK (K : PySem.W.Frag) : Sp := fun vs H Q _ => ∃ (T : Addr) (ws : List Str) (n : Nat) (v : V) (d : PyData), vs = [.ref T, v] ∧ WideT H T ws n ∧ Dz K H v d ∧ ∀ H' z, Same H H' → Dz K H' z (dKw n ws d) → Q z H'
theorem ok_tdK {f fO CM : Addr} {fd fdO : FuncData} {k : Nat} (B : Bl mg) (C : LkC K mg "NoMask" CM 1) (F : Fun K "_law_told" "_law_told" sTold f fd) (FO : Fun K "_law_only" "_law_only" sLOnly fO fdO) (hmO : mg "_law_only" = some (.ref fO)) (dT : DefX P w K mg base 44 "wide_keeps" (spKw K CM)) : FnOk P w K mg base CX0 (k + 45) f fd ["_law_wide_here", "_law_value"] (spTdK K) := by
  refine F.ok scTd (fun vs H Q E h => ?_) (fun cdv A outer s H vs Q E hr h => ?_)
  · obtain ⟨T, ws, n, v, d, rfl, _⟩ := h
    rfl
  · obtain ⟨T, ws, n, v, d, rfl, hw, hd, q⟩ := h
    have hdp : (A.deeper (envOfC "_law_told" (defScope sTold) s.heap.objs.size f cdv)).depth < recursionLimit := by have := hr.dp; omega
    refine ⟨_, pss_one (ps_try_as (i := 2) rfl rfl scTd.nd rfl rfl ⟨rfl, by decide, .inl C.c.hm⟩ takes0
      (fun W pn xe tk _ => pss_one (ps_ret (pe_defX dT (hr.mono (by omega)) (by rfl) tk (pa_cons (pv 0) (pa_cons (pv 1) pa_nil)))))
      (fun a oe cls d pn hz hf => pss_one (ps_ret (pe_only B C hz hf FO (by rfl) hmO hdp (pv 2))))), ?_⟩
    refine ⟨.ref T, rfl, v, rfl, T, ws, n, v, d, rfl, hw, hd, fun m e hm H' sm => q H' _ sm ?_, fun hm H' dd sm hdd => ?_⟩
    · subst e
      unfold dKw
      rw [if_pos (isM_nat hm)]
      show Dz K H' _ (.bool (kwB n ((m : Int).toNat) ws))
      rw [Int.toNat_natCast]
      exact .bl _
    · refine ⟨true, C.c.exm, fun _ x nx => ?_, fun z => nomatch z⟩
      refine ⟨.ref x, rfl, rfl, dd, v, rfl, rfl, hdd, fun H2 L sm2 bL hL => q H2 _ (sm.trans sm2) ?_⟩
      unfold dKw
      rw [hm]
      exact .lst (SqL.of hL) bL (.cons (hd.same (sm.trans sm2)) .nil)
theorem ev_tdK {T : Addr} {ws : List Str} {n i : Nat} {t : TE} {σ : L2.St} {H : Hp} {d : PyData} (hi : σ[i]? = some (some (.ref T))) (hw : WideT H T ws n) (a : Ev (isD K d) t σ H) : Ev (isD K (dKw n ws d)) (tDf (spTdK K) (tCons (tVar i) (tCons t tNil))) σ H := fun H1 s1 Q q =>
  ⟨.ref T, hi, a H1 s1 _ fun H2 z s2 gz => ⟨T, ws, n, z, d, rfl, hw.same (s1.trans s2), gz, fun H3 z' s3 g => q _ _ (s2.trans s3) g⟩⟩
end
end XT
/-! a sign that is drawn -/
namespace XT
open PySem PySem.Spec PyProof.Rows L2
section
variable {K : PySem.W.Frag} {S : Sm} {X : Ow} {W W1 W2 W3 : HpP} {B B1 B2 B3 : Int} {H H' : Hp} {t ta tb te : TE} {σ : L2.St}
theorem ed_pickS {x : Str} (sw : StyW X W2) (x0 : 0 < x.length) (x1 : x.length ≤ 1000) (hB : B2 < 1000000) (a : EvD S X W B W1 B1 (isV (.ref S.s)) ta σ H) (b : EvD S X W1 B1 W2 B2 (isV (.str x)) tb σ H) : EvD S X W B W2 (B2 + 1) (fun _ z => ∃ c : Nat, z = .str ⟨#[c]⟩ ∧ c ∈ x.cps.toList) (tDf spPickS (tCons ta (tCons tb tNil))) σ H := fun H1 s1 w1 Q q =>
  a H1 s1 w1 _ fun H2 x' s2 w2 ex => b H2 (s1.trans s2) w2 _ fun H3 y s3 w3 ey => by
    obtain ⟨t, st, ht⟩ := w3.t
    refine ⟨S, t, x, by rw [ex, ey], st, by omega, x0, x1, fun H4 r t4 s4 hr => ?_⟩
    obtain ⟨w4, k4⟩ := w3.step sw st ht s4
    exact q _ _ ((s2.trans s3).trans k4) w4 ⟨r, rfl, hr⟩
theorem ed_pickP {x : Str} (sw : StyW X W2) (x0 : 0 < x.length) (x1 : x.length ≤ 1000) (hx : ∀ c ∈ x.cps.toList, sgn3 c = true) (hB : B2 < 1000000) (a : EvD S X W B W1 B1 (isV (.ref S.s)) ta σ H) (b : EvD S X W1 B1 W2 B2 (isV (.str x)) tb σ H) : EvD S X W B W2 (B2 + 1) (isPat 1) (tDf spPickS (tCons ta (tCons tb tNil))) σ H :=
  (ed_pickS sw x0 x1 hB a b).mono fun H z ⟨c, e, hc⟩ => ⟨_, e, rfl, fun d hd => by
    have : d = c := by simpa using hd
    rw [this]
    exact hx c hc⟩
end
end XT
/-! _law_six_right -/
namespace XT
open PySem PySem.Spec PyProof.Rows L2
theorem ok01qq : ∀ c ∈ ("01??" : Str).cps.toList, sgn3 c = true := by
  have h : (("01??" : Str).cps.toList.all sgn3) = true := by decide +kernel
  exact fun c hc => List.all_eq_true.mp h c hc
theorem l01qq : (("01??" : Str).length) = 4 := by
  have h : (("01??" : Str).length == 4) = true := by decide +kernel
  simpa using h
theorem noQ_str {i : Nat} {x : Str} : noQ i (.str x) = !decide (x.cps.toList[i]? = some 63) := rfl
theorem noQ_emp {i : Nat} {ws : List Str} : ((ws.map V.str).filter (noQ i)).isEmpty = true → ∀ x ∈ ws, x.cps.toList[i]? = some 63 := fun h x hx => by
  have := List.filter_eq_nil_iff.mp (List.isEmpty_iff.mp h) (.str x) (List.mem_map_of_mem hx)
  rw [noQ_str] at this
  simpa using this
theorem noQ_non {i : Nat} {ws : List Str} (h : ((ws.map V.str).filter (noQ i)).isEmpty = false) : ∃ (s : Nat) (x : Str), ws[s]? = some x ∧ x.cps.toList[i]? ≠ some 63 := by
  have hn : (ws.map V.str).filter (noQ i) ≠ [] := fun e => by rw [e] at h; cases h
  obtain ⟨v, hv⟩ := List.exists_mem_of_ne_nil _ hn
  obtain ⟨h1, h2⟩ := List.mem_filter.mp hv
  obtain ⟨x, hx, rfl⟩ := List.mem_map.mp h1
  obtain ⟨s, hs⟩ := List.mem_iff_getElem?.mp hx
  refine ⟨s, x, hs, fun e => ?_⟩
  rw [noQ_str, e] at h2
  simp at h2
theorem frN_congr {g g' : Nat → Bool} : ∀ n, (∀ i, i < n → g i = g' i) → frN g n = frN g' n
  | 0, _ => rfl
  | n + 1, h => by
    show 2 * frN g n + _ = 2 * frN g' n + _
    rw [frN_congr n fun i hi => h i (by omega), h n (by omega)]
theorem of_eqBs {K : PySem.W.Frag} {a b : Bool} : OpF (isLv [.bl a, .bl b]) (isLv [.bl a, .bl b]) (rEqD K) (isB true) := fun H u v ⟨L, eu, hL⟩ ⟨L', ev, hL'⟩ Q q => by
  subst eu ev
  refine ⟨.list [.bool a, .bool b], .list [.bool a, .bool b], .lst (SqL.of hL) (.cons (.bl a) (.cons (.bl b) .nil)), .lst (SqL.of hL') (.cons (.bl a) (.cons (.bl b) .nil)), by cases a <;> cases b <;> decide +kernel, by cases a <;> cases b <;> decide +kernel, q _ _ (Same.refl _) ?_⟩
  cases a <;> cases b <;> rfl
theorem ev_lcLF {K : PySem.W.Frag} {t : TE} {tt : TT} {σ : L2.St} {H : Hp} {xs : List V} {i : Nat} (p : V → Bool) (hN : xs.length ≤ 1000) (a : Ev (isLV xs) t σ H) (hw : ∀ z : V, wipe ((wipe σ [i]).set i (some z)) [i] = wipe σ [i]) (he : ∀ z : V, ((wipe σ [i]).set i (some z))[i]? = some (some z))
    (b : ∀ z ∈ xs, ∀ H1, Same H H1 → EvT (p z) tt ((wipe σ [i]).set i (some z)) H1) : Ev (isLV (xs.filter p)) (tLc (iList K t) (gName i) tt (tVar i) [i]) σ H := fun H1 s1 Q q =>
  a H1 s1 _ fun H2 x s2 ⟨T, ex, hT⟩ => by
    subst ex
    refine ⟨T, rfl, ⟨_, SqL.of hT⟩, fun D nD => lcp_list (p := p) (f := id) nD (SqL.of hT) (small64 hN) (fun j z Hc hz sc => ?_) (fun H3 s3 hD => ?_)⟩
    · intro R1 R2 h1 h2
      refine ⟨hw _, b z (List.mem_of_getElem? hz) Hc ((s1.trans s2).trans sc) Hc (Same.refl _) _ fun H4 s4 => ?_⟩
      cases hq : p z with
      | true => exact iteT ⟨_, he _, h2 hq _ s4⟩
      | false => exact iteF (h1 hq _ s4)
    · exact q _ _ (s2.trans s3) ⟨D, rfl, by rw [hD, List.map_id]⟩
abbrev isLN (S : Sm) (X : Ow) (xs : List V) : RV := fun H z => ∃ L, z = .ref L ∧ H L = some (.lst xs) ∧ ¬ XS S X L
theorem sk_ln {S : Sm} {X : Ow} (xs : List V) : StyK S X (isLN S X xs) := fun _ _ _ _ _ w k ⟨L, ez, hL, nX⟩ => ⟨L, ez, k L _ nX hL, nX⟩
section
variable {P : Program} {w : World} {K : PySem.W.Frag} {mg : Str → Option Value} {base : Heap}
abbrev nSx : List Str := ["_law_stream_here", "_law_six", "_law_free", "_law_tied", "_law_head", "_law_tail", "_law_place", "_law_near", "_law_pattern"]
theorem scSx : FnScope nSx ["_law_stream_here"] (defScope sLSixRight) := ⟨rfl, rfl, rfl, by decide +kernel, rfl, by decide +kernel, by decide +kernel⟩
def spSx : Sp := fun vs H Q _ => ∃ (S : Sm) (X : Ow) (W : HpP) (B : Int), vs = [.ref S.s] ∧ StyW X W ∧ Wld S X W B H ∧ B < 90000 ∧ ∀ H', KeepX (XS S X) H H' → Wld S X W (B + 300) H' → Q (.bl true) H'
abbrev isG3 : V → Prop := fun z => ∃ c : Nat, z = .str ⟨#[c]⟩ ∧ sgn3 c = true
abbrev tSx : TE := tOp (rIxL K) (tLst (tCons (tC (.str "?")) (tCons (tDf spPickS (tCons (tVar 0) (tCons (tC (.str "01??")) tNil))) tNil))) (tCB (fun xs H Q => ∃ b, xs = [.bl b] ∧ Q (.int (if b = true then 1 else 0)) H) (tCons (tOp (rI0 fun i j => .bl (decide (j < i))) (tOp (rI (fun _ j => 0 < j) fun i j => .int (i % j)) (tVar 6) (tC (.int 4))) (tC (.int 0))) tNil))
theorem ed_sx {S : Sm} {X : Ow} {W : HpP} {B : Int} {H : Hp} {σ : L2.St} {j : Nat} (sw : StyW X W) (hB : B < 99000) (e0 : σ[0]? = some (some (.ref S.s))) (e6 : σ[6]? = some (some (.int (j : Int)))) : EvD S X W B W (B + 1) (fun _ z => isG3 z) (tSx (K := K)) σ H := by
  have sG : StyK S X (fun _ z => isG3 z) := fun _ _ _ _ _ _ _ h => h
  have sA : StyA [fun (_ : Hp) z => isG3 z, fun (_ : Hp) z => isG3 z] := fun R hR => by
    simp only [List.mem_cons, List.not_mem_nil, or_false] at hR
    rcases hR with rfl | rfl <;> exact fun _ _ _ _ h => h
  have skO : StyK S X (isLO S X [fun (_ : Hp) z => isG3 z, fun (_ : Hp) z => isG3 z]) := fun H1 H2 z _ _ w1 k ⟨L, vs, ez, hL, hv, nX⟩ => ⟨L, vs, ez, k L _ nX hL, allV_kx (fun R hR => by
    simp only [List.mem_cons, List.not_mem_nil, or_false] at hR
    rcases hR with rfl | rfl <;> exact sG) w1 k hv, nX⟩
  refine ed_op (W1 := W) (B1 := B + 1) (Ra := isLO S X [fun (_ : Hp) z => isG3 z, fun (_ : Hp) z => isG3 z]) (Rb := isV (.int ((if decide ((0 : Int) < (j : Int) % 4) = true then 1 else 0 : Nat) : Int))) sw skO
    (ed_lst sw sA (by decide) (eda_cons sG ((ed_c (.str "?")).mono fun H z e => ⟨63, by rw [e, q_str], rfl⟩) (eda_cons sG ((ed_pickS (x := "01??") (W1 := W) (B1 := B) (B2 := B) sw (by rw [l01qq]; decide) (by rw [l01qq]; decide) (by omega) (ed_varV e0) (ed_c _)).mono fun H6 z ⟨c, e, hc⟩ => ⟨c, e, ok01qq c hc⟩) eda_nil)))
    (ed_pure sw fun H5 k5 w5 => fun H6 s6 Q q => ⟨_, e6, (j : Int), 4, rfl, rfl, (show (0 : Int) < 4 by decide), (j : Int) % 4, 0, rfl, rfl, decide ((0 : Int) < (j : Int) % 4), rfl, q _ _ (Same.refl _) (by split <;> rfl)⟩) fun H6 x y gx ey Q q => ?_
  obtain ⟨L, vs, ex, hL, hv, nX⟩ := gx
  match vs, hv with
  | [a, b], hv =>
    obtain ⟨ha, hb, _⟩ := hv
    by_cases h : (0 : Int) < (j : Int) % 4
    · rw [if_pos (decide_eq_true h)] at ey
      exact ⟨L, _, ((1 : Nat) : Int), b, ex, ey, SqL.of hL, atI_nat (j := 1) rfl, q _ _ (Same.refl _) hb⟩
    · rw [if_neg (by rw [decide_eq_false h]; decide)] at ey
      exact ⟨L, _, ((0 : Nat) : Int), a, ex, ey, SqL.of hL, atI_nat (j := 0) rfl, q _ _ (Same.refl _) ha⟩
theorem ok_sx {f : Addr} {fd : FuncData} {k : Nat} (B0 : Bl mg) (F : Fun K "_law_six_right" "_law_six_right" sLSixRight f fd) (dD : DefR P w K mg base 1 "_law_draw" spDrawN) (dP : DefR P w K mg base 2 "_law_pick" spPickS) (dT : DefR P w K mg base 45 "_law_told" (spTdK K)) : FnOk P w K mg base CX0 (k + 46) f fd ["_law_stream_here"] spSx := by
  refine F.ok scSx (fun vs H Q E h => ?_) (fun cdv A outer s H vs Q E hr0 h => ?_)
  · obtain ⟨S, X, W, B, rfl, _⟩ := h
    rfl
  · obtain ⟨S, X, W, B, rfl, sw, wd, hB, q⟩ := h
    have hr : Room 45 (A.deeper (envOfC "_law_six_right" (defScope sLSixRight) s.heap.objs.size f cdv)) := hr0.mono (by omega)
    have hr1 : Room 1 (A.deeper (envOfC "_law_six_right" (defScope sLSixRight) s.heap.objs.size f cdv)) := hr0.mono (by omega)
    have hr2 : Room 2 (A.deeper (envOfC "_law_six_right" (defScope sLSixRight) s.heap.objs.size f cdv)) := hr0.mono (by omega)
    refine ⟨_, pss_cons (ps_par3 (i := 1) (j := 2) (l := 3) (by rfl) scSx.nd rfl rfl rfl (by decide) (by decide) (by decide) rfl rfl rfl (pa_cons (pe_lst pa_nil) (pa_cons pe_int (pa_cons (pe_lst pa_nil) pa_nil))) (by rfl))
      (pss_cons (ps_for PassesOwn.never rfl (pi_list (pe_lst (pa_cons pe_str (pa_cons pe_str (pa_cons pe_str (pa_cons pe_str (pa_cons pe_str (pa_cons pe_str pa_nil)))))))) (pg_name (i := 4) scSx.nd rfl (by first | exact Or.inl rfl | exact Or.inr rfl))
      (pss_cons (ps_set (i := 5) scSx.nd rfl (by first | exact Or.inl rfl | exact Or.inr rfl) (pe_join pe_str (pe_lc (own := [("_law_place", 6)]) (g := (gName 6)) (tt := tYes) (te := tSx) rfl scSx.nd (pi_range1 (by rfl) B0.range (pa_cons pe_int pa_nil)) (blkOk_by (own := [("_law_place", 6)]) (N := nSx) (sc := defScope sLSixRight) (by decide +kernel))
          (fun _ _ _ _ _ => (pg_name (i := 6) scSx.nd rfl (Or.inl rfl))) (fun _ _ _ _ _ => pts_nil) (fun _ _ _ _ _ => pe_ix ix_list (pe_lst (pa_cons pe_str (pa_cons (pe_def dP hr2 (by rfl) (pa_cons (pv 0) (pa_cons pe_str pa_nil))) pa_nil))) (pe_callTy call_intB (by rfl) B0.int bInt (pa_cons (pe_cmpR op_gt (pe_op op_mod (pv 6) pe_int) pe_int (nomark _)) pa_nil)) (fun _ _ => rfl)))))
      (pss_one (ps_expr (pe_bm PySem.F.plainAttrs_list PySem.F.slot_list_append PySem.F.type_list_append mt_append (pv 1) (pa_cons (pe_op op_add_str (pv 4) (pv 5)) pa_nil))))))
      (pss_cons (ps_for PassesOwn.never rfl (pi_range2 (by rfl) B0.range (pa_cons pe_int (pa_cons pe_int pa_nil))) (pg_name (i := 6) scSx.nd rfl (by first | exact Or.inl rfl | exact Or.inr rfl))
      (pss_one (ps_if (pt_cmpR (op_neEL (Nat.lt_of_le_of_lt (Nat.le_add_right _ _) hr.units)) (pe_lc (own := [("_law_pattern", 8)]) (g := (gName 8)) (tt := (tTest (tOp rNe (tOp rIxS (tVar 8) (tVar 6)) (tC (.str "?"))))) (te := (tVar 8)) rfl scSx.nd (pi_list (pv 1)) (blkOk_by (own := [("_law_pattern", 8)]) (N := nSx) (sc := defScope sLSixRight) (by decide +kernel))
          (fun _ _ _ _ _ => (pg_name (i := 8) scSx.nd rfl (Or.inl rfl))) (fun _ _ _ _ _ => pts_one (pt_cmpR op_ne (pe_ix ix_str (pv 8) (pv 6) (fun _ _ => rfl)) pe_str (nomark _))) (fun _ _ _ _ _ => pv 8)) (pe_lst pa_nil) (nomark _)) (pss_one (ps_expr (pe_bm PySem.F.plainAttrs_list PySem.F.slot_list_append PySem.F.type_list_append mt_append (pv 3) (pa_cons (pe_op op_shl pe_int (pe_op op_sub pe_int (pv 6))) pa_nil)))) (pss_one (ps_if (pt_cmpR op_gt (pe_def dD hr1 (by rfl) (pa_cons (pv 0) (pa_cons pe_int pa_nil))) pe_int (nomark _)) (pss_one (ps_set (i := 2) scSx.nd rfl (by first | exact Or.inl rfl | exact Or.inr rfl) (pe_op op_add (pv 2) (pe_op op_shl pe_int (pe_op op_sub pe_int (pv 6)))))) pss_nil)))))
      (pss_cons (ps_set (i := 7) scSx.nd rfl (by first | exact Or.inl rfl | exact Or.inr rfl) (pe_op op_xor (pv 2) (pe_ix ix_list (pv 3) (pe_def dD hr1 (by rfl) (pa_cons (pv 0) (pa_cons (pe_callB call_len_seq (by rfl) B0.len PySem.boot_len (pa_cons (pv 3) pa_nil)) pa_nil))) (fun _ _ => rfl))))
      (pss_one (ps_ret (pe_cmpR (op_eqD hr.units) (pe_lst (pa_cons (pe_def dT hr (by rfl) (pa_cons (pe_callTy cr_tupO (by rfl) B0.tuple bT (pa_cons (pv 1) pa_nil)) (pa_cons (pv 2) pa_nil))) (pa_cons (pe_def dT hr (by rfl) (pa_cons (pe_callTy cr_tupO (by rfl) B0.tuple bT (pa_cons (pv 1) pa_nil)) (pa_cons (pv 7) pa_nil))) pa_nil))) (pe_lst (pa_cons pe_bl (pa_cons pe_bl pa_nil))) (nomark _))))))), ?_⟩
    refine ⟨sz (n := 0) (by decide), fun L nL => ⟨sz (n := 0) (by decide), fun M nM => ⟨_, _, _, rfl, ?_⟩⟩⟩
    have hL0 : upd (upd H L (.lst [])) M (.lst []) L = some (.lst []) := by rw [upd_ne (ne_of_none upd_same nM)]; exact upd_same
    have hM0 : upd (upd H L (.lst [])) M (.lst []) M = some (.lst []) := upd_same
    have LM : L ≠ M := ne_of_none upd_same nM
    have nM0 : H M = none := by rw [upd_ne LM.symm] at nM; exact nM
    have s2 : Same H (upd (upd H L (.lst [])) M (.lst [])) := (same_new nL).trans (same_new nM)
    have XL := wd.new nL
    have XM : ¬ XS S X M := wd.new nM0
    have wd2 := wd.same sw s2
    have k2 : KeepX (XS S X) H (upd (upd H L (.lst [])) M (.lst [])) := KeepX.of s2
    generalize upd (upd H L (.lst [])) M (.lst []) = H2 at *
    refine ⟨sz (n := 6) (by decide), fun Lh nLh => ?_⟩
    have hLh : upd H2 Lh (.lst (sixK.map V.str)) Lh = some (.lst (sixK.map V.str)) := upd_same
    have cLh := same_new (o := .lst (sixK.map V.str)) nLh
    have nXh := wd2.new nLh
    have wd3 := wd2.same sw cLh
    have k3 := k2.trans (KeepX.of cLh)
    have hL3 := cLh _ _ hL0
    have hM3 := cLh _ _ hM0
    have nLLh : L ≠ Lh := ne_of_none hL0 nLh
    refine ⟨Lh, rfl, ⟨_, SqL.of hLh⟩, for_list (K := K) (xs := sixK.map V.str) (fun i σ H' => ∃ (ws : List Str) (z4 z5 : Option V), σ = [some (.ref S.s), some (.ref L), some (.int ((0 : Nat) : Int)), some (.ref M), z4, z5, none, none, none] ∧ KeepX (XS S X) H H' ∧ Wld S X W (B + (36 : Nat) * i) H' ∧ H' L = some (.lst (ws.map V.str)) ∧ H' M = some (.lst []) ∧ H' Lh = some (.lst (sixK.map V.str)) ∧ SixL i ws) ⟨[], none, none, rfl, k3, wd3.mono (by omega), hL3, hM3, hLh, rfl, by simp, fun j x h hx => by simp at hx⟩ (fun i σ H' hi h => ?_) (fun i v σ H' hv h => ?_) (fun σ H' h => ?_)⟩
    · obtain ⟨ws, z4, z5, rfl, k4, wd4, hL4, hM4, hLh4, six⟩ := h
      exact SqL.of hLh4
    · obtain ⟨ws, z4, z5, rfl, k4, wd4, hL4, hM4, hLh4, six⟩ := h
      rw [List.getElem?_map] at hv
      obtain ⟨hd, hhd, rfl⟩ := Option.map_eq_some_iff.mp hv
      have hi : i < 6 := (List.getElem?_eq_some_iff.mp hhd).1
      obtain ⟨h3, hs3⟩ := six_ok hd (List.mem_of_getElem? hhd)
      refine asg_ed (W1 := W) (B1 := B + (36 : Nat) * i + (1 : Nat) * (36 : Nat)) (R := isPat 36) (ed_joinP (by decide) (ed_lcR (n := 36) (d := 1) (W1 := W) (B1 := B + (36 : Nat) * i) sw (by decide) (fun _ => rfl) (ed_c _) fun j H5 B' hj hb1 hb2 k5 => ed_sx (K := K) sw (by omega) rfl rfl) fun cs p H5 Q' hp hl q' => ⟨_, p, _, rfl, rfl, .inl (SqL.of hp), by rw [sum_ones]; show _ + _ * 0 ≤ _; omega, by rw [TL.join_eq]; exact q'⟩) wd4 fun H5 z k5 wd5 g5 => ?_
      obtain ⟨t, rfl, ht⟩ := g5
      have hL5 := k5 L _ XL hL4
      refine app_ed (W1 := W) (B1 := B + (36 : Nat) * i + (1 : Nat) * (36 : Nat)) (R := isV (.str (hd ++ t))) rfl XL hL5 (by rw [List.length_map, six.l]; omega) (ed_op (W1 := W) (B1 := B + (36 : Nat) * i + (1 : Nat) * (36 : Nat)) (Ra := isV (.str hd)) (Rb := isV (.str t)) sw (sk_v _) (ed_varV rfl) (ed_varV rfl) (of_addS (by have := ht.1; have e : t.cps.size = t.length := rfl; omega))) wd5 fun H6 z k6 wd6 g6 hL6 => ?_
      subst g6
      have hM6 : H6 M = some (.lst []) := k6 M _ XM (k5 M _ XM hM4)
      have hLh6 : H6 Lh = some (.lst (sixK.map V.str)) := k6 Lh _ nXh (k5 Lh _ nXh hLh4)
      refine ⟨ws ++ [hd ++ t], _, _, rfl, ((k4.trans k5).trans k6).put nL, (wd6.put sw hL6 XL).mono (by omega), by rw [upd_same, List.map_append]; rfl, by rw [upd_ne LM.symm]; exact hM6, by rw [upd_ne nLLh.symm]; exact hLh6, six.snoc hhd ht⟩
    · obtain ⟨ws, z4, z5, rfl, k4, wd4, hL4, hM4, _, six⟩ := h
      have six : SixL 6 ws := six
      have wd4 : Wld S X W (B + 216) H' := wd4.mono (by show B + ((36 : Nat) : Int) * ((6 : Nat) : Int) ≤ _; omega)
      have x0h : ∃ y, ws[0]? = some y ∧ y.cps.toList[3]? ≠ some 63 := by
        have h0 : 0 < ws.length := by rw [six.l]; decide
        refine ⟨ws[0], List.getElem?_eq_getElem h0, fun e => ?_⟩
        have := six.hd 0 _ "0000" (List.getElem?_eq_getElem h0) rfl
        have e2 : (ws[0].cps.toList.take 4)[3]? = some 63 := by rw [List.getElem?_take, if_pos (by decide)]; exact e
        rw [this] at e2
        exact absurd e2 (by decide +kernel)
      refine ⟨3, 40, rfl, ⟨by decide, by decide, by decide, by decide⟩, for_range (lo := 3) (n := 37) (fun i σ H2 => ∃ (fr : Nat) (g : Nat → Bool) (tq : List Nat) (z6 : Option V), σ = [some (.ref S.s), some (.ref L), some (.int (fr : Int)), some (.ref M), z4, z5, z6, none, none] ∧ KeepX (XS S X) H H2 ∧ Wld S X W (B + 216 + i) H2 ∧ H2 L = some (.lst (ws.map V.str)) ∧
        H2 M = some (.lst (tq.map fun q => .int ((2 ^ (39 - q) : Nat) : Int))) ∧ tq.length ≤ i ∧ (0 < i → 0 < tq.length) ∧ (∀ q ∈ tq, 3 ≤ q ∧ q < 40 ∧ ∃ (s : Nat) (y : Str), ws[s]? = some y ∧ y.cps.toList[q]? ≠ some 63) ∧ fr = frN g (3 + i) * 2 ^ (37 - i) ∧ ∀ j, j < 3 + i → g j = true → ∀ x ∈ ws, x.cps.toList[j]? = some 63)
        ⟨0, fun _ => false, [], none, rfl, k4, wd4.mono (by omega), hL4, hM4, Nat.zero_le _, fun h => absurd h (by decide), by simp, by decide, fun j _ h => by cases h⟩ (fun i σ H2 hi h => ?_) (fun σ H2 h => ?_)⟩
      · obtain ⟨fr, g, tq, z6, rfl, k5, wd5, hL5, hM5, lt, l0, htq, hfr, hg⟩ := h
        have e3 : (3 : Int) + (i : Int) = ((3 + i : Nat) : Int) := by omega
        rw [e3]
        have e1 : Ev (isB (!((ws.map V.str).filter (noQ (3 + i))).isEmpty)) (tOp (rNeEL K) (tLc (iList K (tVar 1)) (gName 8) (tTest (tOp rNe (tOp rIxS (tVar 8) (tVar 6)) (tC (.str "?")))) (tVar 8) [8]) (tLst tNil)) [some (.ref S.s), some (.ref L), some (.int (fr : Int)), some (.ref M), z4, z5, some (.int ((3 + i : Nat) : Int)), none, none] H2 := by
          refine ev_op (sty_lV _) (ev_lcLF _ (by rw [List.length_map, six.l]; decide) (ev_var (sty_lV _) rfl ⟨L, rfl, hL5⟩) (fun _ => rfl) (fun _ => rfl) fun z hz H1 s1 => ?_) ev_nil of_neEL
          obtain ⟨x, hx, rfl⟩ := List.mem_map.mp hz
          exact evt_noQ (six.ok x hx) (by decide) (by omega) rfl rfl
        refine e1 H2 (Same.refl _) _ fun H3 z s3 ez => ⟨_, ez, ?_⟩
        have k6 := k5.trans (KeepX.of s3)
        have wd6 := wd5.same sw s3
        have hL6 := s3 _ _ hL5
        have hM6 := s3 _ _ hM5
        have pe : 2 ^ (37 - i) = 2 * 2 ^ (37 - (i + 1)) := by rw [show 37 - i = (37 - (i + 1)) + 1 by omega, Nat.pow_succ]; omega
        have nxt : ∀ b : Bool, ∃ g' : Nat → Bool, frN g' (3 + (i + 1)) = 2 * frN g (3 + i) + (if b = true then 1 else 0) ∧ ∀ j, j < 3 + (i + 1) → g' j = true → (j < 3 + i ∧ g j = true) ∨ (j = 3 + i ∧ b = true) := fun b => by
          refine ⟨fun j => if j = 3 + i then b else g j, ?_, fun j hj h => ?_⟩
          · show 2 * frN _ (3 + i) + (if (if 3 + i = 3 + i then b else g (3 + i)) = true then 1 else 0) = _
            rw [if_pos rfl, frN_congr (g' := g) (3 + i) fun j hj => if_neg (by omega)]
          · dsimp only at h
            by_cases hh : j = 3 + i
            · rw [if_pos hh] at h
              exact .inr ⟨hh, h⟩
            · rw [if_neg hh] at h
              exact .inl ⟨by omega, h⟩
        have f0 : ∃ g' : Nat → Bool, fr = frN g' (3 + (i + 1)) * 2 ^ (37 - (i + 1)) ∧ ∀ j, j < 3 + (i + 1) → g' j = true → ∀ x ∈ ws, x.cps.toList[j]? = some 63 := by
          obtain ⟨g', h1, h2⟩ := nxt false
          refine ⟨g', ?_, fun j hj h => ?_⟩
          · rw [h1, if_neg (by decide), Nat.add_zero, hfr, pe, ← Nat.mul_assoc, Nat.mul_comm _ 2]
          · rcases h2 j hj h with ⟨a, b⟩ | ⟨_, b⟩
            · exact hg j a b
            · cases b
        cases hc : ((ws.map V.str).filter (noQ (3 + i))).isEmpty with
        | false =>
          obtain ⟨s0, y0, hy0, ne0⟩ := noQ_non hc
          refine iteT ?_
          refine app_ed (W1 := W) (B1 := B + 216 + i) (R := isV (.int ((2 ^ (39 - (3 + i)) : Nat) : Int))) rfl XM hM6 (by rw [List.length_map]; omega) (ed_op (W1 := W) (B1 := B + 216 + i) (Ra := isV (.int 1)) (Rb := isV (.int ((39 - (3 + i) : Nat) : Int))) sw (sk_v _) (ed_c _) (ed_op (W1 := W) (B1 := B + 216 + i) (Ra := isV (.int 39)) (Rb := isV (.int ((3 + i : Nat) : Int))) sw (sk_v _) (ed_c _) (ed_varV rfl) (fun H x y ex ey Q q => ⟨39, ((3 + i : Nat) : Int), ex, ey, q _ _ (Same.refl _) (congrArg V.int (by omega))⟩))
            (fun H x y ex ey Q q => ⟨1, ((39 - (3 + i) : Nat) : Int), ex, ey, cpowW (by omega), q _ _ (Same.refl _) (congrArg V.int (shl1 _))⟩)) wd6 fun H4 z k7 wd7 g7 hM7 => ?_
          subst g7
          have hL7 := k7 L _ XL hL6
          obtain ⟨g', h1, h2⟩ := f0
          refine ⟨fr, g', tq ++ [3 + i], _, rfl, (k6.trans k7).put nM0, (wd7.put sw hM7 XM).mono (by omega), by rw [upd_ne LM]; exact hL7, by rw [upd_same, List.map_append]; rfl, by rw [List.length_append]; show _ + 1 ≤ _; omega, fun _ => by rw [List.length_append]; show 0 < _ + 1; omega, fun q hq => ?_, h1, h2⟩
          rcases List.mem_append.mp hq with hq | hq
          · exact htq q hq
          · rw [List.mem_singleton.mp hq]
            exact ⟨by omega, by omega, s0, y0, hy0, ne0⟩
        | true =>
          have allq := noQ_emp hc
          have i0 : 0 < i := by
            rcases Nat.eq_zero_or_pos i with h | h
            · subst h
              obtain ⟨y, hy, ny⟩ := x0h
              exact absurd (allq y (List.mem_of_getElem? hy)) ny
            · exact h
          refine iteF ?_
          obtain ⟨t, st, ht⟩ := wd6.t
          refine ⟨.ref S.s, rfl, S, t, 3, rfl, st, by decide, by decide, by omega, fun H4 r t4 s4 hr4 => ⟨(r : Int), 0, rfl, rfl, _, rfl, ?_⟩⟩
          obtain ⟨wd7, k7⟩ := wd6.step sw st ht s4
          have k8 := k6.trans k7
          have hL7 := k7 L _ XL hL6
          have hM7 := k7 M _ XM hM6
          refine ite2 (fun _ => ?_) (fun _ => ?_)
          · obtain ⟨g', h1, h2⟩ := nxt true
            refine ⟨.int (fr : Int), rfl, .int ((3 + i : Nat) : Int), rfl, 39, ((3 + i : Nat) : Int), rfl, rfl, 1, 39 - ((3 + i : Nat) : Int), rfl, rfl, ?_, (fr : Int), _, rfl, rfl, ?_⟩
            · rw [show (39 : Int) - ((3 + i : Nat) : Int) = ((37 - (i + 1) : Nat) : Int) by omega]
              exact cpowW (by omega)
            rw [show (39 : Int) - ((3 + i : Nat) : Int) = ((37 - (i + 1) : Nat) : Int) by omega, shl1]
            refine ⟨fr + 2 ^ (37 - (i + 1)), g', tq, _, by rw [Int.natCast_add]; rfl, k8, wd7.mono (by omega), hL7, hM7, by omega, fun _ => l0 i0, htq, ?_, fun j hj h => ?_⟩
            · rw [h1, if_pos rfl, hfr, pe, Nat.add_mul, Nat.one_mul, ← Nat.mul_assoc, Nat.mul_comm _ 2]
            · rcases h2 j hj h with ⟨a, b⟩ | ⟨a, _⟩
              · exact hg j a b
              · rw [a]; exact allq
          · obtain ⟨g', h1, h2⟩ := f0
            exact ⟨fr, g', tq, _, rfl, k8, wd7.mono (by omega), hL7, hM7, by omega, fun _ => l0 i0, htq, h1, h2⟩
      · obtain ⟨fr, g, tq, z6, rfl, k5, wd5, hL5, hM5, lt, l0, htq, hfr, hg⟩ := h
        have l0 : 0 < tq.length := l0 (by decide)
        have hfr : fr = frN g 40 := by rw [hfr]; exact Nat.mul_one _
        have hg : ∀ i, i < 40 → g i = true → ∀ x ∈ ws, x.cps.toList[i]? = some 63 := hg
        have eM : ∀ {σ : L2.St} {H' : Hp}, σ[3]? = some (some (.ref M)) → KeepX (XS S X) H2 H' → Ev (isLv (tq.map fun q => .int ((2 ^ (39 - q) : Nat) : Int))) (tVar 3) σ H' := fun e k => ev_var (sty_lv _) e ⟨M, rfl, k M _ XM hM5⟩
        refine asg_ed (W1 := W) (B1 := B + 216 + (37 : Nat) + 1) (R := fun _ z => ∃ q ∈ tq, z = .int ((fr ^^^ 2 ^ (39 - q) : Nat) : Int)) (ed_op (W1 := W) (B1 := B + 216 + (37 : Nat)) (Ra := isV (.int (fr : Int))) (Rb := fun _ z => ∃ q ∈ tq, z = .int ((2 ^ (39 - q) : Nat) : Int)) sw (sk_v _) (ed_varV rfl) (ed_op (W1 := W) (B1 := B + 216 + (37 : Nat)) (Ra := isLN S X (tq.map fun q => .int ((2 ^ (39 - q) : Nat) : Int))) (Rb := fun _ z => ∃ r : Nat, z = .int (r : Int) ∧ r < tq.length) sw (sk_ln _) (fun H6 k6 w6 Q q => ⟨_, rfl, q _ _ (KeepX.refl _ _) w6 ⟨M, rfl, k6 M _ XM hM5, XM⟩⟩)
          (ed_draw (m := tq.length) (W1 := W) (B1 := B + 216 + (37 : Nat)) sw l0 (by omega) (by omega) (ed_varV rfl) (ed_pure sw fun H6 k6 w6 => fun H7 s7 Q q => ⟨.ref M, rfl, M, _, rfl, .inl (SqL.of (s7 _ _ (k6 M _ XM hM5))), q _ _ (Same.refl _) (by rw [List.length_map])⟩)) fun H6 x y gx gy Q q => ?_) fun H6 x y ex gy Q q => ?_) wd5 fun H3 v7 k6 wd6 g6 => ?_
        · obtain ⟨L', ex, hL', _⟩ := gx
          obtain ⟨r, ey, hr'⟩ := gy
          exact ⟨L', _, (r : Int), _, ex, ey, SqL.of hL', atI_nat (by rw [List.getElem?_map, List.getElem?_eq_getElem hr']; rfl), q _ _ (Same.refl _) ⟨_, List.getElem_mem hr', rfl⟩⟩
        · obtain ⟨qq, hqq, ey⟩ := gy
          exact ⟨fr, ((2 ^ (39 - qq) : Nat) : Int), ex, ey, q _ _ (Same.refl _) ⟨qq, hqq, congrArg V.int (bx _ _)⟩⟩
        obtain ⟨qq, hqq, rfl⟩ := g6
        obtain ⟨q3, q40, s0, y0, hy0, ny0⟩ := htq qq hqq
        obtain ⟨w1, w2, w3, w4⟩ := six_kw six hg q3 q40 hy0 ny0
        rw [← hfr] at w1 w2 w3 w4
        have hL6 := k6 L _ XL hL5
        have wl : ws.length = 6 := six.l
        have eT : ∀ {H9 : Hp} {tb : TE} {σ : L2.St} {m : Nat} {b : Bool}, Same H3 H9 → σ[1]? = some (some (.ref L)) → m < 2 ^ 40 → kwB 40 m ws = b → Ev (isV (.int (m : Int))) tb σ H9 → Ev (isV (.bl b)) (tDf (spTdK K) (tCons (tCB (rTupO K) (tCons (tVar 1) tNil)) (tCons tb tNil))) σ H9 := fun {H9 tb σ m b} s9 e1 hm hb eb => by
          have a : Ev (isTV (ws.map V.str)) (tCB (rTupO K) (tCons (tVar 1) tNil)) σ H9 := ev_tupLV (ev_var (sty_lV _) e1 ⟨_, rfl, s9 _ _ hL6⟩)
          intro H1 s1 Q' q'
          refine a H1 s1 _ fun H2 z s2 ⟨T, ez, hT⟩ => eb H2 (s1.trans s2) _ fun H3 y s3 ey => ?_
          subst ez ey
          refine ⟨T, ws, 40, _, .int (m : Int), rfl, ⟨s3 _ _ hT, by omega, by omega, by decide, by decide, six.ok⟩, .int _, fun H4 z4 s4 g4 => q' _ _ ((s2.trans s3).trans s4) ?_⟩
          unfold dKw at g4
          rw [if_pos (isM_nat hm)] at g4
          have g4 : Dz K H4 z4 (.bool (kwB 40 ((m : Int).toNat) ws)) := g4
          rw [Int.toNat_natCast, hb] at g4
          cases g4
          rfl
        refine ret_ev (R := isB true) (ev_op (sty_lv _) (ev_lv (vs := [.bl true, .bl false]) (Nat.le_of_ble_eq_true rfl) (eva_cons (sty_v _) (eT (Same.refl _) rfl w1 w2 (ev_var (sty_v _) rfl rfl)) (eva_cons (sty_v _) (eT (Same.refl _) rfl w3 w4 (ev_var (sty_v _) rfl rfl)) eva_nil))) (ev_lv (vs := [.bl true, .bl false]) (Nat.le_of_ble_eq_true rfl) (eva_cons (sty_v _) (ev_c _) (eva_cons (sty_v _) (ev_c _) eva_nil))) of_eqBs) fun H10 z10 s10 e10 => ?_
        rw [e10]
        exact q _ ((k5.trans k6).trans (KeepX.of s10)) ((wd6.same sw s10).mono (by omega))
end
end XT
/-! list(zip(x, y)) of two texts -/
namespace XT
open PySem PySem.Spec PyProof.Rows L2
section
variable {prog : Program} {w : World} {A : Around} {E : Value → Shared → Prop} {s : Shared} {z TI TO i1 i2 T : Addr} {fp1 fp2 : List Addr} {n1 n2 i : Nat} {P1 P2 : Nat → Value → Prop} {St1 St2 : Nat → Heap → Prop} {f : Bool} {oT : Obj}
theorem zip_nolen : typeLookup (.type "zip") "__len__" = pure none := by rw [typeLookup_type, builtinLookup_eq_fast]; kernel_rfl
theorem zip_nohint : typeLookup (.type "zip") "__length_hint__" = pure none := by rw [typeLookup_type, builtinLookup_eq_fast]; kernel_rfl
theorem zipD2_item_held {Q : Value → Shared → Prop} (S : ZipSep2 z TI TO i1 i2 fp1 fp2) (D1 : Draws prog w A i1 fp1 n1 P1 St1) (D2 : Draws prog w A i2 fp2 n2 P2 St2)
    (hz : IsZipHeld s.heap z TI TO T f) (hT : s.heap.get? T = some oT) (hTI : IsTupOf2 s.heap TI (.ref i1) (.ref i2)) (st1 : St1 i s.heap) (st2 : St2 i s.heap) (hlt1 : i < n1) (hlt2 : i < n2)
    (hQ : ∀ x1 x2 h' tk, P1 i x1 → P2 i x2 → IsZipHeld h' z TI TO T true → St1 (i + 1) h' → St2 (i + 1) h' → IsTupOf2 h' s.heap.objs.size x1 x2 → h'.objs.size = s.heap.objs.size + 1 →
      (∀ c o, c ≠ z → c ≠ i1 → c ≠ i2 → s.heap.get? c = some o → h'.get? c = some o) → Q (.ref s.heap.objs.size) { s with heap := h', toks := tk }) :
    wpAny (model prog w) A (Builtin.«zip.__next__» ⟨[.ref z], []⟩) (fun fin s' => ∃ v, fin = .done (.ret v) ∧ Q v s') E s := by
  obtain ⟨hp, g, d, tk0, os⟩ := s
  show wpAny _ _ (field (.ref z) 2 >>= _) _ _ _
  refine wpAny_bind (wpAny_field hz rfl (x := .bool false) rfl ?_)
  show wpAny _ _ (field (.ref z) 3 >>= _) _ _ _
  refine wpAny_bind (wpAny_field hz rfl (x := .ref TI) rfl ?_)
  refine wpAny_bind (wpAny_seqItems hTI rfl ?_)
  show wpAny _ _ (Builtin.SmallTypes.ownedTupleIsFree (.ref z) >>= _) _ _ _
  refine wpAny_bind (wpAny_tupleHeld_zip hz hT fun g0 hz0 hs0 => ?_)
  replace hs0 : Heap.SameBut z hp g0 := hs0
  simp only [Bool.false_eq_true, if_false]
  refine wpAny_bind ?_
  rw [← Array.forIn_toList]
  simp only [List.forIn_cons, List.forIn_nil]
  refine wpAny_bind (wpAny_bind (wpAny_holding ?_))
  show wpAny _ _ (Builtin.SmallTypes.nextOf (.ref i1) >>= _) _ _ ⟨g0, g, d, tk0, os⟩
  refine wpAny_bind (D1.item i _ _ _ hlt1 (D1.over st1 hs0 S.zf1) fun x1 p1 tk1 hx1 sn1 hp1 => wpAny_pure ?_)
  replace hp1 : Heap.SameBut i1 g0 p1 := hp1
  refine wpAny_pure ?_
  refine wpAny_bind (wpAny_bind (wpAny_holding ?_))
  show wpAny _ _ (Builtin.SmallTypes.nextOf (.ref i2) >>= _) _ _ ⟨p1, g, d, tk1, os⟩
  refine wpAny_bind (D2.item i _ _ _ hlt2 (D2.over (D2.over st2 hs0 S.zf2) hp1 S.sep1_2) fun x2 p2 tk2 hx2 sn2 hp2 => wpAny_pure ?_)
  replace hp2 : Heap.SameBut i2 p1 p2 := hp2
  refine wpAny_pure (wpAny_pure ?_)
  show wpAny _ _ (newTuple [x1, x2] >>= _) _ _ _
  refine wpAny_bind (wpAny_newTuple ?_)
  have hsz : p2.objs.size = hp.objs.size := by rw [hp2.1, hp1.1, hs0.1]
  have hzz : IsZipHeld p2 z TI TO T true := hp2.extBut _ _ S.zi2 (hp1.extBut _ _ S.zi1 hz0)
  have hk : ∀ c o, c ≠ z → c ≠ i1 → c ≠ i2 → hp.get? c = some o → p2.get? c = some o := fun c o c1 c2 c3 e => hp2.extBut _ _ c3 (hp1.extBut _ _ c2 (hs0.extBut _ _ c1 e))
  refine wpAny_pure ⟨_, rfl, ?_⟩
  show Q (.ref p2.objs.size) ⟨p2.push { cls := .type "tuple", data := .seq #[x1, x2] }, g, d, tk2, os⟩
  have hpp : IsTupOf2 (p2.push { cls := .type "tuple", data := .seq #[x1, x2] }) p2.objs.size x1 x2 := Heap.get?_push_size _ rfl
  have hz4 : (p2.push { cls := .type "tuple", data := .seq #[x1, x2] }).objs.size = p2.objs.size + 1 := Heap.size_push ..
  rw [hsz] at hpp hz4 ⊢
  exact hQ x1 x2 _ tk2 hx1 hx2 (Heap.get?_push_of_some _ hzz) (D1.frame _ _ _ (D1.over sn1 hp2 S.sep2_1) fun b hb o e => Heap.get?_push_of_some _ e) (D2.frame _ _ _ sn2 fun b hb o e => Heap.get?_push_of_some _ e) hpp hz4 fun c o c1 c2 c3 e => Heap.get?_push_of_some _ (hk c o c1 c2 c3 e)
theorem zipD2_end_held {Q : Fin → Shared → Prop} (S : ZipSep2 z TI TO i1 i2 fp1 fp2) (D1 : Draws prog w A i1 fp1 n1 P1 St1)
    (hz : IsZipHeld s.heap z TI TO T f) (hT : s.heap.get? T = some oT) (hTI : IsTupOf2 s.heap TI (.ref i1) (.ref i2)) (st1 : St1 n1 s.heap)
    (hE : ∀ h' e, (∀ c o, c ≠ z → c ≠ i1 → s.heap.get? c = some o → h'.get? c = some o) → (∃ o, h'.get? e = some o ∧ o.cls = .type "StopIteration") → E (.ref e) { s with heap := h' }) :
    wpAny (model prog w) A (Builtin.«zip.__next__» ⟨[.ref z], []⟩) Q E s := by
  obtain ⟨hp, g, d, tk0, os⟩ := s
  show wpAny _ _ (field (.ref z) 2 >>= _) _ _ _
  refine wpAny_bind (wpAny_field hz rfl (x := .bool false) rfl ?_)
  show wpAny _ _ (field (.ref z) 3 >>= _) _ _ _
  refine wpAny_bind (wpAny_field hz rfl (x := .ref TI) rfl ?_)
  refine wpAny_bind (wpAny_seqItems hTI rfl ?_)
  show wpAny _ _ (Builtin.SmallTypes.ownedTupleIsFree (.ref z) >>= _) _ _ _
  refine wpAny_bind (wpAny_tupleHeld_zip hz hT fun g0 hz0 hs0 => ?_)
  replace hs0 : Heap.SameBut z hp g0 := hs0
  simp only [Bool.false_eq_true, if_false]
  refine wpAny_bind ?_
  rw [← Array.forIn_toList]
  simp only [List.forIn_cons, List.forIn_nil]
  refine wpAny_bind (wpAny_bind (wpAny_holding ?_))
  show wpAny _ _ (Builtin.SmallTypes.nextOf (.ref i1) >>= _) _ _ ⟨g0, g, d, tk0, os⟩
  refine wpAny_bind (D1.done ⟨g0, g, d, tk0, os⟩ _ _ (D1.over st1 hs0 S.zf1) fun q e hq he => ?_)
  replace hq : Heap.ExtBut i1 g0 q := hq
  exact hE q e (fun c o c1 c2 x => hq _ _ c2 (hs0.extBut _ _ c1 x)) he
theorem next_item_held {Q : Option Value → Shared → Prop} (S : ZipSep2 z TI TO i1 i2 fp1 fp2) (D1 : Draws prog w A.in1 i1 fp1 n1 P1 St1) (D2 : Draws prog w A.in1 i2 fp2 n2 P2 St2)
    (hz : IsZipHeld s.heap z TI TO T f) (hT : s.heap.get? T = some oT) (hTI : IsTupOf2 s.heap TI (.ref i1) (.ref i2)) (st1 : St1 i s.heap) (st2 : St2 i s.heap) (hlt1 : i < n1) (hlt2 : i < n2)
    (hQ : ∀ x1 x2 h' tk, P1 i x1 → P2 i x2 → IsZipHeld h' z TI TO T true → St1 (i + 1) h' → St2 (i + 1) h' → IsTupOf2 h' s.heap.objs.size x1 x2 → h'.objs.size = s.heap.objs.size + 1 →
      (∀ c o, c ≠ z → c ≠ i1 → c ≠ i2 → s.heap.get? c = some o → h'.get? c = some o) → Q (some (.ref s.heap.objs.size)) { s with heap := h', toks := tk }) :
    wpAny (model prog w) A (pyNext (.ref z)) Q E s := by
  have hTy : s.TypeIs (.ref z) "zip" := ⟨_, hz, rfl⟩
  unfold pyNext
  exact wpAny_bind (wpAny_attempt (wpAny_callSpecial?_slot (name := Str.ofString "__next__") hTy F.slot_zip_next
    (wpAny_call_entry F.slot_zip_next hTy F.entry_zip_next
      (zipD2_item_held S D1 D2 hz hT hTI st1 st2 hlt1 hlt2 fun x1 x2 h' tk a1 a2 a3 a4 a5 a6 a7 a8 => wpAny_pure (hQ x1 x2 h' tk a1 a2 a3 a4 a5 a6 a7 a8)) (F.args_zip_next_1 _))))
theorem next_end_held {Q : Option Value → Shared → Prop} (S : ZipSep2 z TI TO i1 i2 fp1 fp2) (D1 : Draws prog w A.in1 i1 fp1 n1 P1 St1)
    (hz : IsZipHeld s.heap z TI TO T f) (hT : s.heap.get? T = some oT) (hTI : IsTupOf2 s.heap TI (.ref i1) (.ref i2)) (st1 : St1 n1 s.heap)
    (hQ : ∀ h', (∀ c o, c ≠ z → c ≠ i1 → s.heap.get? c = some o → h'.get? c = some o) → Q none { s with heap := h' }) :
    wpAny (model prog w) A (pyNext (.ref z)) Q E s := by
  have hTy : s.TypeIs (.ref z) "zip" := ⟨_, hz, rfl⟩
  unfold pyNext
  refine wpAny_bind (wpAny_attempt (wpAny_callSpecial?_slot (name := Str.ofString "__next__") hTy F.slot_zip_next
    (wpAny_call_entry F.slot_zip_next hTy F.entry_zip_next (zipD2_end_held S D1 hz hT hTI st1 fun h' e hk he => ?_) (F.args_zip_next_1 _))))
  obtain ⟨o, ho, hc⟩ := he
  refine wpAny_bind (wpAny_isInstance (T := "StopIteration") (b := true) ⟨o, ho, hc⟩ isSubtype_stop ?_)
  exact wpAny_pure (hQ _ hk)
end
/-- the zip after i turns -/
def Zst (z TI TO i1 i2 : Addr) (x y : Str) (tx ty : Tok) (i : Nat) (h : Heap) : Prop := IsTupOf2 h TI (.ref i1) (.ref i2) ∧ h.IsStrIter i1 (strIterType x) x tx i ∧ h.IsStrIter i2 (strIterType y) y ty i ∧
  ((IsZip h z TI TO .none ∧ ∃ a1 a2, IsTupOf2 h TO a1 a2) ∨ ∃ T f oT oO, IsZipHeld h z TI TO T f ∧ h.get? T = some oT ∧ h.get? TO = some oO ∧ T ≠ z ∧ T ≠ i1 ∧ T ≠ i2)
abbrev sg2 (c d : Nat) : HO := .tup [.str ⟨#[c]⟩, .str ⟨#[d]⟩]
section
variable {X : Cx} {A1 : Around} {pins : List (Addr × Obj)} {σ : L2.St} {x y : Str} {tx ty : Tok} {z TI TO i1 i2 q : Addr} {Rs : Result → Shared → Prop}
theorem Zst.put {i : Nat} {h : Heap} {f : Obj → Obj} (Z : Zst z TI TO i1 i2 x y tx ty i h) (a1 : TI ≠ q) (a2 : i1 ≠ q) (a3 : i2 ≠ q) (a4 : z ≠ q) (a5 : TO ≠ q) (hq : ∀ o, h.get? q = some o → ∃ o', (h.update q f).get? q = some o') : Zst z TI TO i1 i2 x y tx ty i (h.update q f) := by
  obtain ⟨b1, ⟨o1, e1, r1⟩, ⟨o2, e2, r2⟩, b4⟩ := Z
  have up : ∀ b o, b ≠ q → h.get? b = some o → (h.update q f).get? b = some o := fun b o hb e => (Heap.get?_update_other _ _ (Ne.symm hb)).trans e
  refine ⟨up _ _ a1 b1, ⟨o1, up _ _ a2 e1, r1⟩, ⟨o2, up _ _ a3 e2, r2⟩, ?_⟩
  rcases b4 with ⟨b4, u, v, b5⟩ | ⟨T, g, oT, oO, b4, b5, b6⟩
  · exact .inl ⟨up _ _ a4 b4, u, v, up _ _ a5 b5⟩
  · by_cases hT : T = q
    · subst hT
      obtain ⟨o', e'⟩ := hq _ b5
      exact .inr ⟨T, g, o', oO, up _ _ a4 b4, e', up _ _ a5 b6.1, b6.2⟩
    · exact .inr ⟨T, g, oT, oO, up _ _ a4 b4, up _ _ hT b5, up _ _ a5 b6.1, b6.2⟩
theorem lz_loop (hh : A1.handled = none) (S : ZipSep2 z TI TO i1 i2 [i1] [i2]) (hl : x.cps.size = y.cps.size) (hn : x.cps.size ≤ 1000) (H0 : Hp)
    (hdone : ∀ (H : Hp) (s : Shared) (Ts : List Addr), Inv X pins σ H s → H q = some (.lst (Ts.map V.ref)) → Ts.length = x.cps.size → (∀ b o, b ≠ q → H0 b = some o → H b = some o) →
      (∀ (j : Nat) (T : Addr), Ts[j]? = some T → ∃ c d, x.cps[j]? = some c ∧ y.cps[j]? = some d ∧ H T = some (sg2 c d)) → Rs (.ok (.ret .none)) s) :
    ∀ (m i : Nat) (Ts : List Addr) (H : Hp) (s : Shared), i + m = x.cps.size → Inv X pins σ H s → H q = some (.lst (Ts.map V.ref)) → Ts.length = i → (∀ b o, b ≠ q → H0 b = some o → H b = some o) →
      (∀ (j : Nat) (T : Addr), Ts[j]? = some T → ∃ c d, x.cps[j]? = some c ∧ y.cps[j]? = some d ∧ H T = some (sg2 c d)) → (∀ b ∈ [z, TI, TO, i1, i2], FpOk X pins H b) → Zst z TI TO i1 i2 x y tx ty i s.heap →
      codeAny (model X.prog X.w) A1 (.builtin "list.extend.loop" ⟨[.ref q, .ref z, .none], []⟩) Rs s := by
  intro m
  induction m with
  | zero =>
    intro i Ts H s him I hq hT h0 hTs hf Z
    have hA : A1.in1.in1.handled = none := hh
    have ei : i = x.cps.size := by omega
    refine codeAny_builtin PySem.F.entry_extend_loop ?_
    rw [Around.under_plainId PySem.F.plain_extend_loop _]
    show wpAny _ A1.in1 (pyNext (.ref z) >>= _) _ _ s
    obtain ⟨hTI, h1, h2, hzz⟩ := Z
    rcases hzz with ⟨hz, u, v, hTO⟩ | ⟨T, g, oT, oO, hz, hTT, hO, n1, n2, n3⟩
    · refine wpAny_bind (wpAny_pyNext_zipD2_end S (Draws.text hA i1 x tx) (Draws.text hA i2 y ty) hz hTI hTO h1 h2 (by omega) (by omega) (.inl ei) fun h' tk hk => ?_)
      refine wpAny_pure ?_
      exact hdone H _ Ts (I.turnedL (t' := tk) (ch := [z, TI, TO, i1, i2]) (fun c o hb q => hk c o (fun q' => hb (by simp [q'])) (fun q' => hb (by simp [q'])) (fun q' => hb (by simp [q'])) (fun q' => hb (by simp [q'])) q) hf) hq (by omega) h0 hTs
    · rw [ei] at h1
      refine wpAny_bind (next_end_held S (Draws.text hA i1 x tx) hz hTT hTI h1 fun h' hk => ?_)
      refine wpAny_pure ?_
      exact hdone H _ Ts (I.turnedL (t' := s.toks) (ch := [z, TI, TO, i1, i2]) (fun c o hb q => hk c o (fun q' => hb (by simp [q'])) (fun q' => hb (by simp [q'])) q) hf) hq (by omega) h0 hTs
  | succ m ih =>
    intro i Ts H s him I hq hT h0 hTs hf Z
    have hA : A1.in1.in1.handled = none := hh
    have hi : i < x.cps.size := by omega
    have hi2 : i < y.cps.size := by omega
    refine codeAny_builtin PySem.F.entry_extend_loop ?_
    rw [Around.under_plainId PySem.F.plain_extend_loop _]
    show wpAny _ A1.in1 (pyNext (.ref z) >>= _) _ _ s
    obtain ⟨hTI, h1, h2, hzz⟩ := Z
    have nz : ∀ b ∈ [z, TI, TO, i1, i2], b ≠ q := fun b hb e => by
      have := (hf b hb).1
      rw [e, hq] at this
      cases this
    have lt : ∀ b o, s.heap.get? b = some o → b ≠ s.heap.objs.size := fun b o e => Nat.ne_of_lt (Heap.lt_size e)
    have fin : ∀ (c d : Nat) (t1 t2 : Tok) (h' : Heap) (tk : Nat), x.cps[i]? = some c → y.cps[i]? = some d → IsTupOf2 h' s.heap.objs.size (.str ⟨#[c]⟩ t1) (.str ⟨#[d]⟩ t2) →
        (∀ a o, a ∉ [z, TI, TO, i1, i2] → s.heap.get? a = some o → h'.get? a = some o) → (∀ b ∈ [z, TI, TO, i1, i2], b ≠ s.heap.objs.size) → Zst z TI TO i1 i2 x y tx ty (i + 1) h' →
        wpAny (model X.prog X.w) A1.in1 (updateSeq q (·.push (Value.ref s.heap.objs.size)) >>= fun _ => again (.builtin "list.extend.loop" ⟨[.ref q, .ref z, .none], []⟩))
          (fun fin s' => match fin with | .done f => Rs (.ok f) s' | .again c' => c'.quiet = true ∧ codeAny (model X.prog X.w) A1 c' Rs s') (fun e s' => Rs (.error e) s') { s with heap := h', toks := tk } := by
      intro c d t1 t2 h' tk hc hd hT2 hk hb' Z'
      have new : ObjOk X.prog X.w (upd H s.heap.objs.size (sg2 c d)) h' s.heap.objs.size (sg2 c d) :=
        ⟨by show 2 ≤ sizeLine; decide, [.str ⟨#[c]⟩ t1, .str ⟨#[d]⟩ t2], .cons ⟨t1, rfl⟩ (.cons ⟨t2, rfl⟩ .nil), ⟨_, hT2, rfl, _, rfl⟩⟩
      have nT : H s.heap.objs.size = none := I.hok.fresh (Nat.le_refl _)
      have I1 : Inv X pins σ (upd H s.heap.objs.size (sg2 c d)) { s with heap := h', toks := tk } :=
        I.turnedNew (t' := tk) (ch := [z, TI, TO, i1, i2]) hk hf (Nat.le_refl _) new
      have nq : q ≠ s.heap.objs.size := ne_of_none hq nT
      have hq1 : upd H s.heap.objs.size (sg2 c d) q = some (.lst (Ts.map V.ref)) := by rw [upd_ne nq]; exact hq
      obtain ⟨_, its, k, r2, hl2, e⟩ := I1.lstM hq1
      have hl3 := r2.length
      rw [List.length_map] at hl3
      refine wpAny_bind (wpAny_updateSeq e rfl (wpAny_pure ⟨plainId_quiet PySem.F.plain_extend_loop _, ?_⟩) (by rw [List.size_toArray]; rw [sizeLine_eq]; omega) (by show (its.toArray.push _).size ≤ sizeLine + 1; rw [Array.size_push, List.size_toArray, sizeLine_eq]; omega))
      have I2 := I1.lset (f := (·.push (Value.ref s.heap.objs.size))) (its' := its ++ [Value.ref s.heap.objs.size]) (ys := (Ts ++ [s.heap.objs.size]).map V.ref) (t' := tk) hq1 e (by simp) (by rw [List.map_append]; exact r2.append (.cons rfl .nil)) (by rw [List.length_map, List.length_append, List.length_singleton, sizeLine_eq]; omega)
      refine ih (i + 1) (Ts ++ [s.heap.objs.size]) _ _ (by omega) I2 upd_same (by rw [List.length_append, hT]; rfl) (fun b o hb e => ?_) (fun j T hj => ?_) (fun b hb => ⟨?_, (hf b hb).2⟩) ?_
      · have := h0 b o hb e
        rw [upd_ne hb, upd_ne (ne_of_none this nT)]
        exact this
      · rcases Nat.lt_or_ge j i with lt | ge
        · rw [List.getElem?_append_left (by rw [hT]; exact lt)] at hj
          obtain ⟨c', d', a, b, e'⟩ := hTs j T hj
          have hTq : T ≠ q := fun z => by rw [z, hq] at e'; cases e'
          exact ⟨c', d', a, b, by rw [upd_ne hTq, upd_ne (ne_of_none e' nT)]; exact e'⟩
        · have ej : j = i := by
            have := (List.getElem?_eq_some_iff.mp hj).1
            rw [List.length_append, hT] at this
            have : j < i + 1 := this
            omega
          subst ej
          rw [List.getElem?_append_right (by omega), hT, Nat.sub_self] at hj
          have eT : s.heap.objs.size = T := Option.some.inj hj
          subst eT
          exact ⟨c, d, hc, hd, by rw [upd_ne nq.symm]; exact upd_same⟩
      · rw [upd_ne (nz b hb), upd_ne (hb' b hb)]
        exact (hf b hb).1
      · exact Z'.put (nz _ (by simp)) (nz _ (by simp)) (nz _ (by simp)) (nz _ (by simp)) (nz _ (by simp)) fun o e => ⟨_, Heap.get?_update_self (Obj.mapSeq _) e (by
          obtain ⟨_, _, _, _, _, e'⟩ := I1.lstM hq1
          have ee := e.symm.trans e'
          cases ee
          rfl)⟩
    rcases hzz with ⟨hz, u, v, hTO⟩ | ⟨T, g, oT, oO, hz, hTT, hO, n1, n2, n3⟩
    · refine wpAny_bind (wpAny_pyNext_zipD2_item S (Draws.text hA i1 x tx) (Draws.text hA i2 y ty) hz hTI hTO h1 h2 hi hi2 fun u1 u2 h' tk p1 p2 z' TO' h1' h2' hT2 hsz hk => ?_)
      obtain ⟨c, t1, hc1, rfl⟩ := p1
      obtain ⟨d, t2, hd1, rfl⟩ := p2
      obtain ⟨o1, e1, _⟩ := id h1
      obtain ⟨o2, e2, _⟩ := id h2
      refine fin c d t1 t2 h' tk hc1 hd1 hT2 (fun c o hb q => hk c o (fun q' => hb (by simp [q'])) (fun q' => hb (by simp [q'])) (fun q' => hb (by simp [q'])) (fun q' => hb (by simp [q'])) q) (fun b hb => ?_) ⟨hk _ _ S.TIz S.TITO S.TIi1 S.TIi2 hTI, h1', h2', .inr ⟨_, false, _, _, z', hT2, TO', (lt _ _ hz).symm, (lt _ _ e1).symm, (lt _ _ e2).symm⟩⟩
      have e' : b = z ∨ b = TI ∨ b = TO ∨ b = i1 ∨ b = i2 := by simpa using hb
      rcases e' with q' | q' | q' | q' | q'
      · rw [q']; exact lt _ _ hz
      · rw [q']; exact lt _ _ hTI
      · rw [q']; exact lt _ _ hTO
      · rw [q']; exact lt _ _ e1
      · rw [q']; exact lt _ _ e2
    · refine wpAny_bind (next_item_held S (Draws.text hA i1 x tx) (Draws.text hA i2 y ty) hz hTT hTI h1 h2 hi hi2 fun u1 u2 h' tk p1 p2 z' h1' h2' hT2 hsz hk => ?_)
      obtain ⟨c, t1, hc1, rfl⟩ := p1
      obtain ⟨d, t2, hd1, rfl⟩ := p2
      obtain ⟨o1, e1, _⟩ := id h1
      obtain ⟨o2, e2, _⟩ := id h2
      refine fin c d t1 t2 h' tk hc1 hd1 hT2 (fun c o hb q => hk c o (fun q' => hb (by simp [q'])) (fun q' => hb (by simp [q'])) (fun q' => hb (by simp [q'])) q) (fun b hb => ?_) ⟨hk _ _ S.TIz S.TIi1 S.TIi2 hTI, h1', h2', .inr ⟨T, true, oT, oO, z', hk _ _ n1 n2 n3 hTT, hk _ _ S.TOz S.Ti1 S.Ti2 hO, n1, n2, n3⟩⟩
      have e' : b = z ∨ b = TI ∨ b = TO ∨ b = i1 ∨ b = i2 := by simpa using hb
      rcases e' with q' | q' | q' | q' | q'
      · rw [q']; exact lt _ _ hz
      · rw [q']; exact lt _ _ hTI
      · rw [q']; exact lt _ _ hO
      · rw [q']; exact lt _ _ e1
      · rw [q']; exact lt _ _ e2
end
/-- the signs of two texts side by side, in the heap -/
def ZpAt (H : Hp) (L : Addr) (x y : Str) : Prop := ∃ Ts : List Addr, H L = some (.lst (Ts.map V.ref)) ∧ Ts.length = x.cps.size ∧ ∀ (j : Nat) (T : Addr), Ts[j]? = some T → ∃ c d, x.cps[j]? = some c ∧ y.cps[j]? = some d ∧ H T = some (sg2 c d)
def tListZ (t : TA) : TE := fun σ H Q => t σ H fun vs H1 => ∃ x y : Str, vs = [.str x, .str y] ∧ x.cps.size = y.cps.size ∧ x.cps.size ≤ 1000 ∧ ∀ H2 L, Same H1 H2 → ZpAt H2 L x y → Q (.ref L) H2
section
variable {X : Cx}
theorem pe_listZ {k : Nat} {e e2 : Expr} {ta : TA} {p p2 pos pos2 : Pos} (hr : Room k X.A) (hgl : Gl X "list") (hml : X.mg "list" = none) (hgz : Gl X "zip") (hmz : X.mg "zip" = none) (ha : PA X [e, e2] ta)
    (hs : starEach [e, e2] X.env = (false, eval e X.env) :: starEach [e2] X.env := by rfl) (hpl : (backTo pos (starEach [e2] X.env)).any (·.1) = false := by rfl)
    (hel : starEach [Expr.Call (.Name "zip" p) [e, e2] [] pos] X.env = (false, eval (.Call (.Name "zip" p) [e, e2] [] pos) X.env) :: starEach [] X.env := by rfl) :
    PE X (.Call (.Name "list" p2) [.Call (.Name "zip" p) [e, e2] [] pos] [] pos2) (tListZ ta) := by
  refine ⟨fun pins s σ H Q I h => ?_⟩
  refine wpAny_Call_Name_kw (ld_blt I hgl hml (u := .type "list") (by decide +kernel) ?_ (by decide) (by decide))
  refine PyProof.Rows.callWith_type1 ?_ hel rfl
  rw [hel]
  show wpAny _ _ (spliced ((false, eval (.Call (.Name "zip" p) [e, e2] [] pos) X.env) :: backTo pos2 (starEach [] X.env))) _ _ s
  refine Calls.spliced_cons ?_
  refine Call_ (ld_blt I hgz hmz PyProof.Rows.boot_zip (PyProof.Rows.callWith_type1 (thn (ha.run pos pins s σ H _ I h) fun us s1 ⟨vs, H1, I1, r1, q1⟩ => ?_) hs hpl))
  obtain ⟨x, y, ex, hl, hn, q1⟩ := q1
  subst ex
  cases r1 with
  | cons r rr =>
    cases rr with
    | cons r' rr =>
      cases rr
      obtain ⟨tx, rfl⟩ := r
      obtain ⟨ty, rfl⟩ := r'
      refine zip_begins2 (begins_text x tx) (begins_text y ty) trivial trivial fun h' hz hTI hTO h1 h2 hsz hk => ?_
      refine Calls.spliced_nil ?_
      have hH : X.A.in1.handled = none := hr.hd
      have I2 : Inv X pins σ H1 { s1 with heap := h' } := I1.kept (t' := s1.toks) hk
      have fp5 : ∀ c ∈ [s1.heap.objs.size + 4, s1.heap.objs.size + 2, s1.heap.objs.size + 3, s1.heap.objs.size, s1.heap.objs.size + 1], FpOk X pins H1 c ∧ c < h'.objs.size := fun c hcm => by
        have e' : c = s1.heap.objs.size + 4 ∨ c = s1.heap.objs.size + 2 ∨ c = s1.heap.objs.size + 3 ∨ c = s1.heap.objs.size ∨ c = s1.heap.objs.size + 1 := by simpa using hcm
        have hle : s1.heap.objs.size ≤ c := by
          rcases e' with z | z | z | z | z <;> omega
        exact ⟨I1.fpOk hle (I1.hok.fresh hle), by rw [hsz]; omega⟩
      refine callType_codes (Q₁ := fun obj s₁ => obj = .ref h'.objs.size ∧ s₁ = { s1 with heap := h'.push { cls := .type "list", data := .seq #[] } }) PySem.F.called_list (PySem.F.typeCall_list_1 _) PySem.F.entry_list_init
        (code_list_new _ ⟨rfl, rfl⟩) fun obj s₁ h₁ => ?_
      obtain ⟨rfl, rfl⟩ := h₁
      have hS : (h'.push { cls := .type "list", data := .seq #[] }).get? h'.objs.size = some { cls := .type "list", data := .seq #[] } := Heap.get?_push_size _ rfl
      refine ⟨⟨_, hS, rfl⟩, PySem.F.args_list_init_2 _ _, ?_⟩
      have fr : H1 h'.objs.size = none := I2.hok.fresh (Nat.le_refl _)
      have I3 : Inv X pins σ (upd H1 h'.objs.size (.lst [])) { s1 with heap := h'.push { cls := .type "list", data := .seq #[] } } := I2.lnew (its := []) (t' := s1.toks) .nil (Nat.zero_le _)
      have Z0 : Zst (s1.heap.objs.size + 4) (s1.heap.objs.size + 2) (s1.heap.objs.size + 3) s1.heap.objs.size (s1.heap.objs.size + 1) x y tx ty 0 (h'.push { cls := .type "list", data := .seq #[] }) :=
        ⟨Heap.get?_push_of_some _ hTI, ⟨_, Heap.get?_push_of_some _ h1, rfl, rfl⟩, ⟨_, Heap.get?_push_of_some _ h2, rfl, rfl⟩, .inl ⟨Heap.get?_push_of_some _ hz, _, _, Heap.get?_push_of_some _ hTO⟩⟩
      have hz0 : IsZip (h'.push { cls := .type "list", data := .seq #[] }) (s1.heap.objs.size + 4) (s1.heap.objs.size + 2) (s1.heap.objs.size + 3) .none := Heap.get?_push_of_some _ hz
      generalize h'.objs.size = q at *
      generalize h'.push { cls := .type "list", data := .seq #[] } = hq at *
      show wpAny _ _ (do let old ← Builtin.List.listItems (.ref q); Builtin.List.listUpdate (.ref q) (fun _ => #[]); letGo old.toList.reverse; Builtin.List.listExtendWith (.ref q) (.ref (s1.heap.objs.size + 4)) .none) _ _ _
      refine wpAny_bind ?_
      unfold Builtin.List.listItems
      refine wpAny_bind (wpAny_seqItems hS rfl (wpAny_pure ?_))
      show wpAny _ _ (updateSeq q (fun _ => #[]) >>= fun _ => letGo (#[] : Array Value).toList.reverse >>= fun _ => Builtin.List.listExtendWith (.ref q) (.ref (s1.heap.objs.size + 4)) .none) _ _ _
      refine wpAny_bind (wpAny_updateSeq hS rfl ?_)
      have I4 := I3.lset (f := fun _ => #[]) (its := []) (its' := []) (ys := []) (t' := s1.toks) upd_same hS rfl .nil (Nat.zero_le _)
      rw [upd_upd] at I4
      have nq : ∀ b ∈ [s1.heap.objs.size + 4, s1.heap.objs.size + 2, s1.heap.objs.size + 3, s1.heap.objs.size, s1.heap.objs.size + 1], b ≠ q := fun b hb => Nat.ne_of_lt (fp5 b hb).2
      have Z1 := Z0.put (q := q) (f := Obj.mapSeq fun _ => #[]) (nq _ (by simp)) (nq _ (by simp)) (nq _ (by simp)) (nq _ (by simp)) (nq _ (by simp)) fun o e => ⟨_, Heap.get?_update_self (Obj.mapSeq _) e (by
        have ee := e.symm.trans hS
        cases ee
        rfl)⟩
      have hS2 := Heap.get?_update_self (Obj.mapSeq (fun _ => (#[] : Array Value))) hS rfl
      have hz1 : IsZip (hq.update q (Obj.mapSeq fun _ => #[])) (s1.heap.objs.size + 4) (s1.heap.objs.size + 2) (s1.heap.objs.size + 3) .none := (Heap.get?_update_other _ _ (Ne.symm (nq _ (by simp)))).trans hz0
      refine wpAny_bind (wpAny_letGo ?_)
      generalize hq.update q (Obj.mapSeq fun _ => #[]) = hq2 at *
      unfold Builtin.List.listExtendWith
      have tz : (⟨hq2, s1.gens, s1.drawn, s1.toks, s1.os⟩ : Shared).TypeIs (.ref (s1.heap.objs.size + 4)) "zip" := ⟨_, hz1, rfl⟩
      refine wpAny_bind (wpAny_typeOf tz ?_)
      have g1 : Builtin.List.listSameRef (.ref q) (.ref (s1.heap.objs.size + 4)) = false := by
        have := nq (s1.heap.objs.size + 4) (by simp)
        simp [Builtin.List.listSameRef, Ne.symm this]
      have g2 : (Value.type "zip" == Value.type "list") = false := by decide
      have g3 : (Value.type "zip" == Value.type "tuple") = false := by decide
      simp only [g1, g2, g3, Bool.or_false, Bool.false_eq_true, if_false]
      refine wpAny_bind (wpAny_pyIter_zip (s := ⟨hq2, s1.gens, s1.drawn, s1.toks, s1.os⟩) hz1 ?_)
      refine wpAny_bind (wpAny_holding ?_)
      unfold Builtin.List.listLengthHint
      refine wpAny_bind (wpAny_specialOf tz zip_nolen ?_)
      show wpAny _ _ (specialOf (Value.ref (s1.heap.objs.size + 4)) (Str.ofString "__length_hint__") >>= _) _ _ _
      refine wpAny_bind (wpAny_specialOf tz zip_nohint ?_)
      refine wpAny_pure ?_
      show wpAny _ _ (rule "list.extend.makes-room" >>= fun _ => Builtin.List.listTouch (.ref q) >>= fun _ =>
        again (.builtin "list.extend.loop" ⟨[.ref q, .ref (s1.heap.objs.size + 4), .none], []⟩)) _ _ _
      refine wpAny_bind (wpAny_rule ?_)
      refine wpAny_bind ?_
      show wpAny _ _ (updateSeq q (·.push .none) >>= fun _ => updateSeq q (·.pop)) _ _ _
      refine wpAny_bind (wpAny_updateSeq hS2 rfl ?_)
      have hS3 := Heap.get?_update_self (Obj.mapSeq (·.push Value.none)) hS2 rfl
      have I5 := I4.lset (f := (·.push Value.none)) (its := []) (its' := [Value.none]) (ys := [.non]) (t' := s1.toks) upd_same hS2 (by simp) (.cons rfl .nil) (by rw [List.length_singleton, sizeLine_eq]; decide)
      refine wpAny_updateSeq hS3 rfl ?_ (by show 1 ≤ sizeLine; rw [sizeLine_eq]; decide) (by show 0 ≤ sizeLine + 1; exact Nat.zero_le _)
      have I6 := I5.lset (f := (·.pop)) (its := [Value.none]) (its' := []) (ys := []) (t' := s1.toks) upd_same hS3 (by rfl) .nil (Nat.zero_le _)
      rw [upd_upd, upd_upd] at I6
      have Z2 := (Z1.put (q := q) (f := Obj.mapSeq (·.push Value.none)) (nq _ (by simp)) (nq _ (by simp)) (nq _ (by simp)) (nq _ (by simp)) (nq _ (by simp)) fun o e => ⟨_, Heap.get?_update_self (Obj.mapSeq _) e (by
        have ee := e.symm.trans hS2
        cases ee
        rfl)⟩).put (q := q) (f := Obj.mapSeq (·.pop)) (nq _ (by simp)) (nq _ (by simp)) (nq _ (by simp)) (nq _ (by simp)) (nq _ (by simp)) fun o e => ⟨_, Heap.get?_update_self (Obj.mapSeq _) e (by
        have ee := e.symm.trans hS3
        cases ee
        rfl)⟩
      refine wpAny_pure ⟨plainId_quiet PySem.F.plain_extend_loop _, ?_⟩
      refine lz_loop (A1 := X.A.in1) (tx := tx) (ty := ty) hr.hd (zip_sep2 (fp1 := []) (fp2 := []) (fun b hb => nomatch hb) (fun b hb => nomatch hb)) hl hn H1 (fun H s Ts I hq' hT h0 hTs => ?_) x.cps.size 0 [] _ _ (by omega) I6 upd_same rfl (fun b o hb e => by rw [upd_ne hb]; exact e) (fun j T hj => by cases hj) (fun b hb => ⟨by rw [upd_ne (nq b hb)]; exact (fp5 b hb).1.1, (fp5 b hb).1.2⟩) Z2
      refine ⟨rfl, .ref q, H, I, rfl, q1 H q (fun b o e => ?_) ⟨Ts, hq', hT, hTs⟩⟩
      exact h0 b o (ne_of_none e fr) e
end
end XT
/-! a comprehension over range(lo, hi, c) -/
namespace XT
open PySem PySem.Spec PyProof.Rows L2
theorem lc_rangeC {lo c : Int} {n : Nat} {g : TG} {tt : TT} {te : TE} {vs : List Nat} {σ : L2.St} {H1 : Hp} {D : Addr} {Qd : Hp → Prop} (Pv : Nat → Hp → Prop) (h0 : Pv 0 (upd H1 D (.lst [])))
    (hs : ∀ i H, i < n → Pv i H → g (.int (lo + (i : Nat) * c)) (wipe σ vs) H fun σ2 H2 => wipe σ2 vs = wipe σ vs ∧ tt σ2 H2 fun b H3 =>
      if b = true then te σ2 H3 fun y H4 => ∃ acc, H4 D = some (.lst acc) ∧ acc.length < sizeLine ∧ Pv (i + 1) (upd H4 D (.lst (acc ++ [y]))) else Pv (i + 1) H3) (hd : ∀ H, Pv n H → Qd H) :
    ∃ W : Nat → Nat → Hp → Prop, (∃ m, W 0 m (upd H1 D (.lst []))) ∧ ∀ i m H, W i m H →
      ((Itc lo c n).stop i H ∧ Qd H) ∨ ((Itc lo c n).go i H ∧ ∃ Nx : Hp → Prop, (∀ H', Nx H' → ∃ m', m' < m ∧ W (i + 1) m' H') ∧ ∀ x H', (Itc lo c n).yld i H x H' → g x (wipe σ vs) H' fun σ2 H2 => wipe σ2 vs = wipe σ vs ∧ tt σ2 H2 fun b H3 =>
        if b = true then te σ2 H3 fun y H4 => ∃ acc, H4 D = some (.lst acc) ∧ acc.length < sizeLine ∧ Nx (upd H4 D (.lst (acc ++ [y]))) else Nx H3) := by
  refine ⟨fun i m H => m = n - i ∧ i ≤ n ∧ Pv i H, ⟨n, by simp, Nat.zero_le _, h0⟩, ?_⟩
  intro i m H ⟨e1, hi, p⟩
  subst e1
  by_cases hlt : i < n
  · refine .inr ⟨hlt, Pv (i + 1), fun H' p' => ⟨n - (i + 1), by omega, rfl, hlt, p'⟩, fun x H' y => ?_⟩
    obtain ⟨e, y⟩ := y
    subst e y
    exact hs i _ hlt p
  · have e : i = n := by omega
    subst e
    exact .inl ⟨Nat.le_refl _, hd H p⟩
theorem lcp_rangeC {lo c : Int} {n : Nat} {g : TG} {tt : TT} {te : TE} {vs : List Nat} {σ : L2.St} {H1 : Hp} {D : Addr} {Qd : Hp → Prop} (f : Nat → V) (nD : H1 D = none) (hz : n < sizeLine) (ht : ∀ (i : Nat) H, i < n → Same H1 H → TurnP g tt te vs σ (.int (lo + (i : Nat) * c)) (f i) true H)
    (hd : ∀ H, Same H1 H → H D = some (.lst ((List.range n).map f)) → Qd H) :
    ∃ W : Nat → Nat → Hp → Prop, (∃ m, W 0 m (upd H1 D (.lst []))) ∧ ∀ i m H, W i m H →
      ((Itc lo c n).stop i H ∧ Qd H) ∨ ((Itc lo c n).go i H ∧ ∃ Nx : Hp → Prop, (∀ H', Nx H' → ∃ m', m' < m ∧ W (i + 1) m' H') ∧ ∀ x H', (Itc lo c n).yld i H x H' → g x (wipe σ vs) H' fun σ2 H2 => wipe σ2 vs = wipe σ vs ∧ tt σ2 H2 fun b H3 =>
        if b = true then te σ2 H3 fun y H4 => ∃ acc, H4 D = some (.lst acc) ∧ acc.length < sizeLine ∧ Nx (upd H4 D (.lst (acc ++ [y]))) else Nx H3) := by
  refine lc_rangeC (lo := lo) (c := c) (n := n) (fun i H => PvP H1 D ((((List.range n).take i).filter fun _ => true).map f) H) ⟨same_new nD, upd_same⟩ (fun i H hi h => ?_) (fun H h => ?_)
  · have hx : (List.range n)[i]? = some i := List.getElem?_range hi
    exact pvp_turn nD h (Nat.lt_of_le_of_lt (flt_len f (fun _ => true) _ i) (Nat.lt_trans hi hz)) (ht i H hi h.1) _ (take_one f (fun _ => true) hx)
  · have h2 := h.2
    rw [List.take_of_length_le (by rw [List.length_range]; exact Nat.le_refl _), List.filter_eq_self.mpr (fun _ _ => rfl)] at h2
    exact hd H h.1 h2
end XT
/-! _law_digits -/
namespace XT
open PySem PySem.Spec PyProof.Rows L2
section
variable {P : Program} {w : World} {K : PySem.W.Frag} {mg : Str → Option Value} {base : Heap}
abbrev nLdg : List Str := ["_law_mask", "_law_width", "_law_place"]
theorem scLdg : FnScope nLdg ["_law_mask", "_law_width"] (defScope sLDigits) := ⟨rfl, rfl, rfl, by decide +kernel, rfl, by decide +kernel, by decide +kernel⟩
def spLdg : Sp := fun vs H Q _ => ∃ (m n : Nat), vs = [.int (m : Int), .int (n : Int)] ∧ n ≤ 60 ∧ ∀ H' x, Same H H' → x.cps.toList = bitsL n m → Q (.str x) H'
theorem ok_ldg {f : Addr} {fd : FuncData} {k : Nat} (B : Bl mg) (mS : mg "str" = none) (F : Fun K "_law_digits" "_law_digits" sLDigits f fd) : FnOk P w K mg base CX0 (k + 1) f fd ["_law_mask", "_law_width"] spLdg := by
  refine F.ok scLdg (fun vs H Q E h => ?_) (fun cdv A outer s H vs Q E hr h => ?_)
  · obtain ⟨m, n, rfl, _⟩ := h
    rfl
  · obtain ⟨m, n, rfl, hn, q⟩ := h
    refine ⟨_, pss_one (ps_ret (pe_join pe_str (pe_lc (own := [("_law_place", 2)]) (g := gName 2) (tt := tYes) (te := tCB (fun xs H Q => ∃ i, xs = [.int i] ∧ i.natAbs.log2 < 1920 ∧ Q (.str (Str.ofString (toString i))) H) (tCons (tOp (rI (fun _ j => 0 < j) fun i j => .int (i % j)) (tOp (rI CDivW fun i j => .int (i / j)) (tVar 0) (tOp (rI CPow fun i j => .int (i * 2 ^ j.toNat)) (tC (.int 1)) (tVar 2))) (tC (.int 2))) tNil)) rfl scLdg.nd (pi_range3 (by rfl) B.range (pa_cons (pe_op op_sub (pv 1) pe_int) (pa_cons (pe_un un_neg pe_int) (pa_cons (pe_un un_neg pe_int) pa_nil)))) (blkOk_by (own := [("_law_place", 2)]) (N := nLdg) (sc := defScope sLDigits) (by decide +kernel))
          (fun _ _ _ _ _ => pg_name (i := 2) scLdg.nd rfl (Or.inl rfl)) (fun _ _ _ _ _ => pts_nil) (fun _ _ _ _ _ => pe_callTy call_str_int (by rfl) mS boot_str (pa_cons (pe_op op_mod (pe_op op_fdivW (pv 0) (pe_op op_shl pe_int (pv 2))) pe_int) pa_nil))))), ?_⟩
    refine ⟨⟨_, rfl⟩, .int (n : Int), rfl, (n : Int), 1, rfl, rfl, 1, rfl, 1, rfl, (n : Int) - 1, -1, -1, n, rfl, ?_, fun D nD => ?_⟩
    · have := RgC.neg (i := (n : Int) - 1) (j := -1) (by omega) (by omega) (by omega) (by omega)
      rw [show ((n : Int) - 1 - -1).toNat = n by omega] at this
      exact this
    refine lcp_rangeC (f := fun i => .str ⟨#[48 + m / 2 ^ (n - 1 - i) % 2]⟩) nD (by rw [sizeLine_eq]; omega) (fun i H4 hi s4 => ?_) (fun H4 s4 hD => ?_)
    · intro R1 R2 r1 r2
      have ei : (n : Int) - 1 + ((i : Nat) : Int) * -1 = ((n - 1 - i : Nat) : Int) := by omega
      rw [ei]
      have p0 : (0 : Int) < ((2 ^ (n - 1 - i) : Nat) : Int) := by have := pow0 (n - 1 - i); omega
      have lt : (2 : Nat) ^ (n - 1 - i) < 2 ^ 61 := Nat.pow_lt_pow_right (by decide) (by omega)
      have ev : ((m : Int) / ((2 ^ (n - 1 - i) : Nat) : Int)) % 2 = ((m / 2 ^ (n - 1 - i) % 2 : Nat) : Int) := by
        rw [← Int.natCast_ediv]
        exact (Int.natCast_emod _ 2).symm
      refine ⟨rfl, iteT (B := R1 H4) ⟨.int (m : Int), rfl, .int ((n - 1 - i : Nat) : Int), rfl, 1, _, rfl, rfl, ⟨by omega, by omega, by decide⟩, ?_⟩⟩
      rw [show (fun (i j : Int) => V.int (i * 2 ^ j.toNat)) 1 ((n - 1 - i : Nat) : Int) = V.int ((2 ^ (n - 1 - i) : Nat) : Int) from congrArg V.int (shl1 (n - 1 - i))]
      refine ⟨(m : Int), ((2 ^ (n - 1 - i) : Nat) : Int), rfl, rfl, ⟨p0, ?_⟩, _, 2, rfl, rfl, (by decide : (0 : Int) < 2), ?_⟩
      · rw [Int.natAbs_natCast, Nat.log2_two_pow]
        omega
      show ∃ i', [V.int ((m : Int) / ((2 ^ (n - 1 - i) : Nat) : Int) % 2)] = [V.int i'] ∧ _
      rw [ev]
      have h2 := Nat.mod_lt (m / 2 ^ (n - 1 - i)) (show 0 < 2 by decide)
      refine ⟨_, rfl, ?_, ?_⟩
      · rw [Int.natAbs_natCast]
        exact Nat.lt_of_le_of_lt (Nat.log2_le_self _) (by omega)
      · rw [txt01 h2]
        exact r2 rfl _ (Same.refl _)
    have hD' : H4 D = some (.lst ((((List.range n).map fun i => 48 + m / 2 ^ (n - 1 - i) % 2).map fun c => (⟨#[c]⟩ : Str)).map V.str)) := by
      rw [hD, List.map_map, List.map_map]
      rfl
    refine ⟨_, D, _, rfl, rfl, .inl (SqL.of hD'), ?_, q _ _ s4 ?_⟩
    · rw [ones_sum, List.length_map, List.length_range]
      show _ + _ * 0 ≤ _
      omega
    · rw [TL.join_eq]
      show (Str.join Str.empty _).cps.toList = _
      rw [join_signs]
      refine List.ext_getElem? fun i => ?_
      rcases Nat.lt_or_ge i n with h | h
      · rw [List.getElem?_map, List.getElem?_range h, bitsL_at n m i h]
        rfl
      · rw [List.getElem?_eq_none (by rw [List.length_map, List.length_range]; exact h), List.getElem?_eq_none (by rw [bitsL_len]; exact h)]
end
end XT
/-! _law_moved -/
namespace XT
open PySem PySem.Spec PyProof.Rows L2
section
variable {P : Program} {w : World} {K : PySem.W.Frag} {mg : Str → Option Value} {base : Heap}
abbrev nMw : List Str := ["_law_wide_here", "_law_mask", "_law_digits_here", "_law_found", "_law_pattern", "_law_pairs", "_law_char", "_law_digit"]
theorem scMw : FnScope nMw ["_law_wide_here", "_law_mask"] (defScope sLMoved) := ⟨rfl, rfl, rfl, by decide +kernel, rfl, by decide +kernel, by decide +kernel⟩
abbrev sgs (cs : List Nat) : List V := (cs.map fun c => (⟨#[c]⟩ : Str)).map V.str
def spMvW : Sp := fun vs H Q _ => ∃ (T : Addr) (ws : List Str) (n m : Nat), vs = [.ref T, .int (m : Int)] ∧ WideT H T ws n ∧ m < 2 ^ n ∧ ∀ H' T', Same H H' → H' T' = some (.tup ((turnW n m ws).map V.str)) → Q (.ref T') H'
theorem ok_mvW {f : Addr} {fd : FuncData} {k : Nat} (B : Bl mg) (mZ : mg "zip" = none) (mS : mg "str" = none) (mL : mg "list" = none) (F : Fun K "_law_moved" "_law_moved" sLMoved f fd) (dD : DefR P w K mg base 1 "_law_digits" spLdg) : FnOk P w K mg base CX0 (k + 2) f fd ["_law_wide_here", "_law_mask"] spMvW := by
  refine F.ok scMw (fun vs H Q E h => ?_) (fun cdv A outer s H vs Q E hr h => ?_)
  · obtain ⟨T, ws, n, m, rfl, _⟩ := h
    rfl
  · obtain ⟨T, ws, n, m, rfl, hw, hm, q⟩ := h
    have hr1 : Room 1 (A.deeper (envOfC "_law_moved" (defScope sLMoved) s.heap.objs.size f cdv)) := hr.mono (by omega)
    refine ⟨_, pss_cons (ps_par (i := 2) (j := 3) (by rfl) scMw.nd rfl rfl (by decide) rfl rfl (pa_cons (pe_def dD hr1 (by rfl) (pa_cons (pv 1) (pa_cons (pe_callB call_len_str (by rfl) B.len PySem.boot_len (pa_cons (pe_ix ix_tup (pv 0) pe_int (fun _ _ => rfl)) pa_nil)) pa_nil))) (pa_cons (pe_lst pa_nil) pa_nil)) (by rfl))
      (pss_cons (ps_for PassesOwn.never rfl (pi_tup (pv 0)) (pg_name (i := 4) scMw.nd rfl (by first | exact Or.inl rfl | exact Or.inr rfl))
      (pss_cons (ps_set (i := 5) scMw.nd rfl (by first | exact Or.inl rfl | exact Or.inr rfl) (pe_listZ hr1 (by rfl) mL (by rfl) mZ (pa_cons (pv 4) (pa_cons (pv 2) pa_nil))))
      (pss_one (ps_expr (pe_bm PySem.F.plainAttrs_list PySem.F.slot_list_append PySem.F.type_list_append mt_append (pv 3) (pa_cons (pe_join pe_str (pe_lc (own := [("_law_char", 6), ("_law_digit", 7)]) (g := (gTup K 2 (gCons (gName 6) (gCons (gName 7) gNil)))) (tt := tYes) (te := (tIf (tTest (tOp rEq (tVar 6) (tC (.str "?")))) (tVar 6) (tCB (fun xs H Q => ∃ i, xs = [.int i] ∧ i.natAbs.log2 < 1920 ∧ Q (.str (toString i)) H) (tCons (tCB (fun xs H Q => ∃ b, xs = [.bl b] ∧ Q (.int (if b = true then 1 else 0)) H) (tCons (tOp rNe (tVar 6) (tVar 7)) tNil)) tNil)))) rfl scMw.nd (pi_list (pv 5)) (blkOk_by (own := [("_law_char", 6), ("_law_digit", 7)]) (N := nMw) (sc := defScope sLMoved) (by decide +kernel))
          (fun _ _ _ _ _ => (pg_tup rfl (pgs_cons (pg_name (i := 6) scMw.nd rfl (Or.inl rfl)) (pgs_cons (pg_name (i := 7) scMw.nd rfl (Or.inl rfl)) pgs_nil)))) (fun _ _ _ _ _ => pts_nil) (fun _ _ _ _ _ => pe_ifExp (pt_cmpR op_eq (pv 6) pe_str (nomark _)) (pv 6) (pe_callTy call_str_int (by rfl) mS boot_str (pa_cons (pe_callTy call_intB (by rfl) B.int bInt (pa_cons (pe_cmpR op_ne (pv 6) (pv 7) (nomark _)) pa_nil)) pa_nil))))) pa_nil))))))
      (pss_one (ps_ret (pe_callTy cr_tupO (by rfl) B.tuple bT (pa_cons (pv 3) pa_nil))))), ?_⟩
    obtain ⟨x0, hx0, hx0l, _⟩ := hw.hd
    have n40 := hw.n40
    have hv0 : atI (ws.map V.str) 0 = some (.str x0) := atI_nat (j := 0) (by rw [List.getElem?_map, hx0]; rfl)
    refine ⟨.int (m : Int), rfl, .ref T, rfl, T, _, 0, .str x0, rfl, rfl, SqT.of hw.h, hv0, x0, rfl, szl (m := 1000) (by omega) (by decide), m, n, by rw [hx0l], by omega, fun H1 g s1 hg => ?_⟩
    have hgw : g = digW m n := str_of_list (by rw [hg, digW_bits hw.n1 hm])
    subst hgw
    have hgl := digW_len hw.n1 hm
    refine ⟨sz (n := 0) (by decide), fun F0 nF => ⟨_, _, rfl, ?_⟩⟩
    have sF := same_new (o := .lst []) nF
    have wl := hw.l6
    refine ⟨.ref T, rfl, T, rfl, ⟨_, SqT.of (sF _ _ (s1 _ _ hw.h))⟩, for_tup (K := K) (xs := ws.map V.str) (fun i σ H' => ∃ (z4 z5 z6 z7 : Option V), σ = [some (.ref T), some (.int (m : Int)), some (.str (digW m n)), some (.ref F0), z4, z5, z6, z7] ∧ Same H1 H' ∧ H' F0 = some (.lst ((turnW n m (ws.take i)).map V.str))) ⟨_, _, _, _, rfl, sF, upd_same⟩ (fun i σ H2 hi h => ?_) (fun i y σ H2 hy h => ?_) (fun σ H2 h => ?_)⟩
    · obtain ⟨_, _, _, _, rfl, s2, _⟩ := h
      exact SqT.of ((s1.trans s2) _ _ hw.h)
    · obtain ⟨z4, z5, z6, z7, rfl, s2, hF⟩ := h
      rw [List.getElem?_map] at hy
      obtain ⟨x, hx, rfl⟩ := Option.map_eq_some_iff.mp hy
      have okx := hw.ok x (List.mem_of_getElem? hx)
      have hxl : x.cps.size = n := okx.1
      have hgl' : (digW m n).cps.size = n := hgl
      refine ⟨.str x, rfl, .str (digW m n), rfl, x, digW m n, rfl, by omega, by omega, fun H3 L s3 hz => ?_⟩
      obtain ⟨Ts, hL, lT, hTs⟩ := hz
      have sF3 := s3 _ _ hF
      refine ⟨.ref F0, rfl, .inl ⟨rfl, _, SqL.of sF3⟩, ⟨_, rfl⟩, .ref L, rfl, ?_⟩
      have lc : (combL x.cps.toList (digW m n).cps.toList).length = n := by rw [combL_len _ _ (by rw [Array.length_toList, Array.length_toList]; omega), Array.length_toList]; exact hxl
      refine ⟨L, rfl, ⟨_, SqL.of hL⟩, fun D nD => lcq_list (xs := Ts.map V.ref) (sgs (combL x.cps.toList (digW m n).cps.toList)) (by rw [List.length_map, List.length_map, List.length_map, lc, lT, hxl]) nD (SqL.of hL) (by rw [List.length_map, lT, hxl, sizeLine_eq]; omega) (fun i v u H4 hv hu s4 => ?_) (fun H4 s4 hD => ?_)⟩
      · rw [List.getElem?_map] at hv
        obtain ⟨T', hT', rfl⟩ := Option.map_eq_some_iff.mp hv
        obtain ⟨c, d, hc, hd, hT3⟩ := hTs i T' hT'
        have hT4 := s4 _ _ hT3
        have hi : i < n := by rw [← hxl]; exact (Array.getElem?_eq_some_iff.mp hc).1
        have hc' : x.cps.toList[i]? = some c := by rw [Array.getElem?_toList]; exact hc
        have hd' : (digW m n).cps.toList[i]? = some d := by rw [Array.getElem?_toList]; exact hd
        have eu : u = .str ⟨#[cch c d]⟩ := by
          unfold sgs combL at hu
          rw [List.getElem?_map, List.getElem?_map, List.getElem?_map, List.getElem?_zip_eq_some.mpr (show x.cps.toList[i]? = some (c, d).1 ∧ (digW m n).cps.toList[i]? = some (c, d).2 from ⟨hc', hd'⟩)] at hu
          exact (Option.some.inj hu).symm
        have hd63 : d ≠ 63 := by
          have hdd := hd'
          rw [digW_bits hw.n1 hm, bitsL_at n m i hi] at hdd
          have := Option.some.inj hdd
          have := Nat.mod_lt (m / 2 ^ (n - 1 - i)) (show 0 < 2 by decide)
          omega
        subst eu
        intro R1 R2 r1 r2
        refine ⟨T', _, rfl, SqT.of hT4, rfl, _, _, rfl, _, _, rfl, rfl, rfl, ?_⟩
        have eq63 : decide ((V.str ⟨#[c]⟩ : V) = .str "?") = decide (c = 63) := by rw [q_str, strV_eq]
        change (if true = true then _ else R1 H4)
        rw [if_pos rfl]
        refine ⟨.str ⟨#[c]⟩, rfl, rfl, _, rfl, ?_⟩
        rw [eq63]
        have hcc : cch c d = if c = 63 then 63 else if c = d then 48 else 49 := by
          unfold cch
          by_cases h1 : c = 63
          · rw [if_pos h1, if_pos (.inl h1)]
          · rw [if_neg h1, if_neg (fun z => z.elim h1 hd63)]
        rw [hcc] at r2
        by_cases h63 : c = 63
        · rw [decide_eq_true h63]
          rw [if_pos h63] at r2
          subst h63
          exact iteT ⟨_, rfl, r2 rfl _ (Same.refl _)⟩
        · rw [decide_eq_false h63]
          rw [if_neg h63] at r2
          refine iteF ⟨.str ⟨#[c]⟩, rfl, .str ⟨#[d]⟩, rfl, rfl, _, rfl, ?_⟩
          rw [strV_eq]
          by_cases hcd : c = d
          · rw [decide_eq_true hcd]
            rw [if_pos hcd] at r2
            exact ⟨_, rfl, by decide, r2 rfl _ (Same.refl _)⟩
          · rw [decide_eq_false hcd]
            rw [if_neg hcd] at r2
            exact ⟨_, rfl, by decide, r2 rfl _ (Same.refl _)⟩
      · have hF4 := s4 _ _ sF3
        refine ⟨_, D, _, rfl, rfl, .inl (SqL.of hD), ?_, F0, _, _, rfl, rfl, hF4, ?_, ?_⟩
        · rw [ones_sum, lc]
          show _ + _ * 0 ≤ _
          omega
        · unfold turnW
          rw [List.length_map, List.length_map, List.length_take, sizeLine_eq]
          omega
        refine ⟨_, _, _, _, rfl, same_put ((s2.trans s3).trans s4) nF, ?_⟩
        rw [upd_same, TL.join_eq, List.take_add_one, hx]
        show some (HO.lst (_ ++ [V.str (Str.join Str.empty _)])) = some (HO.lst ((turnW n m (ws.take i ++ [x])).map V.str))
        rw [join_arr]
        unfold turnW
        rw [List.map_append, List.map_append]
        rfl
    · obtain ⟨z4, z5, z6, z7, rfl, s2, hF⟩ := h
      rw [List.length_map, List.take_length] at hF
      exact ⟨.ref F0, rfl, F0, _, rfl, .inl ⟨SqL.of hF, fun T' nT' => q _ T' ((s1.trans s2).trans (same_new nT')) upd_same⟩⟩
end
end XT
/-! _law_common, _law_count -/
namespace XT
open PySem PySem.Spec PyProof.Rows L2
section
variable {P : Program} {w : World} {K : PySem.W.Frag} {mg : Str → Option Value} {base : Heap}
abbrev nLco : List Str := ["_law_one", "_law_other", "_law_chars", "_law_own", "_law_char"]
theorem scLco : FnScope nLco ["_law_one", "_law_other"] (defScope sLCommon) := ⟨rfl, rfl, rfl, by decide +kernel, rfl, by decide +kernel, by decide +kernel⟩
def optS : Option Str → V
  | some z => .str z
  | none => .non
def spLco : Sp := fun vs H Q _ => ∃ (a x : Str) (n : Nat), vs = [.str a, .str x] ∧ OkK n a ∧ OkK n x ∧ n ≤ 100 ∧ ∀ H', Same H H' → Q (optS (comS a x)) H'
theorem ok_lco {f : Addr} {fd : FuncData} {k : Nat} (mZ : mg "zip" = none) (F : Fun K "_law_common" "_law_common" sLCommon f fd) : FnOk P w K mg base CX0 (k + 1) f fd ["_law_one", "_law_other"] spLco := by
  refine F.ok scLco (fun vs H Q E h => ?_) (fun cdv A outer s H vs Q E hr h => ?_)
  · obtain ⟨a, x, n, rfl, _⟩ := h
    rfl
  · obtain ⟨a, x, n, rfl, ha, hx, hn, q⟩ := h
    have la : a.cps.size = n := ha.1
    have lx : x.cps.size = n := hx.1
    refine ⟨_, pss_cons (ps_set (i := 2) scLco.nd rfl (by first | exact Or.inl rfl | exact Or.inr rfl) (pe_lst pa_nil))
      (pss_cons (ps_for PassesOwn.never rfl (pi_zipS (by rfl) mZ (pa_cons (pv 0) (pa_cons (pv 1) pa_nil))) (pg_tup rfl (pgs_cons (pg_name (i := 3) scLco.nd rfl (by first | exact Or.inl rfl | exact Or.inr rfl)) (pgs_cons (pg_name (i := 4) scLco.nd rfl (by first | exact Or.inl rfl | exact Or.inr rfl)) pgs_nil)))
      (C8.pss_cut (ps_if (PW.pt (pw_and (pt_cmpR op_notIn_seq pe_str (pe_tup (pa_cons (pv 3) (pa_cons (pv 4) pa_nil))) (by rfl)) (pw_and1 (pt_cmpR op_ne (pv 3) (pv 4) (nomark _))))) (pss_one (ps_ret pe_non)) pss_nil)
      (pss_one (ps_expr (pe_bm PySem.F.plainAttrs_list PySem.F.slot_list_append PySem.F.type_list_append mt_append (pv 2) (pa_cons (pe_ifExp (pt_cmpR op_eq (pv 3) pe_str (nomark _)) (pv 4) (pv 3)) pa_nil))))))
      (pss_one (ps_ret (pe_join pe_str (pv 2))))), ?_⟩
    refine ⟨sz (n := 0) (by decide), fun L nL => ⟨.str a, rfl, .str x, rfl, a, x, rfl, for_zipS (by omega) (fun i σ H' => ∃ (z6 z7 : Option V), σ = [some (.str a), some (.str x), some (.ref L), z6, z7] ∧ Same H H' ∧ H' L = some (.lst (sgL (comV (a.cps.toList.take i) (x.cps.toList.take i)))) ∧ comOk (a.cps.toList.take i) (x.cps.toList.take i) = true) ⟨_, _, rfl, same_new nL, upd_same, rfl⟩ (fun i c d T' σ H3 hc hd h nT => ?_) (fun σ H3 h => ?_)⟩⟩
    · obtain ⟨z6', z7', rfl, s3, hL, hok⟩ := h
      have hi : i < n := by rw [← la]; exact (Array.getElem?_eq_some_iff.mp hc).1
      have hc' : a.cps.toList[i]? = some c := by rw [Array.getElem?_toList]; exact hc
      have hd' : x.cps.toList[i]? = some d := by rw [Array.getElem?_toList]; exact hd
      have ltk : (a.cps.toList.take i).length = (x.cps.toList.take i).length := by rw [List.length_take, List.length_take, Array.length_toList, Array.length_toList]; omega
      have cT := same_new (o := .tup [.str ⟨#[c]⟩, .str ⟨#[d]⟩]) nT
      have hL4 := cT _ _ hL
      refine ⟨T', _, rfl, SqT.of upd_same, rfl, _, _, rfl, _, _, rfl, rfl, fun σ H' => σ = [some (.str a), some (.str x), some (.ref L), some (.str ⟨#[c]⟩), some (.str ⟨#[d]⟩)] ∧ Same H3 H' ∧ (c = 63 ∨ d = 63 ∨ c = d), ?_, fun σ H' mid => ?_⟩
      · refine ⟨.str ⟨#[c]⟩, rfl, .str ⟨#[d]⟩, rfl, sz (n := 2) (by decide), fun U nU => ⟨U, _, rfl, .inr (SqT.of upd_same), rfl, rfl, !(inV (.str "?") [.str ⟨#[c]⟩, .str ⟨#[d]⟩]), rfl, ?_⟩⟩
        have cU := cT.trans (same_new (o := .tup [.str ⟨#[c]⟩, .str ⟨#[d]⟩]) nU)
        rw [in_twoQ]
        by_cases h63 : c = 63 ∨ d = 63
        · have e : (decide (c = 63) || decide (d = 63)) = true := by rw [Bool.or_eq_true, decide_eq_true_iff, decide_eq_true_iff]; exact h63
          rw [e]
          exact iteF (iteF ⟨rfl, cU, h63.elim .inl fun z => .inr (.inl z)⟩)
        · have e : (decide (c = 63) || decide (d = 63)) = false := by rw [Bool.eq_false_iff, Ne, Bool.or_eq_true, decide_eq_true_iff, decide_eq_true_iff]; exact h63
          rw [e]
          refine iteT ⟨.str ⟨#[c]⟩, rfl, .str ⟨#[d]⟩, rfl, rfl, _, rfl, ?_⟩
          rw [strV_eq]
          by_cases hcd : c = d
          · rw [decide_eq_true hcd]
            exact iteF ⟨rfl, cU, .inr (.inr hcd)⟩
          · rw [decide_eq_false hcd]
            refine iteT ?_
            have bad := com_bad hc' hd' fun z => z.elim (fun z => h63 (.inl z)) fun z => z.elim (fun z => h63 (.inr z)) hcd
            have := q _ (s3.trans cU)
            unfold comS at this
            rw [bad, if_neg (by decide)] at this
            exact this
      · obtain ⟨rfl, sU, hcd⟩ := mid
        have hL5 := sU _ _ hL
        refine ⟨.ref L, rfl, .inl ⟨rfl, _, SqL.of hL5⟩, .str ⟨#[c]⟩, rfl, rfl, _, rfl, ?_⟩
        rw [q_str, strV_eq]
        have sn := com_snoc (c := c) (d := d) ltk
        have eok : comOk (a.cps.toList.take (i + 1)) (x.cps.toList.take (i + 1)) = true := by
          rw [List.take_add_one, List.take_add_one, hc', hd']
          show comOk (_ ++ [c]) (_ ++ [d]) = true
          rw [sn.1, hok, decide_eq_true hcd]
          rfl
        have ev : comV (a.cps.toList.take (i + 1)) (x.cps.toList.take (i + 1)) = comV (a.cps.toList.take i) (x.cps.toList.take i) ++ [if c = 63 then d else c] := by
          rw [List.take_add_one, List.take_add_one, hc', hd']
          exact sn.2
        have szL : ((sgL (comV (a.cps.toList.take i) (x.cps.toList.take i))).length) < sizeLine := by
          refine szl (m := 1000) ?_ (by decide)
          rw [List.length_map, List.length_map, comV_len ltk, List.length_take, Array.length_toList]
          omega
        by_cases h63 : c = 63
        · rw [decide_eq_true h63]
          refine iteT ⟨.str ⟨#[d]⟩, rfl, L, _, _, rfl, rfl, hL5, szL, _, _, rfl, same_put (s3.trans sU) nL, ?_, eok⟩
          rw [upd_same, ev, if_pos h63]
          unfold sgL
          rw [List.map_append, List.map_append]
          rfl
        · rw [decide_eq_false h63]
          refine iteF ⟨.str ⟨#[c]⟩, rfl, L, _, _, rfl, rfl, hL5, szL, _, _, rfl, same_put (s3.trans sU) nL, ?_, eok⟩
          rw [upd_same, ev, if_neg h63]
          unfold sgL
          rw [List.map_append, List.map_append]
          rfl
    · obtain ⟨z6', z7', rfl, s3, hL, hok⟩ := h
      have e1 : a.cps.toList.take a.cps.size = a.cps.toList := List.take_of_length_le (by rw [Array.length_toList]; exact Nat.le_refl _)
      have e2 : x.cps.toList.take a.cps.size = x.cps.toList := List.take_of_length_le (by rw [Array.length_toList]; omega)
      rw [e1, e2] at hL hok
      refine ⟨⟨_, rfl⟩, .ref L, rfl, _, L, _, rfl, rfl, .inl (SqL.of hL), ?_, ?_⟩
      · rw [ones_sum, comV_len (by rw [Array.length_toList, Array.length_toList]; omega), Array.length_toList]
        show _ + _ * 0 ≤ _
        omega
      · rw [TL.join_eq]
        show Q (.str (Str.join Str.empty _)) H3
        rw [join_arr]
        have := q _ s3
        unfold comS at this
        rw [if_pos hok] at this
        exact this
abbrev nLct : List Str := ["_law_patterns", "_law_groups", "_law_pattern", "_law_more", "_law_own", "_law_factor", "_law_common_here"]
theorem scLct : FnScope nLct ["_law_patterns"] (defScope sLCount) := ⟨rfl, rfl, rfl, by decide +kernel, rfl, by decide +kernel, by decide +kernel⟩
/-- what a group adds to the sum -/
def grF (H : Hp) : V → V
  | .ref t => match H t with
    | some (.tup [.str g, .int f]) => .int (f * ((2 ^ (g.cps.toList.count 63) : Nat) : Int))
    | _ => .non
  | _ => .non
theorem grF_map {H : Hp} {xs : List V} {G : List (Str × Int)} (h : GrAt H xs G) : xs.map (grF H) = (G.map fun e => e.2 * ((2 ^ (e.1.cps.toList.count 63) : Nat) : Int)).map V.int := by
  induction h with
  | nil => rfl
  | cons e _ ih =>
    rw [List.map_cons, List.map_cons, List.map_cons, ih]
    show (match H _ with | some (.tup [.str g, .int f]) => V.int (f * ((2 ^ (g.cps.toList.count 63) : Nat) : Int)) | _ => .non) :: _ = _
    rw [e]
def rCnt : V → List V → Hp → VK → Prop := fun x xs H Q => ∃ a b, x = .str a ∧ xs = [.str b] ∧ Q (.int (Txt.count a b)) H
def spLctT (K : PySem.W.Frag) : Sp := fun vs H Q _ => ∃ (T : Addr) (ws : List Str) (n : Nat), vs = [.ref T] ∧ SqT K H T (ws.map V.str) ∧ (∀ x ∈ ws, OkK n x) ∧ n ≤ 60 ∧ ws.length ≤ 12 ∧ ∀ H', Same H H' → Q (.int (cntW n ws : Nat)) H'
theorem ok_lctT {f : Addr} {fd : FuncData} {k : Nat} (mS : mg "sum" = none) (F : Fun K "_law_count" "_law_count" sLCount f fd) (dC : DefR P w K mg base 1 "_law_common" spLco) : FnOk P w K mg base CX0 (k + 2) f fd ["_law_patterns"] (spLctT K) := by
  refine F.ok scLct (fun vs H Q E h => ?_) (fun cdv A outer s H vs Q E hr h => ?_)
  · obtain ⟨T, ws, n, rfl, _⟩ := h
    rfl
  · obtain ⟨T, ws, n, rfl, hT, hok, hn, hl, q⟩ := h
    have hr1 : Room 1 (A.deeper (envOfC "_law_count" (defScope sLCount) s.heap.objs.size f cdv)) := hr.mono (by omega)
    refine ⟨_, pss_cons (ps_set (i := 1) scLct.nd rfl (by first | exact Or.inl rfl | exact Or.inr rfl) (pe_lst pa_nil))
      (pss_cons (ps_for PassesOwn.never rfl (pi_tup (pv 0)) (pg_name (i := 2) scLct.nd rfl (by first | exact Or.inl rfl | exact Or.inr rfl))
      (pss_cons (ps_set (i := 3) scLct.nd rfl (by first | exact Or.inl rfl | exact Or.inr rfl) (pe_lst (pa_cons (pe_tup (pa_cons (pv 2) (pa_cons pe_int pa_nil))) pa_nil)))
      (pss_cons (ps_for PassesOwn.never rfl (pi_list (pv 1)) (pg_tup rfl (pgs_cons (pg_name (i := 4) scLct.nd rfl (by first | exact Or.inl rfl | exact Or.inr rfl)) (pgs_cons (pg_name (i := 5) scLct.nd rfl (by first | exact Or.inl rfl | exact Or.inr rfl)) pgs_nil)))
      (pss_cons (ps_set (i := 6) scLct.nd rfl (by first | exact Or.inl rfl | exact Or.inr rfl) (pe_def dC hr1 (by rfl) (pa_cons (pv 4) (pa_cons (pv 2) pa_nil))))
      (pss_one (ps_if (pt_cmpR op_notN (pv 6) pe_non (nomark _)) (pss_one (ps_expr (pe_bm PySem.F.plainAttrs_list PySem.F.slot_list_append PySem.F.type_list_append mt_append (pv 3) (pa_cons (pe_tup (pa_cons (pv 6) (pa_cons (pe_op op_sub pe_int (pv 5)) pa_nil))) pa_nil)))) pss_nil))))
      (pss_one (ps_set (i := 1) scLct.nd rfl (by first | exact Or.inl rfl | exact Or.inr rfl) (pe_op op_cat (pv 1) (pv 3)))))))
      (pss_one (ps_ret (pe_callB (cr_sum rfl) (by rfl) mS bSum (pa_cons (pe_lc (own := [("_law_pattern", 2), ("_law_factor", 5)]) (g := (gTup K 2 (gCons (gName 2) (gCons (gName 5) gNil)))) (tt := tYes) (te := tOp (rI CMul fun i j => .int (i * j)) (tVar 5) (tOp (rI CPow fun i j => .int (i * 2 ^ j.toNat)) (tC (.int 1)) (tBM K "str" rCnt (tVar 2) (tCons (tC (.str "?")) tNil)))) rfl scLct.nd (pi_list (pv 1)) (blkOk_by (own := [("_law_pattern", 2), ("_law_factor", 5)]) (N := nLct) (sc := defScope sLCount) (by decide +kernel))
          (fun _ _ _ _ _ => (pg_tup rfl (pgs_cons (pg_name (i := 2) scLct.nd rfl (Or.inl rfl)) (pgs_cons (pg_name (i := 5) scLct.nd rfl (Or.inl rfl)) pgs_nil)))) (fun _ _ _ _ _ => pts_nil) (fun _ _ _ _ _ => pe_op op_mul (pv 5) (pe_op op_shl pe_int (pe_bm PySem.F.plainAttrs_str PySem.F.slot_str_count PySem.F.type_str_count mt_count (pv 2) (pa_cons pe_str pa_nil))))) pa_nil))))), ?_⟩
    have okG : ∀ i, ∀ e ∈ (ws.take i).foldl stepG [], OkK n e.1 ∧ e.2.natAbs = 1 := fun i => okK_fold (ws.take i) [] (fun x hx => hok x (List.mem_of_mem_take hx)) fun e he => absurd he (by simp)
    have lenG : ∀ i, ((ws.take i).foldl stepG []).length + 1 ≤ 2 ^ 12 := fun i => by
      have h1 := fold_len (ws.take i) []
      rw [List.length_nil, Nat.zero_add, Nat.mul_one] at h1
      have h2 : 2 ^ (ws.take i).length ≤ 2 ^ 12 := Nat.pow_le_pow_right (by decide) (by rw [List.length_take]; omega)
      omega
    refine ⟨sz (n := 0) (by decide), fun L0 nL0 => ?_⟩
    have c0 := same_new (o := .lst []) nL0
    refine ⟨.ref T, rfl, T, rfl, ⟨_, Same.sqT c0 hT⟩, for_tup (K := K) (xs := ws.map V.str) (fun i σ H' => ∃ (L : Addr) (xs : List V) (z2 z3 z4 z5 z6 : Option V), σ = [some (.ref T), some (.ref L), z2, z3, z4, z5, z6] ∧ Same H H' ∧ H' L = some (.lst xs) ∧ GrAt H' xs ((ws.take i).foldl stepG [])) ⟨L0, [], _, _, _, _, _, rfl, c0, upd_same, .nil⟩ (fun i σ H2 hi h => ?_) (fun i y σ H2 hy h => ?_) (fun σ H2 h => ?_)⟩
    · obtain ⟨L, xs, _, _, _, _, _, rfl, s2, _⟩ := h
      exact Same.sqT s2 hT
    · obtain ⟨L, xs, z2, z3, z4, z5, z6, rfl, s2, hL, gr⟩ := h
      rw [List.getElem?_map] at hy
      obtain ⟨x, hx, rfl⟩ := Option.map_eq_some_iff.mp hy
      have okx := hok x (List.mem_of_getElem? hx)
      have og := okG i
      have lg := lenG i
      have egx : (ws.take (i + 1)).foldl stepG [] = stepG ((ws.take i).foldl stepG []) x := by
        rw [List.take_add_one, hx, List.foldl_append]
        rfl
      rw [egx]
      generalize (ws.take i).foldl stepG [] = G at gr og lg
      refine ⟨.str x, rfl, sz (n := 2) (by decide), fun t0 n0 => ⟨sz (n := 1) (by decide), fun M nM => ?_⟩⟩
      have c1 := same_new (o := .tup [.str x, .int 1]) n0
      have c2 := same_new (o := .lst [.ref t0]) nM
      have hM3 := upd_same (H := upd H2 t0 (.tup [.str x, .int 1])) (a := M) (o := .lst [.ref t0])
      have ht3 := c2 _ _ (upd_same (H := H2) (a := t0) (o := .tup [.str x, .int 1]))
      have hL3 := c2 _ _ (c1 _ _ hL)
      have gr3 := (gr.same c1).same c2
      have s3 := (s2.trans c1).trans c2
      have nM2 : H2 M = none := Same.free c1 nM
      have nMH : H M = none := Same.free s2 nM2
      have nLM : L ≠ M := fun e => by rw [e, nM2] at hL; cases hL
      have gM : GrAt (upd (upd H2 t0 (.tup [.str x, .int 1])) M (.lst [.ref t0])) [.ref t0] ((x, 1) :: moreG x (G.take 0)) := .cons ht3 (by rw [List.take_zero]; exact .nil)
      generalize upd (upd H2 t0 (.tup [.str x, .int 1])) M (.lst [.ref t0]) = H3 at *
      refine ⟨.ref L, rfl, L, rfl, ⟨_, SqL.of hL3⟩, for_list (K := K) (xs := xs) (fun j σ H' => ∃ (ms : List V) (z4 z5 z6 : Option V), σ = [some (.ref T), some (.ref L), some (.str x), some (.ref M), z4, z5, z6] ∧ Same H H' ∧ H' L = some (.lst xs) ∧ GrAt H' xs G ∧ H' M = some (.lst ms) ∧ GrAt H' ms ((x, 1) :: moreG x (G.take j))) ⟨_, _, _, _, rfl, s3, hL3, gr3, hM3, gM⟩ (fun j σ H4 _ h => ?_) (fun j v σ H4 hv h => ?_) (fun σ H4 h => ?_)⟩
      · obtain ⟨ms, _, _, _, rfl, _, h, _⟩ := h
        exact SqL.of h
      · obtain ⟨ms, y4, y5, y6, rfl, s4, hL4, gr4, hM4, gM4⟩ := h
        obtain ⟨t, g, fz, rfl, hg, ht⟩ := gr4.at hv
        have hgm := og _ (List.mem_of_getElem? hg)
        refine ⟨t, _, rfl, SqT.of ht, rfl, _, _, rfl, _, _, rfl, rfl, .str g, rfl, .str x, rfl, g, x, n, rfl, hgm.1, okx, by omega, fun H5 s5 => ?_⟩
        have ems : moreG x (G.take (j + 1)) = moreG x (G.take j) ++ (match comS g x with | some z => [(z, 0 - fz)] | none => []) := by
          rw [List.take_add_one, hg]
          exact more_snoc _ _
        have lm := more_len (p := x) (G.take j)
        have lms := gM4.len
        have hM5 := s5 _ _ hM4
        have hL5 := s5 _ _ hL4
        have gr5 := gr4.same s5
        have gM5 := gM4.same s5
        rw [ems]
        cases hc : comS g x with
        | none =>
          exact ⟨.non, rfl, rfl, _, rfl, iteF ⟨ms, _, _, _, rfl, s4.trans s5, hL5, gr5, hM5, by rw [List.append_nil]; exact gM5⟩⟩
        | some z =>
          refine ⟨.str z, rfl, rfl, _, rfl, iteT ⟨.ref M, rfl, .inl ⟨rfl, _, SqL.of hM5⟩, .str z, rfl, .int fz, rfl, 0, fz, rfl, rfl, sz (n := 2) (by decide), fun tn ntn => ?_⟩⟩
          have ct := same_new (o := .tup [.str z, .int (0 - fz)]) ntn
          have hM6 := ct _ _ hM5
          have htn := upd_same (H := H5) (a := tn) (o := .tup [.str z, .int (0 - fz)])
          refine ⟨M, _, _, rfl, rfl, hM6, szl (m := 10000) ?_ (by decide), ms ++ [.ref tn], _, _, _, rfl, same_put ((s4.trans s5).trans ct) nMH, by rw [upd_ne nLM]; exact ct _ _ hL5, (gr5.same ct).put hM6, upd_same, ?_⟩
          · rw [lms, List.length_cons]
            rw [List.length_take] at lm
            omega
          · exact ((gM5.same ct).app (.cons htn .nil)).put hM6
      · obtain ⟨ms, y4, y5, y6, rfl, s4, hL4, gr4, hM4, gM4⟩ := h
        rw [gr4.len, List.take_length] at gM4
        have lms := gM4.len
        have lm := more_len (p := x) G
        refine ⟨.ref L, rfl, .ref M, rfl, L, M, _, _, rfl, rfl, hL4, hM4, ?_, fun p np => ?_⟩
        · rw [gr4.len, lms, List.length_cons]
          exact szl (m := 10000) (by omega) (by decide)
        · have cp := same_new (o := .lst (xs ++ ms)) np
          exact ⟨p, _, _, _, _, _, _, rfl, s4.trans cp, upd_same, (gr4.app gM4).same cp⟩
    · obtain ⟨L, xs, z2, z3, z4, z5, z6, rfl, s2, hL, gr⟩ := h
      rw [List.length_map, List.take_length] at gr
      have og := okG ws.length
      have lg := lenG ws.length
      rw [List.take_length] at og lg
      refine ⟨.ref L, rfl, L, rfl, ⟨_, SqL.of hL⟩, fun D nD => ?_⟩
      refine lcp_list (K := K) (xs := xs) (fun _ => true) (grF H2) nD (SqL.of hL) (by rw [gr.len]; exact szl (m := 10000) (by omega) (by decide)) (fun j v H3 hv s3 R1 R2 r1 r2 => ?_) (fun H3 s3 hD => ?_)
      · obtain ⟨t, g, fz, rfl, hg, ht⟩ := gr.at hv
        have hgm := og _ (List.mem_of_getElem? hg)
        have hcl : g.cps.toList.count 63 ≤ 60 := Nat.le_trans List.count_le_length (by rw [hgm.1.ln]; exact hn)
        have e2 : grF H2 (.ref t) = .int (fz * ((2 ^ (g.cps.toList.count 63) : Nat) : Int)) := by
          show (match H2 t with | some (.tup [.str g, .int f]) => V.int (f * ((2 ^ (g.cps.toList.count 63) : Nat) : Int)) | _ => .non) = _
          rw [ht]
        refine ⟨t, _, rfl, SqT.of (s3 _ _ ht), rfl, _, _, rfl, _, _, rfl, rfl, rfl, iteT (B := R1 H3) ⟨.int fz, rfl, .str g, rfl, rfl, g, "?", rfl, rfl, ?_⟩⟩
        rw [count_q]
        refine ⟨1, _, rfl, rfl, cpowW hcl, fz, _, rfl, rfl, .inl ⟨by omega, by omega⟩, ?_⟩
        rw [shl1]
        rw [e2] at r2
        exact r2 rfl _ (Same.refl _)
      rw [List.filter_eq_self.mpr (fun _ _ => rfl), grF_map gr] at hD
      refine ⟨D, _, rfl, SqL.of hD, ?_⟩
      have e := ie_cnt hok
      unfold ieN ieG at e
      rw [e]
      exact q _ (s2.trans s3)
end
end XT
/-! _law_fits -/
namespace XT
open PySem PySem.Spec PyProof.Rows L2
theorem fit_nil {ds ps : List Nat} : ((((ds.zip ps).filter fun q => !(decide (q.2 = q.1) || decide (q.2 = 63))).map fun _ => V.int 1).isEmpty) = fitL ds ps := by
  unfold fitL
  induction ds.zip ps with
  | nil => rfl
  | cons q l ih =>
    rw [List.filter_cons, List.all_cons]
    cases h : (decide (q.2 = q.1) || decide (q.2 = 63)) with
    | true => simpa using ih
    | false => rfl
section
variable {P : Program} {w : World} {K : PySem.W.Frag} {mg : Str → Option Value} {base : Heap}
abbrev nLf : List Str := ["_law_wide_here", "_law_mask", "_law_digits_here", "_law_pattern", "_law_digit", "_law_char"]
theorem scLf : FnScope nLf ["_law_wide_here", "_law_mask"] (defScope sLFits) := ⟨rfl, rfl, rfl, by decide +kernel, rfl, by decide +kernel, by decide +kernel⟩
def spLFitsG : Sp := fun vs H Q _ => ∃ (T : Addr) (ws : List Str) (n m : Nat), vs = [.ref T, .int (m : Int)] ∧ WideG H T ws n ∧ ∀ H', Same H H' → Q (.bl (hasM n ws m)) H'
def spLFits : Sp := fun vs H Q _ => ∃ (T : Addr) (ws : List Str) (n m : Nat), vs = [.ref T, .int (m : Int)] ∧ WideT H T ws n ∧ ∀ H', Same H H' → Q (.bl (hasM n ws m)) H'
theorem ok_lfits {f : Addr} {fd : FuncData} {k : Nat} (B : Bl mg) (mZ : mg "zip" = none) (F : Fun K "_law_fits" "_law_fits" sLFits f fd) (dD : DefR P w K mg base 1 "_law_digits" spLdg) : FnOk P w K mg base CX0 (k + 2) f fd ["_law_wide_here", "_law_mask"] spLFitsG := by
  refine F.ok scLf (fun vs H Q E h => ?_) (fun cdv A outer s H vs Q E hr h => ?_)
  · obtain ⟨T, ws, n, m, rfl, _⟩ := h
    rfl
  · obtain ⟨T, ws, n, m, rfl, hw, q⟩ := h
    have hr1 : Room 1 (A.deeper (envOfC "_law_fits" (defScope sLFits) s.heap.objs.size f cdv)) := hr.mono (by omega)
    refine ⟨_, pss_cons (ps_set (i := 2) scLf.nd rfl (by first | exact Or.inl rfl | exact Or.inr rfl) (pe_def dD hr1 (by rfl) (pa_cons (pv 1) (pa_cons (pe_callB call_len_str (by rfl) B.len PySem.boot_len (pa_cons (pe_ix ix_tup (pv 0) pe_int (fun _ _ => rfl)) pa_nil)) pa_nil))))
      (pss_cons (ps_for PassesOwn.never rfl (pi_tup (pv 0)) (pg_name (i := 3) scLf.nd rfl (by first | exact Or.inl rfl | exact Or.inr rfl))
      (pss_one (ps_if (pt_cmpR (op_eqEL hr.units0) (pe_lc (own := [("_law_digit", 4), ("_law_char", 5)]) (g := (gTup K 2 (gCons (gName 4) (gCons (gName 5) gNil)))) (tt := (tTest (tOp (rIn K true) (tVar 5) (tTup (tCons (tVar 4) (tCons (tC (.str "?")) tNil)))))) (te := (tC (.int 1))) rfl scLf.nd (pi_zipS (by rfl) mZ (pa_cons (pv 2) (pa_cons (pv 3) pa_nil))) (blkOk_by (own := [("_law_digit", 4), ("_law_char", 5)]) (N := nLf) (sc := defScope sLFits) (by decide +kernel))
          (fun _ _ _ _ _ => (pg_tup rfl (pgs_cons (pg_name (i := 4) scLf.nd rfl (Or.inl rfl)) (pgs_cons (pg_name (i := 5) scLf.nd rfl (Or.inl rfl)) pgs_nil)))) (fun _ _ _ _ _ => pts_one (pt_cmpR op_notIn_seq (pv 5) (pe_tup (pa_cons (pv 4) (pa_cons pe_str pa_nil))) (by rfl))) (fun _ _ _ _ _ => pe_int)) (pe_lst pa_nil) (nomark _)) (pss_one (ps_ret pe_bl)) pss_nil)))
      (pss_one (ps_ret pe_bl))), ?_⟩
    obtain ⟨x0, hx0, hx0l, _⟩ := hw.hd
    have n40 := hw.n40
    have hv0 : atI (ws.map V.str) 0 = some (.str x0) := atI_nat (j := 0) (by rw [List.getElem?_map, hx0]; rfl)
    refine ⟨.int (m : Int), rfl, .ref T, rfl, T, _, 0, .str x0, rfl, rfl, SqT.of hw.h, hv0, x0, rfl, szl (m := 1000) (by omega) (by decide), m, n, by rw [hx0l], by omega, fun H1 g s1 hg => ?_⟩
    have hgl : g.cps.size = n := by rw [← Array.length_toList, hg, bitsL_len]
    refine ⟨.ref T, rfl, T, rfl, ⟨_, SqT.of (s1 _ _ hw.h)⟩, for_tup (K := K) (xs := ws.map V.str) (fun i σ H' => ∃ z3 z4 z5, σ = [some (.ref T), some (.int (m : Int)), some (.str g), z3, z4, z5] ∧ Same H1 H' ∧ hasM n (ws.take i) m = false) ⟨_, _, _, rfl, Same.refl _, rfl⟩ (fun i σ H2 hi h => ?_) (fun i y σ H2 hy h => ?_) (fun σ H2 h => ?_)⟩
    · obtain ⟨_, _, _, rfl, s2, _⟩ := h
      exact SqT.of ((s1.trans s2) _ _ hw.h)
    · obtain ⟨z3, z4, z5, rfl, s2, hno⟩ := h
      rw [List.getElem?_map] at hy
      obtain ⟨x, hx, rfl⟩ := Option.map_eq_some_iff.mp hy
      have okx := hw.ok x (List.mem_of_getElem? hx)
      refine ⟨.str g, rfl, .str x, rfl, g, x, rfl, fun D nD => ?_⟩
      refine lcp_zipS (p := fun q => !(decide (q.2 = q.1) || decide (q.2 = 63))) (f := fun _ => .int 1) (by rw [hgl]; exact okx.1.symm) nD (small64 (by omega)) (fun i c d T' H3 hc hd s3 nT R1 R2 r1 r2 => ?_) (fun H3 s3 hD => ?_)
      · refine ⟨T', _, rfl, SqT.of upd_same, rfl, _, _, rfl, _, _, rfl, rfl, rfl, .str ⟨#[d]⟩, rfl, .str ⟨#[c]⟩, rfl, sz (n := 2) (by decide), fun U nU => ⟨U, _, rfl, .inr (SqT.of upd_same), rfl, rfl, !(inV (.str ⟨#[d]⟩) [.str ⟨#[c]⟩, .str "?"]), rfl, ?_⟩⟩
        rw [in_sign]
        have cc := (same_new (o := .tup [.str ⟨#[c]⟩, .str ⟨#[d]⟩]) nT).trans (same_new (o := .tup [.str ⟨#[c]⟩, .str "?"]) nU)
        cases hb : (decide (d = c) || decide (d = 63)) with
        | true => exact iteF (r1 (by show (!(decide (d = c) || decide (d = 63))) = _; rw [hb]; rfl) _ cc)
        | false => exact iteT (r2 (by show (!(decide (d = c) || decide (d = 63))) = _; rw [hb]; rfl) _ cc)
      refine ⟨sz (n := 0) (by decide), fun E0' nE => ⟨D, E0', _, rfl, rfl, SqL.of (same_new nE _ _ hD), SqL.of upd_same, _, rfl, ?_⟩⟩
      rw [fit_nil, hg]
      have s4 := (s2.trans s3).trans (same_new (o := .lst []) nE)
      have htk : ws.take (i + 1) = ws.take i ++ [x] := by rw [List.take_add_one, hx]; rfl
      cases hf : fitL (bitsL n m) x.cps.toList with
      | true =>
        refine iteT ?_
        have : hasM n ws m = true := List.any_eq_true.mpr ⟨x, List.mem_of_getElem? hx, hf⟩
        rw [this] at q
        exact q _ (s1.trans s4)
      | false =>
        refine iteF ⟨_, _, _, rfl, s4, ?_⟩
        show hasM n (ws.take (i + 1)) m = false
        rw [htk]
        show (ws.take i ++ [x]).any _ = false
        rw [List.any_append]
        show (hasM n (ws.take i) m || _) = false
        rw [hno]
        show (false || (fitL (bitsL n m) x.cps.toList || false)) = false
        rw [hf]
        rfl
    · obtain ⟨z3, z4, z5, rfl, s2, hno⟩ := h
      rw [List.length_map, List.take_length] at hno
      rw [hno] at q
      exact q _ (s1.trans s2)
theorem lfitsT {k : Nat} {x : Str} (D : DefR P w K mg base k x spLFitsG) : DefR P w K mg base k x spLFits := by
  obtain ⟨f, F, h1, h2⟩ := D
  exact ⟨f, F.imp fun vs H Q E ⟨T, ws, n, m, ev, hw, q⟩ => ⟨T, ws, n, m, ev, hw.g, q⟩, h1, h2⟩
end
end XT
/-! _law_listed -/
namespace XT
open PySem PySem.Spec PyProof.Rows L2
section
variable {P : Program} {w : World} {K : PySem.W.Frag} {mg : Str → Option Value} {base : Heap}
abbrev nLsd : List Str := ["_law_wide_here", "_law_mask"]
theorem scLsd : FnScope nLsd ["_law_wide_here"] (defScope sLListed) := ⟨rfl, rfl, rfl, by decide +kernel, rfl, by decide +kernel, by decide +kernel⟩
def spLsdG : Sp := fun vs H Q _ => ∃ (T : Addr) (ws : List Str) (n : Nat), vs = [.ref T] ∧ WideG H T ws n ∧ n ≤ 12 ∧ ∀ H' L, Same H H' → H' L = some (.lst (vm (lotOf n (hasM n ws)))) → Q (.ref L) H'
def spLsd : Sp := fun vs H Q _ => ∃ (T : Addr) (ws : List Str) (n : Nat), vs = [.ref T] ∧ WideT H T ws n ∧ n ≤ 12 ∧ ∀ H' L, Same H H' → H' L = some (.lst (vm (lotOf n (hasM n ws)))) → Q (.ref L) H'
theorem ok_lsd {f : Addr} {fd : FuncData} {k : Nat} (B : Bl mg) (F : Fun K "_law_listed" "_law_listed" sLListed f fd) (dF : DefR P w K mg base 2 "_law_fits" spLFitsG) : FnOk P w K mg base CX0 (k + 3) f fd ["_law_wide_here"] spLsdG := by
  refine F.ok scLsd (fun vs H Q E h => ?_) (fun cdv A outer s H vs Q E hr h => ?_)
  · obtain ⟨T, ws, n, rfl, _⟩ := h
    rfl
  · obtain ⟨T, ws, n, rfl, hw, h12, q⟩ := h
    have hr2 : Room 2 (A.deeper (envOfC "_law_listed" (defScope sLListed) s.heap.objs.size f cdv)) := hr.mono (by omega)
    refine ⟨_, pss_one (ps_ret (pe_lc (own := [("_law_mask", 1)]) (g := (gName 1)) (tt := (tB (tDf spLFitsG (tCons (tVar 0) (tCons (tVar 1) tNil))))) (te := (tVar 1)) rfl scLsd.nd (pi_range1 (by rfl) B.range (pa_cons (pe_op op_shl pe_int (pe_callB call_len_str (by rfl) B.len PySem.boot_len (pa_cons (pe_ix ix_tup (pv 0) pe_int (fun _ _ => rfl)) pa_nil))) pa_nil)) (blkOk_by (own := [("_law_mask", 1)]) (N := nLsd) (sc := defScope sLListed) (by decide +kernel))
          (fun _ _ _ _ _ => (pg_name (i := 1) scLsd.nd rfl (Or.inl rfl))) (fun _ _ _ _ _ => pts_one (pt_val (pe_def dF hr2 (by rfl) (pa_cons (pv 0) (pa_cons (pv 1) pa_nil))))) (fun _ _ _ _ _ => pv 1))), ?_⟩
    obtain ⟨x0, hx0, hx0l, _⟩ := hw.hd
    have hv0 : atI (ws.map V.str) 0 = some (.str x0) := atI_nat (j := 0) (by rw [List.getElem?_map, hx0]; rfl)
    have hp : 2 ^ n ≤ 2 ^ 12 := Nat.pow_le_pow_right (by decide) h12
    refine ⟨.ref T, rfl, T, _, 0, .str x0, rfl, rfl, SqT.of hw.h, hv0, x0, rfl, szl (m := 1000) (by omega) (by decide), 1, (x0.length : Int), rfl, rfl, cpowW (by omega), ((2 ^ n : Nat) : Int), congrArg (fun z => [V.int z]) (by rw [hx0l]; exact shl1 n), l62, by omega, fun D nD => ?_⟩
    refine lcp_range (n := 2 ^ n) (p := hasM n ws) (f := fun m => .int (m : Int)) nD (by rw [sizeLine_eq]; omega) (fun i H2 hi s2 R1 R2 r1 r2 => ?_) (fun H2 s2 hD => q _ D s2 hD)
    rw [Int.zero_add]
    refine ⟨rfl, .ref T, rfl, .int (i : Int), rfl, T, ws, n, i, rfl, hw.same s2, fun H3 s3 => ⟨_, rfl, ?_⟩⟩
    cases hm : hasM n ws i with
    | true => exact iteT ⟨.int (i : Int), rfl, r2 hm _ s3⟩
    | false => exact iteF (r1 hm _ s3)
theorem lsdT {k : Nat} {x : Str} (D : DefR P w K mg base k x spLsdG) : DefR P w K mg base k x spLsd := by
  obtain ⟨f, F, h1, h2⟩ := D
  exact ⟨f, F.imp fun vs H Q E ⟨T, ws, n, ev, hw, h12, q⟩ => ⟨T, ws, n, ev, hw.g, h12, q⟩, h1, h2⟩
end
end XT
/-! _law_wide -/
namespace XT
open PySem PySem.Spec PyProof.Rows L2
section
variable {P : Program} {w : World} {K : PySem.W.Frag} {mg : Str → Option Value} {base : Heap}
abbrev nWl : List Str := ["_law_stream_here", "_law_most", "_law_width", "_law_way", "_law_chars", "_law_found", "_law_k", "_law_pattern", "_law_spot", "_law_place"]
theorem scWl : FnScope nWl ["_law_stream_here", "_law_most"] (defScope sLWide) := ⟨rfl, rfl, rfl, by decide +kernel, rfl, by decide +kernel, by decide +kernel⟩
def spWideL : Sp := fun vs H Q _ => ∃ (S : Sm) (t : Int) (most : Nat), vs = [.ref S.s, .int (most : Int)] ∧ Strm S H t ∧ t < 100000 ∧ 1 ≤ most ∧ most ≤ 40 ∧
  ∀ (H' : Hp) (T : Addr) (ws : List Str) (n : Nat) (t' : Int), Step S H t H' t' 300 → H' T = some (.tup (ws.map V.str)) → 1 ≤ ws.length → ws.length ≤ 6 → 1 ≤ n → n ≤ most → (∀ x ∈ ws, OkW n x) → Q (.ref T) H'
def MidP (S : Sm) (H : Hp) (t : Int) (most n way i : Nat) (ch : Str) (ws : List Str) (F : Addr) (σ : L2.St) (H' : Hp) : Prop := ∃ (t' : Int) (x : Str) (z6 z8 z9 : Option V),
  σ = [some (.ref S.s), some (.int (most : Int)), some (.int (n : Int)), some (.int (way : Int)), some (.str ch), some (.ref F), z6, some (.str x), z8, z9] ∧ Step S H t H' t' (4 + 42 * i + 42) ∧ H' F = some (.lst (ws.map V.str)) ∧ OkW n x
theorem ok_wideL {f : Addr} {fd : FuncData} {k : Nat} (B : Bl mg) (F : Fun K "_law_wide" "_law_wide" sLWide f fd) (dD : DefR P w K mg base 1 "_law_draw" spDrawN) (dP : DefR P w K mg base 2 "_law_pick" spPickS) : FnOk P w K mg base CX0 (k + 3) f fd ["_law_stream_here", "_law_most"] spWideL := by
  refine F.ok scWl (fun vs H Q E h => ?_) (fun cdv A outer s H vs Q E hr h => ?_)
  · obtain ⟨S, t, most, rfl, _⟩ := h
    rfl
  · obtain ⟨S, t, most, rfl, st, ht, hm1, hm40, q⟩ := h
    have hr1 : Room 1 (A.deeper (envOfC "_law_wide" (defScope sLWide) s.heap.objs.size f cdv)) := hr.mono (by omega)
    have hr2 : Room 2 (A.deeper (envOfC "_law_wide" (defScope sLWide) s.heap.objs.size f cdv)) := hr.mono (by omega)
    refine ⟨_, pss_cons (ps_par (i := 2) (j := 3) (by rfl) scWl.nd rfl rfl (by decide) rfl rfl (pa_cons (pe_ix ix_list (pe_lst (pa_cons (pe_op op_add pe_int (pe_def dD hr1 (by rfl) (pa_cons (pv 0) (pa_cons (pv 1) pa_nil)))) (pa_cons (pv 1) pa_nil))) (pe_def dD hr1 (by rfl) (pa_cons (pv 0) (pa_cons pe_int pa_nil))) (fun _ _ => rfl)) (pa_cons (pe_def dD hr1 (by rfl) (pa_cons (pv 0) (pa_cons pe_int pa_nil))) pa_nil)) (by rfl))
      (pss_cons (ps_asg (pe_tup (pa_cons (pe_ix ix_list (pe_lst (pa_cons pe_str (pa_cons pe_str (pa_cons pe_str (pa_cons pe_str pa_nil))))) (pv 3) (fun _ _ => rfl)) (pa_cons (pe_lst pa_nil) pa_nil))) (pg_tup rfl (pgs_cons (pg_name (i := 4) scWl.nd rfl (by first | exact Or.inl rfl | exact Or.inr rfl)) (pgs_cons (pg_name (i := 5) scWl.nd rfl (by first | exact Or.inl rfl | exact Or.inr rfl)) pgs_nil))))
      (pss_cons (ps_for PassesOwn.never rfl (pi_range1 (by rfl) B.range (pa_cons (pe_op op_add pe_int (pe_def dD hr1 (by rfl) (pa_cons (pv 0) (pa_cons pe_int pa_nil)))) pa_nil)) (pg_name (i := 6) scWl.nd rfl (by first | exact Or.inl rfl | exact Or.inr rfl))
      (pss_cons (ps_set (i := 7) scWl.nd rfl (by first | exact Or.inl rfl | exact Or.inr rfl) (pe_join pe_str (pe_lc (own := [("_law_place", 9)]) (g := gName 9) (tt := tYes) (te := (tDf spPickS (tCons (tVar 0) (tCons (tVar 4) tNil)))) rfl scWl.nd (pi_range1 (by rfl) B.range (pa_cons (pv 2) pa_nil)) (blkOk_by (own := [("_law_place", 9)]) (N := nWl) (sc := defScope sLWide) (by decide +kernel))
          (fun _ _ _ _ _ => pg_name (i := 9) scWl.nd rfl (Or.inl rfl)) (fun _ _ _ _ _ => pts_nil) (fun _ _ _ _ _ => pe_def dP hr2 (by rfl) (pa_cons (pv 0) (pa_cons (pv 4) pa_nil))))))
      (C8.pss_cut (ps_if (PW.pt (pw_and (pt_cmpR op_eq (pv 3) pe_int (nomark _)) (pw_and1 (pt_cmpR (op_neEL hr.units0) (pv 5) (pe_lst pa_nil) (nomark _))))) (pss_cons (ps_set (i := 8) scWl.nd rfl (by first | exact Or.inl rfl | exact Or.inr rfl) (pe_def dD hr1 (by rfl) (pa_cons (pv 0) (pa_cons (pv 2) pa_nil))))
      (pss_one (ps_set (i := 7) scWl.nd rfl (by first | exact Or.inl rfl | exact Or.inr rfl) (pe_op op_add_str (pe_op op_add_str (pe_slice sl_str (pe_ix ix_list (pv 5) (pe_un un_neg pe_int) (fun _ _ => rfl)) po_none (po_some (pv 8))) (pe_def dP hr2 (by rfl) (pa_cons (pv 0) (pa_cons pe_str pa_nil)))) (pe_slice sl_str (pe_ix ix_list (pv 5) (pe_un un_neg pe_int) (fun _ _ => rfl)) (po_some (pe_op op_add (pv 8) pe_int)) po_none))))) pss_nil)
      (pss_one (ps_expr (pe_bm PySem.F.plainAttrs_list PySem.F.slot_list_append PySem.F.type_list_append mt_append (pv 5) (pa_cons (pv 7) pa_nil)))))))
      (pss_one (ps_ret (pe_callTy cr_tupO (by rfl) B.tuple bT (pa_cons (pv 5) pa_nil)))))), ?_⟩
    refine ⟨.ref S.s, rfl, .int (most : Int), rfl, S, t, most, rfl, st, by omega, by omega, by omega, fun H1 r1 t1 s1 hr1' => ⟨1, r1, rfl, rfl, .int (most : Int), rfl, sz (n := 2) (by decide), fun L nL => ?_⟩⟩
    have cL := same_new (o := .lst [.int (1 + (r1 : Int)), .int (most : Int)]) nL
    obtain ⟨nl1, nl2, _⟩ := strm_ne s1.st nL
    have s1' := s1.same cL
    refine ⟨.ref S.s, rfl, S, t1, 2, rfl, s1'.st, by decide, by decide, by have := s1.hi; omega, fun H2 r2 t2 s2 hr2' => ?_⟩
    obtain ⟨n, en, hn1, hn2⟩ : ∃ n : Nat, ([V.int (1 + (r1 : Int)), .int (most : Int)] : List V)[r2]? = some (.int (n : Int)) ∧ 1 ≤ n ∧ n ≤ most := by
      match r2, hr2' with
      | 0, _ => exact ⟨1 + r1, by show some (V.int (1 + (r1 : Int))) = _; rw [Int.natCast_add]; rfl, by omega, by omega⟩
      | 1, _ => exact ⟨most, rfl, hm1, Nat.le_refl _⟩
    refine ⟨L, _, r2, .int (n : Int), rfl, rfl, SqL.of (s2.keep L _ nl1 nl2 upd_same), atI_nat en, ?_⟩
    have s2' := s1'.trans s2
    refine ⟨.ref S.s, rfl, S, t2, 4, rfl, s2'.st, by decide, by decide, by have := s2'.hi; omega, fun H3 way t3 s3 hway => ⟨_, _, rfl, ?_⟩⟩
    have s3' := s2'.trans s3
    obtain ⟨ch, hch, hci⟩ : ∃ ch, chsL[way]? = some ch ∧ ch ∈ chsL := ⟨chsL[way], List.getElem?_eq_getElem hway, List.getElem_mem hway⟩
    obtain ⟨hc1, hc2, hc3⟩ := chs_ok ch hci
    have hcv : atI (chsL.map V.str) (way : Int) = some (.str ch) := atI_nat (by rw [List.getElem?_map, hch]; rfl)
    refine ⟨sz (n := 4) (by decide), fun L2 nL2 => ⟨.int (way : Int), rfl, L2, chsL.map V.str, way, .str ch, rfl, rfl, SqL.of upd_same, hcv, sz (n := 0) (by decide), fun F0 nF => ⟨sz (n := 2) (by decide), fun T1 nT1 => ⟨T1, _, rfl, SqT.of upd_same, rfl, _, _, rfl, _, _, rfl, rfl, ?_⟩⟩⟩⟩
    have st3 := s3'.st
    have cL2 := same_new (o := .lst [.str "01?", .str "010101?", .str "01????", .str "01???"]) nL2
    have cF := same_new (o := .lst []) nF
    have cT := same_new (o := .tup [.str ch, .ref F0]) nT1
    have nF3 : H3 F0 = none := Same.free cL2 nF
    obtain ⟨f1, f2, f3⟩ := strm_ne st3 nF3
    have nF0 : H F0 = none := by
      cases h : H F0 with
      | none => rfl
      | some o =>
        have := s3'.keep F0 o f1 f2 h
        rw [nF3] at this
        cases this
    have s4 : Step S H t _ t3 3 := (s3'.mono (by omega)).same ((cL2.trans cF).trans cT)
    have hF4 := cT _ _ (upd_same (H := upd H3 L2 (.lst [.str "01?", .str "010101?", .str "01????", .str "01???"])) (a := F0) (o := .lst []))
    change Step S H t (upd (upd (upd H3 L2 (.lst [.str "01?", .str "010101?", .str "01????", .str "01???"])) F0 (.lst [])) T1 (.tup [.str ch, .ref F0])) t3 3 at s4
    generalize upd (upd (upd H3 L2 (.lst [.str "01?", .str "010101?", .str "01????", .str "01???"])) F0 (.lst [])) T1 (.tup [.str ch, .ref F0]) = H4 at *
    refine ⟨.ref S.s, rfl, S, t3, 6, rfl, s4.st, by decide, by decide, by have := s4.hi; omega, fun H5 r5 t5 s5 hr5 => ⟨1, r5, rfl, rfl, 1 + (r5 : Int), rfl, by omega, by omega, ?_⟩⟩
    rw [show (1 + (r5 : Int)).toNat = r5 + 1 by omega]
    have s45 := s4.trans s5
    refine for_range (lo := 0) (n := r5 + 1) (fun i σ H' => ∃ (ws : List Str) (t' : Int) (z6 z7 z8 z9 : Option V), σ = [some (.ref S.s), some (.int (most : Int)), some (.int (n : Int)), some (.int (way : Int)), some (.str ch), some (.ref F0), z6, z7, z8, z9] ∧ Step S H t H' t' (4 + 42 * i) ∧ H' F0 = some (.lst (ws.map V.str)) ∧ ws.length = i ∧ ∀ x ∈ ws, OkW n x)
      ⟨[], t5, _, _, _, _, rfl, s45, s5.keep F0 _ f1 f2 hF4, rfl, by simp⟩ (fun i σ H6 hi h => ?_) (fun σ H6 h => ?_)
    · obtain ⟨ws, t6, z6, z7, z8, z9, rfl, s6, hF6, hwl, hws⟩ := h
      refine ⟨⟨_, rfl⟩, .int (n : Int), rfl, (n : Int), rfl, by omega, by omega, fun D nD => ?_⟩
      rw [Int.toNat_natCast]
      refine lcz_range (K := K) (d := 1) (G := fun e => ∃ c : Nat, e = .str ⟨#[c]⟩ ∧ sgn3 c = true) (n := n) s6.st nD (by omega) (fun j Hc tc hj sc ok => ?_) (fun H9 pv9 => ?_)
      · intro R1 R2 h2
        exact ⟨rfl, iteT (B := R1 Hc) ⟨.ref S.s, rfl, .str ch, rfl, S, tc, ch, rfl, sc.st, by have := sc.hi; have := s6.hi; omega, hc2, hc3, fun Hd c td sd hcc => h2 _ (.str ⟨#[c]⟩) Hd td sd (.str _) ⟨c, rfl, hc1 c hcc⟩⟩⟩
      obtain ⟨vs, ds, t9, s9, hD9, dv9, hg9, hl9⟩ := pv9
      obtain ⟨cs, rfl, hcs, hcl⟩ := dv_signs dv9 hg9
      have okj := okW_join cs hcs
      rw [hcl, hl9] at okj
      have s69 := s6.trans s9
      have hF9 := s9.keep F0 _ f1 f2 hF6
      refine ⟨_, D, cs.map fun c => (⟨#[c]⟩ : Str), rfl, rfl, .inl (SqL.of hD9), by rw [sum_ones]; show _ + _ * 0 ≤ _; omega, ?_⟩
      rw [TL.join_eq]
      have e0 : Str.ofString "" = Str.empty := rfl
      rw [e0]
      generalize Str.join Str.empty (cs.map fun c => (⟨#[c]⟩ : Str)) = x at okj
      refine ⟨MidP S H t most n way i ch ws F0, ?_, fun σ10 H10 mid => ?_⟩
      · refine ⟨.int (way : Int), rfl, rfl, _, rfl, ite2 (fun ew => ?_) (fun ew => iteF ⟨t9, x, _, _, _, rfl, s69.mono (by omega), hF9, okj⟩)⟩
        refine ⟨.ref F0, rfl, sz (n := 0) (by decide), fun EE nE => ⟨F0, EE, ws.map V.str, rfl, rfl, SqL.of (same_new nE _ _ hF9), SqL.of upd_same, _, rfl, ?_⟩⟩
        have cE := same_new (o := .lst []) nE
        rcases List.eq_nil_or_concat ws with e | ⟨ws', y, e⟩
        · rw [e]
          exact iteF ⟨t9, x, _, _, _, rfl, (s69.same cE).mono (by omega), by rw [e] at hF9; exact cE _ _ hF9, okj⟩
        rw [List.concat_eq_append] at e
        have oky : OkW n y := hws y (by rw [e]; simp)
        have hyl : y.length ≤ sizeLine := szl (m := 100) (by rw [oky.1]; omega) (by decide)
        rw [show (!(ws.map V.str).isEmpty) = true by rw [e, List.map_append]; cases ws'.map V.str <;> rfl]
        have s9E := s69.same cE
        have hFE := cE _ _ hF9
        have last : atI (ws.map V.str) (-1) = some (.str y) := by
          rw [e, List.map_append]
          exact atI_last _ _
        refine iteT ⟨.ref S.s, rfl, .int (n : Int), rfl, S, t9, n, rfl, s9E.st, by omega, by omega, by have := s9E.hi; omega, fun H11 spot t11 s11 hsp => ?_⟩
        have hF11 := s11.keep F0 _ f1 f2 hFE
        have s9b := s9E.trans s11
        refine ⟨.ref F0, rfl, 1, rfl, F0, _, -1, .str y, rfl, rfl, SqL.of hF11, last, .int (spot : Int), rfl, spot, rfl, y, rfl, hyl, ?_⟩
        refine ⟨.ref S.s, rfl, S, t11, "01?", rfl, s9b.st, by have := s9b.hi; omega, by decide, by decide, fun H12 c t12 s12 hc => ?_⟩
        have hF12 := s12.keep F0 _ f1 f2 hF11
        have s9c := s9b.trans s12
        have hca : sgn3 c = true := (chs_ok "01?" (by unfold chsL; simp)).1 c hc
        have oke : OkW 1 (⟨#[c]⟩ : Str) := ⟨rfl, fun c' h => by rw [List.mem_singleton.mp (show c' ∈ [c] from h)]; exact hca⟩
        have l1 := cutS_length y none (some (spot : Int))
        have l2 := cutS_length y (some ((spot : Int) + 1)) none
        have hyn := oky.1
        refine ⟨_, _, rfl, rfl, szl (m := 100) (by rw [oke.1]; omega) (by decide), ?_⟩
        refine ⟨.ref F0, rfl, 1, rfl, F0, _, -1, .str y, rfl, rfl, SqL.of hF12, last, .int (spot : Int), rfl, spot, 1, rfl, rfl, _, rfl, y, rfl, hyl, ?_⟩
        refine ⟨_, _, rfl, rfl, szl (m := 200) (by rw [str_app_len, oke.1]; omega) (by decide), ?_⟩
        exact ⟨t12, _, _, _, _, rfl, s9c.mono (by omega), hF12, okW_put oky hsp oke⟩
      · obtain ⟨t10, x, y6, y8, y9, rfl, s10, hF10, okx⟩ := mid
        refine ⟨.ref F0, rfl, .inl ⟨rfl, _, SqL.of hF10⟩, .str x, rfl, F0, ws.map V.str, .str x, rfl, rfl, hF10, by rw [List.length_map, sizeLine_eq]; omega, ?_⟩
        refine ⟨ws ++ [x], t10, _, _, _, _, rfl, (step_put s10 st nF0).mono (by omega), by rw [upd_same, List.map_append]; rfl, by rw [List.length_append, hwl]; rfl, fun y hy => ?_⟩
        rcases List.mem_append.mp hy with hy | hy
        · exact hws y hy
        · rw [List.mem_singleton.mp hy]
          exact okx
    · obtain ⟨ws, t6, z6, z7, z8, z9, rfl, s6, hF6, hwl, hws⟩ := h
      refine ⟨.ref F0, rfl, F0, _, rfl, .inl ⟨SqL.of hF6, fun T nT => ?_⟩⟩
      exact q _ T ws n t6 ((s6.same (same_new nT)).mono (by omega)) upd_same (by omega) (by omega) hn1 hn2 hws
end
end XT
/-! from what k_is answers to what the classes must say -/
namespace XT
open PySem PySem.Spec PyProof.Rows L2
section
variable {K : PySem.W.Frag} {C D : Addr} {b : Bool}
theorem kit_ref (hd : PySem.W.hasDictIn K C = true) (ht : PySem.W.typeIn K (.ref C) = some (.type "type")) (hs : PySem.W.subIn K (.ref D) (.ref C) = some b) (hne : (Value.ref D == Value.ref C) = false) : PySem.W.kitOne K (.ref D) (.ref C) = some b := by
  obtain ⟨cd, hc, _⟩ := PySem.W.any_some hd
  have e2 : ((PySem.W.clsIn K C).isSome && PySem.W.typeIn K (.ref C) == some (.type "type")) = true := by rw [hc, ht] <;> rfl
  unfold PySem.W.kitOne PySem.W.kitCls
  rw [hne]
  show (if ((PySem.W.clsIn K C).isSome && PySem.W.typeIn K (.ref C) == some (.type "type")) = true then PySem.W.subIn K (.ref D) (.ref C) else none) = some b
  rw [if_pos e2]
  exact hs
theorem kit_bt {T : String} (hs : PySem.W.subIn K (.ref D) (.type T) = some b) (hm : PySem.W.kitMeta T = true) : PySem.W.kitOne K (.ref D) (.type T) = some b := by
  unfold PySem.W.kitOne PySem.W.kitCls
  rw [if_neg (by simp)]
  show (if PySem.W.kitMeta T = true then PySem.W.subIn K (.ref D) (.type T) else none) = some b
  rw [if_pos hm]
  exact hs
theorem kit_none {t c : Value} {cs : List Value} (h : PySem.W.kitOne K t c = some false) (r : PySem.W.kitAny K t cs = some false) : PySem.W.kitAny K t (c :: cs) = some false := L2.kitAny_cons h (fun _ => r) (fun z => nomatch z)
def strKey (e : DictEntry) : Bool := match e.key with | .str _ _ => true | _ => false
theorem nsOk_of {N : Addr} {oc : Value} {od : Option Addr} {es : Array DictEntry} {ep : Nat} {sl : Array (Option Value)} (l : K.lookup N = some ⟨oc, od, .dict es ep, sl⟩) (h : es.toList.all strKey = true) : PySem.W.nsOkIn K N = true := by
  unfold PySem.W.nsOkIn
  rw [l]
  rw [Array.all_toList] at h
  exact h
abbrev veTl : List Value := [.type "ValueError", .type "Exception", .type "BaseException", .type "object"]
theorem excIn_of {cN cT NSn NSt : Addr} {nm qn nt qt : Str} {bs sub bst subt mt : List Value} {hd hdt : Bool} {sn snt : List Str} {ab abt del : Bool} {col colt : Option Bool} {dd od : Option Addr} {q0 q1 q2 q3 q5 : Option Value} {oc : Value} {sl : Array (Option Value)}
    (lN : K.lookup cN = some (excClassObj nm qn cN NSn bs [.ref cT, .type "ValueError", .type "Exception", .type "BaseException", .type "object"] hd sn sub ab col dd q0 q1 q2 q3 q5 "ValueError.__new__")) (oN : PySem.W.nsOkIn K NSn = true) (iN : PySem.W.nsIn K NSn "__init__" = some none)
    (lT : K.lookup cT = some ⟨oc, od, .cls { name := nt, bases := bst, mro := mt, ns := NSt, qualname := qt, hasDict := hdt, slotNames := snt, subclasses := subt, abstract := abt, collection := colt, hasDel := del }, sl⟩) (oT : PySem.W.nsOkIn K NSt = true) (iT : PySem.W.nsIn K NSt "__init__" = some none) :
    PySem.W.excIn K cN [.type "ValueError", .type "Exception", .type "BaseException", .type "object"] "ValueError.__new__" = true := by
  have e1 : PySem.W.tailIn K veTl veTl = true := by
    unfold PySem.W.tailIn
    simp
  have e2 : PySem.W.tailIn K veTl (.ref cT :: veTl) = true := by
    unfold PySem.W.tailIn
    dsimp only
    rw [lT]
    simp [oT, iT, e1]
  unfold PySem.W.excIn
  rw [lN]
  simp [oN, iN, e2]
end
end XT
namespace XT
open PySem PySem.Spec PyProof.Rows L2

theorem scSt : FnScope ["_law_script", "_law_cells", "_law_cell"] ["_law_script"] (defScope sStream) := ⟨rfl, rfl, rfl, by decide +kernel, rfl, by decide +kernel, by decide +kernel⟩
section
variable {P : Program} {w : World} {K : PySem.W.Frag} {mg : Str → Option Value} {base : Heap}
theorem ok_stream {f : Addr} {fd : FuncData} {k : Nat} (F : Fun K "_law_stream" "_law_stream" sStream f fd) (ml : mg "len" = none) (ma : mg "abs" = none) : FnOk P w K mg base CX0 (k + 1) f fd ["_law_script"] (spStream K) := by
  refine F.ok scSt (fun vs H Q E h => ?_) (fun cdv A outer s H vs Q E hr h => ?_)
  · obtain ⟨a, ns, rfl, _⟩ := h
    rfl
  · obtain ⟨a, ns, rfl, hA, hlen, q⟩ := h
    refine ⟨_, pss_cons (ps_setLc (i := 1) (own := [("_law_cell", 2)]) (g := gName 2) (tt := tYes) rfl scSt.nd rfl rfl (sw_true rfl rfl rfl (by decide +kernel)) (pi_list (pv 0)) (blkOk_by (own := [("_law_cell", 2)]) (N := ["_law_script", "_law_cells", "_law_cell"]) (sc := defScope sStream) (by decide +kernel))
          (fun _ _ _ _ _ => pg_name (i := 2) scSt.nd rfl (Or.inl rfl)) (fun _ _ _ _ _ => pts_nil) (fun _ _ _ _ _ => pe_callB call_abs (by rfl) ma (by decide +kernel) (pa_cons (pv 2) pa_nil)))
        (pss_one (ps_ret (pe_lst (pa_cons
          (pe_lc (own := [("_law_cell", 2)]) (g := gName 2) rfl scSt.nd (pi_list (pv 1)) (blkOk_by (own := [("_law_cell", 2)]) (N := ["_law_script", "_law_cells", "_law_cell"]) (sc := defScope sStream) (by decide +kernel))
            (fun _ _ _ _ _ => pg_name (i := 2) scSt.nd rfl (Or.inl rfl)) (fun _ _ _ _ _ => pts_one (pt_cmpR op_ge (pv 2) (pe_op op_pow pe_int pe_int) (nomark _))) (fun _ _ _ _ _ => pv 2))
          (pa_cons (pe_op op_cat (pv 1) (pe_lst (pa_cons (pe_op op_add (pe_callB call_len_seq (by rfl) ml PySem.boot_len (pa_cons (pv 1) pa_nil)) pe_int) pa_nil)))
          (pa_cons pe_int pa_nil)))))), ?_⟩
    have hml : (ns.map V.int).length ≤ 63 := by rw [List.length_map]; exact hlen
    refine ⟨.ref a, rfl, a, rfl, ⟨_, hA⟩, fun D nD => lcp_list (p := fun _ => true) (f := fun v => match v with | .int i => .int (ab i) | v => v) nD hA (small64 (by omega)) (fun i x H3 hx sm => ?_) (fun H3 sm hD => ?_)⟩
    · intro R1 R2 h1 h2
      rw [List.getElem?_map] at hx
      obtain ⟨n, -, rfl⟩ := Option.map_eq_some_iff.mp hx
      exact ⟨rfl, iteT (B := R1 H3) ⟨_, rfl, n, rfl, h2 rfl _ (Same.refl _)⟩⟩
    · -- cells
      obtain ⟨cs, hcs, hcl⟩ : ∃ cs : List Int, (((ns.map V.int).filter fun _ => true).map fun v => match v with | .int i => V.int (ab i) | v => v) = cs.map V.int ∧ cs.length = ns.length := by
        refine ⟨ns.map ab, ?_, List.length_map _⟩
        rw [List.filter_eq_self.mpr (fun _ _ => rfl), List.map_map, List.map_map]
        rfl
      rw [hcs] at hD
      have hDl : (cs.map V.int).length ≤ 63 := by rw [List.length_map]; omega
      refine ⟨.ref D, rfl, D, rfl, ⟨_, SqL.of hD⟩, fun B nB => lcp_list (p := fun v => match v with | .int i => decide (10 ^ 18 ≤ i) | _ => false) (f := id) nB (SqL.of hD) (small64 (by omega)) (fun i x H4 hx sm4 => ?_) (fun H4 sm4 hB => ?_)⟩
      · intro R1 R2 h1 h2
        rw [List.getElem?_map] at hx
        obtain ⟨n, -, rfl⟩ := Option.map_eq_some_iff.mp hx
        refine ⟨rfl, _, rfl, 10, 18, rfl, rfl, ⟨by decide, by decide, by decide⟩, n, _, rfl, rfl, _, rfl, ite2 (fun e => ?_) (fun e => ?_)⟩
        · exact ⟨_, rfl, h2 e _ (Same.refl _)⟩
        · exact h1 (by simpa using e) _ (Same.refl _)
      · have hD4 := sm4 _ _ hD
        obtain ⟨big, hbig⟩ : ∃ big : List Int, (((cs.map V.int).filter fun v => match v with | .int i => decide (10 ^ 18 ≤ i) | _ => false).map id) = big.map V.int := by
          refine ⟨cs.filter fun i => decide (10 ^ 18 ≤ i), ?_⟩
          rw [List.map_id, List.filter_map]
          rfl
        rw [hbig] at hB
        refine ⟨.ref D, rfl, .ref D, rfl, D, _, rfl, .inl (SqL.of hD4), _, _, rfl, rfl, sz (n := 1) (by decide), fun L nL => ?_⟩
        have s5 : Same H4 (upd H4 L (.lst [.int (((cs.map V.int).length : Nat) + 37)])) := same_new nL
        refine ⟨D, L, _, _, rfl, rfl, s5 _ _ hD4, upd_same, ?_, fun C nC => ?_⟩
        · rw [sizeLine_eq]; simp only [List.length_map, List.length_cons, List.length_nil]; omega
        · have s6 := same_new (o := .lst (cs.map V.int ++ [.int (((cs.map V.int).length : Nat) + 37)])) nC
          refine ⟨sz (n := 3) (by decide), fun G nG => ?_⟩
          have s7 := same_new (o := .lst [V.ref B, .ref C, .int 0]) nG
          have hBC : B ≠ C := ne_of_none (s5 _ _ hB) nC
          refine q _ ⟨G, B, C, cs ++ [(((cs.map V.int).length : Nat) : Int) + 37]⟩ (((sm.trans sm4).trans (s5.trans s6)).trans s7) ⟨big, upd_same, s7 _ _ (s6 _ _ (s5 _ _ hB)), s7 _ _ ?_, ?_, ?_, hBC, ?_, Int.le_refl _⟩
          · rw [upd_same, List.map_append]; rfl
          · exact (ne_of_none (s6 _ _ (s5 _ _ hB)) nG).symm
          · exact (ne_of_none (show (upd _ C _) C = some _ from upd_same) nG).symm
          · show 0 < (cs ++ _).length
            rw [List.length_append]; exact Nat.succ_pos _
end
end XT
/-! a pattern stretched to a width -/
namespace XT
open PySem PySem.Spec PyProof.Rows L2
theorem foldl_app : ∀ (l : List (Array Nat)) (acc : Array Nat), (l.foldl (· ++ ·) acc).toList = acc.toList ++ (l.map Array.toList).flatten
  | [], acc => by simp
  | a :: l, acc => by
    rw [List.foldl_cons, foldl_app l, Array.toList_append, List.map_cons, List.flatten_cons, List.append_assoc]
theorem mul_list {x : Str} {k : Nat} (hk : 2 ≤ k) (hx : 1 ≤ x.length) : (Txt.mul x (k : Int)).cps.toList = (List.replicate k x.cps.toList).flatten := by
  unfold Txt.mul
  rw [if_neg (by omega)]
  rw [if_neg (by
    rw [Bool.or_eq_true, beq_iff_eq, beq_iff_eq]
    rintro (h | h) <;> omega)]
  show ((List.replicate (k : Int).toNat x.cps).foldl (· ++ ·) #[]).toList = _
  rw [foldl_app, List.map_replicate, Int.toNat_natCast]
  rfl
def strW (k n : Nat) (x : Str) : Str := cutS (Txt.mul x (k : Int)) none (some (n : Int))
theorem strW_ok {k n m : Nat} {x : Str} (hk : 2 ≤ k) (hn : n ≤ k) (hm : 1 ≤ m) (ok : OkW m x) : OkW n (strW k n x) := by
  have hx : x.length = m := ok.1
  have hl : x.cps.toList.length = m := by rw [Array.length_toList]; exact ok.1
  have e : (strW k n x).cps.toList = (List.replicate k x.cps.toList).flatten.take n := by
    unfold strW
    rw [cut_take, mul_list hk (by omega)]
  refine ⟨?_, fun c hc => ?_⟩
  · show (strW k n x).cps.size = n
    rw [← Array.length_toList, e, List.length_take, List.length_flatten, List.map_replicate, List.sum_replicate_nat, hl]
    have := Nat.mul_le_mul_left k hm
    omega
  · rw [e] at hc
    have hc := List.mem_of_mem_take hc
    obtain ⟨l, hl, hcl⟩ := List.mem_flatten.mp hc
    rw [List.mem_replicate] at hl
    rw [hl.2] at hcl
    exact ok.2 c hcl
section
variable {K : PySem.W.Frag} {σ : L2.St} {H : Hp} {t u : TE} {us : List Str} {k n m i : Nat}
/-- (x * k)[:n] -/
theorem ev_str1 {x : Str} (hk : 2 ≤ k) (hk9 : k ≤ 1000) (hm : m ≤ 40) (ok : OkW m x) (a : Ev (isV (.str x)) t σ H) (b : Ev (isV (.int (n : Int))) u σ H) :
    Ev (isV (.str (strW k n x))) (tSl rSlS (tOp (fun x y H Q => ∃ a n, x = V.str a ∧ y = V.int n ∧ MulOk a n ∧ Q (.str (Txt.mul a n)) H) t (tC (.int (k : Int)))) tNoPart (tPart u)) σ H := fun H1 s1 Q q =>
  a H1 s1 _ fun H2 z s2 ez => by
    subst ez
    have hx : x.length = m := ok.1
    refine ⟨x, (k : Int), rfl, rfl, PyProof.Rows.mulOk_of 40 1000 (by omega) (by omega) (by omega) (by decide) (by decide), ?_⟩
    refine b H2 (s1.trans s2) _ fun H3 y s3 ey => ⟨(n : Int), ey, Txt.mul x (k : Int), rfl, ?_, q _ _ (s2.trans s3) rfl⟩
    by_cases h0 : 1 ≤ x.length
    · have := congrArg List.length (mul_list hk h0)
      rw [Array.length_toList, List.length_flatten, List.map_replicate, List.sum_replicate_nat, Array.length_toList] at this
      have e : x.cps.size = x.length := rfl
      rw [e] at this
      have e2 : (Txt.mul x (k : Int)).length = (Txt.mul x (k : Int)).cps.size := rfl
      rw [e2, this]
      have := Nat.mul_le_mul hk9 (show x.length ≤ 40 by omega)
      exact szl (m := 40000) (by omega) (by decide)
    · have e : x.cps = #[] := by
        have : x.cps.size = 0 := by have e : x.cps.size = x.length := rfl; omega
        exact Array.size_eq_zero_iff.mp this
      have : (Txt.mul x (k : Int)).length = 0 := by
        unfold Txt.mul
        rw [if_neg (by omega), if_pos (by
          rw [Bool.or_eq_true, beq_iff_eq, beq_iff_eq]
          exact .inr (by have e : x.cps.size = x.length := rfl; omega))]
        have e : x.cps.size = x.length := rfl
        omega
      rw [this]
      exact Nat.zero_le _
end
end XT
/-! what the law's expressions have for values -/
namespace XT
open PySem PySem.Spec PyProof.Rows L2
theorem lotOf_eq {n : Nat} {p r : Nat → Bool} : lotOf n p = lotOf n r ↔ ∀ x, x < 2 ^ n → p x = r x := by
  constructor
  · intro e x hx
    have h : x ∈ lotOf n p ↔ x ∈ lotOf n r := by rw [e]
    rw [mem_lot, mem_lot] at h
    rw [Bool.eq_iff_iff]
    exact ⟨fun a => (h.mp ⟨hx, a⟩).2, fun a => (h.mpr ⟨hx, a⟩).2⟩
  · intro h
    exact lot_congr h
theorem kw_lot {n m : Nat} {ws : List Str} : decide (lotOf n (fun x => hasM n ws (x ^^^ m)) = lotOf n (hasM n ws)) = kwB n m ws := by
  rw [Bool.eq_iff_iff, decide_eq_true_iff, kwB_iff, lotOf_eq]
  exact ⟨fun h x hx => (h x hx).symm, fun h x hx => (h x hx).symm⟩
theorem hasM_app2 {n m : Nat} {ws us : List Str} : hasM n (ws ++ us) m = (hasM n ws m || hasM n us m) := by
  unfold hasM
  rw [List.any_append]
theorem kw_cnt {n m : Nat} {ws : List Str} (n1 : 1 ≤ n) (ok : ∀ x ∈ ws, OkW n x) (hm : m < 2 ^ n) : decide (cntW n ws = cntW n (ws ++ turnW n m ws)) = kwB n m ws := by
  rw [Bool.eq_iff_iff, decide_eq_true_iff, kwB_iff]
  have ht : ∀ x, x < 2 ^ n → hasM n (ws ++ turnW n m ws) x = (hasM n ws x || hasM n ws (x ^^^ m)) := fun x hx => by rw [hasM_app2, hasM_turn n1 ok hm hx]
  constructor
  · intro e
    have e1 : lotOf n (hasM n ws) = (lotOf n (hasM n (ws ++ turnW n m ws))).filter (hasM n ws) := by
      unfold lotOf
      rw [List.filter_filter]
      refine List.filter_congr fun x hx => ?_
      rw [ht x (List.mem_range.mp hx)]
      cases hasM n ws x <;> simp
    have e2 : lotOf n (hasM n ws) = lotOf n (hasM n (ws ++ turnW n m ws)) := by
      have hs : (lotOf n (hasM n ws)).Sublist (lotOf n (hasM n (ws ++ turnW n m ws))) := by rw [e1]; exact List.filter_sublist
      exact hs.eq_of_length e
    have sub : ∀ x, x < 2 ^ n → hasM n ws (x ^^^ m) = true → hasM n ws x = true := fun x hx h => by
      have := lotOf_eq.mp e2 x hx
      rw [ht x hx, h, Bool.or_true] at this
      exact this
    intro x hx
    rw [Bool.eq_iff_iff]
    exact ⟨fun h => sub _ (xor_lt hx hm) (by rw [xor_back]; exact h), sub x hx⟩
  · intro h
    have e : lotOf n (hasM n ws) = lotOf n (hasM n (ws ++ turnW n m ws)) := lotOf_eq.mpr fun x hx => by rw [ht x hx, ← h x hx, Bool.or_self]
    unfold cntW
    rw [e]
section
variable {K : PySem.W.Frag} {t te : TE} {σ : L2.St} {H : Hp} {xs : List V}
theorem ev_lcLM {i : Nat} (f : V → V) (hN : xs.length ≤ 1000) (a : Ev (isLV xs) t σ H) (hw : ∀ z : V, wipe ((wipe σ [i]).set i (some z)) [i] = wipe σ [i])
    (b : ∀ z ∈ xs, ∀ H1, Same H H1 → Ev (isV (f z)) te ((wipe σ [i]).set i (some z)) H1) : Ev (isLV (xs.map f)) (tLc (iList K t) (gName i) tYes te [i]) σ H := fun H1 s1 Q q =>
  a H1 s1 _ fun H2 x s2 ⟨T, ex, hT⟩ => by
    subst ex
    refine ⟨T, rfl, ⟨_, SqL.of hT⟩, fun D nD => lcp_list (p := fun _ => true) (f := f) nD (SqL.of hT) (small64 hN) (fun j z Hc hz sc => ?_) (fun H3 s3 hD => ?_)⟩
    · intro R1 R2 h1 h2
      refine ⟨hw _, ?_⟩
      change (if true = true then _ else R1 Hc)
      rw [if_pos rfl]
      refine b z (List.mem_of_getElem? hz) Hc ((s1.trans s2).trans sc) Hc (Same.refl _) _ fun H4 y s4 ey => ?_
      rw [ey]
      exact h2 rfl _ s4
    · exact q _ _ (s2.trans s3) ⟨D, rfl, by rw [hD, List.filter_eq_self.mpr fun _ _ => rfl]⟩
def xorV (m : Nat) : V → V
  | .int i => .int ((i.toNat ^^^ m : Nat) : Int)
  | v => v
theorem ev_srt {n m : Nat} {p : Nat → Bool} (hm : m < 2 ^ n) (a : Ev (isLV ((vm (lotOf n p)).map (xorV m))) t σ H) : Ev (isLsN (lotOf n fun x => p (x ^^^ m))) (tCB (rSortedI K) (tCons t tNil)) σ H := fun H1 s1 Q q =>
  a H1 s1 _ fun H2 x s2 ⟨L, ex, hL⟩ => by
    refine ⟨L, (lotOf n p).map fun (x : Nat) => ((x ^^^ m : Nat) : Int), by rw [ex], SqL.of ?_, fun ns' l pm asc nl => q _ _ (s2.trans (same_new nl)) ⟨l, rfl, by rw [upd_same, sort_xor hm pm asc]⟩⟩
    rw [hL]
    unfold vm
    rw [List.map_map, List.map_map]
    rfl
theorem ev_turned {n m : Nat} {p : Nat → Bool} {i j : Nat} (hn : n ≤ 7) (hm : m < 2 ^ n) (a : Ev (isLV (vm (lotOf n p))) t σ H) (hw : ∀ z : V, wipe ((wipe σ [i]).set i (some z)) [i] = wipe σ [i]) (hi : ∀ z : V, ((wipe σ [i]).set i (some z))[i]? = some (some z)) (hj : ∀ z : V, ((wipe σ [i]).set i (some z))[j]? = some (some (.int (m : Int)))) :
    Ev (isLsN (lotOf n fun x => p (x ^^^ m))) (tCB (rSortedI K) (tCons (tLc (iList K t) (gName i) tYes (tOp rXor (tVar i) (tVar j)) [i]) tNil)) σ H := fun H1 s1 Q q => by
  have hl : (lotOf n p).length ≤ 1000 := by
    have h1 : (lotOf n p).length ≤ (List.range (2 ^ n)).length := List.length_filter_le _ _
    rw [List.length_range] at h1
    have := Nat.pow_le_pow_right (show 0 < 2 by decide) hn
    omega
  have a2 : Ev (isLV ((vm (lotOf n p)).map (xorV m))) (tLc (iList K t) (gName i) tYes (tOp rXor (tVar i) (tVar j)) [i]) σ H := by
    refine ev_lcLM (K := K) (xorV m) (by unfold vm; rw [List.length_map]; exact hl) a hw (fun z hz H2 s2 => ?_)
    obtain ⟨k, hk, rfl⟩ := List.mem_map.mp hz
    refine ev_op (sty_v _) (ev_var (sty_v _) (hi _) rfl) (ev_var (sty_v _) (hj _) rfl) fun H x y ex ey Q q => ⟨(k : Int), (m : Int), ex, ey, q _ _ (Same.refl _) ?_⟩
    show V.int _ = V.int (((k : Int).toNat ^^^ m : Nat) : Int)
    rw [Int.toNat_natCast]
    exact congrArg V.int (bx k m)
  exact ev_srt hm a2 H1 s1 Q q
theorem for_evL {R : RV} {D : Ends} {g : TG} {tb : TS} (a : Ev R te σ H) (q : ∀ H2 z, Same H H2 → R H2 z → tFor (iList K (tC z)) g tb D σ H2) : tFor (iList K te) g tb D σ H := a H (Same.refl _) _ fun H2 z s2 g2 => q H2 z s2 g2
theorem ev_kw {CM : Addr} {n m : Nat} {ws : List Str} {u : TE} {E : L2.St → XK} (hm : m < 2 ^ n) (a : Ev (fun H z => ∃ T, z = .ref T ∧ WideT H T ws n) t σ H) (b : Ev (isV (.int (m : Int))) u σ H) : Ev (isB (kwB n m ws)) (tCallS (spKw K CM) E (tCons t (tCons u tNil))) σ H := fun H1 s1 Q q =>
  a H1 s1 _ fun H2 x s2 ⟨T, ex, hT⟩ => b H2 (s1.trans s2) _ fun H3 y s3 ey => by
    subst ex ey
    refine ⟨T, ws, n, _, .int (m : Int), rfl, hT.same s3, .int _, fun m' em hm' H4 s4 => ?_, fun z => absurd (isM_nat hm) (by rw [z]; decide)⟩
    have e : m = m' := Int.ofNat.inj (PyData.int.inj em)
    subst e
    exact q _ _ ((s2.trans s3).trans s4) rfl
theorem okT40 {x : Str} (h : (decide (x.cps.size = 40) && x.cps.toList.all sgn3) = true) : OkW 40 x := by
  rw [Bool.and_eq_true, decide_eq_true_eq] at h
  exact ⟨h.1, fun c hc => List.all_eq_true.mp h.2 c hc⟩
theorem two_ok : ∀ x ∈ [Txt.mul "0" 40, Txt.mul "1" 40], OkW 40 x := fun x hx => by
  simp only [List.mem_cons, List.not_mem_nil, or_false] at hx
  rcases hx with rfl | rfl <;> exact okT40 (by decide +kernel)
theorem two_kw : kwB 40 (2 ^ 40 - 1) [Txt.mul "0" 40, Txt.mul "1" 40] = true := by
  have e : turnW 40 (2 ^ 40 - 1) [Txt.mul "0" 40, Txt.mul "1" 40] = [Txt.mul "1" 40, Txt.mul "0" 40] := by
    have h1 : comb (Txt.mul "0" 40) (digW (2 ^ 40 - 1) 40) = Txt.mul "1" 40 := str_of_list (by decide +kernel)
    have h2 : comb (Txt.mul "1" 40) (digW (2 ^ 40 - 1) 40) = Txt.mul "0" 40 := str_of_list (by decide +kernel)
    unfold turnW
    rw [List.map_cons, List.map_cons, List.map_nil, h1, h2]
  refine kw_fix (by decide) two_ok (by decide) fun x _ => ?_
  rw [e]
  unfold hasM
  rw [List.any_cons, List.any_cons, List.any_nil, List.any_cons, List.any_cons, List.any_nil, Bool.or_false, Bool.or_false, Bool.or_comm]
theorem of_eqNs {ms ks : List Nat} : OpF (isLsN ms) (isLsN ks) (rEqD K) (isB (decide (ms = ks))) := fun H x y gx gy Q q => eq_lstN gx gy (q _ _ (Same.refl _) rfl)
theorem ev_lctT {n : Nat} {ws : List Str} {t : TE} {σ : L2.St} {H : Hp} (hn : n ≤ 60) (hl : ws.length ≤ 12) (ok : ∀ x ∈ ws, OkK n x) (a : Ev (isTV (ws.map V.str)) t σ H) : Ev (isV (.int (cntW n ws : Nat))) (tDf (spLctT K) (tCons t tNil)) σ H := fun H1 s1 Q q =>
  a H1 s1 _ fun H2 x s2 ⟨T, ex, hT⟩ => by
    subst ex
    exact ⟨T, ws, n, rfl, SqT.of hT, ok, hn, hl, fun H3 s3 => q _ _ (s2.trans s3) rfl⟩
theorem ev_mv {n m : Nat} {ws : List Str} {tb : TE} (hm : m < 2 ^ n) (a : Ev (fun H z => ∃ T, z = .ref T ∧ WideT H T ws n) t σ H) (b : Ev (isV (.int (m : Int))) tb σ H) : Ev (isTV ((turnW n m ws).map V.str)) (tDf spMvW (tCons t (tCons tb tNil))) σ H := fun H1 s1 Q q =>
  a H1 s1 _ fun H2 x s2 ⟨T, ex, hT⟩ => b H2 (s1.trans s2) _ fun H3 y s3 ey => by
    subst ex ey
    exact ⟨T, ws, n, m, rfl, hT.same s3, hm, fun H4 T4 s4 h4 => q _ _ ((s2.trans s3).trans s4) ⟨T4, rfl, h4⟩⟩
end
section
variable {S : Sm} {X : Ow} {W W1 W2 : HpP} {B B1 B2 : Int} {H : Hp} {t ta tb : TE} {σ : L2.St}
abbrev isWk (m k : Nat) : RV := fun H z => ∃ T ws n, z = .ref T ∧ WideT H T ws n ∧ n ≤ m ∧ ws.length ≤ k
theorem sk_wk {S : Sm} {X : Ow} (m k : Nat) : StyK S X (isWk m k) := fun _ _ _ _ _ w kk ⟨T, ws, n, e, h, a, b⟩ => ⟨T, ws, n, e, h.kx w kk, a, b⟩
theorem ed_wideL {m : Nat} (sw : StyW X W2) (m1 : 1 ≤ m) (m40 : m ≤ 40) (hB : B2 < 100000) (a : EvD S X W B W1 B1 (isV (.ref S.s)) ta σ H) (b : EvD S X W1 B1 W2 B2 (isV (.int (m : Int))) tb σ H) : EvD S X W B W2 (B2 + 300) (isWk m 6) (tDf spWideL (tCons ta (tCons tb tNil))) σ H := fun H1 s1 w1 Q q =>
  a H1 s1 w1 _ fun H2 x s2 w2 ex => b H2 (s1.trans s2) w2 _ fun H3 y s3 w3 ey => by
    obtain ⟨t, st, ht⟩ := w3.t
    refine ⟨S, t, m, by rw [ex, ey], st, by omega, m1, m40, fun H4 T ws n t4 s4 hT l1 l6 n1 nm ok => ?_⟩
    obtain ⟨w4, k4⟩ := w3.step sw st ht s4
    exact q _ _ ((s2.trans s3).trans k4) w4 ⟨T, ws, n, rfl, ⟨hT, l1, l6, n1, by omega, ok⟩, nm, l6⟩
theorem ed_cut {m k : Nat} (sw : StyW X W1) (k1 : 1 ≤ k) (a : EvD S X W B W1 B1 (isWk m 6) t σ H) : EvD S X W B W1 B1 (isWk m k) (tSl rSlV t tNoPart (tPart (tC (.int (k : Int))))) σ H := fun H2 k2 w2 Q' q' =>
  a H2 k2 w2 _ fun H3 z k3 w3 ⟨T, ws, n, ez, hw, nm, _⟩ => ⟨_, rfl, T, _, ez, hw.h, fun H4 p s4 hp => q' _ _ (k3.trans (KeepX.of s4)) (w3.same sw s4) ⟨p, ws.take k, n, rfl, hw.take k1 (by rw [hp, cutV_takeN, List.map_take]), nm, by rw [List.length_take]; omega⟩⟩
theorem ed_mv {n : Nat} {ws : List Str} (sw : StyW X W2) (a : EvD S X W B W1 B1 (fun H z => ∃ T, z = .ref T ∧ WideT H T ws n) ta σ H) (b : EvD S X W1 B1 W2 B2 (fun _ z => ∃ r : Nat, z = .int (r : Int) ∧ r < 2 ^ n) tb σ H) : EvD S X W B W2 B2 (fun H z => ∃ m, m < 2 ^ n ∧ isTV ((turnW n m ws).map V.str) H z) (tDf spMvW (tCons ta (tCons tb tNil))) σ H := fun H1 s1 w1 Q q =>
  a H1 s1 w1 _ fun H2 x s2 w2 ⟨T, ex, hT⟩ => b H2 (s1.trans s2) w2 _ fun H3 y s3 w3 ⟨m, ey, hm⟩ => by
    subst ex ey
    exact ⟨T, ws, n, m, rfl, hT.kx w2 s3, hm, fun H4 T4 s4 h4 => q _ _ ((s2.trans s3).trans (KeepX.of s4)) (w3.same sw s4) ⟨m, hm, T4, rfl, h4⟩⟩
theorem sty_wT (ws : List Str) (n : Nat) : Sty (fun H z => ∃ T, z = .ref T ∧ WideT H T ws n) := fun _ _ _ e ⟨T, ez, h⟩ => ⟨T, ez, h.same e⟩
theorem asgL_ed {R : RV} {g : TG} {D : Ends} (h : EvD S X W B W1 B1 R t σ H) (w : Wld S X W B H) (q : ∀ H2 z, KeepX (XS S X) H H2 → Wld S X W1 B1 H2 → R H2 z → g z σ H2 D.nx) : tAsg t g D σ H := h H (KeepX.refl _ _) w _ fun H2 z s2 w2 gz => q H2 z s2 w2 gz
theorem ed_sk {T : Addr} {ws : List Str} {n i : Nat} (sw : StyW X W1) (hB : B1 < 90000) (a : EvD S X W B W1 B1 (isV (.ref S.s)) ta σ H) (hi : σ[i]? = some (some (.ref T))) (w0 : Wld S X W2 B2 H) (hw : WideT H T ws n) : EvD S X W B W1 (B1 + 300) (isLG S X (fun v => ∃ m : Nat, v = .int (m : Int) ∧ m < 2 ^ n) 8) (tDf spSk (tCons ta (tCons (tVar i) tNil))) σ H := fun H1 s1 w1 Q q =>
  a H1 s1 w1 _ fun H2 x s2 w2 ex => ⟨_, hi, S, X, W1, B1, T, ws, n, by rw [ex], sw, w2, hB, hw.kx w0 (s1.trans s2), fun H3 z k3 w3 g => q _ _ (s2.trans k3) w3 g⟩
end
end XT
/-! errors: their __init__ -/
namespace XT
open PySem PySem.Spec PyProof.Rows L2
def sIOtherWidth : Stmt := match topS 2 with | .ClassDef _ _ _ b .. => b.getD 0 (topS 2) | _ => topS 2
def sINoMask : Stmt := match topS 3 with | .ClassDef _ _ _ b .. => b.getD 0 (topS 3) | _ => topS 3
section
variable {P : Program} {w : World} {K : PySem.W.Frag} {mg : Str → Option Value} {base : Heap}
theorem scIOtherWidth : FnScope ["self", "index"] ["self", "index"] (defScope sIOtherWidth) := ⟨rfl, rfl, rfl, by decide +kernel, rfl, by decide +kernel, by decide +kernel⟩
theorem ok_iOtherWidth {q : Str} {f C : Addr} {fd : FuncData} {k : Nat} (T : OexG K C) (no : PySem.W.findIn K (.ref C) "index" = some none) (F : Fun K "__init__" q sIOtherWidth f fd) : FnOk P w K mg base CX0 (k + 1) f fd ["self", "index"] (spInitG C "index") := by
  refine F.ok scIOtherWidth (fun vs H Q E h => ?_) (fun cdv A outer s H vs Q E hr h => ?_)
  · obtain ⟨a, y, rfl, _⟩ := h
    rfl
  · obtain ⟨a, y, rfl, ha, q⟩ := h
    refine ⟨_, pss_one (ps_ostG (pv 0) (pv 1)), ?_⟩
    exact ⟨y, rfl, .ref a, rfl, a, C, rfl, T, no, ha, q⟩
theorem scINoMask : FnScope ["self", "value"] ["self", "value"] (defScope sINoMask) := ⟨rfl, rfl, rfl, by decide +kernel, rfl, by decide +kernel, by decide +kernel⟩
theorem ok_iNoMask {q : Str} {f C : Addr} {fd : FuncData} {k : Nat} (T : OexG K C) (no : PySem.W.findIn K (.ref C) "value" = some none) (F : Fun K "__init__" q sINoMask f fd) : FnOk P w K mg base CX0 (k + 1) f fd ["self", "value"] (spInitG C "value") := by
  refine F.ok scINoMask (fun vs H Q E h => ?_) (fun cdv A outer s H vs Q E hr h => ?_)
  · obtain ⟨a, y, rfl, _⟩ := h
    rfl
  · obtain ⟨a, y, rfl, ha, q⟩ := h
    refine ⟨_, pss_one (ps_ostG (pv 0) (pv 1)), ?_⟩
    exact ⟨y, rfl, .ref a, rfl, a, C, rfl, T, no, ha, q⟩
end
end XT
namespace XT
open PySem PySem.Spec PyProof.Rows L2
/-- values that are no masks -/
def badD (n : Nat) : List PyData := [.int ((2 ^ n : Nat) : Int), .int (-1), .bool true, .none, .str "0", .tuple [.int 0], .list [.int 0], .int (10 ^ 39)]
theorem bad_isM {n : Nat} (hn : n ≤ 7) : ∀ d ∈ badD n, isM n d = false := fun d hd => by
  have hp := Nat.pow_le_pow_right (show 0 < 2 by decide) hn
  have hi : ∀ i : Int, ¬ (0 ≤ i ∧ i < ((2 ^ n : Nat) : Int)) → isM n (.int i) = false := fun i h => by
    show (decide (0 ≤ i) && decide (i < ((2 ^ n : Nat) : Int))) = false
    rw [Bool.and_eq_false_iff, decide_eq_false_iff_not, decide_eq_false_iff_not]
    omega
  unfold badD at hd
  simp only [List.mem_cons, List.not_mem_nil, or_false] at hd
  rcases hd with rfl | rfl | rfl | rfl | rfl | rfl | rfl | rfl
  · exact hi _ (by omega)
  · exact hi _ (by omega)
  · rfl
  · rfl
  · rfl
  · rfl
  · rfl
  · exact hi _ (by omega)
theorem bad_gd {n : Nat} (hn : n ≤ 7) : ∀ d ∈ badD n, Gd (10 ^ 39) 100 1 d := fun d hd => by
  have hp := Nat.pow_le_pow_right (show 0 < 2 by decide) hn
  unfold badD at hd
  simp only [List.mem_cons, List.not_mem_nil, or_false] at hd
  rcases hd with rfl | rfl | rfl | rfl | rfl | rfl | rfl | rfl
  · exact (gd_int (by rw [Int.natAbs_natCast]; omega)).mono (Nat.le_refl _) (by decide) (by decide)
  · exact (gd_int (by decide)).mono (Nat.le_refl _) (by decide) (by decide)
  · exact (gd_bl true).mono (Nat.le_refl _) (by decide) (by decide)
  · exact gd_non.mono (Nat.le_refl _) (by decide) (by decide)
  · exact (gd_str (n := 1) (TxOk.of _) (by decide +kernel)).mono (Nat.le_refl _) (by decide) (by decide)
  · exact ((GdAll.cons (gd_int (i := 0) (by decide)) GdAll.nil).tuple).mono (Nat.le_refl _) (by decide) (by decide)
  · exact ((GdAll.cons (gd_int (i := 0) (by decide)) GdAll.nil).list).mono (Nat.le_refl _) (by decide) (by decide)
  · exact (gd_int (by decide)).mono (Nat.le_refl _) (by decide) (by decide)
theorem dzAll_at {K : PySem.W.Frag} {H : Hp} : ∀ {vs : List V} {ds : List PyData}, DzAll K H vs ds → ∀ {i : Nat} {v : V}, vs[i]? = some v → ∃ d ∈ ds, Dz K H v d
  | [], [], _, i, v, h => by simp at h
  | a :: vs, d :: ds, .cons h1 h2, 0, v, h => ⟨d, List.mem_cons_self, by rw [← Option.some.inj h]; exact h1⟩
  | a :: vs, d :: ds, .cons h1 h2, i + 1, v, h => by
    obtain ⟨d', hd', e⟩ := dzAll_at h2 (i := i) h
    exact ⟨d', List.mem_cons_of_mem _ hd', e⟩
section
variable {P : Program} {w : World} {K : PySem.W.Frag} {mg : Str → Option Value} {base : Heap}
abbrev nLw : List Str := ["_law_script", "_law_stream_here", "_law_turn", "_law_wide_here", "_law_listed_here", "_law_mask", "_law_due", "_law_value", "_law_own"]
theorem scLw : FnScope nLw ["_law_script"] (defScope sLaw) := ⟨rfl, rfl, rfl, by decide +kernel, rfl, by decide +kernel, by decide +kernel⟩
structure Defs (P : Program) (w : World) (K : PySem.W.Frag) (mg : Str → Option Value) (base : Heap) (CM : Addr) : Prop where
  lstream : DefR P w K mg base 50 "_law_stream" (spStream K)
  lwide : DefR P w K mg base 50 "_law_wide" spWideL
  llisted : DefR P w K mg base 50 "_law_listed" spLsd
  ltold : DefR P w K mg base 50 "_law_told" (spTdK K)
  ldraw : DefR P w K mg base 50 "_law_draw" spDrawW
  lmoved : DefR P w K mg base 50 "_law_moved" spMvW
  lcount : DefR P w K mg base 50 "_law_count" (spLctT K)
  lsomemasks : DefR P w K mg base 50 "_law_some_masks" spSk
  lsixright : DefR P w K mg base 50 "_law_six_right" spSx
  widekeeps : DefX P w K mg base 50 "wide_keeps" (spKw K CM)
def spLaw (K : PySem.W.Frag) : Sp := fun vs H Q _ => ∃ (a : Addr) (ns : List Int), vs = [.ref a] ∧ SqL K H a (ns.map V.int) ∧ ns.length ≤ 63 ∧ ∀ H', Q (.bl true) H'
theorem run_it {f CM : Addr} {fd : FuncData} (B : Bl mg) (mR : mg "repr" = none) (F : Fun K "law" "law" sLaw f fd) (d : Defs P w K mg base CM) : RunC P w K mg base 51 f (spLaw K) := by
  refine run_law (k := 50) F scLw (fun _ _ _ _ _ _ _ => rfl) (fun cdv s H v Q hr h => ?_)
  obtain ⟨a0, ns, ev, hA, hlen, q⟩ := h
  cases ev
  have hun : (callerA.deeper (envOfC "law" (defScope sLaw) s.heap.objs.size f cdv)).units + 128 < cLine := by have := hr.un; omega
  have hgd : (callerA.deeper (envOfC "law" (defScope sLaw) s.heap.objs.size f cdv)).guards = some [] := rfl
  refine ⟨_, pss_cons (ps_set (i := 1) scLw.nd rfl (by first | exact Or.inl rfl | exact Or.inr rfl) (pe_def d.lstream hr (by rfl) (pa_cons (pv 0) pa_nil)))
      (pss_cons (ps_for PassesOwn.never rfl (pi_range1 (by rfl) B.range (pa_cons pe_int pa_nil)) (pg_name (i := 2) scLw.nd rfl (by first | exact Or.inl rfl | exact Or.inr rfl))
      (pss_cons (ps_set (i := 3) scLw.nd rfl (by first | exact Or.inl rfl | exact Or.inr rfl) (pe_def d.lwide hr (by rfl) (pa_cons (pv 1) (pa_cons (pe_ix ix_list (pe_lst (pa_cons pe_int (pa_cons pe_int (pa_cons pe_int pa_nil)))) (pv 2) (fun _ _ => rfl)) pa_nil))))
      (pss_cons (ps_set (i := 4) scLw.nd rfl (by first | exact Or.inl rfl | exact Or.inr rfl) (pe_def d.llisted hr (by rfl) (pa_cons (pv 3) pa_nil)))
      (pss_cons (ps_for PassesOwn.never rfl (pi_range1 (by rfl) B.range (pa_cons (pe_op op_shl pe_int (pe_callB call_len_str (by rfl) B.len PySem.boot_len (pa_cons (pe_ix ix_tup (pv 3) pe_int (fun _ _ => rfl)) pa_nil))) pa_nil)) (pg_name (i := 5) scLw.nd rfl (by first | exact Or.inl rfl | exact Or.inr rfl))
      (pss_cons (ps_set (i := 6) scLw.nd rfl (by first | exact Or.inl rfl | exact Or.inr rfl) (pe_cmpR (op_eqD hr.units) (pe_callB cr_sortedI (by rfl) B.sorted bS (pa_cons (pe_lc (own := [("_law_own", 8)]) (g := (gName 8)) (tt := tYes) (te := (tOp rXor (tVar 8) (tVar 5))) rfl scLw.nd (pi_list (pv 4)) (blkOk_by (own := [("_law_own", 8)]) (N := nLw) (sc := defScope sLaw) (by decide +kernel))
          (fun _ _ _ _ _ => (pg_name (i := 8) scLw.nd rfl (Or.inl rfl))) (fun _ _ _ _ _ => pts_nil) (fun _ _ _ _ _ => pe_op op_xor (pv 8) (pv 5))) pa_nil)) (pv 4) (nomark _)))
      (pss_one (ps_if (pt_cmpR op_ne (pe_callB (cr_reprA hgd hun) (by rfl) mR boot_repr (pa_cons (pe_def d.ltold hr (by rfl) (pa_cons (pv 3) (pa_cons (pv 5) pa_nil))) pa_nil)) (pe_callB (cr_reprA hgd hun) (by rfl) mR boot_repr (pa_cons (pv 6) pa_nil)) (nomark _)) pss_never pss_nil))))
      (pss_one (ps_for PassesOwn.never rfl (pi_list (pe_lstB (pa_cons (pe_op op_shl pe_int (pe_callB call_len_str (by rfl) B.len PySem.boot_len (pa_cons (pe_ix ix_tup (pv 3) pe_int (fun _ _ => rfl)) pa_nil))) (pa_cons (pe_un un_neg pe_int) (pa_cons pe_bl (pa_cons pe_non (pa_cons pe_str (pa_cons (pe_tup (pa_cons pe_int pa_nil)) (pa_cons (pe_lstB (pa_cons pe_int pa_nil)) (pa_cons (pe_op op_pow pe_int pe_int) pa_nil)))))))))) (pg_name (i := 7) scLw.nd rfl (by first | exact Or.inl rfl | exact Or.inr rfl))
      (pss_one (ps_if (pt_cmpR op_ne (pe_callB (cr_reprA hgd hun) (by rfl) mR boot_repr (pa_cons (pe_def d.ltold hr (by rfl) (pa_cons (pv 3) (pa_cons (pv 7) pa_nil))) pa_nil)) (pe_callB (cr_reprA hgd hun) (by rfl) mR boot_repr (pa_cons (pe_lstB (pa_cons (pv 7) pa_nil)) pa_nil)) (nomark _)) pss_never pss_nil))))))))
      (pss_cons (ps_for PassesOwn.never rfl (pi_range1 (by rfl) B.range (pa_cons pe_int pa_nil)) (pg_name (i := 2) scLw.nd rfl (by first | exact Or.inl rfl | exact Or.inr rfl))
      (pss_cons (ps_set (i := 3) scLw.nd rfl (by first | exact Or.inl rfl | exact Or.inr rfl) (pe_slice sl_tupV (pe_def d.lwide hr (by rfl) (pa_cons (pv 1) (pa_cons pe_int pa_nil))) po_none (po_some pe_int)))
      (C8.pss_cut (ps_if (pt_cmpR op_gt (pv 2) pe_int (nomark _)) (pss_one (ps_set (i := 3) scLw.nd rfl (by first | exact Or.inl rfl | exact Or.inr rfl) (pe_op op_catV (pe_slice sl_tupV (pv 3) po_none (po_some pe_int)) (pe_def d.lmoved hr (by rfl) (pa_cons (pe_slice sl_tupV (pv 3) po_none (po_some pe_int)) (pa_cons (pe_def d.ldraw hr (by rfl) (pa_cons (pv 1) (pa_cons (pe_op op_shl pe_int (pe_callB call_len_str (by rfl) B.len PySem.boot_len (pa_cons (pe_ix ix_tup (pv 3) pe_int (fun _ _ => rfl)) pa_nil))) pa_nil))) pa_nil)))))) pss_nil)
      (pss_one (ps_for PassesOwn.never rfl (pi_list (pe_def d.lsomemasks hr (by rfl) (pa_cons (pv 1) (pa_cons (pv 3) pa_nil)))) (pg_name (i := 5) scLw.nd rfl (by first | exact Or.inl rfl | exact Or.inr rfl))
      (pss_cons (ps_set (i := 6) scLw.nd rfl (by first | exact Or.inl rfl | exact Or.inr rfl) (pe_cmpR op_eq (pe_def d.lcount hr (by rfl) (pa_cons (pv 3) pa_nil)) (pe_def d.lcount hr (by rfl) (pa_cons (pe_op op_catV (pv 3) (pe_def d.lmoved hr (by rfl) (pa_cons (pv 3) (pa_cons (pv 5) pa_nil)))) pa_nil)) (nomark _)))
      (pss_one (ps_if (pt_cmpR op_ne (pe_callB (cr_reprA hgd hun) (by rfl) mR boot_repr (pa_cons (pe_lstB (pa_cons (pe_def d.ltold hr (by rfl) (pa_cons (pv 3) (pa_cons (pv 5) pa_nil))) (pa_cons (pe_def d.ltold hr (by rfl) (pa_cons (pv 3) (pa_cons (pv 5) pa_nil))) pa_nil))) pa_nil)) (pe_callB (cr_reprA hgd hun) (by rfl) mR boot_repr (pa_cons (pe_lstB (pa_cons (pv 6) (pa_cons (pv 6) pa_nil))) pa_nil)) (nomark _)) pss_never pss_nil))))))))
      (pss_one (ps_ret (pe_and (pe_def d.lsixright hr (by rfl) (pa_cons (pv 1) pa_nil)) (pe_one (pe_cmpR op_is_bl (pe_defX d.widekeeps hr (by rfl) takes0 (pa_cons (pe_tup (pa_cons (pe_op op_mul_str pe_str pe_int) (pa_cons (pe_op op_mul_str pe_str pe_int) pa_nil))) (pa_cons (pe_op op_sub (pe_op op_pow pe_int pe_int) pe_int) pa_nil))) pe_bl (nomark _)))))))), ?_⟩
  refine ⟨.ref a0, rfl, a0, ns, rfl, hA, hlen, fun H1 S s1 st1 => ?_⟩
  have sw : StyW noX noW := sty_no noX
  have w1 : Wld S noX noW 0 H1 := ⟨⟨0, st1, Int.le_refl _⟩, trivial, fun _ h => h.elim⟩
  have eW : ∀ {n : Nat} {ws : List Str} {T : Addr} {H2 : Hp} {i : Nat} {σ : L2.St}, WideT H2 T ws n → σ[i]? = some (some (.ref T)) → Ev (isTV (ws.map V.str)) (tVar i) σ H2 := fun hw e => ev_var (sty_tv _) e ⟨_, rfl, hw.h⟩
  have eLen : ∀ {n : Nat} {ws : List Str} {T : Addr} {H2 : Hp} {i : Nat} {σ : L2.St}, WideT H2 T ws n → σ[i]? = some (some (.ref T)) → Ev (isV (.int (n : Int))) (tCB (fun xs H Q => ∃ z, xs = [V.str z] ∧ z.length ≤ sizeLine ∧ Q (.int z.length) H) (tCons (tOp (rIxT K) (tVar i) (tC (.int 0))) tNil)) σ H2 := fun hw e =>
    ev_lenP hw.n40 (ev_op (sty_tp _ 1 6) (ev_var (sty_tp _ 1 6) e ⟨_, _, rfl, hw.h, hw.l1, hw.l6, hw.ok⟩) (ev_c _) (of_ixP (k := 0) (by decide))) fun x H Q hx q => ⟨x, rfl, hx, q⟩
  have ePow : ∀ {n : Nat} {ws : List Str} {T : Addr} {H2 : Hp} {i : Nat} {σ : L2.St}, WideT H2 T ws n → σ[i]? = some (some (.ref T)) → Ev (isV (.int ((2 ^ n : Nat) : Int))) (tOp (rI CPow fun i j => .int (i * 2 ^ j.toNat)) (tC (.int 1)) (tCB (fun xs H Q => ∃ z, xs = [V.str z] ∧ z.length ≤ sizeLine ∧ Q (.int z.length) H) (tCons (tOp (rIxT K) (tVar i) (tC (.int 0))) tNil))) σ H2 := fun {n ws T H2 i σ} hw e =>
    ev_op (sty_v _) (ev_c _) (eLen hw e) fun H x y ex ey Q q => ⟨1, (n : Int), ex, ey, cpowW (by have := hw.n40; omega), q _ _ (Same.refl _) (congrArg V.int (shl1 n))⟩
  have gb : ∀ b : Bool, Gd (10 ^ 39) 100 1 (.bool b) := fun b => (gd_bl b).mono (Nat.le_refl _) (by decide) (by decide)
  refine ⟨3, rfl, by decide, by decide, for_range (lo := 0) (n := 3) (fun i σ H' => ∃ (z2 z3 z4 z5 z6 z7 z8 : Option V), σ = [some (.ref a0), some (.ref S.s), z2, z3, z4, z5, z6, z7, z8] ∧ Wld S noX noW (300 * i) H') ⟨none, none, none, none, none, none, none, rfl, w1.mono (by omega)⟩ (fun i σ H2 hi h => ?_) (fun σ H2 h => ?_)⟩
  · obtain ⟨z2, z3, z4, z5, z6, z7, z8, rfl, wd⟩ := h
    rw [Int.zero_add]
    obtain ⟨m, hm, m1, m7⟩ : ∃ m : Nat, [V.int 7, .int 5, .int 3][i]? = some (.int (m : Int)) ∧ 1 ≤ m ∧ m ≤ 7 := by
      match i, hi with
      | 0, _ => exact ⟨7, rfl, by decide, by decide⟩
      | 1, _ => exact ⟨5, rfl, by decide, by decide⟩
      | 2, _ => exact ⟨3, rfl, by decide, by decide⟩
    refine asg_ed (W1 := noW) (B1 := 300 * i + 300) (R := isWk m 6) (ed_wideL (m := m) (W1 := noW) (B1 := 300 * i) sw m1 (by omega) (by omega) (ed_varV rfl) (ed_pure sw fun H' k' w' => ev_op (sty_lv _) (ev_lv (vs := [V.int 7, .int 5, .int 3]) (Nat.le_of_ble_eq_true rfl) (eva_cons (sty_v _) (ev_c _) (eva_cons (sty_v _) (ev_c _) (eva_cons (sty_v _) (ev_c _) eva_nil)))) (ev_var (sty_v _) rfl rfl) (of_ixLv hm))) wd fun H3 v3 k3 wd3 g3 => ?_
    obtain ⟨T, ws, n, rfl, hw, nm, _⟩ := g3
    have n1 := hw.n1
    have n7 : n ≤ 7 := by omega
    have hp7 : 2 ^ n ≤ 2 ^ 7 := Nat.pow_le_pow_right (by decide) n7
    refine asg_ev (R := isLV (vm (lotOf n (hasM n ws)))) (fun H4 s4 Q' q' => ⟨_, rfl, T, ws, n, rfl, hw.same s4, by omega, fun H8 L s8 hL => q' _ _ s8 ⟨L, rfl, hL⟩⟩) fun H4 v4 s4 g4 => ?_
    obtain ⟨L, rfl, hL⟩ := g4
    have hw4 := hw.same s4
    have wd4 := wd3.same sw s4
    refine ePow (i := 3) hw4 rfl H4 (Same.refl _) _ fun H5 x5 s5 e5 => ?_
    subst e5
    have hw5 := hw4.same s5
    have hL5 := s5 _ _ hL
    have hpi : ((2 ^ n : Nat) : Int) ≤ ((2 ^ 7 : Nat) : Int) := Int.ofNat_le.mpr hp7
    refine ⟨((2 ^ n : Nat) : Int), rfl, Int.le_trans (by decide) (Int.natCast_nonneg _), Int.lt_of_le_of_lt hpi (by decide), for_range (lo := 0) (n := 2 ^ n) (fun _ σ H' => ∃ (z5 z6 : Option V), σ = [some (.ref a0), some (.ref S.s), some (.int (i : Int)), some (.ref T), some (.ref L), z5, z6, z7, z8] ∧ Same H5 H') ⟨z5, z6, rfl, Same.refl _⟩ (fun j σ H6 hj h => ?_) (fun σ H6 h => ?_)⟩
    · obtain ⟨z5, z6, rfl, s6⟩ := h
      rw [Int.zero_add]
      have hw6 := hw5.same s6
      have hL6 := s6 _ _ hL5
      refine asg_ev (R := isB (kwB n j ws)) (Ev.mono (ev_op (sty_lsN _) (ev_turned (n := n) (m := j) (p := hasM n ws) n7 hj (ev_var (sty_lV _) rfl ⟨L, rfl, hL6⟩) (fun _ => rfl) (fun _ => rfl) (fun _ => rfl)) (ev_var (sty_lsN _) rfl ⟨L, rfl, hL6⟩) of_eqNs) fun H z e => by rw [e, kw_lot]) fun H7 v7 s7 g7 => ?_
      subst g7
      have sh : ShD (.bool (kwB n j ws)) := (gb _).shD (by decide) (by decide) (by decide)
      have ek : dKw n ws (.int (j : Int)) = .bool (kwB n j ws) := by
        unfold dKw
        rw [if_pos (isM_nat hj)]
        show PyData.bool (kwB n ((j : Int).toNat) ws) = _
        rw [Int.toNat_natCast]
      refine if_no (evt_reprs (d := dKw n ws (.int (j : Int))) (by rw [ek]; exact sh) ek (ev_tdK (K := K) rfl (hw6.same s7) (ev_i (ev_var (sty_v _) rfl rfl))) (ev_b (ev_var (sty_v _) rfl rfl))) rfl fun H8 s8 => ⟨_, _, rfl, (s6.trans s7).trans s8⟩
    · obtain ⟨z5, z6, rfl, s6⟩ := h
      have hw6 := hw5.same s6
      have eD : Ev (isD K (.list (badD n))) (tLstB (tCons (tOp (rI CPow fun i j => .int (i * 2 ^ j.toNat)) (tC (.int 1)) (tCB (fun xs H Q => ∃ z, xs = [V.str z] ∧ z.length ≤ sizeLine ∧ Q (.int z.length) H) (tCons (tOp (rIxT K) (tVar 3) (tC (.int 0))) tNil))) (tCons (tUn (rU fun i => .int (-i)) (tC (.int 1))) (tCons (tC (.bl true)) (tCons (tC .non) (tCons (tC (.str "0")) (tCons (tTup (tCons (tC (.int 0)) tNil)) (tCons (tLstB (tCons (tC (.int 0)) tNil)) (tCons (tOp (rI CPow fun i j => .int (i ^ j.toNat)) (tC (.int 10)) (tC (.int 39))) tNil)))))))))
          [some (.ref a0), some (.ref S.s), some (.int (i : Int)), some (.ref T), some (.ref L), z5, z6, z7, z8] H6 := by
        refine ev_lstD (ds := badD n) (Nat.le_of_ble_eq_true rfl) ?_
        refine eva_consD (ev_i (ePow (i := 3) hw6 rfl)) (eva_consD (ev_i (k := -1) fun H s Q q => ⟨1, rfl, q _ _ (Same.refl _) rfl⟩) (eva_consD (ev_b (ev_c _)) (eva_consD (ev_n (ev_c _)) (eva_consD (ev_s (ev_c _)) (eva_consD (ev_tuD (ds := [.int 0]) (Nat.le_of_ble_eq_true rfl) (eva_consD (ev_i (ev_c _)) eva_nil)) (eva_consD (ev_lstD (ds := [.int 0]) (Nat.le_of_ble_eq_true rfl) (eva_consD (ev_i (ev_c _)) eva_nil)) (eva_consD (ev_i (k := 10 ^ 39) (ev_op (sty_v _) (ev_c _) (ev_c _) fun H x y ex ey Q q => ⟨10, 39, ex, ey, ⟨by decide, by decide, by decide⟩, q _ _ (Same.refl _) (congrArg V.int (by decide +kernel))⟩)) eva_nil)))))))
      refine for_evL eD fun H7 v7 s7 g7 => ?_
      cases g7 with
      | lst hX nX aX =>
        rename_i LX xsX
        have hw7 := hw6.same s7
        refine ⟨_, rfl, ⟨_, hX⟩, for_list (K := K) (xs := xsX) (fun _ σ H' => ∃ z7 : Option V, σ = [some (.ref a0), some (.ref S.s), some (.int (i : Int)), some (.ref T), some (.ref L), z5, z6, z7, z8] ∧ Same H7 H') ⟨_, rfl, Same.refl _⟩ (fun j σ H8 hj h => ?_) (fun j v σ H8 hv h => ?_) (fun σ H8 h => ?_)⟩
        · obtain ⟨_, rfl, s8⟩ := h
          exact s8.seq hX
        · obtain ⟨z7', rfl, s8⟩ := h
          obtain ⟨d, hd, hdz⟩ := dzAll_at aX hv
          have ek : dKw n ws d = .list [d] := by
            unfold dKw
            rw [bad_isM n7 d hd, if_neg (by decide)]
          have sh : ShD (.list [d]) := ((GdAll.cons (bad_gd n7 d hd) GdAll.nil).list).shD (by decide) (by decide) (by decide)
          refine if_no (evt_reprs (d := dKw n ws d) (by rw [ek]; exact sh) ek (ev_tdK (K := K) rfl (hw7.same s8) (ev_varD rfl (hdz.same s8))) (ev_lstD (ds := [d]) (Nat.le_of_ble_eq_true rfl) (eva_consD (ev_varD rfl (hdz.same s8)) eva_nil))) rfl fun H9 s9 => ⟨_, rfl, s8.trans s9⟩
        · obtain ⟨z7', rfl, s8⟩ := h
          exact ⟨_, _, _, _, _, _, _, rfl, (wd4.same sw (((s5.trans s6).trans s7).trans s8)).mono (by omega)⟩
  obtain ⟨z2, z3, z4, z5, z6, z7, z8, rfl, wd⟩ := h
  have wd : Wld S noX noW 900 H2 := wd.mono (by omega)
  refine ⟨5, rfl, by decide, by decide, for_range (lo := 0) (n := 5) (fun i σ H' => ∃ (z2 z3 z4 z5 z6 z7 z8 : Option V), σ = [some (.ref a0), some (.ref S.s), z2, z3, z4, z5, z6, z7, z8] ∧ Wld S noX noW (900 + 601 * i) H') ⟨z2, z3, z4, z5, z6, z7, z8, rfl, wd.mono (by omega)⟩ (fun i σ H2 hi h => ?_) (fun σ H2 h => ?_)⟩
  · obtain ⟨z2, z3, z4, z5, z6, z7, z8, rfl, wd⟩ := h
    rw [Int.zero_add]
    refine asg_ed (W1 := noW) (B1 := 900 + 601 * i + 300) (R := isWk 40 3) (ed_cut (k := 3) sw (by decide) (ed_wideL (m := 40) (W1 := noW) (B1 := 900 + 601 * i) sw (by decide) (by decide) (by omega) (ed_varV rfl) (ed_c _))) wd fun H3 v3 k3 wd3 g3 => ?_
    obtain ⟨T, ws, n, rfl, hw, n40, l3⟩ := g3
    refine ⟨fun σ H' => ∃ T ws n, σ = [some (.ref a0), some (.ref S.s), some (.int (i : Int)), some (.ref T), z4, z5, z6, z7, z8] ∧ Wld S noX noW (900 + 601 * i + 301) H' ∧ WideT H' T ws n ∧ ws.length ≤ 3, ?_, fun σ H' mid => ?_⟩
    · refine ⟨.int (i : Int), rfl, (i : Int), 2, rfl, rfl, _, rfl, ite2 (fun _ => ?_) (fun _ => ⟨T, ws, n, rfl, wd3.mono (by omega), hw, l3⟩)⟩
      have p40 : 2 ^ n ≤ 2 ^ 40 := Nat.pow_le_pow_right (by decide) hw.n40
      have p0 := pow0 n
      have hk : ∀ {H' : Hp}, KeepX (XS S noX) H3 H' → WideT H' T ws n := fun k => hw.kx wd3 k
      have eC : ∀ {H' : Hp}, WideT H' T ws n → Ev (isTV ((ws.take 1).map V.str)) (tSl rSlV (tVar 3) tNoPart (tPart (tC (.int ((1 : Nat) : Int))))) [some (.ref a0), some (.ref S.s), some (.int (i : Int)), some (.ref T), z4, z5, z6, z7, z8] H' := fun h => by
        rw [List.map_take]
        exact ev_cutK (k := 1) (eW (i := 3) h rfl)
      have mw := hw.l1
      refine asgL_ed (W1 := noW) (B1 := 900 + 601 * i + 300 + 1) (R := fun H z => ∃ T, z = .ref T ∧ ∃ m, m < 2 ^ n ∧ H T = some (.tup ((ws.take 1 ++ turnW n m (ws.take 1)).map V.str)))
        (ed_op (W1 := noW) (B1 := 900 + 601 * i + 300) (Ra := isTV ((ws.take 1).map V.str)) (Rb := fun H z => ∃ m, m < 2 ^ n ∧ isTV ((turnW n m (ws.take 1)).map V.str) H z) sw (fun _ _ _ _ _ w k ⟨T, e, h⟩ => ⟨T, e, w.tup k h⟩) (ed_pure sw fun H' k' w' => eC (hk k'))
          (ed_mv (B1 := 900 + 601 * i + 300) (B2 := 900 + 601 * i + 300 + 1) (ws := ws.take 1) sw (ed_pure sw fun H' k' w' => (eC (hk k')).mono fun H z ⟨T', e, h⟩ => ⟨T', e, hw.take (by decide) h⟩) (ed_drawW (m := 2 ^ n) (W1 := noW) (B1 := 900 + 601 * i + 300) sw p0 (by omega) (by omega) (ed_varV rfl) (ed_pure sw fun H' k' w' => ePow (i := 3) (hk k') rfl)))
          fun H x y ⟨T1, ex, h1⟩ ⟨m, hm, T2, ey, h2⟩ Q' q' => ⟨T1, T2, _, _, ex, ey, h1, h2, by unfold turnW; rw [List.length_map, List.length_map, List.length_map, List.length_take, sizeLine_eq]; omega, fun H' p s h => q' _ _ s ⟨p, rfl, m, hm, by rw [h, List.map_append]⟩⟩) wd3 fun H4 v4 k4 wd4 g4 => ?_
      obtain ⟨T', rfl, m, hm, hT'⟩ := g4
      refine ⟨T', _, n, rfl, wd4.mono (by omega), ⟨hT', ?_, ?_, hw.n1, hw.n40, fun x hx => ?_⟩, ?_⟩
      · rw [List.length_append, List.length_take]; omega
      · unfold turnW; rw [List.length_append, List.length_map, List.length_take]; omega
      · rcases List.mem_append.mp hx with h | h
        · exact hw.ok x (List.mem_of_mem_take h)
        · obtain ⟨y, hy, rfl⟩ := List.mem_map.mp h
          exact okW_comb (hw.ok y (List.mem_of_mem_take hy)) (digW_len hw.n1 hm)
      · unfold turnW; rw [List.length_append, List.length_map, List.length_take]; omega
    · obtain ⟨T, ws, n, rfl, wd, hw, l3⟩ := mid
      refine for_edL (K := K) (W1 := noW) (B1 := 900 + 601 * i + 301 + 300) (R := isLG S noX (fun v => ∃ m : Nat, v = .int (m : Int) ∧ m < 2 ^ n) 8) (ed_sk (W1 := noW) (B1 := 900 + 601 * i + 301) sw (by omega) (ed_varV rfl) rfl wd hw) wd fun H3 v3 k3 wd3 g3 => ?_
      obtain ⟨L, xs, rfl, hL, lx, hx, _⟩ := g3
      have hw3 := hw.kx wd k3
      have n1 := hw.n1
      have n40 := hw.n40
      refine ⟨L, rfl, ⟨_, SqL.of hL⟩, for_list (K := K) (xs := xs) (fun _ σ H' => ∃ z5 z6 : Option V, σ = [some (.ref a0), some (.ref S.s), some (.int (i : Int)), some (.ref T), z4, z5, z6, z7, z8] ∧ Same H3 H') ⟨_, _, rfl, Same.refl _⟩ (fun j σ H8 hj h => ?_) (fun j v σ H8 hv h => ?_) (fun σ H8 h => ?_)⟩
      · obtain ⟨_, _, rfl, s8⟩ := h
        exact SqL.of (s8 _ _ hL)
      · obtain ⟨z5', z6', rfl, s8⟩ := h
        obtain ⟨m, rfl, hm⟩ := hx v (List.mem_of_getElem? hv)
        have hw8 := hw3.same s8
        refine asg_ev (R := isB (kwB n m ws)) (Ev.mono (ev_op (sty_v _) (ev_lctT (K := K) (n := n) (by omega) (by omega) hw.ok (eW (i := 3) hw8 rfl)) (ev_lctT (K := K) (n := n) (ws := ws ++ turnW n m ws) (by omega) (by unfold turnW; rw [List.length_append, List.length_map]; omega) (fun x hx => ?_) (by
            rw [List.map_append]
            exact ev_op (sty_tv _) (eW (i := 3) hw8 rfl) (ev_mv (tb := tVar 5) hm (ev_var (i := 3) (sty_wT ws n) rfl ⟨T, rfl, hw8⟩) (ev_var (i := 5) (sty_v _) rfl rfl)) (of_catT (by unfold turnW; rw [List.length_map, List.length_map, List.length_map]; omega)))) of_eqI) fun H z e => ?_) fun H9 v9 s9 g9 => ?_
        · rcases List.mem_append.mp hx with h | h
          · exact hw.ok x h
          · obtain ⟨y, hy, rfl⟩ := List.mem_map.mp h
            exact okW_comb (hw.ok y hy) (digW_len n1 hm)
        · rw [e, ← kw_cnt n1 hw.ok hm]
          exact congrArg V.bl (decide_eq_decide.mpr ⟨fun e => Int.ofNat.inj e, fun e => by rw [e]⟩)
        subst g9
        have ek : dKw n ws (.int (m : Int)) = .bool (kwB n m ws) := by
          unfold dKw
          rw [if_pos (isM_nat hm)]
          show PyData.bool (kwB n ((m : Int).toNat) ws) = _
          rw [Int.toNat_natCast]
        have sh : ShD (.list [.bool (kwB n m ws), .bool (kwB n m ws)]) := ((GdAll.cons (gb _) (GdAll.cons (gb _) GdAll.nil)).list).shD (by decide) (by decide) (by decide)
        have hw9 := hw8.same s9
        refine if_no (evt_reprs (d := .list [dKw n ws (.int (m : Int)), dKw n ws (.int (m : Int))]) (by rw [ek]; exact sh) (by rw [ek]) (ev_lstD (Nat.le_of_ble_eq_true rfl) (eva_consD (ev_tdK (K := K) rfl hw9 (ev_i (ev_var (sty_v _) rfl rfl))) (eva_consD (ev_tdK (K := K) rfl hw9 (ev_i (ev_var (sty_v _) rfl rfl))) eva_nil))) (ev_lstD (ds := [.bool (kwB n m ws), .bool (kwB n m ws)]) (Nat.le_of_ble_eq_true rfl) (eva_consD (ev_b (ev_var (sty_v _) rfl rfl)) (eva_consD (ev_b (ev_var (sty_v _) rfl rfl)) eva_nil)))) rfl fun H10 s10 => ⟨_, _, rfl, (s8.trans s9).trans s10⟩
      · obtain ⟨z5', z6', rfl, s8⟩ := h
        exact ⟨_, _, _, _, _, _, _, rfl, (wd3.same sw s8).mono (by omega)⟩
  · obtain ⟨z2, z3, z4, z5, z6, z7, z8, rfl, wd⟩ := h
    have wd : Wld S noX noW 3905 H2 := wd.mono (by omega)
    refine ⟨.ref S.s, rfl, S, noX, noW, 3905, rfl, sw, wd, by decide, fun H3 k3 w3 => ⟨true, rfl, iteT ?_⟩⟩
    have m0 : MulOk "0" (40 : Int) := PyProof.Rows.mulOk_of 1 40 (by decide) (by decide) (by decide) (by decide) (by decide)
    have m1 : MulOk "1" (40 : Int) := PyProof.Rows.mulOk_of 1 40 (by decide) (by decide) (by decide) (by decide) (by decide)
    have e1 : Ev (isTV ([Txt.mul "0" 40, Txt.mul "1" 40].map V.str)) (tTup (tCons (tOp (fun x y H Q => ∃ a n, x = V.str a ∧ y = V.int n ∧ MulOk a n ∧ Q (.str (Txt.mul a n)) H) (tC (.str "0")) (tC (.int 40))) (tCons (tOp (fun x y H Q => ∃ a n, x = V.str a ∧ y = V.int n ∧ MulOk a n ∧ Q (.str (Txt.mul a n)) H) (tC (.str "1")) (tC (.int 40))) tNil))) [some (.ref a0), some (.ref S.s), z2, z3, z4, z5, z6, z7, z8] H3 :=
      ev_tv2 (ev_op (sty_v _) (ev_c _) (ev_c _) fun H x y ex ey Q' q' => ⟨_, _, ex, ey, m0, q' _ _ (Same.refl _) rfl⟩) (ev_op (sty_v _) (ev_c _) (ev_c _) fun H x y ex ey Q' q' => ⟨_, _, ex, ey, m1, q' _ _ (Same.refl _) rfl⟩)
    have e2 : Ev (isV (.int ((2 ^ 40 - 1 : Nat) : Int))) (tOp (rI0 fun i j => .int (i - j)) (tOp (rI CPow fun i j => .int (i ^ j.toNat)) (tC (.int 2)) (tC (.int 40))) (tC (.int 1))) [some (.ref a0), some (.ref S.s), z2, z3, z4, z5, z6, z7, z8] H3 :=
      ev_op (Ra := isV (.int (2 ^ 40))) (Rb := isV (.int 1)) (sty_v _) (ev_op (sty_v _) (ev_c _) (ev_c _) fun H x y ex ey Q' q' => ⟨2, 40, ex, ey, ⟨by decide, by decide, by decide⟩, q' _ _ (Same.refl _) (congrArg V.int (by decide +kernel))⟩) (ev_c _) fun H x y ex ey Q' q' => ⟨_, _, ex, ey, q' _ _ (Same.refl _) (congrArg V.int (by decide +kernel))⟩
    have e3 : ∀ {E : L2.St → XK}, Ev (isB true) (tOp (fun x y H Q => ∃ a b, x = V.bl a ∧ y = V.bl b ∧ Q (.bl (decide (a = b))) H) (tCallS (spKw K CM) E (tCons (tTup (tCons (tOp (fun x y H Q => ∃ a n, x = V.str a ∧ y = V.int n ∧ MulOk a n ∧ Q (.str (Txt.mul a n)) H) (tC (.str "0")) (tC (.int 40))) (tCons (tOp (fun x y H Q => ∃ a n, x = V.str a ∧ y = V.int n ∧ MulOk a n ∧ Q (.str (Txt.mul a n)) H) (tC (.str "1")) (tC (.int 40))) tNil))) (tCons (tOp (rI0 fun i j => .int (i - j)) (tOp (rI CPow fun i j => .int (i ^ j.toNat)) (tC (.int 2)) (tC (.int 40))) (tC (.int 1))) tNil))) (tC (.bl true))) [some (.ref a0), some (.ref S.s), z2, z3, z4, z5, z6, z7, z8] H3 := fun {E} =>
      ev_op (Ra := isB (kwB 40 (2 ^ 40 - 1) [Txt.mul "0" 40, Txt.mul "1" 40])) (Rb := isV (.bl true)) (sty_v _) (ev_kw (by decide) (e1.mono fun H z ⟨T, ez, hT⟩ => ⟨T, ez, hT, by decide, by decide, by decide, by decide, two_ok⟩) e2) (ev_c _) fun H x y ex ey Q' q' => ⟨true, true, by rw [ex, two_kw], ey, q' _ _ (Same.refl _) rfl⟩
    refine e3 H3 (Same.refl _) _ fun H4 z s4 e4 => ?_
    rw [e4]
    exact q _
end
end XT
namespace XT
open PySem PySem.Spec PyProof.Rows L2
/-! what the top has written -/
theorem all_mk {l : PySem.W.OpenLaw} {w : World} {K : PySem.W.Frag} {h : Heap} {mg : Str → Option Value} {fa : Addr} (X : K.In h) (G : h.Ns mainGlobals mg) (hfa : mg "law" = some (.ref fa))
    {f1 : Addr} {od1 an1 : Option Addr} {sl1 : Array (Option Value)} {oc1 kV1 dc1 pm1 cd1 ct1 : Value}
    (a1 : PySem.W.nsIn K mainGlobals "is_number" = some (some (.ref f1))) (l1 : K.lookup f1 = some ⟨oc1, od1, .func (PySem.W.fnOf "is_number" "is_number" (defArgs sNum) (defBody sNum) (defScope sNum) .none kV1 dc1 pm1 an1 cd1 ct1), sl1⟩) (c1 : PySem.W.codeIn K cd1 "is_number" = true) (k1 : PySem.W.keepIn K (.ref f1) = true)
    {f2 : Addr} {od2 an2 : Option Addr} {sl2 : Array (Option Value)} {oc2 kV2 dc2 pm2 cd2 ct2 : Value}
    (a2 : PySem.W.nsIn K mainGlobals "is_mask" = some (some (.ref f2))) (l2 : K.lookup f2 = some ⟨oc2, od2, .func (PySem.W.fnOf "is_mask" "is_mask" (defArgs sMask) (defBody sMask) (defScope sMask) .none kV2 dc2 pm2 an2 cd2 ct2), sl2⟩) (c2 : PySem.W.codeIn K cd2 "is_mask" = true) (k2 : PySem.W.keepIn K (.ref f2) = true)
    {f3 : Addr} {od3 an3 : Option Addr} {sl3 : Array (Option Value)} {oc3 kV3 dc3 pm3 cd3 ct3 : Value}
    (a3 : PySem.W.nsIn K mainGlobals "width_of" = some (some (.ref f3))) (l3 : K.lookup f3 = some ⟨oc3, od3, .func (PySem.W.fnOf "width_of" "width_of" (defArgs sWidthOf) (defBody sWidthOf) (defScope sWidthOf) .none kV3 dc3 pm3 an3 cd3 ct3), sl3⟩) (c3 : PySem.W.codeIn K cd3 "width_of" = true) (k3 : PySem.W.keepIn K (.ref f3) = true)
    {f4 : Addr} {od4 an4 : Option Addr} {sl4 : Array (Option Value)} {oc4 kV4 dc4 pm4 cd4 ct4 : Value}
    (a4 : PySem.W.nsIn K mainGlobals "digits_of" = some (some (.ref f4))) (l4 : K.lookup f4 = some ⟨oc4, od4, .func (PySem.W.fnOf "digits_of" "digits_of" (defArgs sDigitsOf) (defBody sDigitsOf) (defScope sDigitsOf) .none kV4 dc4 pm4 an4 cd4 ct4), sl4⟩) (c4 : PySem.W.codeIn K cd4 "digits_of" = true) (k4 : PySem.W.keepIn K (.ref f4) = true)
    {f5 : Addr} {od5 an5 : Option Addr} {sl5 : Array (Option Value)} {oc5 kV5 dc5 pm5 cd5 ct5 : Value}
    (a5 : PySem.W.nsIn K mainGlobals "rests_after" = some (some (.ref f5))) (l5 : K.lookup f5 = some ⟨oc5, od5, .func (PySem.W.fnOf "rests_after" "rests_after" (defArgs sRestsAfter) (defBody sRestsAfter) (defScope sRestsAfter) .none kV5 dc5 pm5 an5 cd5 ct5), sl5⟩) (c5 : PySem.W.codeIn K cd5 "rests_after" = true) (k5 : PySem.W.keepIn K (.ref f5) = true)
    {f6 : Addr} {od6 an6 : Option Addr} {sl6 : Array (Option Value)} {oc6 kV6 dc6 pm6 cd6 ct6 : Value}
    (a6 : PySem.W.nsIn K mainGlobals "allows_all" = some (some (.ref f6))) (l6 : K.lookup f6 = some ⟨oc6, od6, .func (PySem.W.fnOf "allows_all" "allows_all" (defArgs sAllowsAll) (defBody sAllowsAll) (defScope sAllowsAll) .none kV6 dc6 pm6 an6 cd6 ct6), sl6⟩) (c6 : PySem.W.codeIn K cd6 "allows_all" = true) (k6 : PySem.W.keepIn K (.ref f6) = true)
    {f7 : Addr} {od7 an7 : Option Addr} {sl7 : Array (Option Value)} {oc7 kV7 dc7 pm7 cd7 ct7 : Value}
    (a7 : PySem.W.nsIn K mainGlobals "wide_turned" = some (some (.ref f7))) (l7 : K.lookup f7 = some ⟨oc7, od7, .func (PySem.W.fnOf "wide_turned" "wide_turned" (defArgs sWideTurned) (defBody sWideTurned) (defScope sWideTurned) .none kV7 dc7 pm7 an7 cd7 ct7), sl7⟩) (c7 : PySem.W.codeIn K cd7 "wide_turned" = true) (k7 : PySem.W.keepIn K (.ref f7) = true)
    {f8 : Addr} {od8 an8 : Option Addr} {sl8 : Array (Option Value)} {oc8 kV8 dc8 pm8 cd8 ct8 : Value}
    (a8 : PySem.W.nsIn K mainGlobals "combined" = some (some (.ref f8))) (l8 : K.lookup f8 = some ⟨oc8, od8, .func (PySem.W.fnOf "combined" "combined" (defArgs sCombined) (defBody sCombined) (defScope sCombined) .none kV8 dc8 pm8 an8 cd8 ct8), sl8⟩) (c8 : PySem.W.codeIn K cd8 "combined" = true) (k8 : PySem.W.keepIn K (.ref f8) = true)
    {f9 : Addr} {od9 an9 : Option Addr} {sl9 : Array (Option Value)} {oc9 kV9 dc9 pm9 cd9 ct9 : Value}
    (a9 : PySem.W.nsIn K mainGlobals "combined_character" = some (some (.ref f9))) (l9 : K.lookup f9 = some ⟨oc9, od9, .func (PySem.W.fnOf "combined_character" "combined_character" (defArgs sCombinedCharacter) (defBody sCombinedCharacter) (defScope sCombinedCharacter) .none kV9 dc9 pm9 an9 cd9 ct9), sl9⟩) (c9 : PySem.W.codeIn K cd9 "combined_character" = true) (k9 : PySem.W.keepIn K (.ref f9) = true)
    {f10 : Addr} {od10 an10 : Option Addr} {sl10 : Array (Option Value)} {oc10 kV10 dc10 pm10 cd10 ct10 : Value}
    (a10 : PySem.W.nsIn K mainGlobals "check_widths" = some (some (.ref f10))) (l10 : K.lookup f10 = some ⟨oc10, od10, .func (PySem.W.fnOf "check_widths" "check_widths" (defArgs sCheckWidths) (defBody sCheckWidths) (defScope sCheckWidths) .none kV10 dc10 pm10 an10 cd10 ct10), sl10⟩) (c10 : PySem.W.codeIn K cd10 "check_widths" = true) (k10 : PySem.W.keepIn K (.ref f10) = true)
    {f11 : Addr} {od11 an11 : Option Addr} {sl11 : Array (Option Value)} {oc11 kV11 dc11 pm11 cd11 ct11 : Value}
    (a11 : PySem.W.nsIn K mainGlobals "first_difference" = some (some (.ref f11))) (l11 : K.lookup f11 = some ⟨oc11, od11, .func (PySem.W.fnOf "first_difference" "first_difference" (defArgs sFirstDifference) (defBody sFirstDifference) (defScope sFirstDifference) .none kV11 dc11 pm11 an11 cd11 ct11), sl11⟩) (c11 : PySem.W.codeIn K cd11 "first_difference" = true) (k11 : PySem.W.keepIn K (.ref f11) = true)
    {f12 : Addr} {od12 an12 : Option Addr} {sl12 : Array (Option Value)} {oc12 kV12 dc12 pm12 cd12 ct12 : Value}
    (a12 : PySem.W.nsIn K mainGlobals "difference_below" = some (some (.ref f12))) (l12 : K.lookup f12 = some ⟨oc12, od12, .func (PySem.W.fnOf "difference_below" "difference_below" (defArgs sDifferenceBelow) (defBody sDifferenceBelow) (defScope sDifferenceBelow) .none kV12 dc12 pm12 an12 cd12 ct12), sl12⟩) (c12 : PySem.W.codeIn K cd12 "difference_below" = true) (k12 : PySem.W.keepIn K (.ref f12) = true)
    {f13 : Addr} {od13 an13 : Option Addr} {sl13 : Array (Option Value)} {oc13 kV13 dc13 pm13 cd13 ct13 : Value}
    (a13 : PySem.W.nsIn K mainGlobals "wide_keeps" = some (some (.ref f13))) (l13 : K.lookup f13 = some ⟨oc13, od13, .func (PySem.W.fnOf "wide_keeps" "wide_keeps" (defArgs sWideKeeps) (defBody sWideKeeps) (defScope sWideKeeps) .none kV13 dc13 pm13 an13 cd13 ct13), sl13⟩) (c13 : PySem.W.codeIn K cd13 "wide_keeps" = true) (k13 : PySem.W.keepIn K (.ref f13) = true)
    {f14 : Addr} {od14 an14 : Option Addr} {sl14 : Array (Option Value)} {oc14 kV14 dc14 pm14 cd14 ct14 : Value}
    (a14 : PySem.W.nsIn K mainGlobals "_law_stream" = some (some (.ref f14))) (l14 : K.lookup f14 = some ⟨oc14, od14, .func (PySem.W.fnOf "_law_stream" "_law_stream" (defArgs sStream) (defBody sStream) (defScope sStream) .none kV14 dc14 pm14 an14 cd14 ct14), sl14⟩) (c14 : PySem.W.codeIn K cd14 "_law_stream" = true) (k14 : PySem.W.keepIn K (.ref f14) = true)
    {f15 : Addr} {od15 an15 : Option Addr} {sl15 : Array (Option Value)} {oc15 kV15 dc15 pm15 cd15 ct15 : Value}
    (a15 : PySem.W.nsIn K mainGlobals "_law_draw" = some (some (.ref f15))) (l15 : K.lookup f15 = some ⟨oc15, od15, .func (PySem.W.fnOf "_law_draw" "_law_draw" (defArgs sDraw) (defBody sDraw) (defScope sDraw) .none kV15 dc15 pm15 an15 cd15 ct15), sl15⟩) (c15 : PySem.W.codeIn K cd15 "_law_draw" = true) (k15 : PySem.W.keepIn K (.ref f15) = true)
    {f16 : Addr} {od16 an16 : Option Addr} {sl16 : Array (Option Value)} {oc16 kV16 dc16 pm16 cd16 ct16 : Value}
    (a16 : PySem.W.nsIn K mainGlobals "_law_pick" = some (some (.ref f16))) (l16 : K.lookup f16 = some ⟨oc16, od16, .func (PySem.W.fnOf "_law_pick" "_law_pick" (defArgs sLPick) (defBody sLPick) (defScope sLPick) .none kV16 dc16 pm16 an16 cd16 ct16), sl16⟩) (c16 : PySem.W.codeIn K cd16 "_law_pick" = true) (k16 : PySem.W.keepIn K (.ref f16) = true)
    {f17 : Addr} {od17 an17 : Option Addr} {sl17 : Array (Option Value)} {oc17 kV17 dc17 pm17 cd17 ct17 : Value}
    (a17 : PySem.W.nsIn K mainGlobals "_law_wide" = some (some (.ref f17))) (l17 : K.lookup f17 = some ⟨oc17, od17, .func (PySem.W.fnOf "_law_wide" "_law_wide" (defArgs sLWide) (defBody sLWide) (defScope sLWide) .none kV17 dc17 pm17 an17 cd17 ct17), sl17⟩) (c17 : PySem.W.codeIn K cd17 "_law_wide" = true) (k17 : PySem.W.keepIn K (.ref f17) = true)
    {f18 : Addr} {od18 an18 : Option Addr} {sl18 : Array (Option Value)} {oc18 kV18 dc18 pm18 cd18 ct18 : Value}
    (a18 : PySem.W.nsIn K mainGlobals "_law_digits" = some (some (.ref f18))) (l18 : K.lookup f18 = some ⟨oc18, od18, .func (PySem.W.fnOf "_law_digits" "_law_digits" (defArgs sLDigits) (defBody sLDigits) (defScope sLDigits) .none kV18 dc18 pm18 an18 cd18 ct18), sl18⟩) (c18 : PySem.W.codeIn K cd18 "_law_digits" = true) (k18 : PySem.W.keepIn K (.ref f18) = true)
    {f19 : Addr} {od19 an19 : Option Addr} {sl19 : Array (Option Value)} {oc19 kV19 dc19 pm19 cd19 ct19 : Value}
    (a19 : PySem.W.nsIn K mainGlobals "_law_fits" = some (some (.ref f19))) (l19 : K.lookup f19 = some ⟨oc19, od19, .func (PySem.W.fnOf "_law_fits" "_law_fits" (defArgs sLFits) (defBody sLFits) (defScope sLFits) .none kV19 dc19 pm19 an19 cd19 ct19), sl19⟩) (c19 : PySem.W.codeIn K cd19 "_law_fits" = true) (k19 : PySem.W.keepIn K (.ref f19) = true)
    {f20 : Addr} {od20 an20 : Option Addr} {sl20 : Array (Option Value)} {oc20 kV20 dc20 pm20 cd20 ct20 : Value}
    (a20 : PySem.W.nsIn K mainGlobals "_law_mask_of" = some (some (.ref f20))) (l20 : K.lookup f20 = some ⟨oc20, od20, .func (PySem.W.fnOf "_law_mask_of" "_law_mask_of" (defArgs sLMaskOf) (defBody sLMaskOf) (defScope sLMaskOf) .none kV20 dc20 pm20 an20 cd20 ct20), sl20⟩) (c20 : PySem.W.codeIn K cd20 "_law_mask_of" = true) (k20 : PySem.W.keepIn K (.ref f20) = true)
    {f21 : Addr} {od21 an21 : Option Addr} {sl21 : Array (Option Value)} {oc21 kV21 dc21 pm21 cd21 ct21 : Value}
    (a21 : PySem.W.nsIn K mainGlobals "_law_listed" = some (some (.ref f21))) (l21 : K.lookup f21 = some ⟨oc21, od21, .func (PySem.W.fnOf "_law_listed" "_law_listed" (defArgs sLListed) (defBody sLListed) (defScope sLListed) .none kV21 dc21 pm21 an21 cd21 ct21), sl21⟩) (c21 : PySem.W.codeIn K cd21 "_law_listed" = true) (k21 : PySem.W.keepIn K (.ref f21) = true)
    {f22 : Addr} {od22 an22 : Option Addr} {sl22 : Array (Option Value)} {oc22 kV22 dc22 pm22 cd22 ct22 : Value}
    (a22 : PySem.W.nsIn K mainGlobals "_law_common" = some (some (.ref f22))) (l22 : K.lookup f22 = some ⟨oc22, od22, .func (PySem.W.fnOf "_law_common" "_law_common" (defArgs sLCommon) (defBody sLCommon) (defScope sLCommon) .none kV22 dc22 pm22 an22 cd22 ct22), sl22⟩) (c22 : PySem.W.codeIn K cd22 "_law_common" = true) (k22 : PySem.W.keepIn K (.ref f22) = true)
    {f23 : Addr} {od23 an23 : Option Addr} {sl23 : Array (Option Value)} {oc23 kV23 dc23 pm23 cd23 ct23 : Value}
    (a23 : PySem.W.nsIn K mainGlobals "_law_count" = some (some (.ref f23))) (l23 : K.lookup f23 = some ⟨oc23, od23, .func (PySem.W.fnOf "_law_count" "_law_count" (defArgs sLCount) (defBody sLCount) (defScope sLCount) .none kV23 dc23 pm23 an23 cd23 ct23), sl23⟩) (c23 : PySem.W.codeIn K cd23 "_law_count" = true) (k23 : PySem.W.keepIn K (.ref f23) = true)
    {f24 : Addr} {od24 an24 : Option Addr} {sl24 : Array (Option Value)} {oc24 kV24 dc24 pm24 cd24 ct24 : Value}
    (a24 : PySem.W.nsIn K mainGlobals "_law_only" = some (some (.ref f24))) (l24 : K.lookup f24 = some ⟨oc24, od24, .func (PySem.W.fnOf "_law_only" "_law_only" (defArgs sLOnly) (defBody sLOnly) (defScope sLOnly) .none kV24 dc24 pm24 an24 cd24 ct24), sl24⟩) (c24 : PySem.W.codeIn K cd24 "_law_only" = true) (k24 : PySem.W.keepIn K (.ref f24) = true)
    {f25 : Addr} {od25 an25 : Option Addr} {sl25 : Array (Option Value)} {oc25 kV25 dc25 pm25 cd25 ct25 : Value}
    (a25 : PySem.W.nsIn K mainGlobals "_law_told" = some (some (.ref f25))) (l25 : K.lookup f25 = some ⟨oc25, od25, .func (PySem.W.fnOf "_law_told" "_law_told" (defArgs sTold) (defBody sTold) (defScope sTold) .none kV25 dc25 pm25 an25 cd25 ct25), sl25⟩) (c25 : PySem.W.codeIn K cd25 "_law_told" = true) (k25 : PySem.W.keepIn K (.ref f25) = true)
    {f26 : Addr} {od26 an26 : Option Addr} {sl26 : Array (Option Value)} {oc26 kV26 dc26 pm26 cd26 ct26 : Value}
    (a26 : PySem.W.nsIn K mainGlobals "_law_moved" = some (some (.ref f26))) (l26 : K.lookup f26 = some ⟨oc26, od26, .func (PySem.W.fnOf "_law_moved" "_law_moved" (defArgs sLMoved) (defBody sLMoved) (defScope sLMoved) .none kV26 dc26 pm26 an26 cd26 ct26), sl26⟩) (c26 : PySem.W.codeIn K cd26 "_law_moved" = true) (k26 : PySem.W.keepIn K (.ref f26) = true)
    {f27 : Addr} {od27 an27 : Option Addr} {sl27 : Array (Option Value)} {oc27 kV27 dc27 pm27 cd27 ct27 : Value}
    (a27 : PySem.W.nsIn K mainGlobals "_law_some_masks" = some (some (.ref f27))) (l27 : K.lookup f27 = some ⟨oc27, od27, .func (PySem.W.fnOf "_law_some_masks" "_law_some_masks" (defArgs sLSomeMasks) (defBody sLSomeMasks) (defScope sLSomeMasks) .none kV27 dc27 pm27 an27 cd27 ct27), sl27⟩) (c27 : PySem.W.codeIn K cd27 "_law_some_masks" = true) (k27 : PySem.W.keepIn K (.ref f27) = true)
    {f28 : Addr} {od28 an28 : Option Addr} {sl28 : Array (Option Value)} {oc28 kV28 dc28 pm28 cd28 ct28 : Value}
    (a28 : PySem.W.nsIn K mainGlobals "_law_six_right" = some (some (.ref f28))) (l28 : K.lookup f28 = some ⟨oc28, od28, .func (PySem.W.fnOf "_law_six_right" "_law_six_right" (defArgs sLSixRight) (defBody sLSixRight) (defScope sLSixRight) .none kV28 dc28 pm28 an28 cd28 ct28), sl28⟩) (c28 : PySem.W.codeIn K cd28 "_law_six_right" = true) (k28 : PySem.W.keepIn K (.ref f28) = true)
    {f29 : Addr} {od29 an29 : Option Addr} {sl29 : Array (Option Value)} {oc29 kV29 dc29 pm29 cd29 ct29 : Value}
    (a29 : PySem.W.nsIn K mainGlobals "law" = some (some (.ref f29))) (l29 : K.lookup f29 = some ⟨oc29, od29, .func (PySem.W.fnOf "law" "law" (defArgs sLaw) (defBody sLaw) (defScope sLaw) .none kV29 dc29 pm29 an29 cd29 ct29), sl29⟩) (c29 : PySem.W.codeIn K cd29 "law" = true) (k29 : PySem.W.keepIn K (.ref f29) = true)
    {cOtherWidth : Addr} {fIgOtherWidth NSgOtherWidth : Addr} {nmgOtherWidth qngOtherWidth : Str} {bsgOtherWidth bmgOtherWidth sbgOtherWidth : List Value} {sngOtherWidth : List Str} {abgOtherWidth : Bool} {colgOtherWidth : Option Bool} {ddgOtherWidth odgOtherWidth angOtherWidth : Option Addr} {p0gOtherWidth p1gOtherWidth p2gOtherWidth p3gOtherWidth p5gOtherWidth : Option Value} {ocgOtherWidth kVgOtherWidth dcgOtherWidth pmgOtherWidth cdgOtherWidth ctgOtherWidth : Value} {slgOtherWidth : Array (Option Value)} {cNoMask : Addr} {fIgNoMask NSgNoMask : Addr} {nmgNoMask qngNoMask : Str} {bsgNoMask bmgNoMask sbgNoMask : List Value} {sngNoMask : List Str} {abgNoMask : Bool} {colgNoMask : Option Bool} {ddgNoMask odgNoMask angNoMask : Option Addr} {p0gNoMask p1gNoMask p2gNoMask p3gNoMask p5gNoMask : Option Value} {ocgNoMask kVgNoMask dcgNoMask pmgNoMask cdgNoMask ctgNoMask : Value} {slgNoMask : Array (Option Value)} {cNoIndex : Addr} {cNoVersion : Addr} {cTurnError : Addr}
    (x1 : PySem.W.nsIn K mainGlobals "OtherWidth" = some (some (.ref cOtherWidth)))
    (x2 : K.lookup cOtherWidth = some (excClassObj nmgOtherWidth qngOtherWidth cOtherWidth NSgOtherWidth bsgOtherWidth bmgOtherWidth true sngOtherWidth sbgOtherWidth abgOtherWidth colgOtherWidth ddgOtherWidth p0gOtherWidth p1gOtherWidth p2gOtherWidth p3gOtherWidth p5gOtherWidth "ValueError.__new__"))
    (x3 : PySem.W.excTail [.type "ValueError", .type "Exception", .type "BaseException", .type "object"] bmgOtherWidth = true)
    (x4 : PySem.W.findIn K (.ref cOtherWidth) "__setattr__" = some (some (.builtin "object.__setattr__")))
    (x5 : PySem.W.findIn K (.ref cOtherWidth) "index" = some none)
    (x6 : PySem.W.findIn K (.ref cOtherWidth) "__init__" = some (some (.ref fIgOtherWidth)))
    (x7 : PySem.W.typeIn K (.ref fIgOtherWidth) = some (.type "function"))
    (x8 : K.lookup fIgOtherWidth = some ⟨ocgOtherWidth, odgOtherWidth, .func (PySem.W.fnOf "__init__" "OtherWidth.__init__" (defArgs sIOtherWidth) (defBody sIOtherWidth) (defScope sIOtherWidth) .none kVgOtherWidth dcgOtherWidth pmgOtherWidth angOtherWidth cdgOtherWidth ctgOtherWidth), slgOtherWidth⟩)
    (x9 : PySem.W.codeIn K cdgOtherWidth "OtherWidth.__init__" = true)
    (x10 : PySem.W.keepIn K (.ref fIgOtherWidth) = true)
    (x11 : PySem.W.subIn K (.ref cOtherWidth) (.type "BaseException") = some true)
    (x12 : PySem.W.typeIn K (.ref cOtherWidth) = some (.type "type"))
    (x13 : PySem.W.keepIn K (.ref cOtherWidth) = true)
    (x14 : PySem.W.nsIn K mainGlobals "NoMask" = some (some (.ref cNoMask)))
    (x15 : K.lookup cNoMask = some (excClassObj nmgNoMask qngNoMask cNoMask NSgNoMask bsgNoMask bmgNoMask true sngNoMask sbgNoMask abgNoMask colgNoMask ddgNoMask p0gNoMask p1gNoMask p2gNoMask p3gNoMask p5gNoMask "LookupError.__new__"))
    (x16 : PySem.W.excTail [.type "LookupError", .type "Exception", .type "BaseException", .type "object"] bmgNoMask = true)
    (x17 : PySem.W.findIn K (.ref cNoMask) "__setattr__" = some (some (.builtin "object.__setattr__")))
    (x18 : PySem.W.findIn K (.ref cNoMask) "value" = some none)
    (x19 : PySem.W.findIn K (.ref cNoMask) "__init__" = some (some (.ref fIgNoMask)))
    (x20 : PySem.W.typeIn K (.ref fIgNoMask) = some (.type "function"))
    (x21 : K.lookup fIgNoMask = some ⟨ocgNoMask, odgNoMask, .func (PySem.W.fnOf "__init__" "NoMask.__init__" (defArgs sINoMask) (defBody sINoMask) (defScope sINoMask) .none kVgNoMask dcgNoMask pmgNoMask angNoMask cdgNoMask ctgNoMask), slgNoMask⟩)
    (x22 : PySem.W.codeIn K cdgNoMask "NoMask.__init__" = true)
    (x23 : PySem.W.keepIn K (.ref fIgNoMask) = true)
    (x24 : PySem.W.subIn K (.ref cNoMask) (.type "BaseException") = some true)
    (x25 : PySem.W.typeIn K (.ref cNoMask) = some (.type "type"))
    (x26 : PySem.W.keepIn K (.ref cNoMask) = true)
    (x27 : PySem.W.hasDictIn K cNoMask = true)
    (x28 : PySem.W.findIn K (.ref cNoMask) "__getattribute__" = some (some (.builtin "BaseException.__getattribute__")))
    (x29 : PySem.W.findIn K (.ref cNoMask) "__getattr__" = some none)
    (x30 : PySem.W.findIn K (.ref cNoMask) "__class__" = some (some (.builtin "object.__class__")))
    (x31 : PySem.W.specialIn K (.builtin "object.__class__") "__get__" = some (some (.builtin "getset_descriptor.__get__")))
    (x32 : PySem.W.takesIn K (.builtin "object.__class__") = some true)
    (x33 : PySem.W.mroIn K cNoMask (.type "object") = some true)
    (x34 : PySem.W.subIn K (.ref cNoMask) (.ref cNoMask) = some true)
    (x35 : PySem.W.nsIn K mainGlobals "NoIndex" = some (some (.ref cNoIndex)))
    (x36 : PySem.W.hasDictIn K cNoIndex = true)
    (x37 : PySem.W.typeIn K (.ref cNoIndex) = some (.type "type"))
    (x38 : PySem.W.subIn K (.ref cNoMask) (.ref cNoIndex) = some false)
    (x39 : (Value.ref cNoMask == Value.ref cNoIndex) = false)
    (x40 : PySem.W.nsIn K mainGlobals "NoVersion" = some (some (.ref cNoVersion)))
    (x41 : PySem.W.hasDictIn K cNoVersion = true)
    (x42 : PySem.W.typeIn K (.ref cNoVersion) = some (.type "type"))
    (x43 : PySem.W.subIn K (.ref cNoMask) (.ref cNoVersion) = some false)
    (x44 : (Value.ref cNoMask == Value.ref cNoVersion) = false)
    (x45 : PySem.W.nsIn K mainGlobals "TurnError" = some (some (.ref cTurnError)))
    (x46 : PySem.W.hasDictIn K cTurnError = true)
    (x47 : PySem.W.typeIn K (.ref cTurnError) = some (.type "type"))
    (x48 : PySem.W.subIn K (.ref cNoMask) (.ref cTurnError) = some false)
    (x49 : (Value.ref cNoMask == Value.ref cTurnError) = false)
    (x50 : PySem.W.subIn K (.ref cNoMask) (.type "LookupError") = some true)
    (y1 : PySem.W.nsIn K mainGlobals "LookupError" = some none)
    (y2 : PySem.W.nsIn K mainGlobals "list" = some none)
    (y3 : PySem.W.nsIn K mainGlobals "repr" = some none)
    (y4 : PySem.W.nsIn K mainGlobals "str" = some none)
    (y5 : PySem.W.nsIn K mainGlobals "sum" = some none)
    (y6 : PySem.W.nsIn K mainGlobals "zip" = some none)
    (z1 : PySem.W.nsIn K mainGlobals "len" = some none) (z2 : PySem.W.nsIn K mainGlobals "abs" = some none) (z3 : PySem.W.nsIn K mainGlobals "tuple" = some none) (z4 : PySem.W.nsIn K mainGlobals "sorted" = some none) (z5 : PySem.W.nsIn K mainGlobals "isinstance" = some none) (z6 : PySem.W.nsIn K mainGlobals "int" = some none) (z7 : PySem.W.nsIn K mainGlobals "bool" = some none) (z8 : PySem.W.nsIn K mainGlobals "set" = some none) (z9 : PySem.W.nsIn K mainGlobals "all" = some none) (z10 : PySem.W.nsIn K mainGlobals "range" = some none) (z11 : PySem.W.nsIn K mainGlobals "enumerate" = some none) :
    ∀ base : Heap, K.In base → base.Ns mainGlobals mg → RunC l.prog w K mg base 51 fa (spLaw K) := by
  cases hfa.symm.trans (PySem.W.mg_of X G a29)
  have F1 := fun_mk (st := sNum) l1 c1 k1
  have F2 := fun_mk (st := sMask) l2 c2 k2
  have F3 := fun_mk (st := sWidthOf) l3 c3 k3
  have F4 := fun_mk (st := sDigitsOf) l4 c4 k4
  have F5 := fun_mk (st := sRestsAfter) l5 c5 k5
  have F6 := fun_mk (st := sAllowsAll) l6 c6 k6
  have F7 := fun_mk (st := sWideTurned) l7 c7 k7
  have F8 := fun_mk (st := sCombined) l8 c8 k8
  have F9 := fun_mk (st := sCombinedCharacter) l9 c9 k9
  have F10 := fun_mk (st := sCheckWidths) l10 c10 k10
  have F11 := fun_mk (st := sFirstDifference) l11 c11 k11
  have F12 := fun_mk (st := sDifferenceBelow) l12 c12 k12
  have F13 := fun_mk (st := sWideKeeps) l13 c13 k13
  have F14 := fun_mk (st := sStream) l14 c14 k14
  have F15 := fun_mk (st := sDraw) l15 c15 k15
  have F16 := fun_mk (st := sLPick) l16 c16 k16
  have F17 := fun_mk (st := sLWide) l17 c17 k17
  have F18 := fun_mk (st := sLDigits) l18 c18 k18
  have F19 := fun_mk (st := sLFits) l19 c19 k19
  have F20 := fun_mk (st := sLMaskOf) l20 c20 k20
  have F21 := fun_mk (st := sLListed) l21 c21 k21
  have F22 := fun_mk (st := sLCommon) l22 c22 k22
  have F23 := fun_mk (st := sLCount) l23 c23 k23
  have F24 := fun_mk (st := sLOnly) l24 c24 k24
  have F25 := fun_mk (st := sTold) l25 c25 k25
  have F26 := fun_mk (st := sLMoved) l26 c26 k26
  have F27 := fun_mk (st := sLSomeMasks) l27 c27 k27
  have F28 := fun_mk (st := sLSixRight) l28 c28 k28
  have F29 := fun_mk (st := sLaw) l29 c29 k29
  have b1 := F1.binds (ps := ["value"]) fun _ _ _ _ _ _ us hl => match us, hl with | [_], _ => rfl
  have b2 := F2.binds (ps := ["value", "width"]) fun _ _ _ _ _ _ us hl => match us, hl with | [_, _], _ => rfl
  have b3 := F3.binds (ps := ["wide"]) fun _ _ _ _ _ _ us hl => match us, hl with | [_], _ => rfl
  have b4 := F4.binds (ps := ["mask", "width"]) fun _ _ _ _ _ _ us hl => match us, hl with | [_, _], _ => rfl
  have b5 := F5.binds (ps := ["rests", "digit"]) fun _ _ _ _ _ _ us hl => match us, hl with | [_, _], _ => rfl
  have b6 := F6.binds (ps := ["rests"]) fun _ _ _ _ _ _ us hl => match us, hl with | [_], _ => rfl
  have b7 := F7.binds (ps := ["wide", "mask"]) fun _ _ _ _ _ _ us hl => match us, hl with | [_, _], _ => rfl
  have b8 := F8.binds (ps := ["one", "other"]) fun _ _ _ _ _ _ us hl => match us, hl with | [_, _], _ => rfl
  have b9 := F9.binds (ps := ["one", "other"]) fun _ _ _ _ _ _ us hl => match us, hl with | [_, _], _ => rfl
  have b10 := F10.binds (ps := ["one", "other"]) fun _ _ _ _ _ _ us hl => match us, hl with | [_, _], _ => rfl
  have b11 := F11.binds (ps := ["one", "other"]) fun _ _ _ _ _ _ us hl => match us, hl with | [_, _], _ => rfl
  have b12 := F12.binds (ps := ["one", "other", "start", "alike"]) fun _ _ _ _ _ _ us hl => match us, hl with | [_, _, _, _], _ => rfl
  have b13 := F13.binds (ps := ["wide", "mask"]) fun _ _ _ _ _ _ us hl => match us, hl with | [_, _], _ => rfl
  have b14 := F14.binds (ps := ["_law_script"]) fun _ _ _ _ _ _ us hl => match us, hl with | [_], _ => rfl
  have b15 := F15.binds (ps := ["_law_stream_here", "_law_many"]) fun _ _ _ _ _ _ us hl => match us, hl with | [_, _], _ => rfl
  have b16 := F16.binds (ps := ["_law_stream_here", "_law_items"]) fun _ _ _ _ _ _ us hl => match us, hl with | [_, _], _ => rfl
  have b17 := F17.binds (ps := ["_law_stream_here", "_law_most"]) fun _ _ _ _ _ _ us hl => match us, hl with | [_, _], _ => rfl
  have b18 := F18.binds (ps := ["_law_mask", "_law_width"]) fun _ _ _ _ _ _ us hl => match us, hl with | [_, _], _ => rfl
  have b19 := F19.binds (ps := ["_law_wide_here", "_law_mask"]) fun _ _ _ _ _ _ us hl => match us, hl with | [_, _], _ => rfl
  have b20 := F20.binds (ps := ["_law_stream_here", "_law_wide_here"]) fun _ _ _ _ _ _ us hl => match us, hl with | [_, _], _ => rfl
  have b21 := F21.binds (ps := ["_law_wide_here"]) fun _ _ _ _ _ _ us hl => match us, hl with | [_], _ => rfl
  have b22 := F22.binds (ps := ["_law_one", "_law_other"]) fun _ _ _ _ _ _ us hl => match us, hl with | [_, _], _ => rfl
  have b23 := F23.binds (ps := ["_law_patterns"]) fun _ _ _ _ _ _ us hl => match us, hl with | [_], _ => rfl
  have b24 := F24.binds (ps := ["_law_error"]) fun _ _ _ _ _ _ us hl => match us, hl with | [_], _ => rfl
  have b25 := F25.binds (ps := ["_law_wide_here", "_law_value"]) fun _ _ _ _ _ _ us hl => match us, hl with | [_, _], _ => rfl
  have b26 := F26.binds (ps := ["_law_wide_here", "_law_mask"]) fun _ _ _ _ _ _ us hl => match us, hl with | [_, _], _ => rfl
  have b27 := F27.binds (ps := ["_law_stream_here", "_law_wide_here"]) fun _ _ _ _ _ _ us hl => match us, hl with | [_, _], _ => rfl
  have b28 := F28.binds (ps := ["_law_stream_here"]) fun _ _ _ _ _ _ us hl => match us, hl with | [_], _ => rfl
  have B : Bl mg := ⟨PySem.W.mg_none_of X G z1, PySem.W.mg_none_of X G z2, PySem.W.mg_none_of X G z3, PySem.W.mg_none_of X G z4, PySem.W.mg_none_of X G z5, PySem.W.mg_none_of X G z6, PySem.W.mg_none_of X G z7, PySem.W.mg_none_of X G z8, PySem.W.mg_none_of X G z9, PySem.W.mg_none_of X G z10, PySem.W.mg_none_of X G z11⟩
  intro base _ _
  have TOtherWidth : OexG K cOtherWidth := ⟨⟨_, _, _, _, _, _, _, _, _, _, _, _, _, _, _, _, _, _, _, PySem.F.excBase_ValueError, x2, x3, fun self => PySem.F.store_ValueError.passes self, by decide⟩, x4, x11, x12, x13⟩
  have FIOtherWidth := fun_mk (st := sIOtherWidth) x8 x9 x10
  have bIOtherWidth := FIOtherWidth.binds (ps := ["self", "index"]) fun _ _ _ _ _ _ us hl => match us, hl with | [_, _], _ => rfl
  have ROtherWidth : ErrG l.prog w K mg base "OtherWidth" "index" cOtherWidth := ⟨TOtherWidth, x5, ⟨fIgOtherWidth, _, _, x6, x7, ok_iOtherWidth TOtherWidth x5 FIOtherWidth, bIOtherWidth⟩, (PySem.W.mg_of X G x1)⟩
  have TNoMask : OexG K cNoMask := ⟨⟨_, _, _, _, _, _, _, _, _, _, _, _, _, _, _, _, _, _, _, PySem.F.excBase_LookupError, x15, x16, fun self => PySem.F.store_LookupError.passes self, by decide⟩, x17, x24, x25, x26⟩
  have FINoMask := fun_mk (st := sINoMask) x21 x22 x23
  have bINoMask := FINoMask.binds (ps := ["self", "value"]) fun _ _ _ _ _ _ us hl => match us, hl with | [_, _], _ => rfl
  have RNoMask : ErrG l.prog w K mg base "NoMask" "value" cNoMask := ⟨TNoMask, x18, ⟨fIgNoMask, _, _, x19, x20, ok_iNoMask TNoMask x18 FINoMask, bINoMask⟩, (PySem.W.mg_of X G x14)⟩
  have xclNoMask : (PySem.W.clsIn K cNoMask).isSome = true := by obtain ⟨cd, hc, _⟩ := PySem.W.any_some x27; rw [hc]; rfl
  have CNoMask : CauG K mg "NoMask" "value" cNoMask := ⟨⟨xclNoMask, x28, x29, x24, x30, x31, x32, x33⟩, ⟨x28, x29, x24, x27⟩, x18, (PySem.W.mg_of X G x14), PySem.W.exm_ref x24 x27 x25 x34⟩
  have LNoMask : LkC K mg "NoMask" cNoMask 1 := ⟨CNoMask, by decide, ⟨cNoIndex, (PySem.W.mg_of X G x35), (kit_ref x36 x37 x38 x39)⟩, ⟨cNoMask, (PySem.W.mg_of X G x14), kit_self⟩, ⟨cNoVersion, (PySem.W.mg_of X G x40), (kit_ref x41 x42 x43 x44)⟩, ⟨cTurnError, (PySem.W.mg_of X G x45), (kit_ref x46 x47 x48 x49)⟩, (kit_bt x50 rfl), (PySem.W.mg_none_of X G y1)⟩
  have dd__law_draw_I : DefR l.prog w K mg base 1 "_law_draw" spDrawI := .of (ok_drawI F15 B.len) b15 (PySem.W.mg_of X G a15) k15
  have dd__law_draw_W : DefR l.prog w K mg base 1 "_law_draw" spDrawW := drawW (.of (ok_drawI F15 B.len) b15 (PySem.W.mg_of X G a15) k15)
  have dd__law_draw_N : DefR l.prog w K mg base 1 "_law_draw" spDrawN := drawWN (drawW (.of (ok_drawI F15 B.len) b15 (PySem.W.mg_of X G a15) k15))
  have dd__law_pick_3 : DefR l.prog w K mg base 2 "_law_pick" (fun vs H Q E => spPickT vs H Q E ∨ spPickS vs H Q E) := .of (ok_pick3 B F16 dd__law_draw_N) b16 (PySem.W.mg_of X G a16) k16
  have dd__law_pick_S : DefR l.prog w K mg base 2 "_law_pick" spPickS := pick3_s (.of (ok_pick3 B F16 dd__law_draw_N) b16 (PySem.W.mg_of X G a16) k16)
  have dd__law_digits : DefR l.prog w K mg base 1 "_law_digits" spLdg := .of (ok_ldg B (PySem.W.mg_none_of X G y4) F18) b18 (PySem.W.mg_of X G a18) k18
  have dd__law_fits_G : DefR l.prog w K mg base 2 "_law_fits" spLFitsG := .of (ok_lfits B (PySem.W.mg_none_of X G y6) F19 dd__law_digits) b19 (PySem.W.mg_of X G a19) k19
  have dd__law_listed_G : DefR l.prog w K mg base 3 "_law_listed" spLsdG := .of (ok_lsd B F21 dd__law_fits_G) b21 (PySem.W.mg_of X G a21) k21
  have dd_width_of : DefR l.prog w K mg base 1 "width_of" (spWo K) := .of (ok_wo B F3) b3 (PySem.W.mg_of X G a3) k3
  have dd_check_widths_X : DefX l.prog w K mg base 3 "check_widths" (spCw K cOtherWidth) := DefX.of (ok_cw B F10 dd_width_of ROtherWidth) b10 (PySem.W.mg_of X G a10) k10
  have dd_rests_after : DefR l.prog w K mg base 1 "rests_after" spRa := .of (ok_ra B F5) b5 (PySem.W.mg_of X G a5) k5
  have dd_allows_all : DefR l.prog w K mg base 1 "allows_all" spAa := .of (ok_aa B F6) b6 (PySem.W.mg_of X G a6) k6
  have dd_difference_below : DefR l.prog w K mg base 42 "difference_below" (spDf w 40) := df_all B F12 (.of (ok_ra B F5) b5 (PySem.W.mg_of X G a5) k5) (.of (ok_aa B F6) b6 (PySem.W.mg_of X G a6) k6) b12 (PySem.W.mg_of X G a12) k12 40
  have dd_first_difference_X : DefX l.prog w K mg base 43 "first_difference" (spFdi cOtherWidth) := DefX.of (ok_fdi F11 dd_check_widths_X dd_difference_below) b11 (PySem.W.mg_of X G a11) k11
  have dd_is_number : DefR l.prog w K mg base 1 "is_number" (spNumZ K) := .of (ok_numZ B F1) b1 (PySem.W.mg_of X G a1) k1
  have dd_is_mask : DefR l.prog w K mg base 2 "is_mask" (spMaskW K) := .of (ok_maskW F2 dd_is_number) b2 (PySem.W.mg_of X G a2) k2
  have dd_digits_of : DefR l.prog w K mg base 1 "digits_of" spDo := .of (ok_do F4) b4 (PySem.W.mg_of X G a4) k4
  have dd_combined_character : DefR l.prog w K mg base 1 "combined_character" spCch := .of (ok_cch F9) b9 (PySem.W.mg_of X G a9) k9
  have dd_combined : DefR l.prog w K mg base 2 "combined" spComb := .of (ok_comb (PySem.W.mg_none_of X G y6) F8 dd_combined_character) b8 (PySem.W.mg_of X G a8) k8
  have dd_wide_turned_X : DefX l.prog w K mg base 3 "wide_turned" (spWt K cNoMask) := DefX.of (ok_wt B F7 dd_width_of dd_is_mask dd_digits_of dd_combined RNoMask) b7 (PySem.W.mg_of X G a7) k7
  have dd_wide_keeps_X : DefX l.prog w K mg base 44 "wide_keeps" (spKw K cNoMask) := DefX.of (ok_kw F13 dd_first_difference_X dd_wide_turned_X) b13 (PySem.W.mg_of X G a13) k13
  have dd__law_common : DefR l.prog w K mg base 1 "_law_common" spLco := .of (ok_lco (PySem.W.mg_none_of X G y6) F22) b22 (PySem.W.mg_of X G a22) k22
  have dd__law_pick_T : DefR l.prog w K mg base 2 "_law_pick" spPickT := pick3_t (.of (ok_pick3 B F16 dd__law_draw_N) b16 (PySem.W.mg_of X G a16) k16)
  have dd__law_mask_of : DefR l.prog w K mg base 3 "_law_mask_of" spMaskOf := .of (ok_mo B F20 dd__law_draw_N dd__law_pick_T) b20 (PySem.W.mg_of X G a20) k20
  have dd__law_told_K : DefR l.prog w K mg base 45 "_law_told" (spTdK K) := .of (ok_tdK B LNoMask F25 F24 (PySem.W.mg_of X G a24) dd_wide_keeps_X) b25 (PySem.W.mg_of X G a25) k25
  exact run_it B (PySem.W.mg_none_of X G y3) F29 ⟨.of (ok_stream F14 B.len B.abs) b14 (PySem.W.mg_of X G a14) k14, .of (ok_wideL B F17 dd__law_draw_N dd__law_pick_S) b17 (PySem.W.mg_of X G a17) k17, lsdT (.of (ok_lsd B F21 dd__law_fits_G) b21 (PySem.W.mg_of X G a21) k21), .of (ok_tdK B LNoMask F25 F24 (PySem.W.mg_of X G a24) dd_wide_keeps_X) b25 (PySem.W.mg_of X G a25) k25, drawW (.of (ok_drawI F15 B.len) b15 (PySem.W.mg_of X G a15) k15), .of (ok_mvW B (PySem.W.mg_none_of X G y6) (PySem.W.mg_none_of X G y4) (PySem.W.mg_none_of X G y2) F26 dd__law_digits) b26 (PySem.W.mg_of X G a26) k26, .of (ok_lctT (PySem.W.mg_none_of X G y5) F23 dd__law_common) b23 (PySem.W.mg_of X G a23) k23, .of (ok_sk B F27 dd__law_draw_W dd__law_mask_of) b27 (PySem.W.mg_of X G a27) k27, .of (ok_sx B F28 dd__law_draw_N dd__law_pick_S dd__law_told_K) b28 (PySem.W.mg_of X G a28) k28, DefX.of (ok_kw F13 dd_first_difference_X dd_wide_turned_X) b13 (PySem.W.mg_of X G a13) k13⟩
end XT
open PySem PySem.W PyProof.Rows
set_option maxHeartbeats 0 in
theorem PySem.Challenge.cw_xorturns_k67_masks_that_keep_wide_lots_holds : PySem.Challenge.rw_xorturns_k67_masks_that_keep_wide_lots.Holds := by
  w_on; o_law; k_head; (case hw => w_witness2)
  k_fill
  refine XT.walk_ofC (l := PySem.Challenge.rw_xorturns_k67_masks_that_keep_wide_lots) (n := 63) (k := 51) (sp := fun w => XT.spLaw _) rfl (by decide) rfl ⟨rfl, by decide, by decide⟩ (fun w h Y => PySem.W.kIn_of Y) ?F (fun _ _ a ns hl hS => ⟨a, ns, rfl, hS, hl, fun _ => rfl⟩)
  case F =>
    intro w mg fa h KX G hmg
    refine' XT.all_mk KX G hmg ?a1 ?l1 ?c1 ?k1 ?a2 ?l2 ?c2 ?k2 ?a3 ?l3 ?c3 ?k3 ?a4 ?l4 ?c4 ?k4 ?a5 ?l5 ?c5 ?k5 ?a6 ?l6 ?c6 ?k6 ?a7 ?l7 ?c7 ?k7 ?a8 ?l8 ?c8 ?k8 ?a9 ?l9 ?c9 ?k9 ?a10 ?l10 ?c10 ?k10 ?a11 ?l11 ?c11 ?k11 ?a12 ?l12 ?c12 ?k12 ?a13 ?l13 ?c13 ?k13 ?a14 ?l14 ?c14 ?k14 ?a15 ?l15 ?c15 ?k15 ?a16 ?l16 ?c16 ?k16 ?a17 ?l17 ?c17 ?k17 ?a18 ?l18 ?c18 ?k18 ?a19 ?l19 ?c19 ?k19 ?a20 ?l20 ?c20 ?k20 ?a21 ?l21 ?c21 ?k21 ?a22 ?l22 ?c22 ?k22 ?a23 ?l23 ?c23 ?k23 ?a24 ?l24 ?c24 ?k24 ?a25 ?l25 ?c25 ?k25 ?a26 ?l26 ?c26 ?k26 ?a27 ?l27 ?c27 ?k27 ?a28 ?l28 ?c28 ?k28 ?a29 ?l29 ?c29 ?k29 ?x1 ?x2 ?x3 ?x4 ?x5 ?x6 ?x7 ?x8 ?x9 ?x10 ?x11 ?x12 ?x13 ?x14 ?x15 ?x16 ?x17 ?x18 ?x19 ?x20 ?x21 ?x22 ?x23 ?x24 ?x25 ?x26 ?x27 ?x28 ?x29 ?x30 ?x31 ?x32 ?x33 ?x34 ?x35 ?x36 ?x37 ?x38 ?x39 ?x40 ?x41 ?x42 ?x43 ?x44 ?x45 ?x46 ?x47 ?x48 ?x49 ?x50 ?y1 ?y2 ?y3 ?y4 ?y5 ?y6 ?z1 ?z2 ?z3 ?z4 ?z5 ?z6 ?z7 ?z8 ?z9 ?z10 ?z11
    (case a1 => k_is); (case l1 => k_is); (case c1 => k_is); (case k1 => k_is); (case a2 => k_is); (case l2 => k_is); (case c2 => k_is); (case k2 => k_is); (case a3 => k_is); (case l3 => k_is); (case c3 => k_is); (case k3 => k_is); (case a4 => k_is); (case l4 => k_is); (case c4 => k_is); (case k4 => k_is); (case a5 => k_is); (case l5 => k_is); (case c5 => k_is); (case k5 => k_is); (case a6 => k_is); (case l6 => k_is); (case c6 => k_is); (case k6 => k_is); (case a7 => k_is); (case l7 => k_is); (case c7 => k_is); (case k7 => k_is); (case a8 => k_is); (case l8 => k_is); (case c8 => k_is); (case k8 => k_is); (case a9 => k_is); (case l9 => k_is); (case c9 => k_is); (case k9 => k_is); (case a10 => k_is); (case l10 => k_is); (case c10 => k_is); (case k10 => k_is); (case a11 => k_is); (case l11 => k_is); (case c11 => k_is); (case k11 => k_is); (case a12 => k_is); (case l12 => k_is); (case c12 => k_is); (case k12 => k_is); (case a13 => k_is); (case l13 => k_is); (case c13 => k_is); (case k13 => k_is); (case a14 => k_is); (case l14 => k_is); (case c14 => k_is); (case k14 => k_is); (case a15 => k_is); (case l15 => k_is); (case c15 => k_is); (case k15 => k_is); (case a16 => k_is); (case l16 => k_is); (case c16 => k_is); (case k16 => k_is); (case a17 => k_is); (case l17 => k_is); (case c17 => k_is); (case k17 => k_is); (case a18 => k_is); (case l18 => k_is); (case c18 => k_is); (case k18 => k_is); (case a19 => k_is); (case l19 => k_is); (case c19 => k_is); (case k19 => k_is); (case a20 => k_is); (case l20 => k_is); (case c20 => k_is); (case k20 => k_is); (case a21 => k_is); (case l21 => k_is); (case c21 => k_is); (case k21 => k_is); (case a22 => k_is); (case l22 => k_is); (case c22 => k_is); (case k22 => k_is); (case a23 => k_is); (case l23 => k_is); (case c23 => k_is); (case k23 => k_is); (case a24 => k_is); (case l24 => k_is); (case c24 => k_is); (case k24 => k_is); (case a25 => k_is); (case l25 => k_is); (case c25 => k_is); (case k25 => k_is); (case a26 => k_is); (case l26 => k_is); (case c26 => k_is); (case k26 => k_is); (case a27 => k_is); (case l27 => k_is); (case c27 => k_is); (case k27 => k_is); (case a28 => k_is); (case l28 => k_is); (case c28 => k_is); (case k28 => k_is); (case a29 => k_is); (case l29 => k_is); (case c29 => k_is); (case k29 => k_is); (case x1 => k_is); (case x2 => k_is); (case x3 => first | rfl | decide +kernel); (case x4 => k_is); (case x5 => k_is); (case x6 => k_is); (case x7 => k_is); (case x8 => k_is); (case x9 => k_is); (case x10 => k_is); (case x11 => k_is); (case x12 => k_is); (case x13 => k_is); (case x14 => k_is); (case x15 => k_is); (case x16 => first | rfl | decide +kernel); (case x17 => k_is); (case x18 => k_is); (case x19 => k_is); (case x20 => k_is); (case x21 => k_is); (case x22 => k_is); (case x23 => k_is); (case x24 => k_is); (case x25 => k_is); (case x26 => k_is); (case x27 => k_is); (case x28 => k_is); (case x29 => k_is); (case x30 => k_is); (case x31 => k_is); (case x32 => k_is); (case x33 => k_is); (case x34 => k_is); (case x35 => k_is); (case x36 => k_is); (case x37 => k_is); (case x38 => k_is); (case x39 => rfl); (case x40 => k_is); (case x41 => k_is); (case x42 => k_is); (case x43 => k_is); (case x44 => rfl); (case x45 => k_is); (case x46 => k_is); (case x47 => k_is); (case x48 => k_is); (case x49 => rfl); (case x50 => k_is); (case y1 => k_is); (case y2 => k_is); (case y3 => k_is); (case y4 => k_is); (case y5 => k_is); (case y6 => k_is); (case z1 => k_is); (case z2 => k_is); (case z3 => k_is); (case z4 => k_is); (case z5 => k_is); (case z6 => k_is); (case z7 => k_is); (case z8 => k_is); (case z9 => k_is); (case z10 => k_is); (case z11 => k_is)
