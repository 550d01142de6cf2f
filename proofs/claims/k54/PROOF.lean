import PyProof.Rows.All
import Wide.All
import OpenK.AllK
import Wide.FinOn
import HandS.Words
import KE.KExcInit
import HandS.Head0
import HandS.Head1
import HandS.Head2
import HandS.HeadEnd
import HandS.HeadHook1
import KE.KStateDown
import HandS.Defaults
import PyProof.EqAt
import PyProof.EqKinds
import PyProof.TupleCall
import HandS.ForMost
import HandS.Strs
import HandS.SetFor
import HandS.SortInts
import HandS.Star
import HandS.IsInst
import KE.GoesMore
import PyProof.ReprRoads
import PyProof.StrLawsRepr
import HandS.ForExc
import HandS.ExcInit
import HandS.ExcField
import HandS.CallSlots
import HandS.HotCalls
import KE.KExcIs
import HandS.Property
import KE.KOpsOwn
import KE.KCallOwn
import OpenK.KMeth
import OpenK.KOps
import HandS.Codes
import PyProof.ReprLen
import HandS.Conv
import KE.DataCmp
import KE.KFmtOwn
import PyProof.InstNe
import HandS.Dict
import PyProof.StrCaseBound
import PyProof.FitsInt
import HandS.TupAny
import KE.KRevSl
import PyProof.Rows.IntBool
import PyProof.Rows.EqBoolInt
import PyProof.Conv_int_bool
import PyProof.NeKinds
import HandS.TupMul
import PyProof.FactsAll.dict
import HandS.SetBool
import PyProof.FString3
import PyProof.Rows.StrBin
import PyProof.Rows.StrIntSpec
import HandS.FStr
import HandS.Text
import HandS.Zip
import KE.GoesEnum
import PyProof.StrBlock
import HandS.RaiseMore
import KE.KUnpackStar
import PyProof.WalksMore
import HandS.SetIn
import PyProof.StrLawsOcc
import HandS.Replace
import HandS.Style
import HandS.ExcIs
import HandS.TryMany
import KE.KTryMore
import PyProof.Rows.ReprOcc
import PySem.Challenge.RW_xorturns_k54_errors_of_operators
set_option Elab.async false
set_option linter.all false
set_option maxRecDepth 100000
set_option maxHeartbeats 4000000
/-! a head of one's own: what the top has written, read off the tree by names -/
namespace XT
open PySem PySem.Spec PyProof.Rows L2
/-! ### which objects -/
def rfO (o : Obj) : List Addr := match o.data with
  | .dict es _ => es.toList.flatMap fun e => He.refV e.val
  | .func fd => He.refV fd.code
  | .cls cd => [cd.ns]
  | .fields vs => vs.toList.flatMap He.refV
  | _ => []
def nxA (g : Addr → Option Obj) (as : List Addr) : List Addr := as.flatMap fun a => match g a with
  | some o => rfO o
  | none => []
/-- the module's names; their codes and name spaces; what those hold; codes, getters; getters' codes -/
def asX (g : Addr → Option Obj) (l1 : List Addr) : List Addr :=
  let l2 := nxA g l1
  let l3 := nxA g l2
  let l4 := nxA g l3
  let l5 := nxA g l4
  mainGlobals :: (l1 ++ (l2 ++ (l3 ++ (l4 ++ l5))))
/-! ### paths -/
def xG (K : PySem.W.Frag) (p : Addr) : Addr := match PySem.W.recIn K p "property" with
  | some (.ref g :: _) => g
  | _ => 0
def xR (K : PySem.W.Frag) (p : Addr) : List Value := match PySem.W.recIn K p "property" with
  | some (_ :: r) => r
  | _ => []
def xS (K : PySem.W.Frag) (p : Addr) : Addr := match PySem.W.recIn K p "property" with
  | some (_ :: .ref s :: _) => s
  | _ => 0
def xR2 (K : PySem.W.Frag) (p : Addr) : List Value := match PySem.W.recIn K p "property" with
  | some (_ :: _ :: r) => r
  | _ => []
def xC (K : PySem.W.Frag) (p : Addr) : Addr := match PySem.W.recIn K p "classmethod" with
  | some (.ref g :: _) => g
  | _ => 0
def xCr (K : PySem.W.Frag) (p : Addr) : List Value := match PySem.W.recIn K p "classmethod" with
  | some (_ :: r) => r
  | _ => []
def xTk (K : PySem.W.Frag) (x : Str) : Tok := match PySem.W.nsIn K mainGlobals x with
  | some (some (.int _ t)) => t
  | some (some (.str _ t)) => t
  | _ => default
def xTm (K : PySem.W.Frag) (C : Addr) (x : Str) : Tok := match PySem.W.findIn K (.ref C) x with
  | some (some (.int _ t)) => t
  | some (some (.str _ t)) => t
  | _ => default
/-! ### defs -/
structure FDx where
  at_ : PySem.W.Frag → Addr
  name : Str
  qual : Str
  st : Stmt
def FDx.obs (d : FDx) (K : PySem.W.Frag) : He.FnV := match K.lookup (d.at_ K) with
  | some ⟨_, _, .func fd, _⟩ => some (fd.name, fd.qualname, fd.params, fd.body, fd.scope, fd.globals, fd.closure, fd.defaults, fd.builtins)
  | _ => none
def FDx.val (d : FDx) : He.FnV := some (d.name, d.qual, defArgs d.st, .stmts (defBody d.st), defScope d.st, mainGlobals, [], .none, builtinsNs)
def FDx.code (d : FDx) (K : PySem.W.Frag) : Bool := match K.lookup (d.at_ K) with
  | some ⟨_, _, .func fd, _⟩ => PySem.W.codeIn K fd.code d.qual
  | _ => false
theorem fdx_ok {K : PySem.W.Frag} {d : FDx} (e : d.obs K = d.val) (c : d.code K = true) :
    ∃ oc od osl kV doc pm an cdv ct, K.lookup (d.at_ K) = some ⟨oc, od, .func (PySem.W.fnOf d.name d.qual (defArgs d.st) (defBody d.st) (defScope d.st) .none kV doc pm an cdv ct), osl⟩ ∧ PySem.W.codeIn K cdv d.qual = true ∧ PySem.W.keepIn K (.ref (d.at_ K)) = true := by
  have c2 : (match K.lookup (d.at_ K) with
    | some ⟨_, _, .func fd, _⟩ => PySem.W.codeIn K fd.code d.qual
    | _ => false) = true := c
  unfold FDx.obs at e
  cases q : K.lookup (d.at_ K) with
  | none =>
    rw [q] at c2
    cases c2
  | some o =>
    obtain ⟨oc, od, dt, osl⟩ := o
    rw [q] at c2 e
    cases dt with
    | func fd =>
      obtain ⟨n1, n2, n3, n4, n5, n6, n7, n8, n9, n10, n11, n12, n13, n14, n15⟩ := fd
      have e2 : (some (n1, n2, n3, n4, n5, n6, n7, n8, n15) : He.FnV) = some (d.name, d.qual, defArgs d.st, .stmts (defBody d.st), defScope d.st, mainGlobals, [], .none, builtinsNs) := e
      simp only [Option.some.injEq, Prod.mk.injEq] at e2
      obtain ⟨h1, h2, h3, h4, h5, h6, h7, h8, h9⟩ := e2
      subst h1 h2 h3 h4 h5 h6 h7 h8 h9
      refine ⟨oc, od, osl, n9, n10, n11, n12, n13, n14, rfl, c2, ?_⟩
      show (match K.lookup (d.at_ K) with
        | some ⟨_, _, .func _, _⟩ => true
        | some ⟨_, _, .cls _, _⟩ => PySem.W.specialIn K (.ref (d.at_ K)) "__call__" == some (some (.builtin "type.__call__"))
        | _ => false) = true
      rw [q]
    | _ => cases c2
/-! ### classes of errors -/
def strKey0 (e : DictEntry) : Bool := match e.key with | .str _ _ => true | _ => false
def nsB (K : PySem.W.Frag) (N : Addr) : Bool := match K.lookup N with
  | some ⟨_, _, .dict es _, _⟩ => es.toList.all strKey0 && decide (PySem.W.nsIn K N "__init__" = some none)
  | _ => false
theorem nsB_ok {K : PySem.W.Frag} {N : Addr} (h : nsB K N = true) : ∃ (oc : Value) (od : Option Addr) (es : Array DictEntry) (ep : Nat) (sl : Array (Option Value)),
    K.lookup N = some ⟨oc, od, .dict es ep, sl⟩ ∧ es.toList.all strKey0 = true ∧ PySem.W.nsIn K N "__init__" = some none := by
  unfold nsB at h
  cases q : K.lookup N with
  | none =>
    rw [q] at h
    cases h
  | some o =>
    obtain ⟨oc, od, dt, sl⟩ := o
    rw [q] at h
    cases dt with
    | dict es ep =>
      obtain ⟨h1, h2⟩ := He.ba (show (es.toList.all strKey0 && decide (PySem.W.nsIn K N "__init__" = some none)) = true from h)
      exact ⟨oc, od, es, ep, sl, rfl, h1, of_decide_eq_true h2⟩
    | _ => cases h
/-- the first of the own errors: a class, of no __init__ -/
def xTB (K : PySem.W.Frag) (c : Addr) : Bool := match K.lookup c with
  | some ⟨_, _, .cls cd, _⟩ => nsB K cd.ns
  | _ => false
theorem xTB_ok {K : PySem.W.Frag} {c : Addr} (h : xTB K c = true) : ∃ (NSt : Addr) (nmT qnT : Str) (bsT subT mt : List Value) (hdT abT delT : Bool) (snT : List Str) (colT : Option Bool) (odT : Option Addr) (ocT : Value) (slT : Array (Option Value)) (oc6 : Value) (od6 : Option Addr) (es6 : Array DictEntry) (ep6 : Nat) (sl6 : Array (Option Value)),
    K.lookup c = some ⟨ocT, odT, .cls { name := nmT, bases := bsT, mro := mt, ns := NSt, qualname := qnT, hasDict := hdT, slotNames := snT, subclasses := subT, abstract := abT, collection := colT, hasDel := delT }, slT⟩ ∧
    K.lookup NSt = some ⟨oc6, od6, .dict es6 ep6, sl6⟩ ∧ es6.toList.all strKey0 = true ∧ PySem.W.nsIn K NSt "__init__" = some none := by
  unfold xTB at h
  cases q : K.lookup c with
  | none =>
    rw [q] at h
    cases h
  | some o =>
    obtain ⟨oc, od, dt, sl⟩ := o
    rw [q] at h
    cases dt with
    | cls cd =>
      obtain ⟨nm, bs, mro, ns, qn, hd, sn, sub, ab, col, del⟩ := cd
      obtain ⟨a1, a2, a3, a4, a5, h1, h2, h3⟩ := nsB_ok (show nsB K ns = true from h)
      exact ⟨ns, nm, qn, bs, sub, mro, hd, ab, del, sn, col, od, oc, sl, a1, a2, a3, a4, a5, rfl, h1, h2, h3⟩
    | _ => cases h
/-- an own error without an __init__ -/
def xNB (K : PySem.W.Frag) (c : Addr) (bm : List Value) (nw : String) : Bool := match K.lookup c with
  | some ⟨.type t, _, .cls cd, sl⟩ => (match cd.mro, sl.toList with
    | .ref c' :: bm', [_, _, _, _, some (.builtin n), _] => decide (t = "type") && (decide (c' = c) && (decide (bm' = bm) && (decide (n = nw) && (!cd.hasDel && nsB K cd.ns))))
    | _, _ => false)
  | _ => false
/-- an own error with an __init__ of its own -/
def xGB (K : PySem.W.Frag) (c : Addr) (bmB : List Value) (nw : String) : Bool := match K.lookup c with
  | some ⟨.type t, _, .cls cd, sl⟩ => (match cd.mro, sl.toList with
    | .ref c' :: bm', [_, _, _, _, some (.builtin n), _] => decide (t = "type") && (decide (c' = c) && (PySem.W.excTail bmB bm' && (decide (n = nw) && (!cd.hasDel && cd.hasDict))))
    | _, _ => false)
  | _ => false
theorem toList6 {α : Type} {a : Array α} {x0 x1 x2 x3 x4 x5 : α} (h : a.toList = [x0, x1, x2, x3, x4, x5]) : a = #[x0, x1, x2, x3, x4, x5] := by
  cases a
  simp at h
  rw [h]
theorem xNB_ok {K : PySem.W.Frag} {c : Addr} {bm : List Value} {nw : String} (h : xNB K c bm nw = true) : ∃ (NS : Addr) (nm qn : Str) (bs sb : List Value) (hd ab : Bool) (sn : List Str) (col : Option Bool) (dd : Option Addr) (p0 p1 p2 p3 p5 : Option Value) (oc : Value) (od : Option Addr) (es : Array DictEntry) (ep : Nat) (sl : Array (Option Value)),
    K.lookup c = some (excClassObj nm qn c NS bs bm hd sn sb ab col dd p0 p1 p2 p3 p5 nw) ∧
    K.lookup NS = some ⟨oc, od, .dict es ep, sl⟩ ∧ es.toList.all strKey0 = true ∧ PySem.W.nsIn K NS "__init__" = some none := by
  unfold xNB at h
  split at h
  · rename_i t dd cd sl ho
    split at h
    · rename_i c' bm' k0 k1 k2 k3 n k5 hm hs
      obtain ⟨h1, h⟩ := He.ba h
      obtain ⟨h2, h⟩ := He.ba h
      obtain ⟨h3, h⟩ := He.ba h
      obtain ⟨h4, h⟩ := He.ba h
      obtain ⟨h5, h6⟩ := He.ba h
      obtain ⟨nm, bs, mro, ns, qn, hd, sn, sub, ab, col, del⟩ := cd
      obtain ⟨a1, a2, a3, a4, a5, g1, g2, g3⟩ := nsB_ok (show nsB K ns = true from h6)
      have e1 : t = "type" := of_decide_eq_true h1
      have e2 : c' = c := of_decide_eq_true h2
      have e3 : bm' = bm := of_decide_eq_true h3
      have e4 : n = nw := of_decide_eq_true h4
      have e5 : del = false := by simpa using h5
      have e6 := toList6 hs
      have e7 : mro = .ref c' :: bm' := hm
      subst e1 e2 e3 e4 e5 e6 e7
      exact ⟨ns, nm, qn, bs, sub, hd, ab, sn, col, dd, k0, k1, k2, k3, k5, a1, a2, a3, a4, a5, ho, g1, g2, g3⟩
    · cases h
  · cases h
theorem xGB_ok {K : PySem.W.Frag} {c : Addr} {bmB : List Value} {nw : String} (h : xGB K c bmB nw = true) : ∃ (NS : Addr) (nm qn : Str) (bs bm sb : List Value) (sn : List Str) (ab : Bool) (col : Option Bool) (dd : Option Addr) (p0 p1 p2 p3 p5 : Option Value),
    K.lookup c = some (excClassObj nm qn c NS bs bm true sn sb ab col dd p0 p1 p2 p3 p5 nw) ∧ PySem.W.excTail bmB bm = true := by
  unfold xGB at h
  split at h
  · rename_i t dd cd sl ho
    split at h
    · rename_i c' bm' k0 k1 k2 k3 n k5 hm hs
      obtain ⟨h1, h⟩ := He.ba h
      obtain ⟨h2, h⟩ := He.ba h
      obtain ⟨h3, h⟩ := He.ba h
      obtain ⟨h4, h⟩ := He.ba h
      obtain ⟨h5, h6⟩ := He.ba h
      obtain ⟨nm, bs, mro, ns, qn, hd, sn, sub, ab, col, del⟩ := cd
      have e1 : t = "type" := of_decide_eq_true h1
      have e2 : c' = c := of_decide_eq_true h2
      have e4 : n = nw := of_decide_eq_true h4
      have e5 : del = false := by simpa using h5
      have e6 := toList6 hs
      have e7 : mro = .ref c' :: bm' := hm
      have e8 : hd = true := h6
      subst e1 e2 e4 e5 e6 e7 e8
      exact ⟨ns, nm, qn, bs, bm', sub, sn, ab, col, dd, k0, k1, k2, k3, k5, ho, h3⟩
    · cases h
  · cases h
/-! ### the Hook -/
abbrev AlX : Type := Bool × List He.FnV
def obsX (fb : PySem.W.Frag → Bool) (fn : List FDx) (K : PySem.W.Frag) : AlX := (fb K && fn.all fun d => d.code K, fn.map fun d => d.obs K)
def valX (fn : List FDx) : AlX := (true, fn.map FDx.val)
def obsXG (fb : PySem.W.Frag → Bool) (fn : List FDx) (g : Addr → Option Obj) : AlX := obsX fb fn (He.frG g (asX g (nxA g [mainGlobals])))
def hookX (fb : PySem.W.Frag → Bool) (fn : List FDx) : PySem.W.Hook where
  α := AlX
  obs := fun s => obsXG fb fn s.heap.get?
  val := fun _ => valX fn
  says := fun _ h => ∃ K : PySem.W.Frag, K.In h ∧ obsX fb fn K = valX fn
  of := fun _ _ e => ⟨_, He.frG_in, e⟩
  keeps := fun _ _ _ ⟨K, hK, c⟩ k => ⟨K, PySem.W.Frag.In.keeps hK k, c⟩
theorem obsXG_eq {fb : PySem.W.Frag → Bool} {fn : List FDx} {g : Addr → Option Obj} {s : Shared} (h : ∀ a, g a = s.heap.get? a) : obsXG fb fn g = (hookX fb fn).obs s := by
  have e : g = s.heap.get? := funext h
  rw [e] <;> rfl
section
variable {fb : PySem.W.Frag → Bool} {fn : List FDx} {K : PySem.W.Frag}
theorem saysX_b (c : obsX fb fn K = valX fn) : fb K = true := (He.ba (show (fb K && fn.all fun d => d.code K) = true from congrArg (fun z : AlX => z.1) c)).1
theorem saysX_d (c : obsX fb fn K = valX fn) (i : Nat) {d : FDx} (h : fn[i]? = some d := by rfl) :
    ∃ oc od osl kV doc pm an cdv ct, K.lookup (d.at_ K) = some ⟨oc, od, .func (PySem.W.fnOf d.name d.qual (defArgs d.st) (defBody d.st) (defScope d.st) .none kV doc pm an cdv ct), osl⟩ ∧ PySem.W.codeIn K cdv d.qual = true ∧ PySem.W.keepIn K (.ref (d.at_ K)) = true := by
  have c2 := (He.ba (show (fb K && fn.all fun d => d.code K) = true from congrArg (fun z : AlX => z.1) c)).2
  have e : fn.map (fun d => d.obs K) = fn.map FDx.val := congrArg (fun z : AlX => z.2) c
  have e2 : (fn.map fun d => d.obs K)[i]? = (fn.map FDx.val)[i]? := by rw [e]
  rw [List.getElem?_map, List.getElem?_map, h] at e2
  exact fdx_ok (Option.some.inj e2) (List.all_eq_true.mp c2 d (List.mem_of_getElem? h))
end
end XT
/-! the head of one's own, with defs that call super() -/
namespace XT
open PySem PySem.Spec PyProof.Rows L2
/-- the cells of closures -/
def clA (g : Addr → Option Obj) (as : List Addr) : List Addr := as.flatMap fun a => match g a with
  | some o => (match o.data with
    | .func fd => fd.closure.map (·.2)
    | _ => [])
  | none => []
/-- the keyword-only defaults -/
def kwA (g : Addr → Option Obj) (as : List Addr) : List Addr := as.flatMap fun a => match g a with
  | some o => (match o.data with
    | .func fd => He.refV fd.kwdefaults
    | _ => [])
  | none => []
def asY (g : Addr → Option Obj) (l1 : List Addr) : List Addr := PySem.cStatics :: PySem.sysModules :: (asX g l1 ++ (clA g (nxA g (nxA g l1)) ++ kwA g (nxA g (nxA g l1))))
structure FSx where
  at_ : PySem.W.Frag → Addr
  name : Str
  qual : Str
  st : Stmt
  D : PySem.W.Frag → Addr
  file : Str
def FSx.obs (d : FSx) (K : PySem.W.Frag) : He.FnV := match K.lookup (d.at_ K) with
  | some ⟨_, _, .func fd, _⟩ => some (fd.name, fd.qualname, fd.params, fd.body, fd.scope, fd.globals, (fd.closure.map fun x => (x.1, (0 : Addr))), fd.defaults, fd.builtins)
  | _ => none
def FSx.val (d : FSx) : He.FnV := some (d.name, d.qual, defArgs d.st, .stmts (defBody d.st), defScope d.st, mainGlobals, [("__class__", (0 : Addr))], .none, builtinsNs)
def cellB (K : PySem.W.Frag) (cc D : Addr) : Bool := match K.lookup cc with
  | some ⟨_, _, .cell (some (.ref D')), _⟩ => decide (D' = D) && (PySem.W.clsIn K D).isSome
  | _ => false
def fileB (K : PySem.W.Frag) (cdv : Value) (file : Str) : Bool := match cdv with
  | .ref cda => (match K.lookup cda with
    | some ⟨_, _, .fields us, _⟩ => (match (us[2]? : Option Value) with
      | some (Value.str x _) => decide (x = file)
      | _ => false)
    | _ => false)
  | _ => false
def FSx.code (d : FSx) (K : PySem.W.Frag) : Bool := match K.lookup (d.at_ K) with
  | some ⟨_, _, .func fd, _⟩ => PySem.W.codeIn K fd.code d.qual && (fileB K fd.code d.file && (match fd.closure with
    | [(_, cc)] => cellB K cc (d.D K)
    | _ => false))
  | _ => false
theorem cellB_ok {K : PySem.W.Frag} {cc D : Addr} (h : cellB K cc D = true) : (∃ (cl : Value) (cld : Option Addr) (csl : Array (Option Value)), K.lookup cc = some ⟨cl, cld, .cell (some (.ref D)), csl⟩) ∧ ∃ cd, PySem.W.clsIn K D = some cd := by
  unfold cellB at h
  split at h
  · rename_i c dd D' sl ho
    obtain ⟨h1, h2⟩ := He.ba h
    have e : D' = D := of_decide_eq_true h1
    subst e
    exact ⟨⟨c, dd, sl, ho⟩, Option.isSome_iff_exists.mp h2⟩
  · cases h
theorem fileB_ok {K : PySem.W.Frag} {cdv : Value} {file : Str} (h : fileB K cdv file = true) : ∃ (cda : Addr) (ccl : Value) (cdd : Option Addr) (ccs : Array (Option Value)) (us : Array Value) (tf : Tok), cdv = .ref cda ∧ K.lookup cda = some ⟨ccl, cdd, .fields us, ccs⟩ ∧ us[2]? = some (.str file tf) := by
  unfold fileB at h
  split at h
  · rename_i cda
    split at h
    · rename_i c dd us sl ho
      split at h
      · rename_i x t hx
        have e : x = file := of_decide_eq_true h
        subst e
        exact ⟨cda, c, dd, sl, us, t, rfl, ho, hx⟩
      · cases h
    · cases h
  · cases h
/-- what a def with super() shows (FunS wants the name of the main file besides) -/
structure FunT (K : PySem.W.Frag) (name qual : Str) (st : Stmt) (f cc D : Addr) (fd : FuncData) (file : Str) : Prop where
  lk : ∃ (kV doc pm cdv ct oc : Value) (an od : Option Addr) (osl : Array (Option Value)), fd = PySem.W.fnX name qual (defArgs st) (defBody st) (defScope st) [("__class__", cc)] .none kV doc pm an cdv ct ∧ K.lookup f = some ⟨oc, od, .func fd, osl⟩ ∧ PySem.W.codeIn K cdv qual = true ∧
    ∃ (cda : Addr) (ccl : Value) (cdd : Option Addr) (ccs : Array (Option Value)) (us : Array Value) (tf : Tok), cdv = .ref cda ∧ K.lookup cda = some ⟨ccl, cdd, .fields us, ccs⟩ ∧ us[2]? = some (.str file tf)
  cl : ∃ (cl : Value) (cld : Option Addr) (csl : Array (Option Value)), K.lookup cc = some ⟨cl, cld, .cell (some (.ref D)), csl⟩
  dc : ∃ cd, PySem.W.clsIn K D = some cd
  kp : PySem.W.keepIn K (.ref f) = true
theorem fsx_ok {K : PySem.W.Frag} {d : FSx} (e : d.obs K = d.val) (c : d.code K = true) : ∃ cc fd, FunT K d.name d.qual d.st (d.at_ K) cc (d.D K) fd d.file := by
  have c2 : (match K.lookup (d.at_ K) with
    | some ⟨_, _, .func fd, _⟩ => PySem.W.codeIn K fd.code d.qual && (fileB K fd.code d.file && (match fd.closure with
      | [(_, cc)] => cellB K cc (d.D K)
      | _ => false))
    | _ => false) = true := c
  unfold FSx.obs at e
  cases q : K.lookup (d.at_ K) with
  | none =>
    rw [q] at c2
    cases c2
  | some o =>
    obtain ⟨oc, od, dt, osl⟩ := o
    rw [q] at c2 e
    cases dt with
    | func fd =>
      obtain ⟨n1, n2, n3, n4, n5, n6, n7, n8, n9, n10, n11, n12, n13, n14, n15⟩ := fd
      have e2 : (some (n1, n2, n3, n4, n5, n6, (n7.map fun x => (x.1, (0 : Addr))), n8, n15) : He.FnV) = (some (d.name, d.qual, defArgs d.st, .stmts (defBody d.st), defScope d.st, mainGlobals, [("__class__", (0 : Addr))], .none, builtinsNs) : He.FnV) := e
      simp only [Option.some.injEq, Prod.mk.injEq] at e2
      obtain ⟨h1, h2, h3, h4, h5, h6, h7, h8, h9⟩ := e2
      subst h1 h2 h3 h4 h5 h6 h8 h9
      match n7, h7, c2 with
      | [(y, cc)], h7, c2 =>
        have ey : y = "__class__" := congrArg Prod.fst (List.cons.inj h7).1
        subst ey
        obtain ⟨g1, c3⟩ := He.ba c2
        obtain ⟨g2, g3⟩ := He.ba c3
        obtain ⟨k1, k2⟩ := cellB_ok g3
        refine ⟨cc, _, ⟨_, _, _, _, _, oc, _, od, osl, rfl, q, g1, fileB_ok g2⟩, k1, k2, ?_⟩
        show (match K.lookup (d.at_ K) with
          | some ⟨_, _, .func _, _⟩ => true
          | some ⟨_, _, .cls _, _⟩ => PySem.W.specialIn K (.ref (d.at_ K)) "__call__" == some (some (.builtin "type.__call__"))
          | _ => false) = true
        rw [q]
    | _ => cases c2
/-! ### the Hook -/
def obsY (fb : PySem.W.Frag → Bool) (fn : List FDx) (fs : List FSx) (K : PySem.W.Frag) : AlX := ((fb K && fn.all fun d => d.code K) && fs.all fun d => d.code K, (fn.map fun d => d.obs K) ++ fs.map fun d => d.obs K)
def valY (fn : List FDx) (fs : List FSx) : AlX := (true, fn.map FDx.val ++ fs.map FSx.val)
def obsYG (fb : PySem.W.Frag → Bool) (fn : List FDx) (fs : List FSx) (g : Addr → Option Obj) : AlX := obsY fb fn fs (He.frG g (asY g (nxA g [mainGlobals])))
def hookY (fb : PySem.W.Frag → Bool) (fn : List FDx) (fs : List FSx) : PySem.W.Hook where
  α := AlX
  obs := fun s => obsYG fb fn fs s.heap.get?
  val := fun _ => valY fn fs
  says := fun _ h => ∃ K : PySem.W.Frag, K.In h ∧ obsY fb fn fs K = valY fn fs
  of := fun _ _ e => ⟨_, He.frG_in, e⟩
  keeps := fun _ _ _ ⟨K, hK, c⟩ k => ⟨K, PySem.W.Frag.In.keeps hK k, c⟩
theorem obsYG_eq {fb : PySem.W.Frag → Bool} {fn : List FDx} {fs : List FSx} {g : Addr → Option Obj} {s : Shared} (h : ∀ a, g a = s.heap.get? a) : obsYG fb fn fs g = (hookY fb fn fs).obs s := by
  have e : g = s.heap.get? := funext h
  rw [e] <;> rfl
section
variable {fb : PySem.W.Frag → Bool} {fn : List FDx} {fs : List FSx} {K : PySem.W.Frag}
theorem saysY_x (c : obsY fb fn fs K = valY fn fs) : obsX fb fn K = valX fn ∧ fs.all (fun d => d.code K) = true ∧ (fs.map fun d => d.obs K) = fs.map FSx.val := by
  have c1 : ((fb K && fn.all fun d => d.code K) && fs.all fun d => d.code K) = true := congrArg (fun z : AlX => z.1) c
  have c2 : (fn.map fun d => d.obs K) ++ (fs.map fun d => d.obs K) = fn.map FDx.val ++ fs.map FSx.val := congrArg (fun z : AlX => z.2) c
  obtain ⟨a, b⟩ := He.ba c1
  obtain ⟨e1, e2⟩ := List.append_inj c2 (by rw [List.length_map, List.length_map])
  refine ⟨?_, b, e2⟩
  show (fb K && fn.all fun d => d.code K, fn.map fun d => d.obs K) = (true, fn.map FDx.val)
  rw [a, e1]
theorem saysY_s (c : obsY fb fn fs K = valY fn fs) (i : Nat) {d : FSx} (h : fs[i]? = some d := by rfl) : ∃ cc fd, FunT K d.name d.qual d.st (d.at_ K) cc (d.D K) fd d.file := by
  obtain ⟨_, c2, e⟩ := saysY_x c
  have e2 : (fs.map fun d => d.obs K)[i]? = (fs.map FSx.val)[i]? := by rw [e]
  rw [List.getElem?_map, List.getElem?_map, h] at e2
  exact fsx_ok (Option.some.inj e2) (List.all_eq_true.mp c2 d (List.mem_of_getElem? h))
end
end XT
/-! a def with a keyword-only default None; a constant tuple of texts -/
namespace XT
open PySem PySem.Spec PyProof.Rows L2
def kwB (K : PySem.W.Frag) (f : Addr) (y : Str) : Bool := match K.lookup f with
  | some ⟨_, _, .func fd, _⟩ => (match fd.kwdefaults with
    | .ref D => decide (PySem.W.nsIn K D y = some (some .none))
    | _ => false)
  | _ => false
theorem funD_of {K : PySem.W.Frag} {x q y : Str} {st : Stmt} {f : Addr} {oc kV doc pm cdv ct : Value} {od an : Option Addr} {osl : Array (Option Value)}
    (l : K.lookup f = some ⟨oc, od, .func (PySem.W.fnOf x q (defArgs st) (defBody st) (defScope st) .none kV doc pm an cdv ct), osl⟩) (c : PySem.W.codeIn K cdv q = true) (k : PySem.W.keepIn K (.ref f) = true) (h : kwB K f y = true) :
    FunD K x q (defArgs st) (defBody st) (defScope st) [] [(y, .non)] f (PySem.W.fnOf x q (defArgs st) (defBody st) (defScope st) .none kV doc pm an cdv ct) := by
  refine ⟨⟨oc, od, .none, kV, doc, pm, an, cdv, ct, osl, rfl, l, c, .inl ⟨rfl, rfl⟩, .inr ?_⟩, k⟩
  unfold kwB at h
  rw [l] at h
  cases kV with
  | ref D =>
    refine ⟨D, rfl, fun q hq => ?_⟩
    rw [List.mem_singleton.mp hq]
    exact ⟨.none, of_decide_eq_true h, rfl⟩
  | _ => cases h
/-- the def of a staticmethod, by its record -/
def xM (K : PySem.W.Frag) (p : Addr) : Addr := match PySem.W.recIn K p "staticmethod" with
  | some (.ref g :: _) => g
  | _ => 0
def xMr (K : PySem.W.Frag) (p : Addr) : List Value := match PySem.W.recIn K p "staticmethod" with
  | some (_ :: r) => r
  | _ => []
/-- an object that a class's attribute is -/
def cvB (K : PySem.W.Frag) (C : Addr) (f : Str) (N : Addr) : Bool := match PySem.W.findCls K (.ref C) (.type "type") f with
  | some (.val (.ref a)) => decide (a = N)
  | _ => false
theorem cvB_ok {K : PySem.W.Frag} {C N : Addr} {f : Str} (h : cvB K C f N = true) : PySem.W.findCls K (.ref C) (.type "type") f = some (.val (.ref N)) := by
  unfold cvB at h
  split at h
  · rename_i a e
    rw [e, of_decide_eq_true h]
  · cases h
def strVv : Value → Option Str
  | .str x _ => some x
  | _ => none
def strsB (K : PySem.W.Frag) (N : Addr) (xs : List Str) : Bool := match K.lookup N with
  | some ⟨c, _, .seq its _, _⟩ => (c == .type "tuple") && (decide (its.toList.map strVv = xs.map some) && decide (xs.length ≤ 1000))
  | _ => false
theorem vals_strs : ∀ {us : List Value} {xs : List Str}, us.map strVv = xs.map some → Vals (xs.map V.str) us
  | [], [], _ => .nil
  | u :: us, x :: xs, h => by
    have h := List.cons.inj h
    refine .cons ?_ (vals_strs h.2)
    have h1 := h.1
    cases u with
    | str y t =>
      cases h1
      exact ⟨t, rfl⟩
    | _ => cases h1
theorem sqT_strs {K : PySem.W.Frag} {N : Addr} {xs : List Str} (h : strsB K N xs = true) (H : Hp) : SqT K H N (xs.map V.str) := by
  unfold strsB at h
  split at h
  · rename_i c dd its n sl ho
    obtain ⟨h1, h2⟩ := He.ba h
    obtain ⟨h2, h3⟩ := He.ba h2
    have e := of_decide_eq_true h2
    have l : its.size = xs.length := by
      have := congrArg List.length e
      rw [List.length_map, List.length_map] at this
      simpa using this
    refine .inr ⟨_, its, n, ho, ?_, rfl, ?_, vals_strs e⟩
    · exact beq_iff_eq.mp h1
    · rw [l]
      have := of_decide_eq_true h3
      rw [sizeLine_eq]
      omega
  · cases h
end XT
/-! a classmethod read through a class, told by a test -/
namespace XT
open PySem PySem.Spec PyProof.Rows L2
def cmB (K : PySem.W.Frag) (C p : Addr) (m : Str) : Bool := match PySem.W.findCls K (.ref C) (.type "type") m with
  | some (.get (.builtin b) (.ref a) .none (.ref D)) => decide (b = "classmethod.__get__") && (decide (a = p) && decide (D = C))
  | _ => false
theorem cmB_ok {K : PySem.W.Frag} {C p : Addr} {m : Str} (h : cmB K C p m = true) : PySem.W.findCls K (.ref C) (.type "type") m = some (.get (.builtin "classmethod.__get__") (.ref p) .none (.ref C)) := by
  unfold cmB at h
  split at h
  · rename_i b a D e
    rw [Bool.and_eq_true, Bool.and_eq_true, decide_eq_true_eq, decide_eq_true_eq, decide_eq_true_eq] at h
    obtain ⟨rfl, rfl, rfl⟩ := h
    exact e
  · cases h
end XT
/-! what an operator of an own class wants of the built-in types, told by a test -/
namespace XT
open PySem PySem.Spec PyProof.Rows L2
def opBt : List String := ["NoneType", "bool", "int", "str", "list", "tuple", "dict"]
def opB (K : PySem.W.Frag) (C : Addr) (op : Operator) : Bool := (PySem.W.findIn K (.ref C) (dunderR op.info.2) == some none) && opBt.all fun T => (PySem.W.findIn K (.type T) (PySem.dunder op.info.2)).isSome && (PySem.W.findIn K (.type T) (dunderR op.info.2)).isSome
end XT
namespace XT
open PySem PySem.Spec PyProof.Rows L2
/-! heaps -/
theorem same_new {H : Hp} {p : Addr} {o : HO} (h : H p = none) : Same H (upd H p o) := fun b x e => by
  rw [upd_ne (ne_of_none e h)]; exact e

/-- a stream: its own list, the list of its great cells, the list of its cells -/
structure Sm where
  s : Addr
  p : Addr
  q : Addr
  cs : List Int
structure StrmB (S : Sm) (H : Hp) (t : Int) (big : List Int) : Prop where
  hs : H S.s = some (.lst [.ref S.p, .ref S.q, .int t])
  hp : H S.p = some (.lst (big.map V.int))
  hq : H S.q = some (.lst (S.cs.map V.int))
  sp : S.s ≠ S.p
  sq : S.s ≠ S.q
  pq : S.p ≠ S.q
  ne : 0 < S.cs.length
  t0 : 0 ≤ t
def Strm (S : Sm) (H : Hp) (t : Int) : Prop := ∃ big, StrmB S H t big
def Keep (S : Sm) (H H' : Hp) : Prop := ∀ b o, b ≠ S.s → b ≠ S.p → H b = some o → H' b = some o
theorem Keep.refl (S : Sm) (H : Hp) : Keep S H H := fun _ _ _ _ h => h
theorem Keep.trans {S : Sm} {H H1 H2 : Hp} (a : Keep S H H1) (b : Keep S H1 H2) : Keep S H H2 := fun c o n1 n2 h => b c o n1 n2 (a c o n1 n2 h)
theorem Keep.of {S : Sm} {H H' : Hp} (a : Same H H') : Keep S H H' := fun c o _ _ h => a c o h
theorem StrmB.same {S : Sm} {H H' : Hp} {t : Int} {big : List Int} (h : StrmB S H t big) (e : Same H H') : StrmB S H' t big :=
  ⟨e _ _ h.hs, e _ _ h.hp, e _ _ h.hq, h.sp, h.sq, h.pq, h.ne, h.t0⟩
theorem Strm.same {S : Sm} {H H' : Hp} {t : Int} (h : Strm S H t) (e : Same H H') : Strm S H' t := let ⟨b, h⟩ := h; ⟨b, h.same e⟩
theorem Strm.ns {S : Sm} {H : Hp} {t : Int} {b : Addr} {xs : List V} (h : Strm S H t) (e : H b = some (.tup xs)) : b ≠ S.s := by
  obtain ⟨_, h⟩ := h
  exact ne_of e h.hs (by intro z; cases z)
theorem Strm.np {S : Sm} {H : Hp} {t : Int} {b : Addr} {xs : List V} (h : Strm S H t) (e : H b = some (.tup xs)) : b ≠ S.p := by
  obtain ⟨_, h⟩ := h
  exact ne_of e h.hp (by intro z; cases z)
theorem Keep.tup {S : Sm} {H H' : Hp} {t : Int} {b : Addr} {xs : List V} (k : Keep S H H') (h : Strm S H t) (e : H b = some (.tup xs)) : H' b = some (.tup xs) :=
  k b _ (h.ns e) (h.np e) e
theorem Keep.free {S : Sm} {H H' : Hp} {t : Int} {x : Addr} (k : Keep S H H') (h : Strm S H' t) (e : H' x = none) : H x = none := by
  obtain ⟨_, h⟩ := h
  cases q : H x with
  | none => rfl
  | some o =>
    by_cases h1 : x = S.s
    · rw [h1, h.hs] at e; cases e
    · by_cases h2 : x = S.p
      · rw [h2, h.hp] at e; cases e
      · rw [k x o h1 h2 q] at e; cases e
/-- a list of one's own, new behind H, is neither of the stream's -/
theorem Keep.mine {S : Sm} {H H' H2 : Hp} {t : Int} {x : Addr} {o : HO} (k : Keep S H' H2) (h : Strm S H t) (n : H x = none) (e : H' x = some o) : H2 x = some o := by
  obtain ⟨_, h⟩ := h
  refine k x o (fun z => ?_) (fun z => ?_) e
  · rw [z, h.hs] at n; cases n
  · rw [z, h.hp] at n; cases n

theorem dpInts {K : PySem.W.Frag} {H : Hp} : ∀ ns : List Int, DpAll K H (ns.map V.int) (ns.map PyData.int)
  | [] => .nil
  | n :: ns => .cons (.int n) (dpInts ns)
theorem ke_shaped (ns : List Int) : SeqAt.shaped (.list (ns.map PyData.int)) = true := by
  have h1 : ∀ ns : List Int, PyData.canLay0 (.list (ns.map PyData.int)) = true := by
    intro ns
    induction ns with
    | nil => rfl
    | cons n ns ih => simpa [PyData.canLay0, PyData.canLayAll0] using ih
  have h2 : ∀ ns : List Int, PyData.depth (.list (ns.map PyData.int)) ≤ 2 := by
    intro ns
    induction ns with
    | nil => decide
    | cons n ns ih => simp only [PyData.depth, PyData.depthAll, List.map] at ih ⊢; omega
  unfold SeqAt.shaped
  rw [h1 ns, decide_eq_true (Nat.le_trans (h2 ns) (by decide))]
  rfl
theorem ix0 {n : Nat} (h : 0 < n) : ixN n 0 = some 0 := by
  have h2 : (0 : Int) < n := by omega
  simp [ixN]; omega
theorem sq0 {n : Nat} (h : 0 < n) : seqIndex? 0 n = some 0 := (ixN_seq (ix0 h)).1
theorem pm31 {x : Int} : x % 2147483647 < 2147483647 ∧ 0 ≤ x % 2147483647 := ⟨Int.emod_lt_of_pos _ (by decide), Int.emod_nonneg _ (by decide)⟩
theorem pm87 {x : Int} : x % 2147483587 < 2147483587 ∧ 0 ≤ x % 2147483587 := ⟨Int.emod_lt_of_pos _ (by decide), Int.emod_nonneg _ (by decide)⟩

def spDraw : Sp := fun vs H Q _ => ∃ (S : Sm) (t m : Int), vs = [.ref S.s, .int m] ∧ Strm S H t ∧ 0 < m ∧ m < 1073741824 ∧ t < 1000000000000 ∧
  ∀ (H' : Hp) (r t' : Int), Keep S H H' → Strm S H' t' → t ≤ t' → t' ≤ t + 1 → 0 ≤ r → r < m → Q (.int r) H'
theorem sz {n : Nat} (h : n ≤ 1000) : n ≤ sizeLine := Nat.le_trans h (by decide)
theorem small64 {n : Nat} (h : n ≤ 1000) : n < sizeLine := Nat.lt_of_le_of_lt h (by decide)
def ab (i : Int) : Int := if i < 0 then -i else i
def spStream (K : PySem.W.Frag) : Sp := fun vs H Q _ => ∃ (a : Addr) (ns : List Int), vs = [.ref a] ∧ SqL K H a (ns.map V.int) ∧ ns.length ≤ 63 ∧
  ∀ (H' : Hp) (S : Sm), Same H H' → Strm S H' 0 → Q (.ref S.s) H'
end XT
namespace XT
open PySem PySem.Spec PyProof.Rows L2

def topS (i : Nat) : Stmt := PySem.Challenge.pw_xorturns_k54_errors_of_operators.main.body.getD i (.Pass ⟨0, 0, 0, 0⟩)
abbrev sWall : Stmt := topS 0
def sOW : Stmt := match topS 4 with | .ClassDef _ _ _ (s :: _) .. => s | _ => topS 4
abbrev sNum : Stmt := topS 12
abbrev sIsW : Stmt := topS 13
abbrev sMask : Stmt := topS 14
abbrev sLotE : Stmt := topS 15
abbrev sCheckLot : Stmt := topS 16
abbrev sMaskE : Stmt := topS 17
abbrev sTurned : Stmt := topS 18
abbrev sRest : Stmt := topS 19
abbrev sLeft : Stmt := topS 20
abbrev sUnited : Stmt := topS 21
abbrev sShared : Stmt := topS 22
abbrev sWidth : Stmt := topS 23
abbrev sPairCounts : Stmt := topS 25
abbrev sSumOf : Stmt := topS 27
abbrev sGreatestAddend : Stmt := topS 28
abbrev sDigitsOf : Stmt := topS 30
abbrev sPatternsOf : Stmt := topS 31
abbrev sWordsOrNone : Stmt := topS 33
def sMsInit : Stmt := match topS 34 with | .ClassDef _ _ _ b .. => b.getD 0 (topS 34) | _ => topS 34
def sMsOfWide : Stmt := match topS 34 with | .ClassDef _ _ _ b .. => b.getD 1 (topS 34) | _ => topS 34
def sMsLot : Stmt := match topS 34 with | .ClassDef _ _ _ b .. => b.getD 2 (topS 34) | _ => topS 34
def sMsWidth : Stmt := match topS 34 with | .ClassDef _ _ _ b .. => b.getD 3 (topS 34) | _ => topS 34
def sMsMasks : Stmt := match topS 34 with | .ClassDef _ _ _ b .. => b.getD 4 (topS 34) | _ => topS 34
def sMsKeepers : Stmt := match topS 34 with | .ClassDef _ _ _ b .. => b.getD 5 (topS 34) | _ => topS 34
def sMsXor : Stmt := match topS 34 with | .ClassDef _ _ _ b .. => b.getD 6 (topS 34) | _ => topS 34
def sMsOr : Stmt := match topS 34 with | .ClassDef _ _ _ b .. => b.getD 7 (topS 34) | _ => topS 34
def sMsAnd : Stmt := match topS 34 with | .ClassDef _ _ _ b .. => b.getD 8 (topS 34) | _ => topS 34
def sMsSub : Stmt := match topS 34 with | .ClassDef _ _ _ b .. => b.getD 9 (topS 34) | _ => topS 34
def sMsAdd : Stmt := match topS 34 with | .ClassDef _ _ _ b .. => b.getD 10 (topS 34) | _ => topS 34
def sMsInvert : Stmt := match topS 34 with | .ClassDef _ _ _ b .. => b.getD 11 (topS 34) | _ => topS 34
def sMsContains : Stmt := match topS 34 with | .ClassDef _ _ _ b .. => b.getD 12 (topS 34) | _ => topS 34
def sMsGetitem : Stmt := match topS 34 with | .ClassDef _ _ _ b .. => b.getD 13 (topS 34) | _ => topS 34
def sMsIter : Stmt := match topS 34 with | .ClassDef _ _ _ b .. => b.getD 14 (topS 34) | _ => topS 34
def sMsCall : Stmt := match topS 34 with | .ClassDef _ _ _ b .. => b.getD 15 (topS 34) | _ => topS 34
def sMsEq : Stmt := match topS 34 with | .ClassDef _ _ _ b .. => b.getD 16 (topS 34) | _ => topS 34
def sMsWithin : Stmt := match topS 34 with | .ClassDef _ _ _ b .. => b.getD 17 (topS 34) | _ => topS 34
def sMsAddend : Stmt := match topS 34 with | .ClassDef _ _ _ b .. => b.getD 18 (topS 34) | _ => topS 34
def sMsLen : Stmt := match topS 34 with | .ClassDef _ _ _ b .. => b.getD 19 (topS 34) | _ => topS 34
def sMsBool : Stmt := match topS 34 with | .ClassDef _ _ _ b .. => b.getD 20 (topS 34) | _ => topS 34
def sMsStr : Stmt := match topS 34 with | .ClassDef _ _ _ b .. => b.getD 21 (topS 34) | _ => topS 34
abbrev sStream : Stmt := topS 36
abbrev sDraw : Stmt := topS 37
abbrev sLOdd : Stmt := topS 38
abbrev sLIsInt : Stmt := topS 39
abbrev sDrawn : Stmt := topS 40
abbrev sLMoved : Stmt := topS 41
abbrev sLPairs : Stmt := topS 42
abbrev sLSetError : Stmt := topS 43
abbrev sLMasked : Stmt := topS 44
abbrev sLCombined : Stmt := topS 45
abbrev sLaw : Stmt := topS 46

theorem scD : FnScope ["_law_stream_here", "_law_many", "_law_rest", "_law_turn", "_law_cell", "_law_mixed"] ["_law_stream_here", "_law_many"] (defScope sDraw) := ⟨rfl, rfl, rfl, by decide +kernel, rfl, by decide +kernel, by decide +kernel⟩
section
variable {P : Program} {w : World} {K : PySem.W.Frag} {mg : Str → Option Value} {base : Heap}
theorem ok_draw {f : Addr} {fd : FuncData} {k : Nat} (F : Fun K "_law_draw" "_law_draw" sDraw f fd) (ml : mg "len" = none) : FnOk P w K mg base CX0 (k + 1) f fd ["_law_stream_here", "_law_many"] spDraw := by
  refine F.ok scD (fun vs H Q E h => ?_) (fun cdv A outer s H vs Q E hr h => ?_)
  · obtain ⟨S, t, m, rfl, _⟩ := h
    rfl
  · obtain ⟨S, t, m, rfl, ⟨big0, hS0⟩, m0, m1, t1, q⟩ := h
    refine ⟨_, pss_cons (ps_while PassesOwn.never
        (pt_cmpR (op_neD hr.units) (pe_ix ix_list (pv 0) pe_int (fun _ _ => rfl)) (pe_lst pa_nil) (nomark _))
        (pss_cons (ps_set (i := 2) scD.nd rfl (.inl rfl) (pe_ix ix_list (pe_ix ix_list (pv 0) pe_int (fun _ _ => rfl)) pe_int (fun _ _ => rfl)))
        (pss_cons (ps_if (pt_cmpR op_gt (pv 2) pe_int (nomark _))
          (pss_cons (ps_asg (pe_op op_fdiv (pv 2) (pv 1)) (pg_sub (pe_ix ix_list (pv 0) pe_int (fun _ _ => rfl)) pe_int set_list))
          (pss_one (ps_ret (pe_op op_mod (pv 2) (pv 1))))) pss_nil)
        (pss_one (ps_expr (pe_bm PySem.F.plainAttrs_list PySem.F.slot_list_pop PySem.F.type_list_pop mt_popAt (pe_ix ix_list (pv 0) pe_int (fun _ _ => rfl)) (pa_cons pe_int pa_nil)))))))
      (pss_cons (ps_set (i := 3) scD.nd rfl (.inl rfl) (pe_op op_add (pe_ix ix_list (pv 0) pe_int (fun _ _ => rfl)) pe_int))
      (pss_cons (ps_asg (pv 3) (pg_sub (pv 0) pe_int set_list))
      (pss_cons (ps_set (i := 4) scD.nd rfl (.inl rfl) (pe_op op_mod (pe_ix ix_list (pe_ix ix_list (pv 0) pe_int (fun _ _ => rfl)) (pe_op op_mod (pv 3) (pe_callB call_len_seq (by rfl) ml PySem.boot_len (pa_cons (pe_ix ix_list (pv 0) pe_int (fun _ _ => rfl)) pa_nil))) (fun _ _ => rfl)) pe_int))
      (pss_cons (ps_set (i := 5) scD.nd rfl (.inl rfl) (pe_op op_mod (pe_op op_add (pe_op op_add (pe_op op_mul (pv 4) (pe_op op_add pe_int (pe_op op_mul pe_int (pv 3)))) (pe_op op_mul (pe_op op_mul pe_int (pv 3)) (pv 3))) pe_int) pe_int))
      (pss_one (ps_ret (pe_op op_mod (pe_op op_fdiv (pe_op op_mod (pe_op op_mul (pv 5) (pv 5)) pe_int) pe_int) (pv 1)))))))), ?_⟩
    refine ⟨fun n σ H1 => ∃ big y2, σ = [some (.ref S.s), some (.int m), y2, none, none, none] ∧ n = big.length ∧ StrmB S H1 t big ∧ Keep S H H1,
      ⟨big0.length, big0, none, rfl, rfl, hS0, Keep.refl S H⟩, ?_⟩
    rintro n σ H1 ⟨big, y2, rfl, rfl, hS, hk⟩
    -- while stream[0] != []
    refine ⟨.ref S.s, rfl, S.s, _, 0, .ref S.p, rfl, rfl, SqL.of hS.hs, rfl, Nat.zero_le _, fun z nz => ?_⟩
    have sm : Same H1 (upd H1 z (.lst [])) := same_new nz
    have hz : (upd H1 z (.lst [])) z = some (.lst []) := upd_same
    have hS' := hS.same sm
    have hk' : Keep S H (upd H1 z (.lst [])) := hk.trans (Keep.of sm)
    generalize upd H1 z (.lst []) = H2 at *
    clear hS hk sm nz
    refine ⟨_, _, .lst (SqL.of hS'.hp) (dpInts big), .lst (SqL.of hz) .nil, ke_shaped big, rfl, _, rfl, ?_⟩
    cases big with
    | cons x rest =>
      have e : (!PyData.eqv (.list ((x :: rest).map PyData.int)) (.list [])) = true := rfl
      rw [e]
      refine iteT ?_
      refine ⟨fun σ' H' => ∃ y2, σ' = [some (.ref S.s), some (.int m), y2, none, none, none] ∧ StrmB S H' t rest ∧ Keep S H H', ?_, ?_⟩
      · rintro σ' H' ⟨y, rfl, h1, h2⟩
        exact ⟨rest.length, Nat.lt_succ_self _, rest, y, rfl, rfl, h1, h2⟩
      · refine ⟨.ref S.s, rfl, S.s, _, 0, .ref S.p, rfl, rfl, SqL.of hS'.hs, rfl, S.p, _, 0, .int x, rfl, rfl, SqL.of hS'.hp, atI_nat (j := 0) rfl, ?_⟩
        refine ⟨.int x, rfl, x, 0, rfl, rfl, _, rfl, ite2 (fun hx => ?_) (fun hx => ?_)⟩
        · refine ⟨.int x, rfl, .int m, rfl, x, m, rfl, rfl, ⟨m0, m1⟩, ?_⟩
          refine ⟨.ref S.s, rfl, S.s, _, 0, .ref S.p, rfl, rfl, SqL.of hS'.hs, rfl, S.p, _, 0, 0, rfl, rfl, hS'.hp, ix0 (Nat.succ_pos _), ?_⟩
          refine ⟨.int x, rfl, .int m, rfl, x, m, rfl, rfl, m0, ?_⟩
          refine q _ _ t (fun b o n1 n2 eb => ?_) ⟨(x / m) :: rest, ?_⟩ (Int.le_refl _) (by omega) (Int.emod_nonneg _ (by omega)) (Int.emod_lt_of_pos _ m0)
          · rw [upd_ne n2]; exact hk' b o n1 n2 eb
          · refine ⟨?_, upd_same, ?_, hS'.sp, hS'.sq, hS'.pq, hS'.ne, hS'.t0⟩
            · rw [upd_ne hS'.sp]; exact hS'.hs
            · rw [upd_ne hS'.pq.symm]; exact hS'.hq
        · refine ⟨.ref S.s, rfl, S.s, _, 0, .ref S.p, rfl, rfl, SqL.of hS'.hs, rfl, .inl ⟨rfl, _, SqL.of hS'.hp⟩, S.p, _, 0, 0, .int x, rfl, rfl, hS'.hp, by decide, by decide, sq0 (Nat.succ_pos _), rfl, ?_⟩
          refine ⟨_, rfl, ⟨?_, upd_same, ?_, hS'.sp, hS'.sq, hS'.pq, hS'.ne, hS'.t0⟩, fun b o n1 n2 eb => ?_⟩
          · rw [upd_ne hS'.sp]; exact hS'.hs
          · rw [upd_ne hS'.pq.symm]; exact hS'.hq
          · rw [upd_ne n2]; exact hk' b o n1 n2 eb
    | nil =>
      have e : (!PyData.eqv (.list (([] : List Int).map PyData.int)) (.list [])) = false := rfl
      rw [e]
      refine iteF ?_
      have t0 := hS'.t0
      -- turn = stream[2] + 1; stream[2] = turn
      refine ⟨.ref S.s, rfl, S.s, _, 2, .int t, rfl, rfl, SqL.of hS'.hs, rfl, t, 1, rfl, rfl, ?_⟩
      refine ⟨.int (t + 1), rfl, .ref S.s, rfl, S.s, _, 2, 2, rfl, rfl, hS'.hs, rfl, ?_⟩
      generalize hH3 : upd H2 S.s (.lst ([V.ref S.p, .ref S.q, .int t].set 2 (.int (t + 1)))) = H3
      have hS3 : StrmB S H3 (t + 1) [] := by
        subst hH3
        refine ⟨upd_same, ?_, ?_, hS'.sp, hS'.sq, hS'.pq, hS'.ne, by omega⟩
        · rw [upd_ne hS'.sp.symm]; exact hS'.hp
        · rw [upd_ne hS'.sq.symm]; exact hS'.hq
      have hk3 : Keep S H H3 := fun b o n1 n2 eb => by
        subst hH3
        rw [upd_ne n1]; exact hk' b o n1 n2 eb
      clear hH3
      -- cell
      have hl : (0 : Int) < ((S.cs.map V.int).length : Nat) := by rw [List.length_map]; have := hS'.ne; omega
      have hm1 : (t + 1) % ((S.cs.map V.int).length : Nat) < ((S.cs.map V.int).length : Nat) := Int.emod_lt_of_pos _ hl
      have hm0 : 0 ≤ (t + 1) % ((S.cs.map V.int).length : Nat) := Int.emod_nonneg _ (by omega)
      obtain ⟨j, hj⟩ : ∃ j : Nat, (t + 1) % ((S.cs.map V.int).length : Nat) = j := ⟨_, (Int.toNat_of_nonneg hm0).symm⟩
      have hjl : j < S.cs.length := by rw [List.length_map] at hm1 hj; omega
      have hat : atI (S.cs.map V.int) ((t + 1) % ((S.cs.map V.int).length : Nat)) = some (.int S.cs[j]) := by
        rw [hj]
        refine atI_nat ?_
        rw [List.getElem?_map, List.getElem?_eq_getElem hjl]
        rfl
      refine ⟨.ref S.s, rfl, S.s, _, 1, .ref S.q, rfl, rfl, SqL.of hS3.hs, rfl, .int (t + 1), rfl, .ref S.s, rfl, S.s, _, 1, .ref S.q, rfl, rfl, SqL.of hS3.hs, rfl, S.q, _, rfl, .inl (SqL.of hS3.hq), _, _, rfl, rfl, hl, ?_⟩
      have k87 : (0 : Int) < 2147483587 := by decide
      have k47 : (0 : Int) < 2147483647 := by decide
      have k29 : (0 : Int) < 2147483629 := by decide
      refine ⟨S.q, _, _, .int S.cs[j], rfl, rfl, SqL.of hS3.hq, hat, S.cs[j], _, rfl, rfl, k87, ?_⟩
      obtain ⟨c1, c0⟩ := pm87 (x := S.cs[j])
      obtain ⟨c, hc⟩ : ∃ c, S.cs[j] % 2147483587 = c := ⟨_, rfl⟩
      rw [hc] at c1 c0
      -- mixed
      refine ⟨.int c, congrArg (fun x => some (some (V.int x))) hc, .int (t + 1), rfl, 40692, t + 1, rfl, rfl, .inl ⟨by decide, by decide⟩, 69621, 40692 * (t + 1), rfl, rfl, c, 69621 + 40692 * (t + 1), rfl, rfl, .inl ⟨by omega, by omega⟩, ?_⟩
      refine ⟨.int (t + 1), rfl, 48271, t + 1, rfl, rfl, .inl ⟨by decide, by decide⟩, .int (t + 1), rfl, 48271 * (t + 1), t + 1, rfl, rfl, .inr ⟨by omega, by omega⟩, c * (69621 + 40692 * (t + 1)), 48271 * (t + 1) * (t + 1), rfl, rfl, _, 47, rfl, rfl, c * (69621 + 40692 * (t + 1)) + 48271 * (t + 1) * (t + 1) + 47, 2147483647, rfl, rfl, k47, ?_⟩
      obtain ⟨d1, d0⟩ := pm31 (x := c * (69621 + 40692 * (t + 1)) + 48271 * (t + 1) * (t + 1) + 47)
      obtain ⟨d, hd⟩ : ∃ d, (c * (69621 + 40692 * (t + 1)) + 48271 * (t + 1) * (t + 1) + 47) % 2147483647 = d := ⟨_, rfl⟩
      rw [hd] at d1 d0
      have ed : some (some (V.int ((c * (69621 + 40692 * (t + 1)) + 48271 * (t + 1) * (t + 1) + 47) % 2147483647))) = some (some (V.int d)) := congrArg (fun x => some (some (V.int x))) hd
      refine ⟨.int d, ed, .int d, ed, d, d, rfl, rfl, .inl ⟨by omega, by omega⟩, d * d, 2147483629, rfl, rfl, k29, d * d % 2147483629, 16, rfl, rfl, ⟨by decide, by decide⟩, .int m, rfl, _, m, rfl, rfl, m0, ?_⟩
      exact q _ _ (t + 1) hk3 ⟨_, hS3⟩ (by omega) (Int.le_refl _) (Int.emod_nonneg _ (by omega)) (Int.emod_lt_of_pos _ m0)
end
end XT
namespace XT
open PySem PySem.Spec PyProof.Rows L2
/-! the head -/
def hsINoMask : Stmt := match topS 8 with | .ClassDef _ _ _ b .. => b.getD 0 (topS 8) | _ => topS 8
def hsIOtherWidth : Stmt := match topS 4 with | .ClassDef _ _ _ b .. => b.getD 0 (topS 4) | _ => topS 4
def hb0 (K : PySem.W.Frag) : Prop := (PySem.W.nsIn K mainGlobals "_wall" = some (some (.ref (He.ga K "_wall")))) ∧ (PySem.W.nsIn K mainGlobals "is_number" = some (some (.ref (He.ga K "is_number")))) ∧ (PySem.W.nsIn K mainGlobals "is_width" = some (some (.ref (He.ga K "is_width")))) ∧ (PySem.W.nsIn K mainGlobals "is_mask" = some (some (.ref (He.ga K "is_mask")))) ∧ (PySem.W.nsIn K mainGlobals "lot_error" = some (some (.ref (He.ga K "lot_error")))) ∧ (PySem.W.nsIn K mainGlobals "check_lot" = some (some (.ref (He.ga K "check_lot")))) ∧ (PySem.W.nsIn K mainGlobals "mask_error" = some (some (.ref (He.ga K "mask_error")))) ∧ (PySem.W.nsIn K mainGlobals "turned" = some (some (.ref (He.ga K "turned")))) ∧ (PySem.W.nsIn K mainGlobals "rest_of" = some (some (.ref (He.ga K "rest_of")))) ∧ (PySem.W.nsIn K mainGlobals "left_over" = some (some (.ref (He.ga K "left_over")))) ∧ (PySem.W.nsIn K mainGlobals "united" = some (some (.ref (He.ga K "united")))) ∧ (PySem.W.nsIn K mainGlobals "shared" = some (some (.ref (He.ga K "shared")))) ∧ (PySem.W.nsIn K mainGlobals "common_width" = some (some (.ref (He.ga K "common_width")))) ∧ (PySem.W.nsIn K mainGlobals "pair_counts" = some (some (.ref (He.ga K "pair_counts")))) ∧ (PySem.W.nsIn K mainGlobals "sum_of" = some (some (.ref (He.ga K "sum_of")))) ∧ (PySem.W.nsIn K mainGlobals "greatest_addend" = some (some (.ref (He.ga K "greatest_addend")))) ∧ (PySem.W.nsIn K mainGlobals "digits_of" = some (some (.ref (He.ga K "digits_of")))) ∧ (PySem.W.nsIn K mainGlobals "patterns_of" = some (some (.ref (He.ga K "patterns_of")))) ∧ (PySem.W.nsIn K mainGlobals "words_or_none" = some (some (.ref (He.ga K "words_or_none")))) ∧ (PySem.W.nsIn K mainGlobals "_law_stream" = some (some (.ref (He.ga K "_law_stream")))) ∧ True
set_option synthInstance.maxSize 100000 in
set_option synthInstance.maxHeartbeats 0 in
instance hd0 (K : PySem.W.Frag) : Decidable (hb0 K) := by
  unfold hb0
  infer_instance
def hb1 (K : PySem.W.Frag) : Prop := (PySem.W.nsIn K mainGlobals "_law_draw" = some (some (.ref (He.ga K "_law_draw")))) ∧ (PySem.W.nsIn K mainGlobals "_law_odd" = some (some (.ref (He.ga K "_law_odd")))) ∧ (PySem.W.nsIn K mainGlobals "_law_is_int" = some (some (.ref (He.ga K "_law_is_int")))) ∧ (PySem.W.nsIn K mainGlobals "_law_drawn" = some (some (.ref (He.ga K "_law_drawn")))) ∧ (PySem.W.nsIn K mainGlobals "_law_moved" = some (some (.ref (He.ga K "_law_moved")))) ∧ (PySem.W.nsIn K mainGlobals "_law_pairs" = some (some (.ref (He.ga K "_law_pairs")))) ∧ (PySem.W.nsIn K mainGlobals "_law_set_error" = some (some (.ref (He.ga K "_law_set_error")))) ∧ (PySem.W.nsIn K mainGlobals "_law_masked" = some (some (.ref (He.ga K "_law_masked")))) ∧ (PySem.W.nsIn K mainGlobals "_law_combined" = some (some (.ref (He.ga K "_law_combined")))) ∧ (PySem.W.nsIn K mainGlobals "law" = some (some (.ref (He.ga K "law")))) ∧ (PySem.W.nsIn K mainGlobals "MAX_WIDTH" = some (some (.int 6 (xTk K "MAX_WIDTH")))) ∧ (PySem.W.nsIn K mainGlobals "MaskSet" = some (some (.ref (He.ga K "MaskSet")))) ∧ (PySem.W.plainGet K (He.ga K "MaskSet") Str.empty = true) ∧ (PySem.W.hasDictIn K (He.ga K "MaskSet") = true) ∧ (PySem.W.plainOver K (He.ga K "MaskSet") = true) ∧ (PySem.W.findIn K (.ref (He.ga K "MaskSet")) "__setattr__" = some (some (.builtin "object.__setattr__"))) ∧ (PySem.W.findIn K (.ref (He.ga K "MaskSet")) "held" = some none) ∧ (PySem.W.selfFirst K (He.ga K "MaskSet") = true) ∧ (PySem.W.findIn K (.ref (He.ga K "MaskSet")) "__init__" = some (some (.ref (He.ma K (He.ga K "MaskSet") "__init__")))) ∧ (PySem.W.isFn K (.ref (He.ma K (He.ga K "MaskSet") "__init__")) = true) ∧ True
set_option synthInstance.maxSize 100000 in
set_option synthInstance.maxHeartbeats 0 in
instance hd1 (K : PySem.W.Frag) : Decidable (hb1 K) := by
  unfold hb1
  infer_instance
def hb2 (K : PySem.W.Frag) : Prop := (PySem.W.keepIn K (.ref (He.ma K (He.ga K "MaskSet") "__init__")) = true) ∧ (PySem.W.makesIn K (He.ga K "MaskSet") = true) ∧ (PySem.W.keepIn K (.ref (He.ga K "MaskSet")) = true) ∧ (PySem.W.findIn K (.ref (He.ga K "MaskSet")) "lot" = some (some (.ref (He.ma K (He.ga K "MaskSet") "lot")))) ∧ (PySem.W.specialIn K (.ref (He.ma K (He.ga K "MaskSet") "lot")) "__get__" = some (some (.builtin "property.__get__"))) ∧ (PySem.W.takesIn K (.ref (He.ma K (He.ga K "MaskSet") "lot")) = some true) ∧ (PySem.W.recIn K (He.ma K (He.ga K "MaskSet") "lot") "property" = some (.ref (xG K (He.ma K (He.ga K "MaskSet") "lot")) :: (xR K (He.ma K (He.ga K "MaskSet") "lot")))) ∧ (PySem.W.keepIn K (.ref (xG K (He.ma K (He.ga K "MaskSet") "lot"))) = true) ∧ (PySem.W.findIn K (.ref (He.ga K "MaskSet")) "__xor__" = some (some (.ref (He.ma K (He.ga K "MaskSet") "__xor__")))) ∧ (PySem.W.isFn K (.ref (He.ma K (He.ga K "MaskSet") "__xor__")) = true) ∧ (PySem.W.keepIn K (.ref (He.ma K (He.ga K "MaskSet") "__xor__")) = true) ∧ (PySem.W.findIn K (.ref (He.ga K "MaskSet")) "__or__" = some (some (.ref (He.ma K (He.ga K "MaskSet") "__or__")))) ∧ (PySem.W.isFn K (.ref (He.ma K (He.ga K "MaskSet") "__or__")) = true) ∧ (PySem.W.keepIn K (.ref (He.ma K (He.ga K "MaskSet") "__or__")) = true) ∧ (PySem.W.findIn K (.ref (He.ga K "MaskSet")) "__and__" = some (some (.ref (He.ma K (He.ga K "MaskSet") "__and__")))) ∧ (PySem.W.isFn K (.ref (He.ma K (He.ga K "MaskSet") "__and__")) = true) ∧ (PySem.W.keepIn K (.ref (He.ma K (He.ga K "MaskSet") "__and__")) = true) ∧ (PySem.W.findIn K (.ref (He.ga K "MaskSet")) "__sub__" = some (some (.ref (He.ma K (He.ga K "MaskSet") "__sub__")))) ∧ (PySem.W.isFn K (.ref (He.ma K (He.ga K "MaskSet") "__sub__")) = true) ∧ (PySem.W.keepIn K (.ref (He.ma K (He.ga K "MaskSet") "__sub__")) = true) ∧ True
set_option synthInstance.maxSize 100000 in
set_option synthInstance.maxHeartbeats 0 in
instance hd2 (K : PySem.W.Frag) : Decidable (hb2 K) := by
  unfold hb2
  infer_instance
def hb3 (K : PySem.W.Frag) : Prop := (PySem.W.findIn K (.ref (He.ga K "MaskSet")) "__add__" = some (some (.ref (He.ma K (He.ga K "MaskSet") "__add__")))) ∧ (PySem.W.isFn K (.ref (He.ma K (He.ga K "MaskSet") "__add__")) = true) ∧ (PySem.W.keepIn K (.ref (He.ma K (He.ga K "MaskSet") "__add__")) = true) ∧ (PySem.W.findIn K (.ref (He.ga K "MaskSet")) "width" = some (some (.ref (He.ma K (He.ga K "MaskSet") "width")))) ∧ (PySem.W.specialIn K (.ref (He.ma K (He.ga K "MaskSet") "width")) "__get__" = some (some (.builtin "property.__get__"))) ∧ (PySem.W.takesIn K (.ref (He.ma K (He.ga K "MaskSet") "width")) = some true) ∧ (PySem.W.recIn K (He.ma K (He.ga K "MaskSet") "width") "property" = some (.ref (xG K (He.ma K (He.ga K "MaskSet") "width")) :: (xR K (He.ma K (He.ga K "MaskSet") "width")))) ∧ (PySem.W.keepIn K (.ref (xG K (He.ma K (He.ga K "MaskSet") "width"))) = true) ∧ (PySem.W.findIn K (.ref (He.ga K "MaskSet")) "within" = some (some (.ref (He.ma K (He.ga K "MaskSet") "within")))) ∧ (PySem.W.isFn K (.ref (He.ma K (He.ga K "MaskSet") "within")) = true) ∧ (PySem.W.keepIn K (.ref (He.ma K (He.ga K "MaskSet") "within")) = true) ∧ (PySem.W.findIn K (.ref (He.ga K "MaskSet")) "addend" = some (some (.ref (He.ma K (He.ga K "MaskSet") "addend")))) ∧ (PySem.W.isFn K (.ref (He.ma K (He.ga K "MaskSet") "addend")) = true) ∧ (PySem.W.keepIn K (.ref (He.ma K (He.ga K "MaskSet") "addend")) = true) ∧ (PySem.W.findIn K (.ref (He.ga K "MaskSet")) "__call__" = some (some (.ref (He.ma K (He.ga K "MaskSet") "__call__")))) ∧ (PySem.W.isFn K (.ref (He.ma K (He.ga K "MaskSet") "__call__")) = true) ∧ (PySem.W.keepIn K (.ref (He.ma K (He.ga K "MaskSet") "__call__")) = true) ∧ (PySem.W.fnIn K (He.ma K (He.ga K "MaskSet") "__call__") = true) ∧ (PySem.W.findIn K (.ref (He.ga K "MaskSet")) "__class__" = some (some (.builtin "object.__class__"))) ∧ (PySem.W.specialIn K (.builtin "object.__class__") "__get__" = some (some (.builtin "getset_descriptor.__get__"))) ∧ True
set_option synthInstance.maxSize 100000 in
set_option synthInstance.maxHeartbeats 0 in
instance hd3 (K : PySem.W.Frag) : Decidable (hb3 K) := by
  unfold hb3
  infer_instance
def hb4 (K : PySem.W.Frag) : Prop := (PySem.W.takesIn K (.builtin "object.__class__") = some true) ∧ (PySem.W.mroIn K (He.ga K "MaskSet") (.type "object") = some true) ∧ (PySem.W.findIn K (.ref (He.ga K "MaskSet")) "__eq__" = some (some (.ref (He.ma K (He.ga K "MaskSet") "__eq__")))) ∧ (PySem.W.isFn K (.ref (He.ma K (He.ga K "MaskSet") "__eq__")) = true) ∧ (PySem.W.keepIn K (.ref (He.ma K (He.ga K "MaskSet") "__eq__")) = true) ∧ (PySem.W.nsIn K mainGlobals "NoMask" = some (some (.ref (He.ga K "NoMask")))) ∧ (xGB K (He.ga K "NoMask") [.type "LookupError", .type "Exception", .type "BaseException", .type "object"] "LookupError.__new__" = true) ∧ (PySem.W.findIn K (.ref (He.ga K "NoMask")) "__setattr__" = some (some (.builtin "object.__setattr__"))) ∧ (PySem.W.findIn K (.ref (He.ga K "NoMask")) "value" = some none) ∧ (PySem.W.findIn K (.ref (He.ga K "NoMask")) "__init__" = some (some (.ref (He.ma K (He.ga K "NoMask") "__init__")))) ∧ (PySem.W.typeIn K (.ref (He.ma K (He.ga K "NoMask") "__init__")) = some (.type "function")) ∧ (PySem.W.keepIn K (.ref (He.ma K (He.ga K "NoMask") "__init__")) = true) ∧ (PySem.W.subIn K (.ref (He.ga K "NoMask")) (.type "BaseException") = some true) ∧ (PySem.W.typeIn K (.ref (He.ga K "NoMask")) = some (.type "type")) ∧ (PySem.W.keepIn K (.ref (He.ga K "NoMask")) = true) ∧ (PySem.W.nsIn K mainGlobals "OtherWidth" = some (some (.ref (He.ga K "OtherWidth")))) ∧ (xGB K (He.ga K "OtherWidth") [.type "ValueError", .type "Exception", .type "BaseException", .type "object"] "ValueError.__new__" = true) ∧ (PySem.W.findIn K (.ref (He.ga K "OtherWidth")) "__setattr__" = some (some (.builtin "object.__setattr__"))) ∧ (PySem.W.findIn K (.ref (He.ga K "OtherWidth")) "index" = some none) ∧ (PySem.W.findIn K (.ref (He.ga K "OtherWidth")) "__init__" = some (some (.ref (He.ma K (He.ga K "OtherWidth") "__init__")))) ∧ True
set_option synthInstance.maxSize 100000 in
set_option synthInstance.maxHeartbeats 0 in
instance hd4 (K : PySem.W.Frag) : Decidable (hb4 K) := by
  unfold hb4
  infer_instance
def hb5 (K : PySem.W.Frag) : Prop := (PySem.W.typeIn K (.ref (He.ma K (He.ga K "OtherWidth") "__init__")) = some (.type "function")) ∧ (PySem.W.keepIn K (.ref (He.ma K (He.ga K "OtherWidth") "__init__")) = true) ∧ (PySem.W.subIn K (.ref (He.ga K "OtherWidth")) (.type "BaseException") = some true) ∧ (PySem.W.typeIn K (.ref (He.ga K "OtherWidth")) = some (.type "type")) ∧ (PySem.W.keepIn K (.ref (He.ga K "OtherWidth")) = true) ∧ (PySem.W.hasDictIn K (He.ga K "NoMask") = true) ∧ (PySem.W.findIn K (.ref (He.ga K "NoMask")) "__getattribute__" = some (some (.builtin "BaseException.__getattribute__"))) ∧ (PySem.W.findIn K (.ref (He.ga K "NoMask")) "__getattr__" = some none) ∧ (PySem.W.nsIn K mainGlobals "BadLot" = some (some (.ref (He.ga K "BadLot")))) ∧ (PySem.W.hasDictIn K (He.ga K "BadLot") = true) ∧ (PySem.W.typeIn K (.ref (He.ga K "BadLot")) = some (.type "type")) ∧ (PySem.W.subIn K (.ref (He.ga K "NoMask")) (.ref (He.ga K "BadLot")) = some false) ∧ ((Value.ref (He.ga K "NoMask") == Value.ref (He.ga K "BadLot")) = false) ∧ (PySem.W.nsIn K mainGlobals "BadWide" = some (some (.ref (He.ga K "BadWide")))) ∧ (PySem.W.hasDictIn K (He.ga K "BadWide") = true) ∧ (PySem.W.typeIn K (.ref (He.ga K "BadWide")) = some (.type "type")) ∧ (PySem.W.subIn K (.ref (He.ga K "NoMask")) (.ref (He.ga K "BadWide")) = some false) ∧ ((Value.ref (He.ga K "NoMask") == Value.ref (He.ga K "BadWide")) = false) ∧ (PySem.W.nsIn K mainGlobals "TooWide" = some (some (.ref (He.ga K "TooWide")))) ∧ (PySem.W.hasDictIn K (He.ga K "TooWide") = true) ∧ True
set_option synthInstance.maxSize 100000 in
set_option synthInstance.maxHeartbeats 0 in
instance hd5 (K : PySem.W.Frag) : Decidable (hb5 K) := by
  unfold hb5
  infer_instance
def hb6 (K : PySem.W.Frag) : Prop := (PySem.W.typeIn K (.ref (He.ga K "TooWide")) = some (.type "type")) ∧ (PySem.W.subIn K (.ref (He.ga K "NoMask")) (.ref (He.ga K "TooWide")) = some false) ∧ ((Value.ref (He.ga K "NoMask") == Value.ref (He.ga K "TooWide")) = false) ∧ (PySem.W.hasDictIn K (He.ga K "OtherWidth") = true) ∧ (PySem.W.subIn K (.ref (He.ga K "NoMask")) (.ref (He.ga K "OtherWidth")) = some false) ∧ ((Value.ref (He.ga K "NoMask") == Value.ref (He.ga K "OtherWidth")) = false) ∧ (PySem.W.nsIn K mainGlobals "NoIndex" = some (some (.ref (He.ga K "NoIndex")))) ∧ (PySem.W.hasDictIn K (He.ga K "NoIndex") = true) ∧ (PySem.W.typeIn K (.ref (He.ga K "NoIndex")) = some (.type "type")) ∧ (PySem.W.subIn K (.ref (He.ga K "NoMask")) (.ref (He.ga K "NoIndex")) = some false) ∧ ((Value.ref (He.ga K "NoMask") == Value.ref (He.ga K "NoIndex")) = false) ∧ (PySem.W.nsIn K mainGlobals "TurnError" = some (some (.ref (He.ga K "TurnError")))) ∧ (PySem.W.hasDictIn K (He.ga K "TurnError") = true) ∧ (PySem.W.typeIn K (.ref (He.ga K "TurnError")) = some (.type "type")) ∧ (PySem.W.subIn K (.ref (He.ga K "NoMask")) (.ref (He.ga K "TurnError")) = some false) ∧ ((Value.ref (He.ga K "NoMask") == Value.ref (He.ga K "TurnError")) = false) ∧ (PySem.W.subIn K (.ref (He.ga K "NoMask")) (.type "LookupError") = some true) ∧ (PySem.W.findIn K (.ref (He.ga K "NoMask")) "__class__" = some (some (.builtin "object.__class__"))) ∧ (PySem.W.mroIn K (He.ga K "NoMask") (.type "object") = some true) ∧ (PySem.W.findIn K (.ref (He.ga K "OtherWidth")) "__getattribute__" = some (some (.builtin "BaseException.__getattribute__"))) ∧ True
set_option synthInstance.maxSize 100000 in
set_option synthInstance.maxHeartbeats 0 in
instance hd6 (K : PySem.W.Frag) : Decidable (hb6 K) := by
  unfold hb6
  infer_instance
def hb7 (K : PySem.W.Frag) : Prop := (PySem.W.findIn K (.ref (He.ga K "OtherWidth")) "__getattr__" = some none) ∧ (PySem.W.subIn K (.ref (He.ga K "OtherWidth")) (.ref (He.ga K "BadLot")) = some false) ∧ ((Value.ref (He.ga K "OtherWidth") == Value.ref (He.ga K "BadLot")) = false) ∧ (PySem.W.subIn K (.ref (He.ga K "OtherWidth")) (.ref (He.ga K "BadWide")) = some false) ∧ ((Value.ref (He.ga K "OtherWidth") == Value.ref (He.ga K "BadWide")) = false) ∧ (PySem.W.subIn K (.ref (He.ga K "OtherWidth")) (.ref (He.ga K "TooWide")) = some false) ∧ ((Value.ref (He.ga K "OtherWidth") == Value.ref (He.ga K "TooWide")) = false) ∧ (PySem.W.subIn K (.ref (He.ga K "OtherWidth")) (.ref (He.ga K "NoMask")) = some false) ∧ ((Value.ref (He.ga K "OtherWidth") == Value.ref (He.ga K "NoMask")) = false) ∧ (PySem.W.subIn K (.ref (He.ga K "OtherWidth")) (.ref (He.ga K "NoIndex")) = some false) ∧ ((Value.ref (He.ga K "OtherWidth") == Value.ref (He.ga K "NoIndex")) = false) ∧ (PySem.W.subIn K (.ref (He.ga K "OtherWidth")) (.ref (He.ga K "TurnError")) = some true) ∧ ((Value.ref (He.ga K "OtherWidth") == Value.ref (He.ga K "TurnError")) = false) ∧ (PySem.W.subIn K (.ref (He.ga K "OtherWidth")) (.type "LookupError") = some false) ∧ (PySem.W.findIn K (.ref (He.ga K "OtherWidth")) "__class__" = some (some (.builtin "object.__class__"))) ∧ (PySem.W.mroIn K (He.ga K "OtherWidth") (.type "object") = some true) ∧ (PySem.W.kitOne K (.ref (He.ga K "MaskSet")) (.type "int") = some false) ∧ (opB K (He.ga K "MaskSet") .BitXor = true) ∧ (PySem.W.fnIn K (He.ma K (He.ga K "MaskSet") "__xor__") = true) ∧ (PySem.W.fnIn K (He.ma K (He.ga K "MaskSet") "__call__") = true) ∧ True
set_option synthInstance.maxSize 100000 in
set_option synthInstance.maxHeartbeats 0 in
instance hd7 (K : PySem.W.Frag) : Decidable (hb7 K) := by
  unfold hb7
  infer_instance
def hb8 (K : PySem.W.Frag) : Prop := (PySem.W.fnIn K (He.ma K (He.ga K "MaskSet") "__or__") = true) ∧ (PySem.W.fnIn K (He.ma K (He.ga K "MaskSet") "__and__") = true) ∧ (PySem.W.fnIn K (He.ma K (He.ga K "MaskSet") "__sub__") = true) ∧ (PySem.W.fnIn K (He.ma K (He.ga K "MaskSet") "__add__") = true) ∧ (PySem.W.subIn K (.ref (He.ga K "NoMask")) (.ref (He.ga K "NoMask")) = some true) ∧ (PySem.W.subIn K (.ref (He.ga K "TurnError")) (.type "BaseException") = some true) ∧ (PySem.W.nsIn K mainGlobals "repr" = some none) ∧ (PySem.W.nsIn K mainGlobals "LookupError" = some none) ∧ (PySem.W.nsIn K mainGlobals "len" = some none) ∧ (PySem.W.nsIn K mainGlobals "abs" = some none) ∧ (PySem.W.nsIn K mainGlobals "tuple" = some none) ∧ (PySem.W.nsIn K mainGlobals "sorted" = some none) ∧ (PySem.W.nsIn K mainGlobals "isinstance" = some none) ∧ (PySem.W.nsIn K mainGlobals "int" = some none) ∧ (PySem.W.nsIn K mainGlobals "bool" = some none) ∧ (PySem.W.nsIn K mainGlobals "set" = some none) ∧ (PySem.W.nsIn K mainGlobals "all" = some none) ∧ (PySem.W.nsIn K mainGlobals "range" = some none) ∧ (PySem.W.nsIn K mainGlobals "enumerate" = some none) ∧ True
set_option synthInstance.maxSize 100000 in
set_option synthInstance.maxHeartbeats 0 in
instance hd8 (K : PySem.W.Frag) : Decidable (hb8 K) := by
  unfold hb8
  infer_instance
def hfb (K : PySem.W.Frag) : Bool := decide (hb0 K) && (decide (hb1 K) && (decide (hb2 K) && (decide (hb3 K) && (decide (hb4 K) && (decide (hb5 K) && (decide (hb6 K) && (decide (hb7 K) && (decide (hb8 K)))))))))
def hf0 : List FDx := [⟨fun K => He.ga K "_wall", "_wall", "_wall", sWall⟩, ⟨fun K => He.ga K "is_number", "is_number", "is_number", sNum⟩, ⟨fun K => He.ga K "is_width", "is_width", "is_width", sIsW⟩, ⟨fun K => He.ga K "is_mask", "is_mask", "is_mask", sMask⟩, ⟨fun K => He.ga K "lot_error", "lot_error", "lot_error", sLotE⟩, ⟨fun K => He.ga K "check_lot", "check_lot", "check_lot", sCheckLot⟩, ⟨fun K => He.ga K "mask_error", "mask_error", "mask_error", sMaskE⟩, ⟨fun K => He.ga K "turned", "turned", "turned", sTurned⟩, ⟨fun K => He.ga K "rest_of", "rest_of", "rest_of", sRest⟩, ⟨fun K => He.ga K "left_over", "left_over", "left_over", sLeft⟩, ⟨fun K => He.ga K "united", "united", "united", sUnited⟩, ⟨fun K => He.ga K "shared", "shared", "shared", sShared⟩, ⟨fun K => He.ga K "common_width", "common_width", "common_width", sWidth⟩, ⟨fun K => He.ga K "pair_counts", "pair_counts", "pair_counts", sPairCounts⟩, ⟨fun K => He.ga K "sum_of", "sum_of", "sum_of", sSumOf⟩, ⟨fun K => He.ga K "greatest_addend", "greatest_addend", "greatest_addend", sGreatestAddend⟩, ⟨fun K => He.ga K "digits_of", "digits_of", "digits_of", sDigitsOf⟩, ⟨fun K => He.ga K "patterns_of", "patterns_of", "patterns_of", sPatternsOf⟩, ⟨fun K => He.ga K "words_or_none", "words_or_none", "words_or_none", sWordsOrNone⟩, ⟨fun K => He.ga K "_law_stream", "_law_stream", "_law_stream", sStream⟩]
def hf1 : List FDx := [⟨fun K => He.ga K "_law_draw", "_law_draw", "_law_draw", sDraw⟩, ⟨fun K => He.ga K "_law_odd", "_law_odd", "_law_odd", sLOdd⟩, ⟨fun K => He.ga K "_law_is_int", "_law_is_int", "_law_is_int", sLIsInt⟩, ⟨fun K => He.ga K "_law_drawn", "_law_drawn", "_law_drawn", sDrawn⟩, ⟨fun K => He.ga K "_law_moved", "_law_moved", "_law_moved", sLMoved⟩, ⟨fun K => He.ga K "_law_pairs", "_law_pairs", "_law_pairs", sLPairs⟩, ⟨fun K => He.ga K "_law_set_error", "_law_set_error", "_law_set_error", sLSetError⟩, ⟨fun K => He.ga K "_law_masked", "_law_masked", "_law_masked", sLMasked⟩, ⟨fun K => He.ga K "_law_combined", "_law_combined", "_law_combined", sLCombined⟩, ⟨fun K => He.ga K "law", "law", "law", sLaw⟩, ⟨fun K => (He.ma K (He.ga K "MaskSet") "__init__"), "__init__", "MaskSet.__init__", sMsInit⟩, ⟨fun K => (xG K (He.ma K (He.ga K "MaskSet") "lot")), "lot", "MaskSet.lot", sMsLot⟩, ⟨fun K => (He.ma K (He.ga K "MaskSet") "__xor__"), "__xor__", "MaskSet.__xor__", sMsXor⟩, ⟨fun K => (He.ma K (He.ga K "MaskSet") "__or__"), "__or__", "MaskSet.__or__", sMsOr⟩, ⟨fun K => (He.ma K (He.ga K "MaskSet") "__and__"), "__and__", "MaskSet.__and__", sMsAnd⟩, ⟨fun K => (He.ma K (He.ga K "MaskSet") "__sub__"), "__sub__", "MaskSet.__sub__", sMsSub⟩, ⟨fun K => (He.ma K (He.ga K "MaskSet") "__add__"), "__add__", "MaskSet.__add__", sMsAdd⟩, ⟨fun K => (xG K (He.ma K (He.ga K "MaskSet") "width")), "width", "MaskSet.width", sMsWidth⟩, ⟨fun K => (He.ma K (He.ga K "MaskSet") "within"), "within", "MaskSet.within", sMsWithin⟩, ⟨fun K => (He.ma K (He.ga K "MaskSet") "addend"), "addend", "MaskSet.addend", sMsAddend⟩]
def hf2 : List FDx := [⟨fun K => (He.ma K (He.ga K "MaskSet") "__call__"), "__call__", "MaskSet.__call__", sMsCall⟩, ⟨fun K => (He.ma K (He.ga K "MaskSet") "__eq__"), "__eq__", "MaskSet.__eq__", sMsEq⟩, ⟨fun K => (He.ma K (He.ga K "NoMask") "__init__"), "__init__", "NoMask.__init__", hsINoMask⟩, ⟨fun K => (He.ma K (He.ga K "OtherWidth") "__init__"), "__init__", "OtherWidth.__init__", hsIOtherWidth⟩]
def hfn : List FDx := hf0 ++ hf1 ++ hf2
def hl0 : List Str := ["_wall", "TurnError", "NoLots", "OtherWidth", "TooWide", "BadLot", "BadWide", "NoMask", "NoIndex", "MAX_WIDTH", "is_number", "is_width", "is_mask", "lot_error", "check_lot", "mask_error", "turned", "rest_of", "left_over", "united"]
def hl1 : List Str := ["shared", "common_width", "pair_counts", "sum_of", "greatest_addend", "digits_of", "patterns_of", "words_or_none", "MaskSet", "_law_stream", "_law_draw", "_law_odd", "_law_is_int", "_law_drawn", "_law_moved", "_law_pairs", "_law_set_error", "_law_masked", "_law_combined"]
def hlo : List Str := hl0 ++ hl1
abbrev HR : PySem.W.OpenRow := PySem.W.OpenLaw.row PySem.Challenge.rw_xorturns_k54_errors_of_operators
abbrev hk : PySem.W.Hook := hookX hfb hfn
def hob (s : PySem.W.SharedT) : AlX := obsXG hfb hfn (HandSHeadRun.getT s)
theorem hob_eq (s : PySem.W.SharedT) : hob s = hk.obs s.abs := obsXG_eq (HandSHeadRun.getT_eq s)
theorem hrun (w : World) : HandSHeadRun.RunEq HR (PySem.W.view HR.prog [46]) hk hob 20000 hlo w := by
  intro os
  kernel_rfl
end XT
namespace XT
open PySem PySem.Spec PyProof.Rows L2

/-! comprehensions whose turns only lay new things -/
theorem take_one {α β : Type} (f : α → β) (p : α → Bool) {xs : List α} {i : Nat} {x : α} (h : xs[i]? = some x) :
    ((xs.take (i + 1)).filter p).map f = ((xs.take i).filter p).map f ++ (if p x = true then [f x] else []) := by
  rw [List.take_add_one, h, List.filter_append, List.map_append]
  by_cases hp : p x = true
  · simp [hp]
  · simp [hp]
theorem flt_len {α β : Type} (f : α → β) (p : α → Bool) (xs : List α) (i : Nat) : (((xs.take i).filter p).map f).length ≤ i := by
  rw [List.length_map]
  exact Nat.le_trans (List.length_filter_le _ _) (by rw [List.length_take]; exact Nat.min_le_left _ _)

section
variable {K : PySem.W.Frag} {a : Addr} {g : TG} {tt : TT} {te : TE} {vs : List Nat} {σ : L2.St} {H1 : Hp} {D : Addr} {Qd : Hp → Prop}
/-- what one turn must do -/
def TurnP (g : TG) (tt : TT) (te : TE) (vs : List Nat) (σ : L2.St) (x y : V) (keep : Bool) (H : Hp) : Prop :=
  ∀ (R1 : Hp → Prop) (R2 : V → Hp → Prop), (keep = false → ∀ H3, Same H H3 → R1 H3) → (keep = true → ∀ H4, Same H H4 → R2 y H4) →
    g x (wipe σ vs) H fun σ2 H2 => wipe σ2 vs = wipe σ vs ∧ tt σ2 H2 fun b H3 => if b = true then te σ2 H3 R2 else R1 H3
/-- the invariant -/
def PvP (H1 : Hp) (D : Addr) (ys : List V) (H : Hp) : Prop := Same H1 H ∧ H D = some (.lst ys)
theorem pvp_turn {x y : V} {keep : Bool} {H : Hp} {ys : List V} (nD : H1 D = none) (h : PvP H1 D ys H) (hl : ys.length < sizeLine) (ht : TurnP g tt te vs σ x y keep H) (zs : List V) (ez : zs = ys ++ (if keep = true then [y] else [])) :
    g x (wipe σ vs) H fun σ2 H2 => wipe σ2 vs = wipe σ vs ∧ tt σ2 H2 fun b H3 =>
      if b = true then te σ2 H3 fun y H4 => ∃ acc, H4 D = some (.lst acc) ∧ acc.length < sizeLine ∧ PvP H1 D zs (upd H4 D (.lst (acc ++ [y]))) else PvP H1 D zs H3 := by
  obtain ⟨sm, hD⟩ := h
  refine ht _ _ (fun hk H3 s3 => ?_) (fun hk H4 s4 => ?_)
  · subst hk
    refine ⟨sm.trans s3, ?_⟩
    rw [ez, s3 _ _ hD]
    simp
  · subst hk
    refine ⟨ys, s4 _ _ hD, hl, fun b o e => ?_, ?_⟩
    · rw [upd_ne (ne_of_none e nD)]
      exact s4 _ _ (sm _ _ e)
    · rw [upd_same, ez]
      rfl
theorem lcp_list {xs : List V} (p : V → Bool) (f : V → V) (nD : H1 D = none) (hA : SqL K H1 a xs) (hz : xs.length < sizeLine) (ht : ∀ (i : Nat) x H, xs[i]? = some x → Same H1 H → TurnP g tt te vs σ x (f x) (p x) H)
    (hd : ∀ H, Same H1 H → H D = some (.lst ((xs.filter p).map f)) → Qd H) :
    ∃ W : Nat → Nat → Hp → Prop, (∃ m, W 0 m (upd H1 D (.lst []))) ∧ ∀ i m H, W i m H →
      ((Itl K a).stop i H ∧ Qd H) ∨ ((Itl K a).go i H ∧ ∃ Nx : Hp → Prop, (∀ H', Nx H' → ∃ m', m' < m ∧ W (i + 1) m' H') ∧ ∀ x H', (Itl K a).yld i H x H' → g x (wipe σ vs) H' fun σ2 H2 => wipe σ2 vs = wipe σ vs ∧ tt σ2 H2 fun b H3 =>
        if b = true then te σ2 H3 fun y H4 => ∃ acc, H4 D = some (.lst acc) ∧ acc.length < sizeLine ∧ Nx (upd H4 D (.lst (acc ++ [y]))) else Nx H3) := by
  refine lc_list (xs := xs) (fun i H => PvP H1 D (((xs.take i).filter p).map f) H) ⟨same_new nD, upd_same⟩ (fun i H _ h => h.1.seq hA) (fun i x H hx h => ?_) (fun H h => ?_)
  · have hi : i < xs.length := (List.getElem?_eq_some_iff.mp hx).1
    exact pvp_turn nD h (Nat.lt_of_le_of_lt (flt_len f p xs i) (Nat.lt_trans hi hz)) (ht i x H hx h.1) _ (take_one f p hx)
  · have h2 := h.2
    rw [List.take_length] at h2
    exact hd H h.1 h2
theorem Same.sqT {H H' : Hp} {a : Addr} {xs : List V} (e : Same H H') (h : SqT K H a xs) : SqT K H' a xs := by
  rcases h with (h | ⟨o, h⟩) | h
  · exact .inl (.inl (e _ _ h))
  · exact .inl (.inr ⟨o, e _ _ h⟩)
  · exact .inr h
theorem lcp_tup {xs : List V} (p : V → Bool) (f : V → V) (nD : H1 D = none) (hA : SqT K H1 a xs) (hz : xs.length < sizeLine) (ht : ∀ (i : Nat) x H, xs[i]? = some x → Same H1 H → TurnP g tt te vs σ x (f x) (p x) H)
    (hd : ∀ H, Same H1 H → H D = some (.lst ((xs.filter p).map f)) → Qd H) :
    ∃ W : Nat → Nat → Hp → Prop, (∃ m, W 0 m (upd H1 D (.lst []))) ∧ ∀ i m H, W i m H →
      ((Itt K a).stop i H ∧ Qd H) ∨ ((Itt K a).go i H ∧ ∃ Nx : Hp → Prop, (∀ H', Nx H' → ∃ m', m' < m ∧ W (i + 1) m' H') ∧ ∀ x H', (Itt K a).yld i H x H' → g x (wipe σ vs) H' fun σ2 H2 => wipe σ2 vs = wipe σ vs ∧ tt σ2 H2 fun b H3 =>
        if b = true then te σ2 H3 fun y H4 => ∃ acc, H4 D = some (.lst acc) ∧ acc.length < sizeLine ∧ Nx (upd H4 D (.lst (acc ++ [y]))) else Nx H3) := by
  refine lc_tup (xs := xs) (fun i H => PvP H1 D (((xs.take i).filter p).map f) H) ⟨same_new nD, upd_same⟩ (fun i H _ h => Same.sqT h.1 hA) (fun i x H hx h => ?_) (fun H h => ?_)
  · have hi : i < xs.length := (List.getElem?_eq_some_iff.mp hx).1
    exact pvp_turn nD h (Nat.lt_of_le_of_lt (flt_len f p xs i) (Nat.lt_trans hi hz)) (ht i x H hx h.1) _ (take_one f p hx)
  · have h2 := h.2
    rw [List.take_length] at h2
    exact hd H h.1 h2
theorem lcp_range {n : Nat} (p : Nat → Bool) (f : Nat → V) (nD : H1 D = none) (hz : n < sizeLine) (ht : ∀ (i : Nat) H, i < n → Same H1 H → TurnP g tt te vs σ (.int (0 + (i : Int))) (f i) (p i) H)
    (hd : ∀ H, Same H1 H → H D = some (.lst (((List.range n).filter p).map f)) → Qd H) :
    ∃ W : Nat → Nat → Hp → Prop, (∃ m, W 0 m (upd H1 D (.lst []))) ∧ ∀ i m H, W i m H →
      ((Itr 0 n).stop i H ∧ Qd H) ∨ ((Itr 0 n).go i H ∧ ∃ Nx : Hp → Prop, (∀ H', Nx H' → ∃ m', m' < m ∧ W (i + 1) m' H') ∧ ∀ x H', (Itr 0 n).yld i H x H' → g x (wipe σ vs) H' fun σ2 H2 => wipe σ2 vs = wipe σ vs ∧ tt σ2 H2 fun b H3 =>
        if b = true then te σ2 H3 fun y H4 => ∃ acc, H4 D = some (.lst acc) ∧ acc.length < sizeLine ∧ Nx (upd H4 D (.lst (acc ++ [y]))) else Nx H3) := by
  refine lc_range (lo := 0) (n := n) (fun i H => PvP H1 D ((((List.range n).take i).filter p).map f) H) ⟨same_new nD, upd_same⟩ (fun i H hi h => ?_) (fun H h => ?_)
  · have hx : (List.range n)[i]? = some i := List.getElem?_range hi
    exact pvp_turn nD h (Nat.lt_of_le_of_lt (flt_len f p _ i) (Nat.lt_trans hi hz)) (ht i H hi h.1) _ (take_one f p hx)
  · have h2 := h.2
    rw [List.take_of_length_le (by rw [List.length_range]; exact Nat.le_refl _)] at h2
    exact hd H h.1 h2
end
end XT
/-! set(list of ints); sorted(set of ints) of any number -/
namespace XT
open PySem PySem.Spec PyProof.Rows L2
abbrev newS (w : World) : Obj := { cls := .type "set", dict := none, data := .set #[] 0 (.fresh 0 0 (!w.params.followText "set-order")) }
section
variable {P : Program} {w : World} {A : Around} {E : Value → Shared → Prop} {s : Shared}
abbrev afterS (w : World) (s : Shared) (ns : List Int) (r : Value) (s2 : Shared) : Prop :=
  r = .none ∧ ∃ (hp : Heap) (tk c : Nat), s2 = { s with heap := hp, toks := tk } ∧ SetR w hp s.heap.objs.size (fun j => decide (j ∈ ns)) c ∧ c ≤ ns.length ∧ (∀ b o, s.heap.get? b = some o → hp.get? b = some o)
abbrev withS (w : World) (s : Shared) : Shared := { s with heap := s.heap.push (newS w) }
theorem items_at {items : Array Value} {ns : List Int} (hit : IntsAre items.toList ns) (hz : items.size = ns.length) (i : Nat) (v : Value) (hv : items[i]? = some v) : ∃ k t, ns[i]? = some k ∧ v = .int k t := by
  have hi : i < ns.length := by rw [← hz]; exact (Array.getElem?_eq_some_iff.mp hv).1
  obtain ⟨t, e⟩ := IntsAre.int_at hit i v (by rw [Array.getElem?_toList]; exact hv)
  exact ⟨ns[i], t, List.getElem?_eq_getElem hi, by rw [e, List.getD_eq_getElem?_getD, List.getElem?_eq_getElem hi] <;> rfl⟩
theorem set_listI {l : Addr} {items : Array Value} (ns : List Int) {Q : Value → Shared → Prop} (hh : A.handled = none) (hl : s.heap.IsList l items) (hit : IntsAre items.toList ns) (hb : ns.length + 1 < scanBound)
    (h : ∀ (hp : Heap) (tk c : Nat), SetR w hp s.heap.objs.size (fun j => decide (j ∈ ns)) c → c ≤ ns.length → (∀ b o, s.heap.get? b = some o → hp.get? b = some o) → Q (.ref s.heap.objs.size) { s with heap := hp, toks := tk }) :
    wpAny (model P w) A (call (.type "set") [.ref l]) Q E s := by
  have hz : items.size = ns.length := by
    have e := IntsAre.length hit
    rwa [Array.length_toList] at e
  obtain ⟨mc, mt, m0⟩ := F.called_set.mro
  have m1 := F.called_set.made
  have m2 := F.called_set.sub
  have m3 := F.called_set.notType
  have m4 := F.called_set.canCreate
  have m5 := F.typeCall_set_1 (.ref l)
  refine wpAny_call (codeAny_of_tree ?_)
  show wpAny _ _ (callAny (.type "set") _) _ _ _
  refine wpAny_pure ⟨Code.quiet_builtin _ (by decide +kernel), codeAny_builtin F.entry_type_call ?_⟩
  rw [Around.under_plain (weight_type_call_type "set" [.ref l] []) rfl]
  repeat (any_goals (first | assumption | wp_step))
  refine codeAny_mono (code_set_led1 (.ref l) (E := E) (Q₁ := fun v s1 => v = .ref s.heap.objs.size ∧ s1 = withS w s) ⟨rfl, rfl⟩) fun r s1 hr => ?_
  match r, hr with
  | .error e, hr => exact hr
  | .ok .next, hr => exact hr.elim
  | .ok .brk, hr => exact hr.elim
  | .ok .cont, hr => exact hr.elim
  | .ok (.ret v), hr =>
    obtain ⟨rfl, rfl⟩ := hr
    have g0 : (s.heap.push (newS w)).get? s.heap.objs.size = some (newS w) := Heap.get?_push_size _ rfl
    have g1 : Shared.TypeIs (withS w s) (.ref s.heap.objs.size) "set" := ⟨_, g0, rfl⟩
    have g2 := F.called_set.init.lookup
    have g3 := F.called_set.init.bind (.ref s.heap.objs.size)
    repeat (any_goals (first | assumption | wp_step))
    refine codeAny_mono (codeAny_call_builtin (R := wants (afterS w s ns) E) F.called_set.init.plain F.entry_set_init (check_set_init_1 g1 ?_)) fun r2 s2 hr2 => ?_
    · obtain ⟨ol, hol, hcl, nl, hdl⟩ := hl
      obtain ⟨oc, od, odt, osl⟩ := ol
      simp only at hcl hdl
      subst hcl hdl
      have hol1 : (s.heap.push (newS w)).get? l = some { cls := .type "list", dict := od, data := .seq items nl, slots := osl } := Heap.get?_push_of_some _ hol
      have n1 := F.sub_list_set
      have n2 := F.sub_list_frozenset
      have n3 : (Value.type "list" == Value.type "dict") = false := by decide
      have hl1 : (s.heap.push (newS w)).IsList l items := ⟨_, hol1, rfl, nl, rfl⟩
      have lS : l < s.heap.objs.size := Heap.lt_size hol
      have z1 : (s.heap.push (newS w)).objs.size = s.heap.objs.size + 1 := Heap.size_push ..
      unfold Builtin.«set.__init__» noKeywords Builtin.Frozenset.updateFrom
      generalize hPI : pyIter = PI
      wp_walk
      subst hPI
      refine wpAny_pyIter_list hl1 (wpAny_bind (wpAny_runValue ?_))
      refine set_update_ints ((Walks.list (by simp [hh]) _ l (by rw [z1]; exact Nat.ne_of_lt (Nat.lt_succ_of_lt lS)) items).toS) s.heap.objs.size (by rw [z1]; simp only [List.mem_cons, List.not_mem_nil, or_false, not_or]; exact ⟨Nat.ne_of_lt (Nat.lt_succ_self _), Nat.ne_of_gt lS⟩) ns hz hb (items_at hit hz) (items.size - 0) 0 _ (by omega) (Nat.zero_le _)
        ⟨⟨_, Heap.get?_push_size _ rfl, rfl, rfl⟩, hl1.push _⟩ ⟨0, Nat.le_refl 0, setR_new_at (Heap.get?_push_of_some _ g0)⟩ ?_
      intro s3 c hm hc hS
      obtain ⟨h3, ge, dr, tk, os⟩ := s3
      obtain rfl : ge = s.gens := hm.gens
      obtain rfl : dr = s.drawn := hm.drawn
      obtain rfl : os = s.os := hm.os
      show wpAny _ _ _ _ _ _
      refine wpAny_pure ?_
      show wpAny _ _ (ret Value.none) _ _ _
      rw [hz] at hc
      refine wpAny_pure ⟨rfl, h3, tk, c, rfl, hS, hc, fun b o e => ?_⟩
      have b0 : b < s.heap.objs.size := Heap.lt_size e
      exact hm.heap b o (by rw [z1]; simp only [List.mem_cons, List.not_mem_nil, or_false, not_or]; exact ⟨Nat.ne_of_lt b0, Nat.ne_of_lt (Nat.lt_succ_of_lt b0)⟩) (Heap.get?_push_of_some _ (Heap.get?_push_of_some _ e))
    · match r2, hr2 with
      | .error e, hr2 => exact hr2
      | .ok .next, hr2 => exact hr2.elim
      | .ok .brk, hr2 => exact hr2.elim
      | .ok .cont, hr2 => exact hr2.elim
      | .ok (.ret v), hr2 =>
        obtain ⟨rfl, hp, tk, c, rfl, hS, hc, hk⟩ := hr2
        repeat (any_goals (first | assumption | wp_step))
        exact h _ _ _ hS hc hk
end
end XT
namespace XT
open PySem PySem.Spec PyProof.Rows L2
section
variable {P : Program} {w : World} {A : Around} {E : Value → Shared → Prop} {s : Shared} {a : Addr}
theorem iv_raw (v : Value) (h : ∃ k t, v = Value.int k t) : SrtO.iv v = Builtin.Re.reRawOf v := by
  obtain ⟨k, t, rfl⟩ := h
  rfl
/-- sorted(set of ints), however many -/
theorem sorted_setN {S : Int → Bool} {n : Nat} {Q : Value → Shared → Prop} (R : SetR w s.heap a S n) (hh : A.handled = none)
    (hQ : ∀ s2 p (out : List Value) (c : Nat) (ns : List Int), (∀ b o, s.heap.get? b = some o → s2.heap.get? b = some o) → s2.gens = s.gens → s2.os = s.os → s.heap.objs.size ≤ p →
      s2.heap.get? p = some (seqObj "list" out.toArray c) → IntsAre out ns → ns.Pairwise (· < ·) → (∀ k, k ∈ ns ↔ S k = true) → ns.length = n → Q (.ref p) s2) :
    wpAny (model P w) A (call (.builtin "sorted") [.ref a]) Q E s := by
  obtain ⟨o, es, ep, t, ho, hex, hd, g, nd, hm, hb, hf, hn, hr, hl⟩ := R
  refine Calls.call_function_entry kind_sorted plain_sorted entry_sorted (args_sorted1 _) ?_
  unfold Builtin.«sorted»
  refine wpAny_bind (m := checkCount "sorted" 1 1 _) (wpAny_pure (wpAny_bind (collect_set (A := A.in1) hh ⟨o, ho, hex.1, hd⟩ hf hb hr hl fun s1 vs k1 hz g1 o1 pm => ?_)))
  have vl : vs.length = n := by rw [pm.length_eq, List.length_map, Array.length_toList]; exact hn
  have n0 : n ≤ sizeLine := by rw [sizeLine_eq]; unfold scanBound at hb; omega
  have allI : ∀ v ∈ vs, ∃ k t, v = Value.int k t := fun v hv => by
    obtain ⟨e, he, q⟩ := List.mem_map.mp (pm.mem_iff.mp hv)
    obtain ⟨k, tk, h1, _⟩ := g e he
    exact ⟨k, tk, by rw [← q]; exact h1⟩
  have hI : IntsAre vs (vs.map SrtO.iv) := SrtO.ints_iv allI
  have pk : (vs.map SrtO.iv).Perm (es.toList.map keyOf) := by
    have e1 : vs.map SrtO.iv = vs.map Builtin.Re.reRawOf := List.map_congr_left fun v hv => iv_raw v (allI v hv)
    have q := pm.map Builtin.Re.reRawOf
    rw [List.map_map] at q
    rw [e1]
    exact q
  refine wpAny_bind (wpAny_newList ?_ (by rw [vl]; exact n0))
  have hoL : (s1.heap.push (seqObj "list" vs.toArray 0)).get? s1.heap.objs.size = some (seqObj "list" vs.toArray 0) := Heap.get?_push_size _ rfl
  refine wpAny_bind (wpAny_holding (wpAny_call_entry slot_list_sort ⟨_, hoL, rfl⟩ entry_list_sort (SrtO.list_sort_ord SrtO.swo_int hoL (by rw [vl]; exact n0) (fun h2 => SrtO.ints_sortable hI h2) fun out a1 a2 => ⟨_, rfl, ?_⟩) (args_list_sort _)))
  obtain ⟨j1, j2, j3⟩ := SrtO.ints_out hI a1 a2
  obtain ⟨c, hc⟩ := sortedHeap_at (vs := vs) (out := out.toArray) hoL
  have pn := j2.trans pk
  refine wpAny_pure ⟨_, rfl, hQ _ s1.heap.objs.size out c _ (fun b u e => ?_) g1 o1 hz hc j1 (lt_of_le_nodup _ j3 (pn.nodup_iff.mpr nd)) (fun k => by rw [pn.mem_iff, ← hm k]) ?_⟩
  · have q := k1 b u e
    have lt := Heap.lt_size q
    show (sortedHeap (s1.heap.push (seqObj "list" vs.toArray 0)) s1.heap.objs.size vs out.toArray).get? b = some u
    rw [sortedHeap_old (Nat.ne_of_lt lt) (by rw [size_push']; exact Nat.lt_succ_of_lt lt)]
    exact Heap.get?_push_of_some _ q
  · rw [pn.length_eq, List.length_map, Array.length_toList]; exact hn
end
section
variable {X : Cx}
/-- set(xs), a list of ints -/
def rSetL (K : PySem.W.Frag) (w : World) : List V → Hp → VK → Prop := fun vs H Q => ∃ (a : Addr) (ns : List Int), vs = [V.ref a] ∧ SqL K H a (ns.map V.int) ∧ ns.length ≤ 1000 ∧
  ∀ (p : Addr) (c : Nat), H p = none → Q (.ref p) (upd H p (SetO w p (fun j => decide (j ∈ ns)) c))
theorem cr_setL (hc : X.calm = true) : CallR X (.type "set") (XT.rSetL X.K X.w) := by
  intro pins s σ H vs us Q I r h
  obtain ⟨a, ns, rfl, hs, hn, q⟩ := h
  obtain ⟨its, rv, hl, hz⟩ := I.list hs
  rw [Vals.ref1 r]
  refine set_listI ns (I.ok.hd hc) hl.isList (by simpa using rv.ints) (by unfold scanBound; omega) fun hp tk c hS hcn hk => ?_
  exact ⟨.ref _, _, I.laid (t' := tk) hk (Nat.le_refl _) (setO_new hS), rfl, q _ c (I.hok.fresh (Nat.le_refl _))⟩
/-- sorted(found) -/
def rSortS (w : World) : List V → Hp → VK → Prop := fun vs H Q => ∃ (a : Addr) (S : Int → Bool) (n : Nat), vs = [V.ref a] ∧ H a = some (SetO w a S n) ∧
  ∀ (ns : List Int) (p : Addr), ns.Pairwise (· < ·) → (∀ k : Int, k ∈ ns ↔ S k = true) → H p = none → Q (.ref p) (upd H p (.lst (ns.map V.int)))
theorem cr_sortS (hc : X.calm = true) : CallR X (.builtin "sorted") (rSortS X.w) := by
  intro pins s σ H vs us Q I r h
  obtain ⟨a, S, n, rfl, ha, q⟩ := h
  have R := setO_get I ha
  have n0 : n ≤ sizeLine := by
    obtain ⟨_, _, _, _, _, _, _, _, _, _, hb, _, hn, _⟩ := R
    rw [sizeLine_eq]; unfold scanBound at hb; omega
  rw [Vals.ref1 r]
  refine sorted_setN R (I.ok.hd hc) fun s2 p out c ns k g o hp hg hi hs hm hl => ?_
  have hn : H p = none := I.hok.fresh hp
  have J : Inv X pins σ (upd H p (.lst (ns.map V.int))) { s with heap := s2.heap, gens := s2.gens, drawn := s2.drawn, toks := s2.toks } :=
    I.call (ch := []) (Un.laid k hp hn) (I.hok.laid k hp ⟨by rw [List.length_map, hl]; exact n0, out, c, vals_of_ints hi, hg⟩) (by rw [g]; exact I.bare) (fun _ z => nomatch z)
  have e : s2 = { s with heap := s2.heap, gens := s2.gens, drawn := s2.drawn, toks := s2.toks } := by
    cases s2; cases s; cases o; rfl
  rw [e]
  exact ⟨.ref p, _, J, rfl, q ns p hs hm hn⟩
end
end XT
/-! for i, x in enumerate(t), t a tuple -/
namespace XT
open PySem PySem.Spec PyProof.Rows L2
abbrev enO (it : Addr) : Obj := { cls := .type "enumerate", data := .fields #[.none, .bool false, .ref it, rawInt 0, .none, .none] }
abbrev tiO (t : Addr) : Obj := { cls := .type "tuple_iterator", data := .fields #[.ref t, .int 0 0] }
theorem newEnumT (t : Addr) (items : Array Value) : Meets (Builtin.«enumerate.__new__» ⟨[.type "enumerate", .ref t], []⟩)
    (fun _ R s => s.heap.IsTuple t items ∧ R (.ok (.ret (.ref (s.heap.push (tiO t)).objs.size))) { s with heap := (s.heap.push (tiO t)).push (enO s.heap.objs.size) }) :=
  .of_wp fun prog w A R s h => by
    obtain ⟨hp, ge, dr, tk, os⟩ := s
    obtain ⟨h1, h2⟩ := h
    have sb := sub_enumerate
    have q : ∀ {A2 : Around} {E : Value → Shared → Prop} {Q : Value → Shared → Prop}, Q (.ref hp.objs.size) ⟨hp.push (tiO t), ge, dr, tk, os⟩ → wpAny (model prog w) A2 (pyIter (.ref t)) Q E ⟨hp, ge, dr, tk, os⟩ :=
      fun z => wpAny_pyIter_tuple (s := ⟨hp, ge, dr, tk, os⟩) h1 z
    wp_walk using q
    refine wpAny_stack_any fun st => wpAny_pure ?_
    split
    · rename_i c _ _ _ _ _
      cases (c == Value.type "enumerate") <;> (wp_walk using q; exact ⟨_, rfl, h2⟩)
    · wp_walk using q
      exact ⟨_, rfl, h2⟩
section
variable {prog : Program} {w : World} {A : Around} {E : Value → Shared → Prop} {s : Shared}
theorem call_enumT {t : Addr} {items : Array Value} {Q : Value → Shared → Prop} (hT : s.heap.IsTuple t items)
    (h : ∀ hp, IsEnum hp (s.heap.objs.size + 1) s.heap.objs.size 0 .none → hp.IsTupleIter s.heap.objs.size t 0 → (∀ b o, s.heap.get? b = some o → hp.get? b = some o) → Q (.ref (s.heap.objs.size + 1)) { s with heap := hp }) :
    wpAny (model prog w) A (call (.type "enumerate") [.ref t]) Q E s := by
  refine callType_new F.called_enumerate (by decide) (F.typeCall_enumerate_1 _) (F.newCall_enumerate_1 _) (fun obj => F.args_object_init_2 obj _) F.entry_enumerate_new (newEnumT t items) ⟨hT, ?_⟩
  have z : (s.heap.push (tiO t)).objs.size = s.heap.objs.size + 1 := Heap.size_push ..
  have e0 := Heap.get?_push_size (s.heap.push (tiO t)) (o := enO s.heap.objs.size) rfl
  rw [z] at e0
  show _ ∧ _
  rw [z]
  exact ⟨⟨_, e0, rfl⟩, h _ e0 ⟨_, Heap.get?_push_of_some _ (Heap.get?_push_size _ rfl), rfl, rfl⟩ fun b o x => Heap.get?_push_of_some _ (Heap.get?_push_of_some _ x)⟩
end
/-- the tuple at a, its items in new pairs with their places -/
def ItT (K : PySem.W.Frag) (a : Addr) : It :=
  ⟨fun i H => ∃ (xs : List V) (x : V), SqT K H a xs ∧ xs[i]? = some x,
   fun i H v H2 => ∃ T x, v = .ref T ∧ H T = none ∧ H2 = upd H T (.tup [.int (i : Nat), x]) ∧ ∀ xs, SqT K H a xs → xs[i]? = some x,
   fun i H => ∃ xs : List V, SqT K H a xs ∧ xs.length = i⟩
theorem turn_enumT {P : Program} {w : World} {K : PySem.W.Frag} {elts : List Expr} {kk : Nat} {tpos : Pos} (a e it : Addr) (hne : e ≠ it) (hai : a ≠ it) (hae : e ≠ a) :
    Turn P w K (.Tuple elts kk tpos) (ItT K a) [e, it] e (fun i h => (∃ old, IsEnum h e it ((i : Nat) : Int) old) ∧ h.IsTupleIter it a i) where
  mem := List.mem_cons_self
  obj := fun i h st b hb => by
    obtain ⟨⟨old, he⟩, ⟨o, ho, hc, hd⟩⟩ := st
    rcases List.mem_cons.mp hb with z | z
    · rw [z]; exact ⟨_, he, fun v q => nomatch q⟩
    · rw [List.mem_singleton.mp z]; exact ⟨o, ho, fun v q => by rw [hd] at q; cases q⟩
  keep := fun i h h2 st k => ⟨let ⟨old, he⟩ := st.1; ⟨old, k e (by simp) _ he⟩, st.2.at fun o q => k it (by simp) o q⟩
  item := by
    intro X hP hw hK hc i pins s σ H E I hf st hg
    subst hP hw hK
    obtain ⟨⟨old, he⟩, hit⟩ := st
    obtain ⟨xs, x, hq, hx⟩ := hg
    obtain ⟨its, rv, p, hz⟩ := I.tuple hq
    obtain ⟨u, hu, ru⟩ := rv.get hx
    have p' : s.heap.IsTuple a its.toArray := p
    have el : e < s.heap.objs.size := Heap.lt_size he
    have il : it < s.heap.objs.size := by obtain ⟨_, q, _⟩ := hit; exact Heap.lt_size q
    have hi : i < its.toArray.size := by
      rw [List.size_toArray]; exact (List.getElem?_eq_some_iff.mp hu).1
    refine wpAny_pyNext_enum_itemD (Draws.tuple (A := X.A.in1) (I.ok.hd hc) it a hai its.toArray) he ⟨hit, p'⟩ hi hne (by simp [hne, hae]) fun y h1 tk hy ho hit1 hT hsz hk => ?_
    have ey : y = u := by
      have q : its.toArray[i]? = some u := by simpa using hu
      exact Option.some.inj (hy.symm.trans q)
    subst ey
    refine ⟨_, rfl, wpAny_letOwnedTupleGo_enum (s := { s with heap := h1, toks := tk + 1 }) ho fun h2 he2 sb => ?_⟩
    have gT : h2.get? s.heap.objs.size = some { cls := .type "tuple", data := .seq #[.int i tk, y] } := (sb.2 _ (Nat.ne_of_gt el)).trans hT
    have new : ObjOk X.prog X.w (upd H s.heap.objs.size (.tup [.int (i : Nat), x])) h2 s.heap.objs.size (.tup [.int (i : Nat), x]) :=
      ⟨sz (n := 2) (by decide), [.int i tk, y], .cons ⟨_, rfl⟩ (.cons ru .nil), ⟨_, gT, rfl, _, rfl⟩⟩
    have J := I.turnedNew (t' := tk + 1) (ch := [e, it]) (fun b ob hb q => (sb.2 b (fun z => hb (by simp [z]))).trans (hk b ob (fun z => hb (by simp [z])) (fun z => hb (by simp [z])) q)) hf (Nat.le_refl _) new
    refine ⟨.ref s.heap.objs.size, _, J, rfl, ⟨_, x, rfl, I.hok.fresh (Nat.le_refl _), rfl, fun ys hy => by rw [I.tuple_inj hy hq]; exact hx⟩, ⟨⟨y, ?_⟩, hit1.1.at fun o q => (sb.2 it (Ne.symm hne)).trans q⟩, fun b hb => ?_⟩
    · rw [show ((i + 1 : Nat) : Int) = (i : Int) + 1 by omega]; exact he2
    · have hb2 : b < s.heap.objs.size := by
        rcases List.mem_cons.mp hb with z | z
        · rw [z]; exact el
        · rw [List.mem_singleton.mp z]; exact il
      rw [upd_ne (Nat.ne_of_lt hb2)]
      exact (hf b hb).1
  done := by
    intro X hP hw hK hc i pins s σ H E I hf st hg
    subst hP hw hK
    obtain ⟨⟨old, he⟩, hit⟩ := st
    obtain ⟨xs, hq, hx⟩ := hg
    obtain ⟨its, rv, p, hz⟩ := I.tuple hq
    obtain ⟨f0, f1, f2, f3, f4, f5⟩ := hf it (by simp)
    have hl : its.toArray.size = i := by rw [List.size_toArray, ← rv.length]; exact hx
    have D := Draws.tuple (prog := X.prog) (w := X.w) (A := X.A.in1) (I.ok.hd hc) it a hai its.toArray
    rw [hl] at D
    exact wpAny_pyNext_enum_endD D he ⟨hit, p⟩ fun h2 eb => ⟨rfl, I.turned (t' := s.toks) (fun b o hb q => eb b o hb q) f0 f1 f3 f4 f5⟩
  self := fun A i s Q E st h => let ⟨⟨_, he⟩, _⟩ := st; wpAny_pyIter_enum he h
def iEnT (K : PySem.W.Frag) (ta : TA) : TI := fun σ H R => ta σ H fun vs H1 => ∃ a xs, vs = [.ref a] ∧ SqT K H1 a xs ∧ R (ItT K a) H1
theorem pi_enumT {X : Cx} {e : Expr} {ta : TA} {p pos tpos : Pos} {elts : List Expr} {kk : Nat} (hg : Gl X "enumerate") (hm : X.mg "enumerate" = none) (ha : PA X [e] ta) (hs : starEach [e] X.env = [(false, eval e X.env)] := by rfl) :
    PI X (.Tuple elts kk tpos) (.Call (.Name "enumerate" p) [e] [] pos) (iEnT X.K ta) := by
  refine ⟨fun pins s σ H R I h => Call_ (ld_blt I hg hm boot_enumerate (callWith_type1 (thn (ha.run pos pins s σ H _ I h) fun us s1 ⟨vs, H1, I1, r1, q1⟩ => ?_) hs rfl))⟩
  obtain ⟨a, xs, ex, hq, q⟩ := q1
  subst ex
  obtain ⟨u, rfl, ru⟩ := vals1 r1
  cases (show u = Value.ref a from ru)
  obtain ⟨its, rv, p2, hz⟩ := I1.tuple hq
  have al : a < s1.heap.objs.size := by obtain ⟨o, ho, _⟩ := p2; exact Heap.lt_size ho
  refine call_enumT (items := its.toArray) p2 fun hp he hit hk => wpAny_pyIter_enum he ?_
  have I2 : Inv X pins σ H1 { s1 with heap := hp } := I1.kept (t' := s1.toks) hk
  refine ⟨s1.heap.objs.size + 1, [s1.heap.objs.size + 1, s1.heap.objs.size], _, _, H1, rfl, I2, turn_enumT a (s1.heap.objs.size + 1) s1.heap.objs.size (Nat.succ_ne_self _) (Nat.ne_of_lt al) (Nat.ne_of_gt (Nat.lt_succ_of_lt al)), ⟨⟨.none, he⟩, hit⟩, fun b hb => ?_, q⟩
  have hle : s1.heap.objs.size ≤ b := by
    rcases List.mem_cons.mp hb with z | z
    · rw [z]; exact Nat.le_succ _
    · rw [List.mem_singleton.mp z]; exact Nat.le_refl _
  exact I1.fpOk hle (I1.hok.fresh hle)
end XT
/-! lots as lists of numbers -/
namespace XT
open PySem PySem.Spec PyProof.Rows L2
def lotOf (w : Nat) (P : Nat → Bool) : List Nat := (List.range (2 ^ w)).filter P
def vm (ms : List Nat) : List V := ms.map fun (m : Nat) => V.int (m : Int)
theorem mem_lot {w : Nat} {P : Nat → Bool} {m : Nat} : m ∈ lotOf w P ↔ m < 2 ^ w ∧ P m = true := by
  unfold lotOf
  rw [List.mem_filter, List.mem_range]
theorem lot_congr {w : Nat} {P P' : Nat → Bool} (h : ∀ m, m < 2 ^ w → P m = P' m) : lotOf w P = lotOf w P' := by
  unfold lotOf
  exact List.filter_congr fun m hm => h m (List.mem_range.mp hm)
theorem pow6 {w : Nat} (h : w ≤ 6) : 2 ^ w ≤ 64 := by
  have : w = 0 ∨ w = 1 ∨ w = 2 ∨ w = 3 ∨ w = 4 ∨ w = 5 ∨ w = 6 := by omega
  rcases this with rfl | rfl | rfl | rfl | rfl | rfl | rfl <;> decide
theorem pow0 (w : Nat) : 0 < 2 ^ w := Nat.pow_pos (by decide)
theorem lot_len {w : Nat} (h : w ≤ 6) (P : Nat → Bool) : (lotOf w P).length ≤ 64 := by
  refine Nat.le_trans (List.length_filter_le _ _) ?_
  rw [List.length_range]
  exact pow6 h
theorem vm_len (ms : List Nat) : (vm ms).length = ms.length := List.length_map _
/-- two rising lists with the same members are one -/
theorem rising_eq : ∀ {l m : List Int}, l.Pairwise (· < ·) → m.Pairwise (· < ·) → (∀ k, k ∈ l ↔ k ∈ m) → l = m
  | [], [], _, _, _ => rfl
  | [], b :: m, _, _, h => absurd ((h b).mpr List.mem_cons_self) (by simp)
  | a :: l, [], _, _, h => absurd ((h a).mp List.mem_cons_self) (by simp)
  | a :: l, b :: m, hl, hm, h => by
    obtain ⟨l1, l2⟩ := List.pairwise_cons.mp hl
    obtain ⟨m1, m2⟩ := List.pairwise_cons.mp hm
    have e : a = b := by
      rcases List.mem_cons.mp ((h a).mp List.mem_cons_self) with e | e
      · exact e
      · rcases List.mem_cons.mp ((h b).mpr List.mem_cons_self) with e' | e'
        · exact e'.symm
        · have := m1 a e
          have := l1 b e'
          omega
    subst e
    congr 1
    refine rising_eq l2 m2 fun k => ⟨fun hk => ?_, fun hk => ?_⟩
    · rcases List.mem_cons.mp ((h k).mp (List.mem_cons_of_mem _ hk)) with e | e
      · have := l1 k hk
        omega
      · exact e
    · rcases List.mem_cons.mp ((h k).mpr (List.mem_cons_of_mem _ hk)) with e | e
      · have := m1 k hk
        omega
      · exact e
theorem range_rising (n : Nat) : ((List.range n).map fun (m : Nat) => (m : Int)).Pairwise (· < ·) := by
  rw [List.pairwise_map]
  exact List.pairwise_lt_range.imp fun h => by omega
theorem lot_rising (w : Nat) (P : Nat → Bool) : ((lotOf w P).map fun (m : Nat) => (m : Int)).Pairwise (· < ·) := by
  unfold lotOf
  have h := List.pairwise_map.mp (range_rising (2 ^ w))
  rw [List.pairwise_map]
  exact h.filter _
theorem rising_lot {w : Nat} {P : Nat → Bool} {ns : List Int} (h : ns.Pairwise (· < ·)) (hm : ∀ k, k ∈ ns ↔ ∃ m : Nat, k = m ∧ m < 2 ^ w ∧ P m = true) : ns.map V.int = vm (lotOf w P) := by
  have e : ns = (lotOf w P).map fun (m : Nat) => (m : Int) := rising_eq h (lot_rising w P) fun k => by
    rw [hm k, List.mem_map]
    constructor
    · rintro ⟨m, rfl, h1, h2⟩
      exact ⟨m, mem_lot.mpr ⟨h1, h2⟩, rfl⟩
    · rintro ⟨m, h1, rfl⟩
      exact ⟨m, rfl, mem_lot.mp h1⟩
  rw [e, List.map_map]
  rfl
theorem vm_ints (ms : List Nat) : vm ms = (ms.map fun (m : Nat) => (m : Int)).map V.int := by
  unfold vm
  rw [List.map_map]
  rfl
theorem vm_flat (ms : List Nat) : (vm ms).all flatV = true := by
  rw [List.all_eq_true]
  intro v hv
  obtain ⟨m, _, rfl⟩ := List.mem_map.mp hv
  rfl
theorem in_vm (k : Nat) (ms : List Nat) : inV (.int (k : Int)) (vm ms) = decide (k ∈ ms) := by
  rw [Bool.eq_iff_iff, decide_eq_true_iff]
  unfold inV
  rw [List.any_eq_true]
  constructor
  · rintro ⟨v, hv, e⟩
    obtain ⟨m, hm, rfl⟩ := List.mem_map.mp hv
    have e' : ((m : Int) == (k : Int)) = true := e
    have : (m : Int) = k := by simpa using e'
    have : m = k := by omega
    rw [← this]
    exact hm
  · intro h
    exact ⟨_, List.mem_map.mpr ⟨k, h, rfl⟩, by show ((k : Int) == (k : Int)) = true; simp⟩
theorem in_lot {w : Nat} {P : Nat → Bool} {k : Nat} (hk : k < 2 ^ w) : inV (.int (k : Int)) (vm (lotOf w P)) = P k := by
  rw [in_vm, Bool.eq_iff_iff, decide_eq_true_iff, mem_lot]
  exact ⟨fun h => h.2, fun h => ⟨hk, h⟩⟩
/-- a lot -/
def LotAt (H : Hp) (v : V) (w : Nat) (P : Nat → Bool) : Prop := ∃ p q, v = .ref p ∧ H p = some (.tup [.int (w : Int), .ref q]) ∧ H q = some (.tup (vm (lotOf w P)))
theorem LotAt.same {H H' : Hp} {v : V} {w : Nat} {P : Nat → Bool} (h : LotAt H v w P) (e : Same H H') : LotAt H' v w P := by
  obtain ⟨p, q, rfl, h1, h2⟩ := h
  exact ⟨p, q, rfl, e _ _ h1, e _ _ h2⟩
theorem LotAt.keep {S : Sm} {H H' : Hp} {t : Int} {v : V} {w : Nat} {P : Nat → Bool} (h : LotAt H v w P) (k : Keep S H H') (st : Strm S H t) : LotAt H' v w P := by
  obtain ⟨p, q, rfl, h1, h2⟩ := h
  exact ⟨p, q, rfl, k.tup st h1, k.tup st h2⟩
theorem LotAt.congr {H : Hp} {v : V} {w : Nat} {P P' : Nat → Bool} (h : LotAt H v w P) (e : ∀ m, m < 2 ^ w → P m = P' m) : LotAt H v w P' := by
  obtain ⟨p, q, rfl, h1, h2⟩ := h
  exact ⟨p, q, rfl, h1, by rw [← lot_congr e]; exact h2⟩
def dLot (w : Nat) (P : Nat → Bool) : PyData := .tuple [.int (w : Int), .tuple ((lotOf w P).map fun (m : Nat) => .int (m : Int))]
theorem dpVm {K : PySem.W.Frag} {H : Hp} : ∀ ms : List Nat, DpAll K H (vm ms) (ms.map fun (m : Nat) => .int (m : Int))
  | [] => .nil
  | m :: ms => .cons (.int m) (dpVm ms)
theorem LotAt.dp {K : PySem.W.Frag} {H : Hp} {v : V} {w : Nat} {P : Nat → Bool} (h : LotAt H v w P) : Dp K H v (dLot w P) := by
  obtain ⟨p, q, rfl, h1, h2⟩ := h
  exact .tup (SqT.of h1) (.cons (.int _) (.cons (.tup (SqT.of h2) (dpVm _)) .nil))
theorem ints_lay : ∀ ms : List Nat, PyData.canLayAll0 (ms.map fun (m : Nat) => PyData.int (m : Int)) = true
  | [] => rfl
  | m :: ms => by
    have h := ints_lay ms
    simpa [PyData.canLayAll0, PyData.canLay0] using h
theorem ints_depth : ∀ ms : List Nat, PyData.depthAll (ms.map fun (m : Nat) => PyData.int (m : Int)) ≤ 1
  | [] => by decide
  | m :: ms => by
    have h := ints_depth ms
    simp only [PyData.depthAll, PyData.depth, List.map] at h ⊢
    omega
theorem dLot_shaped (w : Nat) (P : Nat → Bool) : SeqAt.shaped (dLot w P) = true := by
  have h1 : PyData.canLay0 (dLot w P) = true := by
    have h := ints_lay (lotOf w P)
    simp [dLot, PyData.canLay0, PyData.canLayAll0, h]
  have h2 : PyData.depth (dLot w P) ≤ 64 := by
    have h := ints_depth (lotOf w P)
    simp only [dLot, PyData.depth, PyData.depthAll]
    omega
  unfold SeqAt.shaped
  rw [h1, decide_eq_true h2]
  rfl
theorem eqv_ints : ∀ ms : List Nat, PyData.eqvAll (ms.map fun (m : Nat) => PyData.int (m : Int)) (ms.map fun (m : Nat) => PyData.int (m : Int)) = true
  | [] => rfl
  | m :: ms => by
    have h := eqv_ints ms
    simp [PyData.eqvAll, PyData.eqv, h]
theorem eqv_lot {w : Nat} {P P' : Nat → Bool} (h : ∀ m, m < 2 ^ w → P m = P' m) : PyData.eqv (dLot w P) (dLot w P') = true := by
  unfold dLot
  rw [lot_congr h]
  simp [PyData.eqv, PyData.eqvAll, eqv_ints]
/-- a != b, two lots that are one -/
theorem ne_lot {K : PySem.W.Frag} {H : Hp} {x y : V} {w : Nat} {P P' : Nat → Bool} {Q : VK} (hx : LotAt H x w P) (hy : LotAt H y w P') (h : ∀ m, m < 2 ^ w → P m = P' m) (q : Q (.bl false) H) : rNeD K x y H Q := by
  refine ⟨_, _, hx.dp, hy.dp, dLot_shaped _ _, dLot_shaped _ _, ?_⟩
  rw [eqv_lot h]
  exact q
end XT
/-! the program's own defs -/
namespace XT
open PySem PySem.Spec PyProof.Rows L2
def DefR (P : Program) (w : World) (K : PySem.W.Frag) (mg : Str → Option Value) (base : Heap) (k : Nat) (x : Str) (sp : Sp) : Prop :=
  ∃ f, FnR P w K mg base CX0 k f sp ∧ mg x = some (.ref f) ∧ PySem.W.keepIn K (.ref f) = true
theorem DefR.of {P : Program} {w : World} {K : PySem.W.Frag} {mg : Str → Option Value} {base : Heap} {k : Nat} {x : Str} {sp : Sp} {f : Addr} {fd : FuncData} {ps : List Str}
    (F : FnOk P w K mg base CX0 k f fd ps sp) (b : Binds K fd ps []) (hm : mg x = some (.ref f)) (hk : PySem.W.keepIn K (.ref f) = true) : DefR P w K mg base k x sp :=
  ⟨f, (FnOk.raw F b .nil).imp fun vs H Q E h => by rw [List.append_nil]; exact h, hm, hk⟩
section
variable {X : Cx}
/-- f(e, ..) -/
theorem pe_def {j : Nat} {x : Str} {sp : Sp} {e : Expr} {es : List Expr} {t : TA} {p pos : Pos} (D : DefR X.prog X.w X.K X.mg X.base j x sp) (hr : Room j X.A) (hg : Gl X x) (ha : PA X (e :: es) t)
    (hdb : (x == ("__debug__" : Str)) = false := by decide) (he : starEach (e :: es) X.env = (false, eval e X.env) :: starEach es X.env := by rfl) (hpl : (backTo pos (starEach es X.env)).any (·.1) = false := by rfl) :
    PE X (.Call (.Name x p) (e :: es) [] pos) (fun σ H Q => t σ H fun vs H1 => sp vs H1 Q E0) := by
  obtain ⟨f, F, hm, hk⟩ := D
  refine ⟨fun pins s σ H Q I h => wpAny_Call_Name_kw (ld_glob I hg hm ?_ hdb)⟩
  refine PySem.W.callWith_K (h₀ := X.base) I.ok.mod.kin hk (thn (ha.run pos pins s σ H _ I h) fun us s1 ⟨vs, H1, I1, r, q⟩ => ⟨I1.kIn, ?_⟩) he hpl
  refine wpAny_call (codeAny_mono (run_fnR F hr pass0 I1 r q) fun r s2 z => ?_)
  match r, z with
  | .ok (.ret v), z => exact z
  | .ok .next, z => exact z.elim
  | .ok .brk, z => exact z.elim
  | .ok .cont, z => exact z.elim
  | .error e, z => exact z
end
theorem bT : bootBuiltins "tuple" = some (.type "tuple") := by decide +kernel
theorem bS : bootBuiltins "sorted" = some (.builtin "sorted") := by decide +kernel
theorem bI : bootBuiltins "isinstance" = some (.builtin "isinstance") := by decide +kernel
theorem bInt : bootBuiltins "int" = some (.type "int") := by decide +kernel
theorem bBool : bootBuiltins "bool" = some (.type "bool") := by decide +kernel
theorem bSet : bootBuiltins "set" = some (.type "set") := by decide +kernel
theorem bAll : bootBuiltins "all" = some (.builtin "all") := by decide +kernel

section
variable {P : Program} {w : World} {K : PySem.W.Frag} {mg : Str → Option Value} {base : Heap}
/-- the module's names that are still the built-in ones -/
structure Bl (mg : Str → Option Value) : Prop where
  len : mg "len" = none
  abs : mg "abs" = none
  tuple : mg "tuple" = none
  sorted : mg "sorted" = none
  isinstance : mg "isinstance" = none
  int : mg "int" = none
  bool : mg "bool" = none
  set : mg "set" = none
  all : mg "all" = none
  range : mg "range" = none
  enumerate : mg "enumerate" = none

theorem shl1 (n : Nat) : (1 : Int) * 2 ^ ((n : Int).toNat) = ((2 ^ n : Nat) : Int) := by
  rw [Int.toNat_natCast, Int.one_mul]
  norm_cast
theorem cpow {n : Nat} (h : n ≤ 6) : CPow 1 (n : Int) := ⟨by omega, by omega, by decide⟩
theorem xor_lt {a b n : Nat} (ha : a < 2 ^ n) (hb : b < 2 ^ n) : a ^^^ b < 2 ^ n := Nat.xor_lt_two_pow ha hb
theorem bx (a b : Nat) : Builtin.bitXor (a : Int) (b : Int) = ((a ^^^ b : Nat) : Int) := by
  rw [Bits.bitXor_pp (by omega) (by omega)]
  rfl
end
end XT
/-! the law's own call, where no repr is under way; repr of data -/
namespace XT
open PySem PySem.Spec PyProof.Rows L2
def RunC (P : Program) (w : World) (K : PySem.W.Frag) (mg : Str → Option Value) (base : Heap) (k : Nat) (f : Addr) (sp : Sp) : Prop :=
  ∀ (s : Shared) (H : Hp) (u : Value) (v : V) (Q : VK), Room k callerA → Env0 P w K mg base callerA [] s H → RelV v u → sp [v] H Q E0 → codeAny (model P w) callerA (.call (.ref f) ⟨[u], []⟩) (CR CX0 [] P w H s Q E0) s
section
variable {P : Program} {w : World} {K : PySem.W.Frag} {mg : Str → Option Value} {base : Heap}
theorem run_law {x par : Str} {st : Stmt} {f : Addr} {fd : FuncData} {N : List Str} {k : Nat} {sp : Sp} (F : Fun K x x st f fd) (S : FnScope N [par] (defScope st))
    (hb : ∀ (kV doc pm : Value) (an : Option Addr) (cdv ct u : Value), bindArgs (PySem.W.fnOf x x (defArgs st) (defBody st) (defScope st) .none kV doc pm an cdv ct) ⟨[u], []⟩ = pure [(par, u)])
    (hbody : ∀ (cdv : Value) (s : Shared) (H : Hp) (v : V) (Q : VK), Room k (callerA.deeper (envOfC x (defScope st) s.heap.objs.size f cdv)) → sp [v] H Q E0 →
      ∃ t, PSs (cxOf CX0 P w K mg base N x (defScope st) f cdv callerA [] s H E0).nox (defBody st) t ∧ t { nx := fun _ H' => Q .non H', rt := Q } (start N [v]) H) : RunC P w K mg base (k + 1) f sp := by
  obtain ⟨oc, od, kV, doc, pm, an, cdv, ct, osl, rfl, lk, hcd⟩ := F.ex
  intro s H u v Q hr e0 rv hsp
  refine StX.run_bnd lk hcd S hr e0 (G := fun vs H2 => vs = [v] ∧ H2 = H) (fun A2 Ex Q2 h => ?_) fun s2 H2 vs ⟨ev, eH⟩ hr2 => ?_
  · rw [hb kV doc pm an cdv ct u]
    exact wpAny_pure (h s H [v] [u] e0 Un.refl rfl (fun _ _ z => z) (.cons rv .nil) rfl ⟨rfl, rfl⟩)
  · subst ev eH
    obtain ⟨t, h1, h2⟩ := hbody cdv s2 H2 v Q hr2 hsp
    exact ⟨t, h1.nox, h2⟩
/-- from the law's promise to what the row asks of its call -/
theorem law_end {mb : Str → Option Value} {k : Nat} {fa a : Addr} {sp : Sp} {s1 : Shared} {vs : List Value} {ns : List Int} (KX : K.In s1.heap) (hns : s1.heap.Ns mainGlobals mg) (hb : s1.heap.Ns builtinsNs mb)
    (hbb : ∀ x : Str, x ≠ "__name__" → mb x = bootBuiltins x) (hlim : s1.heap.NoLimit) (hg : s1.gens = #[]) (ha : s1.heap.get? a = some { cls := .type "list", data := .seq vs.toArray }) (hi : IntsAre vs ns) (hl : ns.length ≤ sizeLine)
    (hr : Room k callerA) (F : ∀ base : Heap, K.In base → base.Ns mainGlobals mg → RunC P w K mg base k fa sp) (hsp : ∀ H : Hp, SqL K H a (ns.map V.int) → sp [.ref a] H (fun v _ => v = .bl true) E0) :
    codeAny (model P w) callerA (.call (.ref fa) ⟨[.ref a], []⟩) (fun r s2 => r = .ok (.ret (.bool true)) ∧ OldK s1.heap s2.heap ∧ s2.os = s1.os ∧ AllBare s2.gens) s1 := by
  have rv : Vals (ns.map V.int) vs := vals_of_ints hi
  have nl := hi.length
  have go : ∀ H : Hp, SqL K H a (ns.map V.int) → HOk P w H s1.heap → (∀ b, H b = none ∨ (b = a ∧ K.lookup a = none ∧ ∃ o xs, H b = some (.frz o (.lst xs)))) →
      codeAny (model P w) callerA (.call (.ref fa) ⟨[.ref a], []⟩) (fun r s2 => r = .ok (.ret (.bool true)) ∧ OldK s1.heap s2.heap ∧ s2.os = s1.os ∧ AllBare s2.gens) s1 := by
    intro H hS hok hO
    have nsK : ∀ {b : Addr} {m : Str → Option Value}, s1.heap.Ns b m → (hidT s1.heap H).Ns b m := fun {b m} ⟨o, es, ep, e, d, r⟩ => by
      refine ⟨o, es, ep, hidT_get e ?_, d, r⟩
      rcases hO b with z | ⟨z, _, _⟩
      · exact z
      · rw [z, ha] at e
        cases e
        have d2 : Data.seq vs.toArray _ = Data.dict es ep := d
        cases d2
    have kb : K.In (hidT s1.heap H) := fun b o e => by
      refine hidT_get (KX b o e) ?_
      rcases hO b with z | ⟨z, y, _⟩
      · exact z
      · rw [z, y] at e; cases e
    have M : Mod K mg (hidT s1.heap H) := ⟨kb, nsK hns, ⟨mb, nsK hb, hbb⟩, let ⟨mc, h1, h2⟩ := hlim; ⟨mc, nsK h1, h2⟩⟩
    have e0 : Env0 P w K mg (hidT s1.heap H) callerA [] s1 H := ⟨rfl, M, fun b o e => of_hidT e, Nat.le_of_eq (hidT_size _ _), trivial, fun b z => absurd (show b ∈ ([] : List Addr) from z) (by simp), hok, .of_eq hg⟩
    refine codeAny_mono (F _ kb (nsK hns) s1 H (.ref a) (.ref a) _ hr e0 rfl (hsp H hS)) fun r s2 z => ?_
    match r, z with
    | .error e, z => exact z.elim
    | .ok .next, z => exact z.elim
    | .ok .brk, z => exact z.elim
    | .ok .cont, z => exact z.elim
    | .ok (.ret u), z =>
      obtain ⟨v, H2, os, bare, un, hok2, rr, q⟩ := z
      have q : v = .bl true := q
      subst q
      obtain rfl : u = Value.bool true := rr
      refine ⟨rfl, OldK.of_keep fun b o e => ?_, os, bare⟩
      rcases hO b with y | ⟨_, _, ob, xs, y⟩
      · exact un.keep b o e y (fun z => absurd (show b ∈ ([] : List Addr) from z) (by simp)) (by simp)
      · obtain ⟨g1, _⟩ := hok b _ y
        obtain ⟨g2, _⟩ := hok2 b _ (un.frzs b ob _ y)
        rw [e] at g1
        cases g1
        exact g2
  cases hk : K.lookup a with
  | some o =>
    have e := KX a o hk
    rw [ha] at e
    cases e
    exact go (fun _ => none) (.inr ⟨_, vs.toArray, _, hk, rfl, rfl, rfl, by rw [List.size_toArray, nl]; exact hl, by simpa using rv⟩) (fun b u z => nomatch z) fun _ => .inl rfl
  | none =>
    refine go (upd (fun _ => none) a (.frz { cls := .type "list", data := .seq vs.toArray } (.lst (ns.map V.int)))) (.inl (.inr ⟨_, upd_same⟩)) (fun b u z => ?_) fun b => ?_
    · by_cases e : b = a
      · subst e
        rw [upd_same] at z
        cases z
        exact ⟨ha, by rw [List.length_map]; exact hl, vs, _, rv, ha⟩
      · rw [upd_ne e] at z
        cases z
    · by_cases e : b = a
      · exact .inr ⟨e, hk, _, _, by rw [e]; exact upd_same⟩
      · exact .inl (upd_ne e)
end
theorem walk_ofC {l : PySem.W.OpenLaw} {n k : Nat} {q : Program} {loose : List Str} {XP : (Str → Option Value) → Heap → Prop} {YP : World → Heap → Prop} {d : DefRec} {K : Params → PySem.W.Frag} {sp : World → Sp}
    (hn : l.most = some n) (hn2 : n ≤ sizeLine) (hdf : d.params.defaults = []) (hr : Room k callerA) (hY : ∀ (w : World) (h : Heap), YP w h → (K w.params).In h)
    (F : ∀ (w : World) (mg : Str → Option Value) (fa : Addr) (h : Heap), (K w.params).In h → h.Ns mainGlobals mg → mg d.name = some (.ref fa) → ∀ base : Heap, (K w.params).In base → base.Ns mainGlobals mg → RunC l.prog w (K w.params) mg base k fa (sp w))
    (hsp : ∀ (w : World) (H : Hp) (a : Addr) (ns : List Int), ns.length ≤ n → SqL (K w.params) H a (ns.map V.int) → sp w [.ref a] H (fun v _ => v = .bl true) E0) :
    PySem.W.WalkO q loose XP YP l.row.toRowW d [] (fun f vs => PySem.call f vs) :=
  Att.attach_call hn hdf fun w s0 s1 mg mb fa o pm cd doc a vs ns G Y ho hd hcd hmg hobj hints hlen hg =>
    law_end (hY w _ Y) G.T.g G.T.b G.T.builtins G.T.nolimit hg hobj hints (Nat.le_trans hlen hn2) hr (F w mg fa _ (hY w _ Y) G.T.g hmg) fun H hS => hsp w H a ns hlen hS
/-! repr -/
section
variable {X : Cx}
def rRepr (K : PySem.W.Frag) : List V → Hp → VK → Prop := fun xs H Q => ∃ (a : Addr) (d : PyData), xs = [.ref a] ∧ Dp K H (.ref a) d ∧ SeqAt.shaped d = true ∧ d.showable = true ∧ d.shown.length ≤ sizeLine ∧ Q (.str d.shown) H
theorem cr_repr (hg : X.A.guards = some []) (hu : X.A.units + 128 < cLine) : CallR X (.builtin "repr") (rRepr X.K) := by
  intro pins s σ H xs us Q I r h
  obtain ⟨a, d, rfl, hd, hs, hw, hz, q⟩ := h
  rw [Vals.ref1 r]
  obtain ⟨as, rd⟩ := Dp.reads I d (.ref a) (.ref a) hd rfl
  have nd : d.hasDict = false := PyData.hasDict_of_canLay d (SeqAt.canLay_of_shaped hs)
  have dp := SeqAt.depth_of_shaped hs
  refine repr_of_reads' rd hw (PyData.noDict_hsm nd) hg (by omega) (fun _ _ e => e) (fun h2 u tk k => ?_) hz
  exact ⟨.str d.shown, H, I.kept (t' := tk) k, ⟨u, rfl⟩, q⟩
end
end XT
namespace XT
open PySem PySem.Spec PyProof.Rows L2
theorem lot_filter (n : Nat) (p q : Nat → Bool) : (lotOf n p).filter q = lotOf n (fun m => p m && q m) := by
  unfold lotOf
  rw [List.filter_filter]
  refine List.filter_congr fun m _ => ?_
  rw [Bool.and_comm]
theorem vm_filter (ms : List Nat) (q : Nat → Bool) (r : V → Bool) (h : ∀ m ∈ ms, r (.int (m : Int)) = q m) : ((vm ms).filter r).map id = vm (ms.filter q) := by
  unfold vm
  rw [List.map_id, List.filter_map]
  congr 1
  exact List.filter_congr fun m hm => h m hm
theorem mem_vm {ms : List Nat} {i : Nat} {v : V} (h : (vm ms)[i]? = some v) : ∃ m, ms[i]? = some m ∧ v = .int (m : Int) := by
  unfold vm at h
  rw [List.getElem?_map] at h
  obtain ⟨m, h1, h2⟩ := Option.map_eq_some_iff.mp h
  exact ⟨m, h1, h2.symm⟩
/-- for i, x in enumerate(t) -/
theorem for_enumT {K : PySem.W.Frag} {a : Addr} {xs : List V} {g : TG} {tb : TS} {D : Ends} {σ : L2.St} {H : Hp} (Pv : Nat → L2.St → Hp → Prop) (h0 : Pv 0 σ H) (hl : ∀ i σ H, i ≤ xs.length → Pv i σ H → SqT K H a xs)
    (hs : ∀ i x σ H T, xs[i]? = some x → Pv i σ H → H T = none → g (.ref T) σ (upd H T (.tup [.int (i : Nat), x])) fun σ2 H2 => tb { D with nx := Pv (i + 1), ct := Pv (i + 1), bk := D.nx } σ2 H2) (hd : ∀ σ H, Pv xs.length σ H → D.nx σ H) :
    ∃ W : Nat → Nat → L2.St → Hp → Prop, (∃ m, W 0 m σ H) ∧ ∀ i m σ H, W i m σ H →
      ((ItT K a).stop i H ∧ D.nx σ H) ∨ ((ItT K a).go i H ∧ ∃ N : L2.St → Hp → Prop, (∀ σ' H', N σ' H' → ∃ m', m' < m ∧ W (i + 1) m' σ' H') ∧ ∀ x H', (ItT K a).yld i H x H' → g x σ H' fun σ2 H2 => tb { D with nx := N, ct := N, bk := D.nx } σ2 H2) := by
  refine ⟨fun i m σ H => m = xs.length - i ∧ i ≤ xs.length ∧ Pv i σ H, ⟨xs.length, by simp, Nat.zero_le _, h0⟩, ?_⟩
  rintro i m σ H ⟨rfl, hi, p⟩
  have q := hl i σ H hi p
  rcases Nat.lt_or_ge i xs.length with lt | ge
  · refine .inr ⟨⟨xs, xs[i], q, List.getElem?_eq_getElem lt⟩, Pv (i + 1), fun σ' H' p' => ⟨xs.length - (i + 1), by omega, rfl, lt, p'⟩, fun v H' y => ?_⟩
    obtain ⟨T, x, rfl, nT, rfl, fx⟩ := y
    exact hs i x σ H T (fx xs q) p nT
  · have e : i = xs.length := by omega
    subst e
    exact .inl ⟨⟨xs, q, rfl⟩, hd σ H p⟩
theorem r62 {n : Nat} (h : n ≤ 6) : ((2 ^ n : Nat) : Int) < 2 ^ 62 := by
  have := pow6 h
  omega
theorem l62 {n : Nat} : -(2 ^ 62) ≤ ((2 ^ n : Nat) : Int) := Int.le_trans (by decide : -(2 ^ 62) ≤ (0 : Int)) (Int.natCast_nonneg _)
end XT
/-! a caught error with a dict: isinstance; handed to a def -/
namespace XT
open PySem PySem.Spec PyProof.Rows L2
/-- what the class D of an error must say for isinstance -/
structure IsC (K : PySem.W.Frag) (D : Addr) : Prop where
  cl : (PySem.W.clsIn K D).isSome = true
  ga : PySem.W.findIn K (.ref D) "__getattribute__" = some (some (.builtin "BaseException.__getattribute__"))
  gg : PySem.W.findIn K (.ref D) "__getattr__" = some none
  sb : PySem.W.subIn K (.ref D) (.type "BaseException") = some true
  ha : PySem.W.findIn K (.ref D) "__class__" = some (some (.builtin "object.__class__"))
  hn : PySem.W.specialIn K (.builtin "object.__class__") "__get__" = some (some (.builtin "getset_descriptor.__get__"))
  ht : PySem.W.takesIn K (.builtin "object.__class__") = some true
  hm : PySem.W.mroIn K D (.type "object") = some true
section
variable {X : Cx} {a D : Addr} {oe : Obj} {cls : Value} {d : Option Addr} {pn : List (Addr × Obj)}
theorem inst_of {pins : List (Addr × Obj)} {σ : L2.St} {H : Hp} {s : Shared} {dd : Addr} {fs : List (Str × V)} (I : Inv (X.suite a ((a, oe) :: pn)) pins σ H s) (hz : Zc cls d oe) (hf : ∃ vs, oe.data = .fields vs) (ec : cls = .ref D) (ed : d = some dd) (hd : H dd = some (.xd fs)) :
    ∃ od, PySem.W.InstAt s.heap a oe D (some od) := by
  subst ec ed
  obtain ⟨ha, _⟩ := I.pin (a, oe) (List.mem_append_left _ List.mem_cons_self)
  obtain ⟨vs, hv⟩ := hf
  have hx : ObjOk X.prog X.w H s.heap dd (.xd fs) := I.hok dd _ hd
  obtain ⟨mA, hns, _⟩ := hx
  obtain ⟨od, ho, _⟩ := lookIn_ns hns
  exact ⟨od, ha, hz.1, by unfold PySem.W.notCls; rw [hv] <;> rfl, by rw [hz.2]; exact ho⟩
/-- isinstance(e, c) -/
def rIsD (K : PySem.W.Frag) (D a : Addr) (cls : Value) (d : Option Addr) : List V → Hp → VK → Prop := fun xs H Q => ∃ (c : V) (cv : Value) (b : Bool) (dd : Addr) (fs : List (Str × V)), xs = [.ref a, c] ∧ ClsV c cv ∧ cls = .ref D ∧ d = some dd ∧ H dd = some (.xd fs) ∧ PySem.W.kitOne K (.ref D) cv = some b ∧ Q (.bl b) H
theorem call_isD (C : IsC X.K D) (hz : Zc cls d oe) (hf : ∃ vs, oe.data = .fields vs) : CallR (X.suite a ((a, oe) :: pn)) (.builtin "isinstance") (rIsD X.K D a cls d) := by
  intro pins s σ H xs us Q I r h
  obtain ⟨c, cv, b, dd, fs, rfl, kc, ec, ed, hd, e, q⟩ := h
  obtain ⟨u1, u2, rfl, r1, r2⟩ := vals2 r
  cases (show u1 = Value.ref a from r1)
  have e2 := kc.eq r2
  subst e2
  obtain ⟨od, J⟩ := inst_of I hz hf ec ed hd
  exact PySem.W.kia_one (PySem.W.kitx_exc C.cl C.ga C.gg C.sb C.ha C.hn C.ht C.hm) I.kIn J e (fun z => nomatch z) fun tk => ⟨.bl b, H, I.tok tk, rfl, q⟩
/-- isinstance(e, (c1, c2, ..)) -/
def rIsDT (K : PySem.W.Frag) (D a : Addr) (cls : Value) (d : Option Addr) : List V → Hp → VK → Prop := fun xs H Q => ∃ (tp : Addr) (cs : List V) (ws : List Value) (b : Bool) (dd : Addr) (fs : List (Str × V)), xs = [.ref a, .ref tp] ∧ H tp = some (.tup cs) ∧ Paired ClsV cs ws ∧ cls = .ref D ∧ d = some dd ∧ H dd = some (.xd fs) ∧ PySem.W.kitAny K (.ref D) ws = some b ∧ Q (.bl b) H
theorem call_isDT (C : IsC X.K D) (hz : Zc cls d oe) (hf : ∃ vs, oe.data = .fields vs) : CallR (X.suite a ((a, oe) :: pn)) (.builtin "isinstance") (rIsDT X.K D a cls d) := by
  intro pins s σ H xs us Q I r h
  obtain ⟨tp, cs, ws, b, dd, fs, rfl, hT, kc, ec, ed, hd, e, q⟩ := h
  obtain ⟨u1, u2, rfl, r1, r2⟩ := vals2 r
  cases (show u1 = Value.ref a from r1)
  cases (show u2 = Value.ref tp from r2)
  obtain ⟨od, J⟩ := inst_of I hz hf ec ed hd
  have hx : ObjOk X.prog X.w H s.heap tp (.tup cs) := I.hok tp _ hT
  obtain ⟨_, its, rv, o, h1, h2, n, h3⟩ := hx
  have e3 := ClsV.all kc rv
  subst e3
  obtain ⟨oc, od2, dt, sl⟩ := o
  simp only at h2 h3
  subst h2 h3
  exact PySem.W.kia_tup (PySem.W.kitx_exc C.cl C.ga C.gg C.sb C.ha C.hn C.ht C.hm) I.kIn J h1 e (fun z => nomatch z) fun tk => ⟨.bl b, H, I.tok tk, rfl, q⟩
/-- f(e), e the error that is handled, by f's body -/
theorem pe_err {x par : Str} {st : Stmt} {f : Addr} {fd : FuncData} {N : List Str} {sp : Hp → VK → Prop} {e : Expr} {te : TE} {p pos : Pos} (F : Fun X.K x x st f fd) (S : FnScope N [par] (defScope st))
    (hb : ∀ (kV doc pm : Value) (an : Option Addr) (cdv ct u : Value), bindArgs (PySem.W.fnOf x x (defArgs st) (defBody st) (defScope st) .none kV doc pm an cdv ct) ⟨[u], []⟩ = pure [(par, u)])
    (hg : Gl X x) (hm : X.mg x = some (.ref f)) (hr : X.A.depth < recursionLimit)
    (hbody : ∀ (cdv : Value) (outer : List Env) (s : Shared) (H : Hp) (Q : VK), sp H Q → ∃ t, PSs ((cxOf CX0 X.prog X.w X.K X.mg X.base N x (defScope st) f cdv X.A outer s H E0).nox.suite a [(a, oe)]) (defBody st) t ∧ t { nx := fun _ H' => Q .non H', rt := Q } (start N [.ref a]) H)
    (he : PE (X.suite a ((a, oe) :: pn)) e te) (hdb : (x == ("__debug__" : Str)) = false := by decide) (hst : starEach [e] X.env = (false, eval e X.env) :: starEach [] X.env := by rfl) :
    PE (X.suite a ((a, oe) :: pn)) (.Call (.Name x p) [e] [] pos) (fun σ H Q => te σ H fun v H1 => v = .ref a ∧ sp H1 Q) := by
  have kp := F.kp
  obtain ⟨oc, od, kV, doc, pm, an, cdv, ct, osl, rfl, lk, hcd⟩ := F.ex
  refine ⟨fun pins s σ H Q I h => wpAny_Call_Name_kw (ld_glob I hg hm ?_ hdb)⟩
  refine PySem.W.callWith_K (h₀ := X.base) I.ok.mod.kin kp ?_ hst (by rfl)
  rw [hst]
  show wpAny _ _ (spliced ((false, eval e X.env) :: backTo pos (starEach [] X.env))) _ _ s
  refine Calls.spliced_cons (thn (he.run pins s σ H _ I h) fun u s1 ⟨v, H1, I1, r1, ev, hsp⟩ => ?_)
  subst ev
  cases (show u = Value.ref a from r1)
  refine Calls.spliced_nil ⟨I1.kIn, ?_⟩
  show wpAny _ _ (call (.ref f) [.ref a]) _ _ _
  have P1 := I1.pin (a, oe) (List.mem_append_left _ List.mem_cons_self)
  have hpin : L2H.PinOk X.stack H1 s1 (a, oe) := ⟨P1.1, P1.2.1, fun hmm => (List.mem_cons.mp (I1.stkSub a hmm)).elim P1.2.2.1 P1.2.2.2.1, P1.2.2.2.2⟩
  have e0 := I1.env0
  have KX : X.K.In s1.heap := I1.kIn
  have lim : s1.heap.NoLimit := I1.nolimit
  refine wpAny_call (codeAny_mono (R := CR CX0 X.stack X.prog X.w H1 s1 Q E0) ?_ fun r s2 z => ?_)
  · refine codeAny_call_function hr (KX _ _ lk) rfl S.co S.gen rfl (PySem.W.codeRec_of KX hcd) ?_
    rw [hb kV doc pm an cdv ct (.ref a)]
    refine wpAny_pure ?_
    have hkind : ∀ y ∈ [par].zip [Value.ref a], (defScope st).names.lookup y.1 = some .local ∨ ((defScope st).names.lookup y.1 = some .cell ∧ ((cellsFrom (s1.heap.objs.size + 1) (defScope st).names []).lookup y.1).isSome = true) := fun y hy => by
      rcases S.par y.1 (List.of_mem_zip hy).1 with q | q
      · exact .inl q
      · exact .inr ⟨q, PySem.W.cellsFrom_some _ _ _ (.inl q)⟩
    refine wpAny_newFunctionEnv_cells (s := s1) S.kind hkind fun env henv s3 x3 => ?_
    subst henv
    refine ⟨lim.keeps x3.toInCall.keep, codeAny_func ?_⟩
    obtain ⟨t, ht, hq⟩ := hbody cdv X.stack s1 H1 Q hsp
    have J := L2H.inv_startH (CX := CX0) (E := E0) S hpin e0 (vs := [.ref a]) rfl (.cons rfl .nil) x3
    have ht2 : PSs (L2H.cxH CX0 X.prog X.w X.K X.mg X.base N x (defScope st) f cdv (X.A.mark (some (.ref a))) X.stack s1 H1 E0 (a, oe)) (defBody st) t := PSs.nox ht
    refine wpAny_mono (ht2.run [] s3 _ H1 _ J hq) (fun fl s4 hs => ?_) fun e4 s4 hs => hs
    match fl, hs with
    | .ret u, ⟨v, σ4, H4, J4, rv, q⟩ => exact ⟨v, H4, J4.os, J4.bare, J4.base, J4.hok, rv, q⟩
    | .next, ⟨σ4, H4, J4, q⟩ => exact ⟨.non, H4, J4.os, J4.bare, J4.base, J4.hok, rfl, q⟩
    | .brk, ⟨_, _, _, q⟩ => exact q.elim
    | .cont, ⟨_, _, _, q⟩ => exact q.elim
  · match r, z with
    | .error e4, z => exact z.elim
    | .ok .next, z => exact z.elim
    | .ok .brk, z => exact z.elim
    | .ok .cont, z => exact z.elim
    | .ok (.ret u), z => exact I1.after z
end
end XT
/-! own errors: made with one field or with none, and raised by common_width -/
namespace XT
open PySem PySem.Spec PyProof.Rows L2
theorem PMk.imp {X : Cx} {e : Expr} {t t' : L2.St → Hp → XK → Prop} (h : PMk X e t) (i : ∀ σ H Q, t' σ H Q → t σ H Q) : PMk X e t' := fun pins s σ H Q I q => h pins s σ H Q I (i _ _ _ q)
/-- self.f = y in a class's __init__ -/
def spInit (K : PySem.W.Frag) (C : Addr) (f : Str) : Sp := fun vs H Q _ => ∃ (a : Addr) (y : V), vs = [.ref a, y] ∧ H a = some (exo a C none) ∧ ∀ dx, H dx = none → dx ≠ a → Q .non (upd (upd H dx (exd dx [(f, y)])) a (exo a C (some dx)))
/-- an own error class over ValueError with one field -/
structure ErrC (P : Program) (w : World) (K : PySem.W.Frag) (mg : Str → Option Value) (base : Heap) (x f : Str) (C : Addr) : Prop where
  T : OexC K C
  no : PySem.W.findIn K (.ref C) f = some none
  ini : ∃ (fI : Addr) (fd : FuncData) (ps : List Str), PySem.W.findIn K (.ref C) "__init__" = some (some (.ref fI)) ∧ PySem.W.typeIn K (.ref fI) = some (.type "function") ∧ FnOk P w K mg base CX0 1 fI fd ps (spInit K C f) ∧ Binds K fd ps []
  hm : mg x = some (.ref C)
theorem same_xd {H : Hp} {a dx C : Addr} {o o' : HO} {fs : List (Str × V)} (n : H a = none) (m : H dx = none) (ne : dx ≠ a) : Same H (upd (del (upd (upd (upd H a o) dx o') a (exo a C (some dx))) a) dx (.xd fs)) := fun b x e => by
  have h1 : b ≠ dx := ne_of_none e m
  have h2 : b ≠ a := ne_of_none e n
  rw [upd_ne h1, del_ne h2, upd_ne h2, upd_ne h1, upd_ne h2]
  exact e
section
variable {X : Cx} {C : Addr} {x f : Str} {e : Expr} {ta : TA} {p pos : Pos}
/-- C(e) -/
theorem pmk_err (R : ErrC X.prog X.w X.K X.mg X.base x f C) (hr : Room 2 X.A) (hg : Gl X x) (ha : PA X [e] ta)
    (hdb : (x == ("__debug__" : Str)) = false := by decide) (he : starEach [e] X.env = (false, eval e X.env) :: starEach [] X.env := by rfl) (hpl : (backTo pos (starEach [] X.env)).any (·.1) = false := by rfl) :
    PMk X (.Call (.Name x p) [e] [] pos) (tMkO C (spInit X.K C f) [] ta) := by
  obtain ⟨fI, fd, ps, hi, ht, F, hb⟩ := R.ini
  exact pmk_oex (CX := CX0) (k := 1) (dvs := []) (ds := []) R.T hi ht F hr hb .nil pass0 hg R.hm ha hdb he hpl
theorem mko_in {K : PySem.W.Frag} {H1 : Hp} {Q : XK} {y : V} (h : ∀ H' d, Same H1 H' → H' d = some (.xd [(f, y)]) → Q (.ref C) (some d) H') :
    [y].length ≤ 1000 ∧ ∀ a, H1 a = none → spInit K C f (.ref a :: ([y] ++ [])) (upd H1 a (exo a C none))
      (fun v H2 => v = .non ∧ ∃ (d : Addr) (fs : List (Str × V)), H2 a = some (exo a C (some d)) ∧ H2 d = some (exd d fs) ∧ H1 d = none ∧ Q (.ref C) (some d) (upd (del H2 a) d (.xd fs))) (fun _ _ _ => False) := by
  refine ⟨by simp, fun a n => ⟨a, y, rfl, upd_same, fun dx nd ne => ⟨rfl, dx, [(f, y)], upd_same, ?_, ?_, ?_⟩⟩⟩
  · exact (upd_ne ne).trans upd_same
  · rw [upd_ne ne] at nd
    exact nd
  · rw [upd_ne ne] at nd
    exact h _ dx (same_xd n nd ne) upd_same
/-- C(), no own __init__ -/
theorem pmk_none {bmB : List Value} {B newId initId : String} (F : ExcBaseFacts B newId initId bmB) (q : PySem.W.excIn X.K C bmB newId = true) (gC : X.mg x = some (.ref C)) (kC : PySem.W.keepIn X.K (.ref C) = true) (r : Raises X (.ref C)) (hg : Gl X x)
    (hdb : (x == ("__debug__" : Str)) = false := by decide) : PMk X (.Call (.Name x p) [] [] pos) (fun _ H Q => Q (.ref C) none H) := by
  intro pins s σ H Q I h
  refine wpAny_Call_Name_kw (ld_glob I hg gC ?_ hdb)
  refine PySem.W.callWith_K0 I.kIn kC ?_
  obtain ⟨bm, N, nm, qn, bs, hdct, sn, sub, ab, col, dd, k0, k1, k2, k3, k5, mN, hC, hN, hni, T⟩ := exc_obj I.kIn q
  obtain ⟨hp, g, dr, tk, os⟩ := s
  refine wpAny_call_exc_subT F T hC hN hni (fun h' e hm => ?_) (by show 0 ≤ sizeLine; omega)
  exact mk_of I hm r h (I.hok.gone hm.new)
end
end XT
namespace XT
open PySem PySem.Spec PyProof.Rows L2
/-- what the own error without fields needs -/
structure ErrN (K : PySem.W.Frag) (mg : Str → Option Value) (x : Str) (C : Addr) : Prop where
  ex : ∃ (bmB : List Value) (B newId initId : String), ExcBaseFacts B newId initId bmB ∧ PySem.W.excIn K C bmB newId = true
  exC : PySem.W.subIn K (.ref C) (.type "BaseException") = some true
  tyC : PySem.W.typeIn K (.ref C) = some (.type "type")
  kC : PySem.W.keepIn K (.ref C) = true
  hm : mg x = some (.ref C)
end XT
namespace XT
open PySem PySem.Spec PyProof.Rows L2
def DefX (P : Program) (w : World) (K : PySem.W.Frag) (mg : Str → Option Value) (base : Heap) (k : Nat) (x : Str) (sp : Sp) : Prop :=
  ∃ f fd ps, FnOk P w K mg base (L2.CX P w) k f fd ps sp ∧ Binds K fd ps [] ∧ mg x = some (.ref f) ∧ PySem.W.keepIn K (.ref f) = true
theorem DefX.of {P : Program} {w : World} {K : PySem.W.Frag} {mg : Str → Option Value} {base : Heap} {k : Nat} {x : Str} {sp : Sp} {f : Addr} {fd : FuncData} {ps : List Str}
    (F : FnOk P w K mg base (L2.CX P w) k f fd ps sp) (b : Binds K fd ps []) (hm : mg x = some (.ref f)) (hk : PySem.W.keepIn K (.ref f) = true) : DefX P w K mg base k x sp := ⟨f, fd, ps, F, b, hm, hk⟩
section
variable {X : Cx}
/-- f(e, ..), f may raise -/
theorem pe_defX {j : Nat} {x : Str} {sp : Sp} {W : WX} {e : Expr} {es : List Expr} {t : TA} {p pos : Pos} (D : DefX X.prog X.w X.K X.mg X.base j x sp) (hr : Room j X.A) (hg : Gl X x) (tk : Takes X W) (ha : PA X (e :: es) t)
    (hdb : (x == ("__debug__" : Str)) = false := by decide) (he : starEach (e :: es) X.env = (false, eval e X.env) :: starEach es X.env := by rfl) (hpl : (backTo pos (starEach es X.env)).any (·.1) = false := by rfl) :
    PE X (.Call (.Name x p) (e :: es) [] pos) (tCallS sp (WE W) t) := by
  obtain ⟨f, fd, ps, F, b, hm, hk⟩ := D
  exact pe_callS F hr hg hm hk b (fun σ => passAt tk σ) ha hdb he hpl
end
end XT
/-! operators, len, in, truth, subscript and call by an own class's methods -/
namespace XT
open PySem PySem.Spec PyProof.Rows L2
/-- the class C has the method at f -/
structure Has (K : PySem.W.Frag) (C : Addr) (nm : Str) (f : Addr) : Prop where
  at_ : PySem.W.findIn K (.ref C) nm = some (some (.ref f))
  fn : PySem.W.isFn K (.ref f) = true
/-- a def, called by values -/
abbrev Met (P : Program) (w : World) (K : PySem.W.Frag) (mg : Str → Option Value) (base : Heap) (k : Nat) (f : Addr) (sp : Sp) : Prop := FnR P w K mg base CX0 k f sp
theorem Met.of {P : Program} {w : World} {K : PySem.W.Frag} {mg : Str → Option Value} {base : Heap} {k : Nat} {sp : Sp} {f : Addr} {fd : FuncData} {ps : List Str} (F : FnOk P w K mg base CX0 k f fd ps sp) (b : Binds K fd ps []) : Met P w K mg base k f sp :=
  (FnOk.raw F b .nil).imp fun vs H Q E h => by rw [List.append_nil]; exact h
/-- an instance of C with these fields -/
def InsAt (H : Hp) (C : Addr) (v : V) (fs : List (Str × V)) : Prop := ∃ a dx, v = .ref a ∧ H a = some (.ins C dx fs)
theorem InsAt.same {H H' : Hp} {C : Addr} {v : V} {fs : List (Str × V)} (h : InsAt H C v fs) (e : Same H H') : InsAt H' C v fs := by
  obtain ⟨a, dx, rfl, h⟩ := h
  exact ⟨a, dx, rfl, e _ _ h⟩
section
variable {X : Cx} {pins : List (Addr × Obj)} {σ : L2.St} {H : Hp} {s : Shared} {j : Nat} {f C : Addr} {sp : Sp} {us : List Value} {vs : List V} {Q : VK}
theorem run_met (F : Met X.prog X.w X.K X.mg X.base j f sp) (hr : Room j X.A) (I : Inv X pins σ H s) (r : Vals vs us) (q : sp vs H Q E0) : wpAny (model X.prog X.w) X.A (call (.ref f) us) (EP X pins σ Q) X.xe s := by
  refine wpAny_call (codeAny_mono (run_fnR F hr pass0 I r q) fun r s2 z => ?_)
  match r, z with
  | .ok (.ret v), z => exact z
  | .ok .next, z => exact z.elim
  | .ok .brk, z => exact z.elim
  | .ok .cont, z => exact z.elim
  | .error e, z => exact z
theorem run_met1 (F : Met X.prog X.w X.K X.mg X.base j f sp) (hr : Room (j + 1) X.A) (I : Inv X pins σ H s) (r : Vals vs us) (q : sp vs H Q E0) : wpAny (model X.prog X.w) X.A.in1 (call (.ref f) us) (EP X pins σ Q) X.xe s := by
  refine wpAny_call (codeAny_mono (F X.A.in1 X.stack s H us vs Q E0 hr.in1 I.env0.in1 r q) fun r s2 hq => ?_)
  match r, hq with
  | .ok (.ret v), hq => exact I.after hq
  | .ok .next, hq => exact False.elim hq
  | .ok .brk, hq => exact False.elim hq
  | .ok .cont, hq => exact False.elim hq
  | .error e, hq => exact pass0 pins σ H s e s2 I hq
theorem inst_at (I : Inv X pins σ H s) {a dx : Addr} {fs : List (Str × V)} (h : H a = some (.ins C dx fs)) : ∃ od, PySem.W.InstAt s.heap a (PySem.W.instObj C dx) C (some od) := by
  obtain ⟨mA, O, _⟩ := ins_get I.hok h
  obtain ⟨od, J, _⟩ := O.look
  exact ⟨od, J⟩
theorem back_ok {u : Value} {s' : Shared} (h : EP X pins σ Q u s') : PySem.W.CmpBack (EP X pins σ Q) u s' := by
  obtain ⟨v, H', I, r, q⟩ := id h
  cases v with
  | non => cases r; exact h
  | bl b => cases r; exact h
  | int i => obtain ⟨t, rfl⟩ := r; exact h
  | str x => obtain ⟨t, rfl⟩ := r; exact h
  | byt x => obtain ⟨t, rfl⟩ := r; exact h
  | flt x => obtain ⟨t, rfl⟩ := r; exact h
  | ref a => cases r; exact h
  | ty n => cases r; exact h
/-- a op b, both of the class C -/
def rOwn (C : Addr) (sp : Sp) : R2 := fun x y H Q => (∃ fs, InsAt H C x fs) ∧ (∃ fs, InsAt H C y fs) ∧ sp [x, y] H Q E0
theorem op_own {op : Operator} (F : Met X.prog X.w X.K X.mg X.base j f sp) (hr : Room j X.A) (hc : PySem.W.selfFirst X.K C = true) (h : Has X.K C (PySem.dunder op.info.2) f) : OpR X (binaryOp op) (rOwn C sp) := by
  intro pins s σ H x y v u Q I rx ry ⟨⟨fs, a, dx, ex, ha⟩, ⟨fs', b, dx', ey, hb⟩, q⟩
  subst ex ey
  cases rx
  cases ry
  obtain ⟨od, J⟩ := inst_at I ha
  obtain ⟨od', J'⟩ := inst_at I hb
  obtain ⟨m, fr⟩ := I.fr
  exact PySem.W.binop_K fr I.ok.mod.kin J J'.type hc h.at_ h.fn (wpAny_mono (run_met (vs := [.ref a, .ref b]) F hr I (.cons rfl (.cons rfl .nil)) q) (fun _ _ z => back_ok z) fun _ _ z => z)
/-- a op i, an int -/
def rOwnI (C : Addr) (sp : Sp) : R2 := fun x y H Q => (∃ fs, InsAt H C x fs) ∧ (∃ i : Int, y = .int i) ∧ sp [x, y] H Q E0
theorem op_ownI {op : Operator} {fo ro : Option Value} (F : Met X.prog X.w X.K X.mg X.base j f sp) (hr : Room j X.A) (hc : PySem.W.selfFirst X.K C = true) (h : Has X.K C (PySem.dunder op.info.2) f) (hn : PySem.W.findIn X.K (.ref C) (dunderR op.info.2) = some none)
    (h1 : PySem.W.findIn X.K (.type "int") (PySem.dunder op.info.2) = some fo) (h2 : PySem.W.findIn X.K (.type "int") (dunderR op.info.2) = some ro) (hs : PySem.W.subIn X.K (.type "int") (.ref C) = some false) : OpR X (binaryOp op) (rOwnI C sp) := by
  intro pins s σ H x y v u Q I rx ry ⟨⟨fs, a, dx, ex, ha⟩, ⟨i, ey⟩, q⟩
  subst ex ey
  cases rx
  obtain ⟨t, rfl⟩ := id ry
  obtain ⟨od, J⟩ := inst_at I ha
  obtain ⟨m, fr⟩ := I.fr
  exact PySem.W.ksp_binT (T := "int") fr I.ok.mod.kin J rfl hc h.at_ h.fn hn (.inl rfl) h1 h2 hs (wpAny_mono (run_met (vs := [.ref a, .int i]) F hr I (.cons rfl (.cons ry .nil)) q) (fun _ _ z => back_ok z) fun _ _ z => z)
/-- ~a -/
def rOwn1 (C : Addr) (sp : Sp) : V → Hp → VK → Prop := fun x H Q => (∃ fs, InsAt H C x fs) ∧ sp [x] H Q E0
theorem un_inv (F : Met X.prog X.w X.K X.mg X.base j f sp) (hr : Room j X.A) (h : Has X.K C "__invert__" f) : UnR X (unaryOp .Invert) (rOwn1 C sp) := by
  intro pins s σ H x v Q I rx ⟨⟨fs, a, dx, ex, ha⟩, q⟩
  subst ex
  cases rx
  obtain ⟨od, J⟩ := inst_at I ha
  obtain ⟨m, fr⟩ := I.fr
  exact PySem.W.ksp_inv fr I.ok.mod.kin J h.at_ h.fn (run_met (vs := [.ref a]) F hr I (.cons rfl .nil) q)
/-- len(a) -/
def rOwnLen (C : Addr) (sp : Sp) : List V → Hp → VK → Prop := fun xs H Q => ∃ x, xs = [x] ∧ (∃ fs, InsAt H C x fs) ∧ sp [x] H (fun v H' => ∃ n : Nat, v = .int (n : Int) ∧ n < 1000000 ∧ Q (.int (n : Int)) H') E0
theorem cr_ownLen (F : Met X.prog X.w X.K X.mg X.base j f sp) (hr : Room (j + 1) X.A) (h : Has X.K C "__len__" f) : CallR X (.builtin "len") (rOwnLen C sp) := by
  intro pins s σ H xs us Q I r ⟨x, exs, ⟨fs, a, dx, ex, ha⟩, q⟩
  subst exs ex
  rw [Vals.ref1 r]
  obtain ⟨od, J⟩ := inst_at I ha
  obtain ⟨m, fr⟩ := I.fr
  refine PySem.W.len_K fr I.ok.mod.kin J h.at_ h.fn (wpAny_mono (run_met1 (vs := [.ref a]) F hr I (.cons rfl .nil) q) (fun u s' z => ?_) fun _ _ z => z)
  obtain ⟨v, H', I', rv, n, ev, hn, q'⟩ := z
  subst ev
  obtain ⟨t, rfl⟩ := rv
  refine ⟨⟨by omega, by omega⟩, ?_⟩
  exact ⟨.int (n : Int), H', I'.tok _, ⟨_, rfl⟩, q'⟩
/-- v in a -/
def rOwnIn (C : Addr) (sp : Sp) (neg : Bool) : R2 := fun x y H Q => (∃ fs, InsAt H C y fs) ∧ sp [y, x] H (fun v H' => ∃ b : Bool, v = .bl b ∧ Q (.bl (if neg then !b else b)) H') E0
theorem op_ownIn (F : Met X.prog X.w X.K X.mg X.base j f sp) (hr : Room j X.A) (h : Has X.K C "__contains__" f) : OpR X (compareOp .In) (rOwnIn C sp false) := by
  intro pins s σ H x y v u Q I rx ry ⟨⟨fs, a, dx, ey, ha⟩, q⟩
  subst ey
  cases ry
  obtain ⟨od, J⟩ := inst_at I ha
  obtain ⟨m, fr⟩ := I.fr
  refine PySem.W.in_K fr I.ok.mod.kin J h.at_ h.fn (wpAny_mono (run_met (vs := [.ref a, x]) F hr I (.cons rfl (.cons rx .nil)) q) (fun w s' z => ?_) fun _ _ z => z)
  obtain ⟨v', H', I', rv, b, ev, q'⟩ := z
  subst ev
  cases rv
  exact wpAny_truthy_bool ⟨.bl _, H', I', rfl, q'⟩
theorem op_ownNotIn (F : Met X.prog X.w X.K X.mg X.base j f sp) (hr : Room j X.A) (h : Has X.K C "__contains__" f) : OpR X (compareOp .NotIn) (rOwnIn C sp true) := by
  intro pins s σ H x y v u Q I rx ry ⟨⟨fs, a, dx, ey, ha⟩, q⟩
  subst ey
  cases ry
  obtain ⟨od, J⟩ := inst_at I ha
  obtain ⟨m, fr⟩ := I.fr
  refine PySem.W.notIn_K fr I.ok.mod.kin J h.at_ h.fn (wpAny_mono (run_met (vs := [.ref a, x]) F hr I (.cons rfl (.cons rx .nil)) q) (fun w s' z => ?_) fun _ _ z => z)
  obtain ⟨v', H', I', rv, b, ev, q'⟩ := z
  subst ev
  cases rv
  exact wpAny_truthy_bool ⟨.bl _, H', I', rfl, q'⟩
/-- if a -/
theorem tr_own (F : Met X.prog X.w X.K X.mg X.base j f sp) (hr : Room j X.A) (h : Has X.K C "__bool__" f) : TruR X (fun x H Q => (∃ fs, InsAt H C x fs) ∧ sp [x] H (fun v H' => ∃ b : Bool, v = .bl b ∧ Q b H') E0) := by
  intro pins s σ H x v Q I rx ⟨⟨fs, a, dx, ex, ha⟩, q⟩
  subst ex
  cases rx
  obtain ⟨od, J⟩ := inst_at I ha
  obtain ⟨m, fr⟩ := I.fr
  refine PySem.W.truthy_K fr I.ok.mod.kin J h.at_ h.fn (wpAny_mono (run_met (vs := [.ref a]) F hr I (.cons rfl .nil) q) (fun w s' z => ?_) fun _ _ z => z)
  obtain ⟨v', H', I', rv, b, ev, q'⟩ := z
  subst ev
  cases rv
  exact ⟨H', I', q'⟩
end
end XT
/-! draws within comprehensions; the lots that the law draws -/
namespace XT
open PySem PySem.Spec PyProof.Rows L2
/-- the stream's time goes on, all else stays -/
structure Step (S : Sm) (H : Hp) (t : Int) (H' : Hp) (t' : Int) (n : Nat) : Prop where
  keep : Keep S H H'
  st : Strm S H' t'
  lo : t ≤ t'
  hi : t' ≤ t + n
def spDrawN : Sp := fun vs H Q _ => ∃ (S : Sm) (t : Int) (m : Nat), vs = [.ref S.s, .int (m : Int)] ∧ Strm S H t ∧ 0 < m ∧ m ≤ 1000 ∧ t < 100000000 ∧
  ∀ (H' : Hp) (r : Nat) (t' : Int), Step S H t H' t' 1 → r < m → Q (.int (r : Int)) H'
theorem drawN {P : Program} {w : World} {K : PySem.W.Frag} {mg : Str → Option Value} {base : Heap} {k : Nat} {x : Str} (D : DefR P w K mg base k x spDraw) : DefR P w K mg base k x spDrawN := by
  obtain ⟨f, F, h1, h2⟩ := D
  refine ⟨f, F.imp fun vs H Q E ⟨S, t, m, ev, st, m0, m1, t1, q⟩ => ⟨S, t, m, ev, st, by omega, by omega, by omega, fun H' r t' k s a b r0 r1 => ?_⟩, h1, h2⟩
  obtain ⟨n, rfl⟩ := Int.eq_ofNat_of_zero_le r0
  exact q H' n t' ⟨k, s, a, b⟩ (by omega)
theorem Step.refl {S : Sm} {H : Hp} {t : Int} (h : Strm S H t) : Step S H t H t 0 := ⟨Keep.refl S H, h, Int.le_refl _, by omega⟩
theorem Step.trans {S : Sm} {H H1 H2 : Hp} {t t1 t2 : Int} {n m : Nat} (a : Step S H t H1 t1 n) (b : Step S H1 t1 H2 t2 m) : Step S H t H2 t2 (n + m) := ⟨a.keep.trans b.keep, b.st, Int.le_trans a.lo b.lo, by have := a.hi; have := b.hi; omega⟩
theorem Step.same {S : Sm} {H H1 H2 : Hp} {t t1 : Int} {n : Nat} (a : Step S H t H1 t1 n) (b : Same H1 H2) : Step S H t H2 t1 n := ⟨a.keep.trans (Keep.of b), a.st.same b, a.lo, a.hi⟩
theorem Step.mono {S : Sm} {H H1 : Hp} {t t1 : Int} {n m : Nat} (a : Step S H t H1 t1 n) (h : n ≤ m) : Step S H t H1 t1 m := ⟨a.keep, a.st, a.lo, by have := a.hi; omega⟩
section
variable {K : PySem.W.Frag} {a : Addr} {g : TG} {tt : TT} {te : TE} {vs : List Nat} {σ : L2.St} {H1 : Hp} {D : Addr} {Qd : Hp → Prop} {S : Sm} {t0 : Int} {c : Nat}
/-- what one turn must do: the stream is drawn from at most d times, and what is kept is a number below c -/
def TurnS (S : Sm) (c d : Nat) (g : TG) (tt : TT) (te : TE) (vs : List Nat) (σ : L2.St) (x : V) (H : Hp) (t : Int) : Prop :=
  ∀ (R1 : Hp → Prop) (R2 : V → Hp → Prop), (∀ H3 t3, Step S H t H3 t3 d → R1 H3) → (∀ (k : Nat) H4 t4, Step S H t H4 t4 d → k < c → R2 (.int (k : Int)) H4) →
    g x (wipe σ vs) H fun σ2 H2 => wipe σ2 vs = wipe σ vs ∧ tt σ2 H2 fun b H3 => if b = true then te σ2 H3 R2 else R1 H3
def PvS (S : Sm) (c d : Nat) (H1 : Hp) (t0 : Int) (D : Addr) (i : Nat) (H : Hp) : Prop := ∃ (ks : List Nat) (t : Int), Step S H1 t0 H t (d * i) ∧ H D = some (.lst (vm ks)) ∧ (∀ k ∈ ks, k < c) ∧ ks.length ≤ i
theorem pvs_start (st : Strm S H1 t0) (nD : H1 D = none) (d : Nat) : PvS S c d H1 t0 D 0 (upd H1 D (.lst [])) := ⟨[], t0, ((Step.refl st).same (same_new nD)).mono (Nat.zero_le _), upd_same, by simp, by simp⟩
theorem pvs_turn {d i : Nat} {x : V} {H : Hp} (st0 : Strm S H1 t0) (nD : H1 D = none) (hi : i ≤ 1000) (h : PvS S c d H1 t0 D i H) (ht : ∀ t, Step S H1 t0 H t (d * i) → TurnS S c d g tt te vs σ x H t) :
    g x (wipe σ vs) H fun σ2 H2 => wipe σ2 vs = wipe σ vs ∧ tt σ2 H2 fun b H3 =>
      if b = true then te σ2 H3 fun y H4 => ∃ acc, H4 D = some (.lst acc) ∧ acc.length < sizeLine ∧ PvS S c d H1 t0 D (i + 1) (upd H4 D (.lst (acc ++ [y]))) else PvS S c d H1 t0 D (i + 1) H3 := by
  obtain ⟨ks, t, stp, hD, hk, hl⟩ := h
  refine ht t stp _ _ (fun H3 t3 s3 => ?_) (fun k H4 t4 s4 hkc => ?_)
  · exact ⟨ks, t3, (stp.trans s3).mono (by rw [Nat.mul_succ]; exact Nat.le_refl _), s3.keep.mine st0 nD hD, hk, by omega⟩
  · have hD4 := s4.keep.mine st0 nD hD
    refine ⟨_, hD4, small64 (by rw [vm_len]; omega), ks ++ [k], t4, ?_, ?_, ?_, ?_⟩
    · have z := stp.trans s4
      have nDs : D ≠ S.s := fun e => by obtain ⟨_, h⟩ := st0; rw [e, h.hs] at nD; cases nD
      have nDp : D ≠ S.p := fun e => by obtain ⟨_, h⟩ := st0; rw [e, h.hp] at nD; cases nD
      have nDq : D ≠ S.q := fun e => by obtain ⟨_, h⟩ := st0; rw [e, h.hq] at nD; cases nD
      refine ⟨fun b o n1 n2 e => ?_, ?_, z.lo, by have := z.hi; rw [Nat.mul_succ]; exact this⟩
      · rw [upd_ne (ne_of_none e nD)]
        exact z.keep b o n1 n2 e
      · obtain ⟨big, hb⟩ := z.st
        refine ⟨big, ?_, ?_, ?_, hb.sp, hb.sq, hb.pq, hb.ne, hb.t0⟩
        · rw [upd_ne nDs.symm]; exact hb.hs
        · rw [upd_ne nDp.symm]; exact hb.hp
        · rw [upd_ne nDq.symm]; exact hb.hq
    · rw [upd_same]; unfold vm; rw [List.map_append]; rfl
    · intro j hj
      rcases List.mem_append.mp hj with hj | hj
      · exact hk j hj
      · rw [List.mem_singleton.mp hj]; exact hkc
    · rw [List.length_append]; simp; exact hl
theorem lcs_range {n d : Nat} (st0 : Strm S H1 t0) (nD : H1 D = none) (hn : n ≤ 1000) (ht : ∀ (i : Nat) H t, i < n → Step S H1 t0 H t (d * i) → TurnS S c d g tt te vs σ (.int (0 + (i : Int))) H t) (hd : ∀ H, PvS S c d H1 t0 D n H → Qd H) :
    ∃ W : Nat → Nat → Hp → Prop, (∃ m, W 0 m (upd H1 D (.lst []))) ∧ ∀ i m H, W i m H →
      ((Itr 0 n).stop i H ∧ Qd H) ∨ ((Itr 0 n).go i H ∧ ∃ Nx : Hp → Prop, (∀ H', Nx H' → ∃ m', m' < m ∧ W (i + 1) m' H') ∧ ∀ x H', (Itr 0 n).yld i H x H' → g x (wipe σ vs) H' fun σ2 H2 => wipe σ2 vs = wipe σ vs ∧ tt σ2 H2 fun b H3 =>
        if b = true then te σ2 H3 fun y H4 => ∃ acc, H4 D = some (.lst acc) ∧ acc.length < sizeLine ∧ Nx (upd H4 D (.lst (acc ++ [y]))) else Nx H3) :=
  lc_range (lo := 0) (n := n) (fun i H => PvS S c d H1 t0 D i H) (pvs_start st0 nD d) (fun i H hi h => pvs_turn st0 nD (by omega) h fun t s => ht i H t hi s) hd
theorem lcs_list {ms : List Nat} {d : Nat} (st0 : Strm S H1 t0) (nD : H1 D = none) (hA : H1 a = some (.lst (vm ms))) (as : a ≠ S.s) (ap : a ≠ S.p) (hn : ms.length ≤ 1000)
    (ht : ∀ (i : Nat) (m : Nat) H t, ms[i]? = some m → Step S H1 t0 H t (d * i) → TurnS S c d g tt te vs σ (.int (m : Int)) H t) (hd : ∀ H, PvS S c d H1 t0 D ms.length H → Qd H) :
    ∃ W : Nat → Nat → Hp → Prop, (∃ m, W 0 m (upd H1 D (.lst []))) ∧ ∀ i m H, W i m H →
      ((Itl K a).stop i H ∧ Qd H) ∨ ((Itl K a).go i H ∧ ∃ Nx : Hp → Prop, (∀ H', Nx H' → ∃ m', m' < m ∧ W (i + 1) m' H') ∧ ∀ x H', (Itl K a).yld i H x H' → g x (wipe σ vs) H' fun σ2 H2 => wipe σ2 vs = wipe σ vs ∧ tt σ2 H2 fun b H3 =>
        if b = true then te σ2 H3 fun y H4 => ∃ acc, H4 D = some (.lst acc) ∧ acc.length < sizeLine ∧ Nx (upd H4 D (.lst (acc ++ [y]))) else Nx H3) := by
  refine lc_list (xs := vm ms) (fun i H => PvS S c d H1 t0 D i H) (pvs_start st0 nD d) (fun i H _ h => ?_) (fun i x H hx h => ?_) (fun H h => ?_)
  · obtain ⟨_, _, s, _⟩ := h
    exact SqL.of (s.keep a _ as ap hA)
  · obtain ⟨m, hm, rfl⟩ := mem_vm hx
    have hi : i < ms.length := (List.getElem?_eq_some_iff.mp hm).1
    exact pvs_turn st0 nD (by omega) h fun t s => ht i m H t hm s
  · rw [vm_len] at h
    exact hd H h
end
end XT
/-! how long data are when shown -/
namespace XT
open PySem PySem.Spec PyProof.Rows L2
structure Shw (d : PyData) (n k : Nat) : Prop where
  lay : PyData.canLay0 d = true
  dep : PyData.depth d ≤ k
  shw : PyData.showable d = true
  len : (PyData.shown d).length ≤ n
structure ShwAll (ds : List PyData) (n k : Nat) : Prop where
  lay : PyData.canLayAll0 ds = true
  dep : PyData.depthAll ds ≤ k
  shw : PyData.showableAll ds = true
  len : ((PyData.shownAll ds).map (·.length)).sum + 2 * (PyData.shownAll ds).length ≤ n
theorem ShwAll.nil {k : Nat} : ShwAll [] 0 k := ⟨rfl, Nat.zero_le _, rfl, Nat.le_refl _⟩
theorem ShwAll.cons {d : PyData} {ds : List PyData} {n m k : Nat} (h : Shw d n k) (t : ShwAll ds m k) : ShwAll (d :: ds) (n + 2 + m) k := by
  refine ⟨?_, ?_, ?_, ?_⟩
  · simp only [PyData.canLayAll0, h.lay, t.lay, Bool.and_self]
  · simp only [PyData.depthAll]
    exact Nat.max_le.mpr ⟨h.dep, t.dep⟩
  · simp only [PyData.showableAll, h.shw, t.shw, Bool.and_self]
  · have h1 := h.len
    have h2 := t.len
    simp only [PyData.shownAll, List.map_cons, List.sum_cons, List.length_cons]
    omega
theorem Shw.mono {d : PyData} {n m k j : Nat} (h : Shw d n k) (a : n ≤ m) (b : k ≤ j) : Shw d m j := ⟨h.lay, Nat.le_trans h.dep b, h.shw, Nat.le_trans h.len a⟩
theorem ShwAll.mono {d : List PyData} {n m k j : Nat} (h : ShwAll d n k) (a : n ≤ m) (b : k ≤ j) : ShwAll d m j := ⟨h.lay, Nat.le_trans h.dep b, h.shw, Nat.le_trans h.len a⟩
theorem ShwAll.list {ds : List PyData} {n k : Nat} (h : ShwAll ds n k) : Shw (.list ds) (n + 3) (k + 1) := by
  refine ⟨by simpa only [PyData.canLay0] using h.lay, ?_, by simpa only [PyData.showable] using h.shw, ?_⟩
  · simp only [PyData.depth]
    have := h.dep
    omega
  · simp only [PyData.shown]
    have := listText_len_le (PyData.shownAll ds)
    have := h.len
    omega
theorem ShwAll.tuple {ds : List PyData} {n k : Nat} (h : ShwAll ds n k) : Shw (.tuple ds) (n + 3) (k + 1) := by
  refine ⟨by simpa only [PyData.canLay0] using h.lay, ?_, by simpa only [PyData.showable] using h.shw, ?_⟩
  · simp only [PyData.depth]
    have := h.dep
    omega
  · simp only [PyData.shown]
    have := tupleText_len_le (PyData.shownAll ds)
    have := h.len
    omega
theorem shw_nat {m : Nat} (h : m < 1000000) : Shw (.int (m : Int)) 13 0 := by
  refine ⟨rfl, Nat.le_refl _, ?_, PyData.shown_int_le (by omega)⟩
  show decide ((m : Int).natAbs.log2 < 1920) = true
  rw [decide_eq_true_iff, Int.natAbs_natCast]
  by_cases h0 : m = 0
  · subst h0; decide
  · exact Nat.lt_of_lt_of_le ((Nat.log2_lt h0).mpr (show m < 2 ^ 20 by omega)) (by decide)
theorem shw_nats : ∀ {ms : List Nat}, (∀ m ∈ ms, m < 1000000) → ShwAll (ms.map fun (m : Nat) => PyData.int (m : Int)) (15 * ms.length) 0
  | [], _ => ShwAll.nil
  | m :: ms, h => by
    have := ShwAll.cons (shw_nat (h m List.mem_cons_self)) (shw_nats (ms := ms) fun x hx => h x (List.mem_cons_of_mem _ hx))
    exact this.mono (by rw [List.length_cons]; omega) (Nat.le_refl _)
theorem shw_lot {n : Nat} (hn : n ≤ 6) (p : Nat → Bool) : Shw (dLot n p) 1000 2 := by
  have h6 := pow6 (w := n) hn
  have hl := lot_len hn p
  have h := (shw_nats (ms := lotOf n p) fun m hm => by have := (mem_lot.mp hm).1; omega).tuple
  have := (ShwAll.cons ((shw_nat (m := n) (by omega)).mono (Nat.le_refl _) (Nat.zero_le 1)) (ShwAll.cons (h.mono (Nat.le_refl _) (by omega)) ShwAll.nil)).tuple
  exact this.mono (by omega) (by omega)
theorem shw_width (i : Nat) (h : i < 1000000) : Shw (.list [.str "width", .int (i : Int)]) 1000 2 := by
  have hs : Shw (.str "width") 10 0 := ⟨by decide +kernel, Nat.le_refl _, rfl, by decide +kernel⟩
  exact (ShwAll.cons hs (ShwAll.cons (shw_nat h) ShwAll.nil)).list.mono (by omega) (by omega)
theorem shw_two {a b : PyData} {n m k : Nat} (ha : Shw a n k) (hb : Shw b m k) : Shw (.list [a, b]) (n + m + 7) (k + 1) := (ShwAll.cons ha (ShwAll.cons hb ShwAll.nil)).list.mono (by omega) (by omega)
theorem Shw.shaped {d : PyData} {n k : Nat} (hs : Shw d n k) (hk : k ≤ 64) : SeqAt.shaped d = true := by
  unfold SeqAt.shaped
  rw [hs.lay, decide_eq_true (Nat.le_trans hs.dep hk)]
  rfl
theorem Shw.sz {d : PyData} {n k : Nat} (hs : Shw d n k) (hn : n ≤ 10000000) : d.shown.length ≤ sizeLine := by
  rw [sizeLine_eq]
  have := hs.len
  omega
end XT
/-! lots with their widths; a comprehension of drawn lots; when two lots are equal -/
namespace XT
open PySem PySem.Spec PyProof.Rows L2
abbrev rXor : R2 := rI0 fun i j => .int (Builtin.bitXor i j)
/-- f(..) by its promise, as pe_def reads it -/
abbrev tDf (sp : Sp) (t : TA) : TE := fun σ H Q => t σ H fun vs H1 => sp vs H1 Q E0
structure Lt where
  v : V
  n : Nat
  p : Nat → Bool
def LtAt (H : Hp) (l : Lt) : Prop := LotAt H l.v l.n l.p ∧ 1 ≤ l.n ∧ l.n ≤ 6
theorem LtAt.same {H H' : Hp} {l : Lt} (h : LtAt H l) (e : Same H H') : LtAt H' l := ⟨h.1.same e, h.2⟩
theorem lt_keep {S : Sm} {H H' : Hp} {t : Int} {l : Lt} (h : LtAt H l) (k : Keep S H H') (st : Strm S H t) : LtAt H' l := ⟨h.1.keep k st, h.2⟩
theorem at_ne' {H : Hp} {a b : Addr} {x y : HO} (h1 : H a = some x) (h2 : H b = some y) (n : x ≠ y) : b ≠ a := fun e => by
  rw [e, h1] at h2
  exact n (Option.some.inj h2)
theorem lot_upd {H : Hp} {R : Addr} {xs ys : List V} {v : V} {n : Nat} {p : Nat → Bool} (hR : H R = some (.lst xs)) (h : LotAt H v n p) : LotAt (upd H R (.lst ys)) v n p := by
  obtain ⟨x, y, rfl, hx, hy⟩ := h
  exact ⟨x, y, rfl, by rw [upd_ne (at_ne' hR hx (by simp))]; exact hx, by rw [upd_ne (at_ne' hR hy (by simp))]; exact hy⟩
theorem strm_upd {S : Sm} {H : Hp} {t : Int} {R : Addr} {o : HO} (h : Strm S H t) (n1 : R ≠ S.s) (n2 : R ≠ S.p) (n3 : R ≠ S.q) : Strm S (upd H R o) t := by
  obtain ⟨big, s⟩ := h
  exact ⟨big, by rw [upd_ne (Ne.symm n1)]; exact s.hs, by rw [upd_ne (Ne.symm n2)]; exact s.hp, by rw [upd_ne (Ne.symm n3)]; exact s.hq, s.sp, s.sq, s.pq, s.ne, s.t0⟩
theorem strm_ne {S : Sm} {H : Hp} {t : Int} {R : Addr} (h : Strm S H t) (n : H R = none) : R ≠ S.s ∧ R ≠ S.p ∧ R ≠ S.q := by
  obtain ⟨big, s⟩ := h
  exact ⟨(ne_of_none s.hs n).symm, (ne_of_none s.hp n).symm, (ne_of_none s.hq n).symm⟩
mutual
theorem Dp_same {K : PySem.W.Frag} {H H' : Hp} (e : Same H H') : ∀ {v : V} {d : PyData}, Dp K H v d → Dp K H' v d
  | _, _, .non => .non
  | _, _, .bl b => .bl b
  | _, _, .int i => .int i
  | _, _, .str x => .str x
  | _, _, .lst h a => .lst (e.seq h) (DpAll_same e a)
  | _, _, .tup h a => .tup (Same.sqT e h) (DpAll_same e a)
theorem DpAll_same {K : PySem.W.Frag} {H H' : Hp} (e : Same H H') : ∀ {vs : List V} {ds : List PyData}, DpAll K H vs ds → DpAll K H' vs ds
  | _, _, .nil => .nil
  | _, _, .cons h a => .cons (Dp_same e h) (DpAll_same e a)
end
/-! a list of one's own is changed: what was there before it is still there -/
theorem same_upd {H0 H : Hp} {R : Addr} {o : HO} (h : Same H0 H) (n : H0 R = none) : Same H0 (upd H R o) := fun b x e => by
  rw [upd_ne (ne_of_none e n)]
  exact h b x e
/-! tuples of masks -/
def TupAt (H : Hp) (v : V) (ms : List Nat) : Prop := ∃ q, v = .ref q ∧ H q = some (.tup (vm ms))
theorem TupAt.same {H H' : Hp} {v : V} {ms : List Nat} (h : TupAt H v ms) (e : Same H H') : TupAt H' v ms := by
  obtain ⟨q, rfl, h⟩ := h
  exact ⟨q, rfl, e _ _ h⟩
theorem TupAt.dp {K : PySem.W.Frag} {H : Hp} {v : V} {ms : List Nat} (h : TupAt H v ms) : Dp K H v (.tuple (ms.map fun (m : Nat) => .int (m : Int))) := by
  obtain ⟨q, rfl, h⟩ := h
  exact .tup (SqT.of h) (dpVm _)
theorem shw_tup {n : Nat} (hn : n ≤ 6) (p : Nat → Bool) : Shw (.tuple ((lotOf n p).map fun (m : Nat) => PyData.int (m : Int))) 1000 1 := by
  have h6 := pow6 (w := n) hn
  have hl := lot_len hn p
  have h := (shw_nats (ms := lotOf n p) fun m hm => by have := (mem_lot.mp hm).1; omega).tuple
  exact h.mono (by omega) (by omega)
/-! when two lists of numbers, two lots are equal -/
theorem eqv_nats : ∀ ms ks : List Nat, PyData.eqvAll (ms.map fun (m : Nat) => PyData.int (m : Int)) (ks.map fun (m : Nat) => PyData.int (m : Int)) = decide (ms = ks)
  | [], [] => rfl
  | [], k :: ks => by simp [PyData.eqvAll]
  | m :: ms, [] => by simp [PyData.eqvAll]
  | m :: ms, k :: ks => by
    have h := eqv_nats ms ks
    simp only [List.map_cons, PyData.eqvAll, PyData.eqv, h]
    rw [Bool.eq_iff_iff]
    simp only [Bool.and_eq_true, decide_eq_true_iff, beq_iff_eq, List.cons.injEq]
    constructor
    · rintro ⟨a, b⟩
      exact ⟨by omega, b⟩
    · rintro ⟨a, b⟩
      exact ⟨by omega, b⟩
theorem lot_eq_iff {n : Nat} {p r : Nat → Bool} : lotOf n p = lotOf n r ↔ ∀ m, m < 2 ^ n → p m = r m := by
  refine ⟨fun h m hm => ?_, lot_congr⟩
  have h2 : m ∈ lotOf n p ↔ m ∈ lotOf n r := by rw [h]
  rw [mem_lot, mem_lot] at h2
  rw [Bool.eq_iff_iff]
  exact ⟨fun z => (h2.mp ⟨hm, z⟩).2, fun z => (h2.mpr ⟨hm, z⟩).2⟩
theorem eqv_lots (n : Nat) (p r : Nat → Bool) : PyData.eqv (dLot n p) (dLot n r) = decide (∀ m, m < 2 ^ n → p m = r m) := by
  simp only [dLot, PyData.eqv, PyData.eqvAll, eqv_nats]
  rw [Bool.eq_iff_iff]
  simp [lot_eq_iff]
/-- what one turn must do: the stream is drawn from at most d times, and what is kept is a lot -/
def TurnL (S : Sm) (d : Nat) (g : TG) (tt : TT) (te : TE) (vs : List Nat) (σ : L2.St) (x : V) (H : Hp) (t : Int) : Prop :=
  ∀ (R1 : Hp → Prop) (R2 : V → Hp → Prop), (∀ (l : Lt) H4 t4, Step S H t H4 t4 d → LtAt H4 l → R2 l.v H4) →
    g x (wipe σ vs) H fun σ2 H2 => wipe σ2 vs = wipe σ vs ∧ tt σ2 H2 fun b H3 => if b = true then te σ2 H3 R2 else R1 H3
def PvL (S : Sm) (d : Nat) (H1 : Hp) (t0 : Int) (D : Addr) (i : Nat) (H : Hp) : Prop := ∃ (ls : List Lt) (t : Int), Step S H1 t0 H t (d * i) ∧ H D = some (.lst (ls.map (·.v))) ∧ (∀ l ∈ ls, LtAt H l) ∧ ls.length = i
theorem lcl_range {g : TG} {tt : TT} {te : TE} {vs : List Nat} {σ : L2.St} {H1 : Hp} {D : Addr} {Qd : Hp → Prop} {S : Sm} {t0 : Int} {n d : Nat} (st0 : Strm S H1 t0) (nD : H1 D = none) (hn : n ≤ 1000)
    (ht : ∀ (i : Nat) H t, i < n → Step S H1 t0 H t (d * i) → TurnL S d g tt te vs σ (.int (0 + (i : Int))) H t) (hd : ∀ H, PvL S d H1 t0 D n H → Qd H) :
    ∃ W : Nat → Nat → Hp → Prop, (∃ m, W 0 m (upd H1 D (.lst []))) ∧ ∀ i m H, W i m H →
      ((Itr 0 n).stop i H ∧ Qd H) ∨ ((Itr 0 n).go i H ∧ ∃ Nx : Hp → Prop, (∀ H', Nx H' → ∃ m', m' < m ∧ W (i + 1) m' H') ∧ ∀ x H', (Itr 0 n).yld i H x H' → g x (wipe σ vs) H' fun σ2 H2 => wipe σ2 vs = wipe σ vs ∧ tt σ2 H2 fun b H3 =>
        if b = true then te σ2 H3 fun y H4 => ∃ acc, H4 D = some (.lst acc) ∧ acc.length < sizeLine ∧ Nx (upd H4 D (.lst (acc ++ [y]))) else Nx H3) := by
  refine lc_range (lo := 0) (n := n) (fun i H => PvL S d H1 t0 D i H) ⟨[], t0, ((Step.refl st0).same (same_new nD)).mono (Nat.zero_le _), upd_same, by simp, rfl⟩ (fun i H hi h => ?_) hd
  obtain ⟨ls, t, stp, hD, hall, hl⟩ := h
  refine ht i H t hi stp _ _ (fun l H4 t4 s4 hl4 => ?_)
  have hD4 := s4.keep.mine st0 nD hD
  refine ⟨_, hD4, small64 (by rw [List.length_map]; omega), ls ++ [l], t4, ?_, ?_, ?_, ?_⟩
  · have z := stp.trans s4
    obtain ⟨nDs, nDp, nDq⟩ := strm_ne st0 nD
    refine ⟨fun b o n1 n2 e => ?_, strm_upd z.st nDs nDp nDq, z.lo, by have := z.hi; rw [Nat.mul_succ]; exact this⟩
    rw [upd_ne (ne_of_none e nD)]
    exact z.keep b o n1 n2 e
  · rw [upd_same, List.map_append]; rfl
  · intro j hj
    have h6 : LtAt H4 j := by
      rcases List.mem_append.mp hj with hj | hj
      · exact lt_keep (hall j hj) s4.keep stp.st
      · rw [List.mem_singleton.mp hj]; exact hl4
    exact ⟨lot_upd hD4 h6.1, h6.2⟩
  · rw [List.length_append, hl]; rfl
end XT
/-! more of lots, of lists and tuples of masks -/
namespace XT
open PySem PySem.Spec PyProof.Rows L2
theorem bList : bootBuiltins "list" = some (.type "list") := by decide +kernel
theorem bSum : bootBuiltins "sum" = some (.builtin "sum") := by decide +kernel
theorem bMin : bootBuiltins "min" = some (.builtin "min") := by decide +kernel
theorem bMax : bootBuiltins "max" = some (.builtin "max") := by decide +kernel
theorem lot_none (n : Nat) : lotOf n (fun _ => false) = [] := by
  unfold lotOf
  rw [List.filter_eq_nil_iff]
  intro m _
  decide
theorem lot_nil_iff {n : Nat} {p : Nat → Bool} : lotOf n p = [] ↔ ∀ m, m < 2 ^ n → p m = false := by
  unfold lotOf
  rw [List.filter_eq_nil_iff]
  simp
theorem range_lot (n : Nat) : rgV 0 ((2 ^ n : Nat) : Int) = vm (lotOf n fun _ => true) := by
  unfold rgV vm lotOf
  rw [List.filter_eq_self.mpr (fun _ _ => rfl), Int.sub_zero]
  show List.map (fun (i : Nat) => V.int (0 + (i : Int))) (List.range (2 ^ n)) = _
  exact List.map_congr_left fun m _ => by rw [Int.zero_add]
theorem lot_take {n : Nat} {p : Nat → Bool} {i : Nat} (hi : i < 2 ^ n) : ((List.range (2 ^ n)).take (i + 1)).filter p = ((List.range (2 ^ n)).take i).filter p ++ (if p i = true then [i] else []) := by
  have h := take_one (id : Nat → Nat) p (xs := List.range (2 ^ n)) (i := i) (x := i) (List.getElem?_range hi)
  simpa using h
theorem nats_shaped (ns : List Nat) : SeqAt.shaped (.list (ns.map fun (m : Nat) => PyData.int (m : Int))) = true := by
  have h := ke_shaped (ns.map fun (m : Nat) => (m : Int))
  rw [List.map_map] at h
  exact h
theorem tupN_shaped (ms : List Nat) : SeqAt.shaped (.tuple (ms.map fun (m : Nat) => PyData.int (m : Int))) = true := by
  have h1 : PyData.canLay0 (.tuple (ms.map fun (m : Nat) => PyData.int (m : Int))) = true := by
    have h := ints_lay ms
    simp [PyData.canLay0, h]
  have h2 : PyData.depth (.tuple (ms.map fun (m : Nat) => PyData.int (m : Int))) ≤ 64 := by
    have h := ints_depth ms
    simp only [PyData.depth]
    omega
  unfold SeqAt.shaped
  rw [h1, decide_eq_true h2]
  rfl
theorem eqv_lstN (ms ks : List Nat) : PyData.eqv (.list (ms.map fun (m : Nat) => PyData.int (m : Int))) (.list (ks.map fun (m : Nat) => PyData.int (m : Int))) = decide (ms = ks) := by
  have h := eqv_nats ms ks
  simpa [PyData.eqv] using h
theorem eqv_tupN (ms ks : List Nat) : PyData.eqv (.tuple (ms.map fun (m : Nat) => PyData.int (m : Int))) (.tuple (ks.map fun (m : Nat) => PyData.int (m : Int))) = decide (ms = ks) := by
  have h := eqv_nats ms ks
  simpa [PyData.eqv] using h
theorem eqv_nilN (ms : List Nat) : PyData.eqv (.list (ms.map fun (m : Nat) => PyData.int (m : Int))) (.list []) = decide (ms = []) := eqv_lstN ms []
/-- a list of masks -/
def LsN (H : Hp) (v : V) (ms : List Nat) : Prop := ∃ q, v = .ref q ∧ H q = some (.lst (vm ms))
theorem LsN.same {H H' : Hp} {v : V} {ms : List Nat} (h : LsN H v ms) (e : Same H H') : LsN H' v ms := by
  obtain ⟨q, rfl, h⟩ := h
  exact ⟨q, rfl, e _ _ h⟩
theorem LsN.dp {K : PySem.W.Frag} {H : Hp} {v : V} {ms : List Nat} (h : LsN H v ms) : Dp K H v (.list (ms.map fun (m : Nat) => .int (m : Int))) := by
  obtain ⟨q, rfl, h⟩ := h
  exact .lst (SqL.of h) (dpVm _)
/-- a != b of tuples, of lists of masks -/
theorem ne_tupN {K : PySem.W.Frag} {H : Hp} {x y : V} {ms ks : List Nat} {Q : VK} (hx : TupAt H x ms) (hy : TupAt H y ks) (q : Q (.bl (!decide (ms = ks))) H) : rNeD K x y H Q := by
  refine ⟨_, _, hx.dp, hy.dp, tupN_shaped _, tupN_shaped _, ?_⟩
  rw [eqv_tupN]
  exact q
theorem eq_tupN {K : PySem.W.Frag} {H : Hp} {x y : V} {ms ks : List Nat} {Q : VK} (hx : TupAt H x ms) (hy : TupAt H y ks) (q : Q (.bl (decide (ms = ks))) H) : rEqD K x y H Q := by
  refine ⟨_, _, hx.dp, hy.dp, tupN_shaped _, tupN_shaped _, ?_⟩
  rw [eqv_tupN]
  exact q
theorem ne_lstN {K : PySem.W.Frag} {H : Hp} {x y : V} {ms ks : List Nat} {Q : VK} (hx : LsN H x ms) (hy : LsN H y ks) (q : Q (.bl (!decide (ms = ks))) H) : rNeD K x y H Q := by
  refine ⟨_, _, hx.dp, hy.dp, nats_shaped _, nats_shaped _, ?_⟩
  rw [eqv_lstN]
  exact q
theorem eq_lstN {K : PySem.W.Frag} {H : Hp} {x y : V} {ms ks : List Nat} {Q : VK} (hx : LsN H x ms) (hy : LsN H y ks) (q : Q (.bl (decide (ms = ks))) H) : rEqD K x y H Q := by
  refine ⟨_, _, hx.dp, hy.dp, nats_shaped _, nats_shaped _, ?_⟩
  rw [eqv_lstN]
  exact q
theorem ne_lots {K : PySem.W.Frag} {H : Hp} {x y : V} {w : Nat} {P P' : Nat → Bool} {Q : VK} (hx : LotAt H x w P) (hy : LotAt H y w P') (q : Q (.bl (!decide (∀ m, m < 2 ^ w → P m = P' m))) H) : rNeD K x y H Q := by
  refine ⟨_, _, hx.dp, hy.dp, dLot_shaped _ _, dLot_shaped _ _, ?_⟩
  rw [eqv_lots]
  exact q
theorem eq_lots {K : PySem.W.Frag} {H : Hp} {x y : V} {w : Nat} {P P' : Nat → Bool} {Q : VK} (hx : LotAt H x w P) (hy : LotAt H y w P') (q : Q (.bl (decide (∀ m, m < 2 ^ w → P m = P' m))) H) : rEqD K x y H Q := by
  refine ⟨_, _, hx.dp, hy.dp, dLot_shaped _ _, dLot_shaped _ _, ?_⟩
  rw [eqv_lots]
  exact q
theorem nodup_lot (n : Nat) (p : Nat → Bool) : (lotOf n p).Nodup := by
  unfold lotOf
  exact List.Pairwise.filter _ (List.nodup_range)
theorem nodup_xor (a : Nat) {l : List Nat} (h : l.Nodup) : (l.map fun (m : Nat) => ((m ^^^ a : Nat) : Int)).Nodup := by
  unfold List.Nodup at h ⊢
  rw [List.pairwise_map]
  refine h.imp fun {x y} hxy e => hxy ?_
  have e2 : x ^^^ a = y ^^^ a := by omega
  have e3 := congrArg (· ^^^ a) e2
  simpa [Nat.xor_assoc] using e3
theorem xor_back (m a : Nat) : m ^^^ a ^^^ a = m := by rw [Nat.xor_assoc, Nat.xor_self, Nat.xor_zero]
/-- sorted([x ^ a for x in lot]) -/
theorem sort_xor {n a : Nat} {p : Nat → Bool} {ns : List Int} (ha : a < 2 ^ n) (perm : ns.Perm ((lotOf n p).map fun (m : Nat) => ((m ^^^ a : Nat) : Int))) (asc : ns.Pairwise (· ≤ ·)) : ns.map V.int = vm (lotOf n fun m => p (m ^^^ a)) := by
  have nd : ns.Nodup := by
    rw [perm.nodup_iff]
    exact nodup_xor a (nodup_lot n p)
  refine rising_lot (lt_of_le_nodup ns asc nd) fun k => ?_
  rw [perm.mem_iff, List.mem_map]
  constructor
  · rintro ⟨m, hm, rfl⟩
    obtain ⟨h1, h2⟩ := mem_lot.mp hm
    exact ⟨m ^^^ a, rfl, xor_lt h1 ha, by rw [xor_back]; exact h2⟩
  · rintro ⟨m, rfl, h1, h2⟩
    exact ⟨m ^^^ a, mem_lot.mpr ⟨xor_lt h1 ha, h2⟩, by rw [xor_back]⟩
theorem iteNT {A B : Prop} {b : Bool} (h : b = false) (x : B) : if b = true then A else B := by rw [h]; exact x
end XT
/-! sets of masks as objects -/
namespace XT
open PySem PySem.Spec PyProof.Rows L2
/-- tuple(xs), by a reading with a name -/
def rTupO (K : PySem.W.Frag) : List V → Hp → VK → Prop := fun xs H Q => ∃ p ys, xs = [.ref p] ∧ ((SqL K H p ys ∧ ∀ l, H l = none → Q (.ref l) (upd H l (.tup ys))) ∨ (SqT K H p ys ∧ Q (.ref p) H))
theorem cr_tupO {X : Cx} : CallR X (.type "tuple") (rTupO X.K) := call_tuple_of
/-- the set with the lot v -/
def MsAt (C : Addr) (H : Hp) (z v : V) (n : Nat) (p : Nat → Bool) : Prop := InsAt H C z [("held", v)] ∧ LotAt H v n p
theorem MsAt.same {C : Addr} {H H' : Hp} {z v : V} {n : Nat} {p : Nat → Bool} (h : MsAt C H z v n p) (e : Same H H') : MsAt C H' z v n p := ⟨h.1.same e, h.2.same e⟩
theorem MsAt.congr {C : Addr} {H : Hp} {z v : V} {n : Nat} {p p' : Nat → Bool} (h : MsAt C H z v n p) (e : ∀ m, m < 2 ^ n → p m = p' m) : MsAt C H z v n p' := ⟨h.1, h.2.congr e⟩
theorem MsAt.ins {C : Addr} {H : Hp} {z v : V} {n : Nat} {p : Nat → Bool} (h : MsAt C H z v n p) : ∃ fs, InsAt H C z fs := ⟨_, h.1⟩
/-- a property by its getter -/
def PropR (P : Program) (w : World) (K : PySem.W.Frag) (mg : Str → Option Value) (base : Heap) (k : Nat) (C : Addr) (f : Str) (sp : Sp) : Prop := ∃ (p g : Addr) (fd : FuncData) (ps : List Str), Cls K C ∧ PropOf K C f p g ∧ FnOk P w K mg base CX0 k g fd ps sp ∧ Binds K fd ps []
theorem pe_propR {X : Cx} {k : Nat} {C : Addr} {f : Str} {sp : Sp} {e : Expr} {pos : Pos} {ta : TE} (he : PE X e ta) (D : PropR X.prog X.w X.K X.mg X.base k C f sp) (hr : Room (k + 1) X.A) (hab : attributeBase e f X.env (eval e X.env) = eval e X.env := by rfl) : PE X (.Attribute e f pos) (tProp C sp [] E0 ta) := by
  obtain ⟨p, g, fd, ps, c, hp, F, b⟩ := D
  exact pe_prop he c hp F hr b .nil pass0 hab
/-- C(..) by its __init__ -/
def MakeR (P : Program) (w : World) (K : PySem.W.Frag) (mg : Str → Option Value) (base : Heap) (k : Nat) (C : Addr) (x : Str) (sp : Sp) : Prop := ∃ (f : Addr) (fd : FuncData) (ps : List Str), Mk K C f ∧ FnOk P w K mg base CX0 k f fd ps sp ∧ Binds K fd ps [] ∧ mg x = some (.ref C)
theorem pe_mkR {X : Cx} {k : Nat} {C : Addr} {x : Str} {sp : Sp} {e : Expr} {es : List Expr} {t : TA} {p pos : Pos} (D : MakeR X.prog X.w X.K X.mg X.base k C x sp) (hr : Room (k + 1) X.A) (hg : Gl X x) (ha : PA X (e :: es) t)
    (hdb : (x == ("__debug__" : Str)) = false := by decide) (he : starEach (e :: es) X.env = (false, eval e X.env) :: starEach es X.env := by rfl) (hpl : (backTo pos (starEach es X.env)).any (·.1) = false := by rfl) : PE X (.Call (.Name x p) (e :: es) [] pos) (tMake C sp [] E0 t) := by
  obtain ⟨f, fd, ps, M, F, b, hm⟩ := D
  exact pe_make M F hr hg hm b .nil pass0 ha hdb he hpl
/-- a method called by its name -/
def MethR (P : Program) (w : World) (K : PySem.W.Frag) (mg : Str → Option Value) (base : Heap) (k : Nat) (C : Addr) (m : Str) (sp : Sp) : Prop := ∃ (f : Addr) (fd : FuncData) (ps : List Str), Cls K C ∧ Meth K C m f ∧ FnOk P w K mg base CX0 k f fd ps sp ∧ Binds K fd ps []
/-- an operator's method -/
def OwnR (P : Program) (w : World) (K : PySem.W.Frag) (mg : Str → Option Value) (base : Heap) (k : Nat) (C : Addr) (m : Str) (sp : Sp) : Prop := ∃ (f : Addr), Has K C m f ∧ Met P w K mg base k f sp
section
variable {X : Cx} {j : Nat} {C : Addr} {sp : Sp}
theorem op_ownR {op : Operator} (D : OwnR X.prog X.w X.K X.mg X.base j C (PySem.dunder op.info.2) sp) (hr : Room j X.A) (hc : PySem.W.selfFirst X.K C = true) : OpR X (binaryOp op) (rOwn C sp) := by
  obtain ⟨f, h, F⟩ := D
  exact op_own F hr hc h
theorem un_invR (D : OwnR X.prog X.w X.K X.mg X.base j C "__invert__" sp) (hr : Room j X.A) : UnR X (unaryOp .Invert) (rOwn1 C sp) := by
  obtain ⟨f, h, F⟩ := D
  exact un_inv F hr h
theorem cr_lenR (D : OwnR X.prog X.w X.K X.mg X.base j C "__len__" sp) (hr : Room (j + 1) X.A) : CallR X (.builtin "len") (rOwnLen C sp) := by
  obtain ⟨f, h, F⟩ := D
  exact cr_ownLen F hr h
theorem op_inR (D : OwnR X.prog X.w X.K X.mg X.base j C "__contains__" sp) (hr : Room j X.A) : OpR X (compareOp .In) (rOwnIn C sp false) := by
  obtain ⟨f, h, F⟩ := D
  exact op_ownIn F hr h
end
/-- what an operator with an int wants of the class -/
structure OpI (K : PySem.W.Frag) (C : Addr) (op : Operator) : Prop where
  hn : PySem.W.findIn K (.ref C) (dunderR op.info.2) = some none
  h1 : ∃ fo, PySem.W.findIn K (.type "int") (PySem.dunder op.info.2) = some fo
  h2 : ∃ ro, PySem.W.findIn K (.type "int") (dunderR op.info.2) = some ro
  hs : PySem.W.subIn K (.type "int") (.ref C) = some false
theorem op_ownIR {X : Cx} {j : Nat} {C : Addr} {sp : Sp} {op : Operator} (D : OwnR X.prog X.w X.K X.mg X.base j C (PySem.dunder op.info.2) sp) (hr : Room j X.A) (hc : PySem.W.selfFirst X.K C = true) (T : OpI X.K C op) : OpR X (binaryOp op) (rOwnI C sp) := by
  obtain ⟨f, h, F⟩ := D
  obtain ⟨fo, h1⟩ := T.h1
  obtain ⟨ro, h2⟩ := T.h2
  exact op_ownI F hr hc h T.hn h1 h2 T.hs
/-- __init__ of a set -/
def spMi (C : Addr) : Sp := fun vs H Q _ => ∃ (a dx : Addr) (v : V) (n : Nat) (p : Nat → Bool), vs = [.ref a, v] ∧ H a = some (.ins C dx []) ∧ LotAt H v n p ∧ 1 ≤ n ∧ n ≤ 6 ∧ ∀ H', Same H H' → Q .non (upd H' a (.ins C dx [("held", v)]))
theorem ms_make {C : Addr} {H : Hp} {v : V} {n : Nat} {p : Nat → Bool} {Q : VK} (hv : LotAt H v n p) (h1 : 1 ≤ n) (h6 : n ≤ 6) (q : ∀ H' z, Same H H' → MsAt C H' z v n p → Q z H') :
    ∀ x dx, H x = none → H dx = none → dx ≠ x → spMi C (.ref x :: ([v] ++ [])) (upd (upd H dx (.own x)) x (.ins C dx [])) (fun v H2 => v = .non ∧ Q (.ref x) H2) E0 := by
  intro x dx nx ndx nex
  have s0 : Same H (upd (upd H dx (.own x)) x (.ins C dx [])) := fun b o e => by
    rw [upd_ne (ne_of_none e nx), upd_ne (ne_of_none e ndx)]
    exact e
  refine ⟨x, dx, v, n, p, rfl, upd_same, hv.same s0, h1, h6, fun H' s' => ⟨rfl, ?_⟩⟩
  have s2 : Same H (upd H' x (.ins C dx [("held", v)])) := same_upd (s0.trans s') nx
  exact q _ _ s2 ⟨⟨x, dx, rfl, upd_same⟩, hv.same s2⟩
theorem ms_new {C : Addr} {H : Hp} {v : V} {n : Nat} {p : Nat → Bool} {R : Hp → Prop} {x dx : Addr} (hv : LotAt H v n p) (h1 : 1 ≤ n) (h6 : n ≤ 6) (nx : H x = none) (ndx : H dx = none) (nex : dx ≠ x) (q : ∀ H', Same H H' → MsAt C H' (.ref x) v n p → R H') :
    spMi C (.ref x :: ([v] ++ [])) (upd (upd H dx (.own x)) x (.ins C dx [])) (fun v H2 => v = .non ∧ R H2) E0 := ms_make (Q := fun z H' => z = .ref x → R H') hv h1 h6 (fun H' z s' m e => q H' s' (by rw [← e]; exact m)) x dx nx ndx nex |> fun h => by
  obtain ⟨a, dx', v', n', p', e, h2, h3, h4, h5, k⟩ := h
  exact ⟨a, dx', v', n', p', e, h2, h3, h4, h5, fun H' s' => ⟨(k H' s').1, (k H' s').2 rfl⟩⟩
/-- the methods' promises -/
def spM1 (C : Addr) (F : Nat → (Nat → Bool) → Hp → V → V → Prop) : Sp := fun vs H Q _ => ∃ (z v : V) (n : Nat) (p : Nat → Bool), vs = [z] ∧ MsAt C H z v n p ∧ 1 ≤ n ∧ n ≤ 6 ∧ ∀ H' r, Same H H' → F n p H' v r → Q r H'
def spM2 (C : Addr) (F : Nat → (Nat → Bool) → (Nat → Bool) → Hp → V → Prop) : Sp := fun vs H Q _ => ∃ (z z' v v' : V) (n : Nat) (p r : Nat → Bool), vs = [z, z'] ∧ MsAt C H z v n p ∧ MsAt C H z' v' n r ∧ 1 ≤ n ∧ n ≤ 6 ∧ ∀ H' o, Same H H' → F n p r H' o → Q o H'
def spMX (C : Addr) (F : Nat → (Nat → Bool) → Nat → Hp → V → Prop) : Sp := fun vs H Q _ => ∃ (z v : V) (n m : Nat) (p : Nat → Bool), vs = [z, .int (m : Int)] ∧ MsAt C H z v n p ∧ 1 ≤ n ∧ n ≤ 6 ∧ m < 2 ^ n ∧ ∀ H' o, Same H H' → F n p m H' o → Q o H'
def IsMs (C : Addr) (H : Hp) (z : V) (n : Nat) (p : Nat → Bool) : Prop := ∃ v, MsAt C H z v n p
end XT
/-! ==, a call, a subscript by an own class's methods -/
namespace XT
open PySem PySem.Spec PyProof.Rows L2
theorem kit_me {K : PySem.W.Frag} {C : Addr} : PySem.W.kitOne K (.ref C) (.ref C) = some true := by
  unfold PySem.W.kitOne
  rw [if_pos (by simp)]
section
variable {X : Cx} {j : Nat} {f C : Addr} {sp : Sp}
/-- a == b, both of the class C -/
theorem op_ownEq (F : Met X.prog X.w X.K X.mg X.base j f sp) (hr : Room j X.A) (h : Has X.K C "__eq__" f) : OpR X (compareOp .Eq) (rOwn C sp) := by
  intro pins s σ H x y v u Q I rx ry ⟨⟨fs, a, dx, ex, ha⟩, ⟨fs', b, dx', ey, hb⟩, q⟩
  subst ex ey
  cases rx
  cases ry
  obtain ⟨od, J⟩ := inst_at I ha
  obtain ⟨od', J'⟩ := inst_at I hb
  obtain ⟨m, fr⟩ := I.fr
  show wpAny (model X.prog X.w) X.A (richCompare .Eq (.ref a) (.ref b)) (EP X pins σ Q) X.xe s
  exact PySem.W.cmp_K (op := .Eq) (by have := hr.un; omega) fr I.ok.mod.kin J J'.type (by unfold PySem.W.notFirst; simp) h.at_ h.fn (wpAny_mono (run_met (vs := [.ref a, .ref b]) F hr I (.cons rfl (.cons rfl .nil)) q) (fun _ _ z => back_ok z) fun _ _ z => z)
theorem op_eqR (D : OwnR X.prog X.w X.K X.mg X.base j C "__eq__" sp) (hr : Room j X.A) : OpR X (compareOp .Eq) (rOwn C sp) := by
  obtain ⟨f, h, F⟩ := D
  exact op_ownEq F hr h
end
section
variable {M : Model} {A : Around} {E : Value → Shared → Prop} {s : Shared} {x C : Addr} {pos : Pos} {Q : Value → Shared → Prop}
theorem callO_of {args : List (Bool × Sem Value)} {keywords : List (Option Str × Sem Value)} {first : List Value} (hpl : (args.any (·.1) || keywords.any (·.1.isNone)) = false) (h : wpAny M A (evalArgs (.ref x) true args keywords) (fun a t => (∃ ox od, ox.data = .plain ∧ PySem.W.InstAt t.heap x ox C od) ∧ wpAny M A (call (.ref x) (first ++ a.pos) a.kw) Q E t) E s) : wpAny M A (callWith pos (.ref x) first args keywords) Q E s := by
  unfold callWith
  refine wpAny_bind (wpAny_holding (wpAny_mono h (fun a t ht => wpAny_bind (wpAny_standAt ?_)) fun _ _ z => z))
  obtain ⟨⟨ox, od, hd, J⟩, hc⟩ := ht
  simp only [hpl]
  refine wpAny_bind ((PySem.W.kco_keeper (M := M) J hd).here ?_)
  refine wpAny_bind (wpAny_mono (wpAny_operateT hc) (fun r t2 hr => ?_) fun _ _ z => z)
  exact wpAny_bind (wpAny_holding (wpAny_point (wpAny_pure hr)))
end
/-- x(..), x in the slot i an instance of C -/
def tCallO (i : Nat) (C : Addr) (sp : Sp) (t : TA) : TE := fun σ H Q => ∃ z, σ[i]? = some (some z) ∧ (∃ fs, InsAt H C z fs) ∧ t σ H fun vs H1 => (∃ fs, InsAt H1 C z fs) ∧ sp (z :: vs) H1 Q E0
section
variable {X : Cx} {j i : Nat} {C : Addr} {sp : Sp} {x : Str} {p pos : Pos} {e : Expr} {es : List Expr} {t : TA}
/-- __call__ -/
def CallO (P : Program) (w : World) (K : PySem.W.Frag) (mg : Str → Option Value) (base : Heap) (k : Nat) (C : Addr) (sp : Sp) : Prop := ∃ f, Has K C "__call__" f ∧ PySem.W.fnIn K f = true ∧ Met P w K mg base k f sp
theorem pe_callO (D : CallO X.prog X.w X.K X.mg X.base j C sp) (hr : Room j X.A) (hN : X.N[i]? = some x) (hv : Vis X.env.scope x) (ha : PA X (e :: es) t)
    (hdb : (x == ("__debug__" : Str)) = false := by decide) (hcd : (x == ("__classdict__" : Str)) = false := by decide)
    (he : starEach (e :: es) X.env = (false, eval e X.env) :: starEach es X.env := by rfl) (hpl : (backTo pos (starEach es X.env)).any (·.1) = false := by rfl) : PE X (.Call (.Name x p) (e :: es) [] pos) (tCallO i C sp t) := by
  obtain ⟨f, hh, hfn, F⟩ := D
  refine ⟨fun pins s σ H Q I h => ?_⟩
  obtain ⟨z, hs, ⟨fs, a, dx, ez, hz⟩, ht⟩ := h
  refine wpAny_Call_Name_kw (thn ((pe_var (pos := p) hN hv hdb hcd).run pins s σ H (fun v H1 => v = z ∧ H1 = H) I ⟨z, hs, rfl, rfl⟩) fun u s1 ⟨v, H1, I1, r1, q1⟩ => ?_)
  obtain ⟨rfl, rfl⟩ := q1
  subst ez
  cases r1
  obtain ⟨od, J⟩ := inst_at I1 hz
  rw [he]
  refine callO_of (C := C) ?_ (PySem.Calls.evalArgs_plain ?_)
  · show ((false || (backTo pos (starEach es X.env)).any (·.1)) || false) = false
    rw [hpl]; rfl
  have ha2 := ha.run pos pins s1 σ _ _ I1 ht
  rw [he] at ha2
  refine wpAny_mono ha2 (fun us s2 hz2 => ?_) fun _ _ z => z
  obtain ⟨vs, H2, I2, r, ⟨fs2, a2, dx2, e2, h2⟩, q⟩ := hz2
  cases e2
  obtain ⟨od2, J2⟩ := inst_at I2 h2
  refine ⟨⟨_, _, rfl, J2⟩, ?_⟩
  refine wpAny_call (PySem.W.kco_code I2.kIn J2 rfl hh.at_ hh.fn hfn ?_)
  refine codeAny_mono (F X.A X.stack s2 H2 _ (.ref a :: vs) Q E0 hr I2.env0 (.cons rfl r) q) fun r' s3 hq => ?_
  match r', hq with
  | .ok (.ret v), hq => exact I2.after hq
  | .ok .next, hq => exact False.elim hq
  | .ok .brk, hq => exact False.elim hq
  | .ok .cont, hq => exact False.elim hq
  | .error e, hq => exact pass0 pins σ H2 s2 e s3 I2 hq
end
end XT
/-! methods that may raise -/
namespace XT
open PySem PySem.Spec PyProof.Rows L2
def MethX (P : Program) (w : World) (K : PySem.W.Frag) (mg : Str → Option Value) (base : Heap) (k : Nat) (C : Addr) (m : Str) (sp : Sp) : Prop := ∃ (f : Addr) (fd : FuncData) (ps : List Str), Cls K C ∧ Meth K C m f ∧ FnOk P w K mg base (L2.CX P w) k f fd ps sp ∧ Binds K fd ps []
abbrev MetX (P : Program) (w : World) (K : PySem.W.Frag) (mg : Str → Option Value) (base : Heap) (k : Nat) (f : Addr) (sp : Sp) : Prop := FnR P w K mg base (L2.CX P w) k f sp
theorem MetX.of {P : Program} {w : World} {K : PySem.W.Frag} {mg : Str → Option Value} {base : Heap} {k : Nat} {sp : Sp} {f : Addr} {fd : FuncData} {ps : List Str} (F : FnOk P w K mg base (L2.CX P w) k f fd ps sp) (b : Binds K fd ps []) : MetX P w K mg base k f sp :=
  (FnOk.raw F b .nil).imp fun vs H Q E h => by rw [List.append_nil]; exact h
def OwnX (P : Program) (w : World) (K : PySem.W.Frag) (mg : Str → Option Value) (base : Heap) (k : Nat) (C : Addr) (m : Str) (sp : Sp) : Prop := ∃ (f : Addr), Has K C m f ∧ PySem.W.fnIn K f = true ∧ MetX P w K mg base k f sp
def tMethX (C : Addr) (m : Str) (sp : Sp) (W : WX) (ta : TE) (t : TA) : TE := fun σ H Q => ta σ H fun x H1 => ∃ a dx fs, x = .ref a ∧ H1 a = some (.ins C dx fs) ∧ fs.lookup m = none ∧ t σ H1 fun vs H2 => sp (.ref a :: vs) H2 Q (WE W σ)
section
variable {X : Cx} {j k : Nat} {f C : Addr} {m : Str} {sp : Sp} {W : WX} {o e : Expr} {es : List Expr} {ta tb : TE} {t : TA} {apos pos : Pos}
theorem pe_methX {pl : Sem Bool} (he : PE X o ta) (D : MethX X.prog X.w X.K X.mg X.base k C m sp) (hr : Room k X.A) (tk : Takes X W) (ha : PA X (e :: es) t)
    (hst : starEach (e :: es) X.env = (false, eval e X.env) :: starEach es X.env := by rfl) (hpl : (backTo pos (starEach es X.env)).any (·.1) = false := by rfl)
    (ht : eval (.Call (.Attribute o m apos) (e :: es) [] pos) X.env = (do let ov ← eval o X.env; standAt apos.atName; let (f, first) ← holding [ov] (getMethod ov m pl); callWith pos f first (backTo pos (starEach (e :: es) X.env)) (backToKw pos (keywordEach [] X.env))) := by rfl) :
    PE X (.Call (.Attribute o m apos) (e :: es) [] pos) (tMethX C m sp W ta t) := by
  obtain ⟨f, fd, ps, c, hm, F, b⟩ := D
  refine ⟨fun pins s σ H Q I h => ?_⟩
  refine PySem.W.methodCall_KW (pl := pl) (thn (he.run pins s σ H _ I h) fun u s1 ⟨x, H1, I1, rx, a, dx, fs, ex, ea, l, q⟩ => ?_) ht
  subst ex
  obtain rfl : u = Value.ref a := rx
  refine getmeth_ok I1 ea c hm l ?_
  refine PySem.W.callWith_K (first := [.ref a]) (h₀ := X.base) I.ok.mod.kin hm.kp (thn (ha.run pos pins s1 σ H1 _ I1 q) fun us s2 ⟨vs, H2, I2, r, q2⟩ => ⟨I2.kIn, ?_⟩) hst hpl
  exact run_fnSD (E := WE W) (us := .ref a :: us) (vs := .ref a :: vs) (dvs := []) (ds := []) F hr b .nil (passAt tk σ) I2 (.cons rfl r) (by rw [List.append_nil]; exact q2)
theorem pe_methX0 {pl : Sem Bool} (he : PE X o ta) (D : MethX X.prog X.w X.K X.mg X.base k C m sp) (hr : Room k X.A) (tk : Takes X W)
    (ht : eval (.Call (.Attribute o m apos) [] [] pos) X.env = (do let ov ← eval o X.env; standAt apos.atName; let (f, first) ← holding [ov] (getMethod ov m pl); callWith pos f first (backTo pos (starEach [] X.env)) (backToKw pos (keywordEach [] X.env))) := by rfl) :
    PE X (.Call (.Attribute o m apos) [] [] pos) (tMethX C m sp W ta tNil) := by
  obtain ⟨f, fd, ps, c, hm, F, b⟩ := D
  refine ⟨fun pins s σ H Q I h => ?_⟩
  refine PySem.W.methodCall_KW (pl := pl) (thn (he.run pins s σ H _ I h) fun u s1 ⟨x, H1, I1, rx, a, dx, fs, ex, ea, l, q⟩ => ?_) ht
  subst ex
  obtain rfl : u = Value.ref a := rx
  refine getmeth_ok I1 ea c hm l ?_
  exact PySem.W.callWith_K0 (first := [.ref a]) I1.kIn hm.kp (run_fnSD (E := WE W) (us := [.ref a]) (vs := [.ref a]) (dvs := []) (ds := []) F hr b .nil (passAt tk σ) I1 (.cons rfl .nil) q)
theorem run_metX1 {pins : List (Addr × Obj)} {σ : L2.St} {H : Hp} {s : Shared} {us : List Value} {vs : List V} {Q : VK} (F : MetX X.prog X.w X.K X.mg X.base j f sp) (hr : Room (j + 1) X.A) (tk : Takes X W) (I : Inv X pins σ H s) (r : Vals vs us) (q : sp vs H Q (WE W σ)) : wpAny (model X.prog X.w) X.A.in1 (call (.ref f) us) (EP X pins σ Q) X.xe s := by
  refine wpAny_call (codeAny_mono (F X.A.in1 X.stack s H us vs Q (WE W σ) hr.in1 I.env0.in1 r q) fun r s2 hq => ?_)
  match r, hq with
  | .ok (.ret v), hq => exact I.after hq
  | .ok .next, hq => exact False.elim hq
  | .ok .brk, hq => exact False.elim hq
  | .ok .cont, hq => exact False.elim hq
  | .error e, hq => exact passAt tk σ pins H s e s2 I hq
/-- a[i], the class's __getitem__ may raise -/
def tIxX (C : Addr) (sp : Sp) (W : WX) (ta tb : TE) : TE := fun σ H Q => ta σ H fun x H1 => tb σ H1 fun y H2 => (∃ fs, InsAt H2 C x fs) ∧ sp [x, y] H2 Q (WE W σ)
theorem pe_ixX {a b : Expr} (D : OwnX X.prog X.w X.K X.mg X.base j C "__getitem__" sp) (hr : Room (j + 1) X.A) (tk : Takes X W) (ha : PE X a ta) (hb : PE X b tb) (hsl : ∀ v u, subscripted b true v u = runValue (.builtin "lifetime.subscript" ⟨[v, u], []⟩) := by intro _ _; with_unfolding_all rfl) : PE X (.Subscript a b pos) (tIxX C sp W ta tb) := by
  obtain ⟨f, h, hf, F⟩ := D
  refine ⟨fun pins s σ H Q I hq => ?_⟩
  refine Subscript_ (binT (R := fun x y H2 => (∃ fs, InsAt H2 C x fs) ∧ sp [x, y] H2 Q (WE W σ)) ha hb I hq fun v u s2 x y H2 I2 rx ry q => ?_)
  obtain ⟨⟨fs, a', dx, ex, hz⟩, q⟩ := q
  subst ex
  cases rx
  obtain ⟨od, J⟩ := inst_at I2 hz
  obtain ⟨m, fr⟩ := I2.fr
  exact PySem.W.sub_K fr I2.ok.mod.kin J h.at_ hf h.fn (run_metX1 (vs := [.ref a', y]) F hr tk I2 (.cons rfl (.cons ry .nil)) q) (hsl _ _)
end
end XT
/-! defs with a star parameter that may raise -/
namespace XT
open PySem PySem.Spec PyProof.Rows L2
def DefS (P : Program) (w : World) (K : PySem.W.Frag) (mg : Str → Option Value) (base : Heap) (k : Nat) (x : Str) (sp : Sp) : Prop :=
  ∃ f, FnR P w K mg base (L2.CX P w) k f sp ∧ mg x = some (.ref f) ∧ PySem.W.keepIn K (.ref f) = true
section
variable {X : Cx}
theorem run_S {j : Nat} {sp : Sp} {W : WX} {f : Addr} {pins : List (Addr × Obj)} {σ : L2.St} {H : Hp} {s : Shared} {Q : VK} {us : List Value} {vs : List V} (F : FnR X.prog X.w X.K X.mg X.base (L2.CX X.prog X.w) j f sp) (hr : Room j X.A) (tk : Takes X W)
    (I : Inv X pins σ H s) (r : Vals vs us) (h : sp vs H Q (WE W σ)) : wpAny (model X.prog X.w) X.A (call (.ref f) us) (EP X pins σ Q) X.xe s := by
  refine wpAny_call (codeAny_mono (F X.A X.stack s H us vs Q (WE W σ) hr I.env0 r h) fun r s' hq => ?_)
  cases r with
  | error e => exact passAt tk σ pins H s e s' I hq
  | ok fl =>
    cases fl with
    | ret u => exact I.after hq
    | next => exact False.elim hq
    | brk => exact False.elim hq
    | cont => exact False.elim hq
theorem pe_starX {j : Nat} {x : Str} {sp : Sp} {W : WX} {e : Expr} {es : List Expr} {t : TA} {p pos : Pos} (D : DefS X.prog X.w X.K X.mg X.base j x sp) (hr : Room j X.A) (hg : Gl X x) (tk : Takes X W) (ha : PA X (e :: es) t)
    (hdb : (x == ("__debug__" : Str)) = false := by decide) (he : starEach (e :: es) X.env = (false, eval e X.env) :: starEach es X.env := by rfl) (hpl : (backTo pos (starEach es X.env)).any (·.1) = false := by rfl) :
    PE X (.Call (.Name x p) (e :: es) [] pos) (tCallS sp (WE W) t) := by
  obtain ⟨f, F, hm, hk⟩ := D
  refine ⟨fun pins s σ H Q I h => wpAny_Call_Name_kw (ld_glob I hg hm ?_ hdb)⟩
  refine PySem.W.callWith_K (h₀ := X.base) I.ok.mod.kin hk (thn (ha.run pos pins s σ H _ I h) fun us s1 ⟨vs, H1, I1, r, q⟩ => ⟨I1.kIn, ?_⟩) he hpl
  exact run_S F hr tk I1 r q
theorem pe_starX0 {j : Nat} {x : Str} {sp : Sp} {W : WX} {p pos : Pos} (D : DefS X.prog X.w X.K X.mg X.base j x sp) (hr : Room j X.A) (hg : Gl X x) (tk : Takes X W) (hdb : (x == ("__debug__" : Str)) = false := by decide) :
    PE X (.Call (.Name x p) [] [] pos) (fun σ H Q => sp [] H Q (WE W σ)) := by
  obtain ⟨f, F, hm, hk⟩ := D
  refine ⟨fun pins s σ H Q I h => wpAny_Call_Name_kw (ld_glob I hg hm ?_ hdb)⟩
  refine PySem.W.callWith_K0 I.kIn hk ?_
  exact run_S (us := []) F hr tk I .nil h
end
section
variable {P : Program} {w : World} {K : PySem.W.Frag} {mg : Str → Option Value} {base : Heap}
theorem star_okX {x : Str} {st : Stmt} {f : Addr} {fd : FuncData} {N : List Str} {k : Nat} {sp : Sp} {pv : Str} (F : Fun K x x st f fd) (S : FnScope N [pv] (defScope st))
    (hb : ∀ (kV doc pm : Value) (an : Option Addr) (cdv ct : Value) (rest : List Value), bindArgs (PySem.W.fnOf x x (defArgs st) (defBody st) (defScope st) .none kV doc pm an cdv ct) ⟨rest, []⟩ = (newTuple rest >>= fun t => pure [(pv, t)]))
    (hbody : ∀ (cdv : Value) (A : Around) (outer : List Env) (s : Shared) (H : Hp) (vs : List V) (Q : VK) (E : XK), Room k (A.deeper (envOfC x (defScope st) s.heap.objs.size f cdv)) → sp vs H Q E →
      ∃ t, PSs (cxOf (L2.CX P w) P w K mg base N x (defScope st) f cdv A outer s H E) (defBody st) t ∧ t { nx := fun _ H' => Q .non H', rt := Q } (start N vs) H) :
    FnR P w K mg base (L2.CX P w) (k + 1) f (fun vs H Q E => vs.length ≤ 1000 ∧ ∀ p, H p = none → sp [V.ref p] (upd H p (.tup vs)) Q E) := by
  obtain ⟨oc, od, kV, doc, pm, an, cdv, ct, osl, rfl, lk, hcd⟩ := F.ex
  refine (StX.fn_star (ps := []) (sp := sp) lk hcd S StX.cxUp (fun us rest hl => ?_) fun A outer s H vs Q E hr hsp => ?_).imp fun vs H Q E h => ⟨[], vs, rfl, rfl, sz h.1, h.2⟩
  · have e : us = [] := List.eq_nil_of_length_eq_zero hl
    subst e
    exact hb kV doc pm an cdv ct rest
  · exact hbody cdv A outer s H vs Q E hr hsp
end
end XT
/-! a == b where b's class is a subclass of a's: b's own __eq__ is asked first -/
namespace XT
open PySem PySem.Spec PyProof.Rows L2
section
open PySem.W
variable {prog : Program} {w : World} {A : Around} {E : Value → Shared → Prop} {s : Shared} {K : Frag} {x y C C2 L f : Addr} {h₀ : Heap} {m : Str → Option Value} {ox oy : Obj} {od od2 : Option Obj}
theorem cmp_sub_K {op : CmpOp} {Q : Value → Shared → Prop} (hu : A.units < cLine) (F : Fr h₀ L s.heap m) (X₀ : K.In h₀) (I : InstAt s.heap x ox C od) (J : InstAt s.heap y oy C2 od2) (ne : C2 ≠ C) (hn : subIn K (.ref C2) (.ref C) = some true)
    (hs : findIn K (.ref C2) (cmpInfo op).2.2 = some (some (.ref f))) (hf : isFn K (.ref f) = true)
    (h : wpAny (model prog w) A (call (.ref f) [.ref y, .ref x]) (PySem.W.CmpBack Q) E s) : wpAny (model prog w) A (richCompare op (.ref x) (.ref y)) Q E s := by
  have X := X₀.keeps F.keep
  have one : wpAny (model prog w) A (tryCompare (.ref y) (cmpInfo op).2.2 (.ref x)) (fun r s' => ∃ v, r = some v ∧ Q v s') E s := by
    unfold tryCompare
    refine wpAny_bind (ifBound_K X J hs hf (wpAny_mono h (fun v s' hv => ?_) fun _ _ e => e))
    cases v <;> first | exact (show False from hv).elim | exact wpAny_pure ⟨_, rfl, hv⟩
  unfold richCompare
  simp only [oneThing_ref]
  refine wpAny_holding (wpAny_bind (wpAny_cRoomFor hu ?_))
  refine wpAny_bind (I.type.here (wpAny_bind (J.type.here ?_)))
  rw [if_pos (show ((Value.ref C != Value.ref C2) = true) by simpa using fun e => ne e.symm)]
  refine wpAny_bind ((looks_subIn X hn).here ?_)
  simp only [if_true]
  refine wpAny_bind (wpAny_mono one (fun r s' z => ?_) fun _ _ e => e)
  obtain ⟨v, rfl, hq⟩ := z
  exact wpAny_bind (wpAny_rule (wpAny_pure hq))
end
section
variable {X : Cx} {C C2 : Addr} {j : Nat} {sp : Sp}
/-- a == b, of two classes of which the second is a subclass of the first -/
def rOwnS (C C2 : Addr) (sp : Sp) : R2 := fun x y H Q => (∃ fs, InsAt H C x fs) ∧ (∃ fs, InsAt H C2 y fs) ∧ sp [y, x] H Q E0
theorem op_eqS2 (D : OwnR X.prog X.w X.K X.mg X.base j C2 "__eq__" sp) (hr : Room j X.A) (ne : C2 ≠ C) (hn : PySem.W.subIn X.K (.ref C2) (.ref C) = some true) : OpR X (compareOp .Eq) (rOwnS C C2 sp) := by
  obtain ⟨f, h, F⟩ := D
  intro pins s σ H x y v u Q I rx ry ⟨⟨fs, a, dx, ex, ha⟩, ⟨fs', b, dx', ey, hb⟩, q⟩
  subst ex ey
  cases rx
  cases ry
  obtain ⟨od, J⟩ := inst_at I ha
  obtain ⟨od', J'⟩ := inst_at I hb
  obtain ⟨m, fr⟩ := I.fr
  show wpAny (model X.prog X.w) X.A (richCompare .Eq (.ref a) (.ref b)) (EP X pins σ Q) X.xe s
  exact cmp_sub_K (op := .Eq) (by have := hr.un; omega) fr I.ok.mod.kin J J' ne hn h.at_ h.fn (wpAny_mono (run_met (vs := [.ref b, .ref a]) F hr I (.cons rfl (.cons rfl .nil)) q) (fun _ _ z => back_ok z) fun _ _ z => z)
/-- a == b, of two classes of which the second is not a subclass of the first -/
def rOwn2 (C C2 : Addr) (sp : Sp) : R2 := fun x y H Q => (∃ fs, InsAt H C x fs) ∧ (∃ fs, InsAt H C2 y fs) ∧ sp [x, y] H Q E0
theorem op_eqR2 (D : OwnR X.prog X.w X.K X.mg X.base j C "__eq__" sp) (hr : Room j X.A) (hn : PySem.W.notFirst X.K C (.ref C2) = true) : OpR X (compareOp .Eq) (rOwn2 C C2 sp) := by
  obtain ⟨f, h, F⟩ := D
  intro pins s σ H x y v u Q I rx ry ⟨⟨fs, a, dx, ex, ha⟩, ⟨fs', b, dx', ey, hb⟩, q⟩
  subst ex ey
  cases rx
  cases ry
  obtain ⟨od, J⟩ := inst_at I ha
  obtain ⟨od', J'⟩ := inst_at I hb
  obtain ⟨m, fr⟩ := I.fr
  show wpAny (model X.prog X.w) X.A (richCompare .Eq (.ref a) (.ref b)) (EP X pins σ Q) X.xe s
  exact PySem.W.cmp_K (op := .Eq) (by have := hr.un; omega) fr I.ok.mod.kin J J'.type hn h.at_ h.fn (wpAny_mono (run_met (vs := [.ref a, .ref b]) F hr I (.cons rfl (.cons rfl .nil)) q) (fun _ _ z => back_ok z) fun _ _ z => z)
end
end XT
/-! a != b by the own __eq__ (object.__ne__), of any two classes -/
namespace XT
open PySem PySem.Spec PyProof.Rows L2
section
open PySem.W
variable {prog : Program} {w : World} {A : Around} {E : Value → Shared → Prop} {s : Shared} {K : Frag} {x y C C2 L f : Addr} {h₀ : Heap} {m : Str → Option Value} {ox oy : Obj} {od od2 : Option Obj}
/-- object.__ne__(x, y), x with an __eq__ of its own -/
theorem call_one {yv : Value} {Q : Value → Shared → Prop} (hu : A.in1.units < cLine) (X : K.In s.heap) (I : InstAt s.heap x ox C od) (hm : mroIn K C (.type "object") = some true) (hr : findIn K (.ref C) "__eq__" = some (some (.ref f))) (hf : isFn K (.ref f) = true)
    (h : wpAny (model prog w) A.in1 (call (.ref f) [.ref x, yv]) (fun v s' => ∃ b, v = .bool b ∧ Q (.bool (!b)) s') E s) : wpAny (model prog w) A (call (.builtin "object.__ne__") [.ref x, yv]) Q E s := by
  refine wpAny_call (codeAny_call_builtin F.cmp_object.ne.plain F.cmpEntry_ne (check_slot F.cmpKind_ne F.cmpSplit_ne (I.type.andThen (looks_mroIn X hm)) (F.cmpArgs_ne _ _) ?_))
  unfold Builtin.«object.__ne__»
  repeat (first
    | with_reducible refine wpAny_cRoomFor hu ?_
    | (refine wpAny_bind (m := callSpecialIfBound? (.ref x) (Str.ofString "__eq__") [yv])
        (ifBound_K X I hr hf (wpAny_mono h (fun r s' hr => by
          obtain ⟨b, rfl, hq⟩ := hr
          repeat (first | exact hq | exact wpAny_pure hq | exact wpAny_truthy_bool hq | (refine wpAny_bind (m := truthy (.bool _)) (wpAny_truthy_bool ?_)) | wp_step)) fun _ _ e => e)))
    | wp_step)
theorem ne_one {yv : Value} {Q : Option Value → Shared → Prop} (hu : A.in1.units < cLine) (X : K.In s.heap) (I : InstAt s.heap x ox C od) (hm : mroIn K C (.type "object") = some true) (hn : findIn K (.ref C) "__ne__" = some (some (.builtin "object.__ne__"))) (hr : findIn K (.ref C) "__eq__" = some (some (.ref f))) (hf : isFn K (.ref f) = true)
    (h : wpAny (model prog w) A.in1 (call (.ref f) [.ref x, yv]) (fun v s' => ∃ b, v = .bool b ∧ Q (some (.bool (!b))) s') E s) : wpAny (model prog w) A (tryCompare (.ref x) "__ne__" yv) Q E s := by
  unfold tryCompare
  have fin : wpAny (model prog w) A (call (.builtin "object.__ne__") [.ref x, yv]) (fun v s' => ∃ b, v = .bool b ∧ Q (some (.bool b)) s') E s := call_one hu X I hm hr hf (wpAny_mono h (fun v s' ⟨b, e, q⟩ => ⟨b, e, !b, rfl, q⟩) fun _ _ e => e)
  refine wpAny_bind ?_
  simp only [callSpecialIfBound?, bindSpecialIfBound?]
  refine wpAny_holding (wpAny_bind (wpAny_bind (wpAny_bind (I.type.here ((looks_findIn X hn).here ?_)))))
  refine wpAny_bind (wpAny_askSetting (wpAny_ite ?_))
  have fin2 : wpAny (model prog w) A (call (.builtin "object.__ne__") ([.ref x] ++ [yv]) >>= fun v => pure (some v)) (fun r s' => wpAny (model prog w) A (match r with | some .notImplemented | none => pure none | some v => pure (some v)) Q E s') E s := wpAny_bind (wpAny_mono fin (fun v s' ⟨b, e, q⟩ => by rw [e]; exact wpAny_pure (wpAny_pure q)) fun _ _ e => e)
  split
  · exact wpAny_bind ((Looks.of_pure (F.cmp_object.ne.bind _)).here (wpAny_pure (by exact fin2)))
  · exact wpAny_tryCatch (wpAny_bind ((Looks.of_pure (F.cmp_object.ne.bind _)).here (wpAny_pure (by exact fin2))))
/-- x != y, the left one is asked first -/
theorem ne_left_K {Q : Value → Shared → Prop} (hu : A.in1.units < cLine) (hu0 : A.units < cLine) (F : Fr h₀ L s.heap m) (X₀ : K.In h₀) (I : InstAt s.heap x ox C od) (J : InstAt s.heap y oy C2 od2) (hb : notFirst K C (.ref C2) = true) (hm : mroIn K C (.type "object") = some true) (hn : findIn K (.ref C) "__ne__" = some (some (.builtin "object.__ne__"))) (hr : findIn K (.ref C) "__eq__" = some (some (.ref f))) (hf : isFn K (.ref f) = true)
    (h : wpAny (model prog w) A.in1 (call (.ref f) [.ref x, .ref y]) (fun v s' => ∃ b, v = .bool b ∧ Q (.bool (!b)) s') E s) : wpAny (model prog w) A (richCompare .NotEq (.ref x) (.ref y)) Q E s := by
  have X := X₀.keeps F.keep
  have one : wpAny (model prog w) A (tryCompare (.ref x) "__ne__" (.ref y)) (fun r s' => ∃ v, r = some v ∧ Q v s') E s := ne_one hu X I hm hn hr hf (wpAny_mono h (fun v s' ⟨b, e, q⟩ => ⟨b, e, _, rfl, q⟩) fun _ _ e => e)
  unfold richCompare
  simp only [oneThing_ref]
  refine wpAny_holding (wpAny_bind (wpAny_cRoomFor hu0 ?_))
  refine wpAny_bind (I.type.here (wpAny_bind (J.type.here ?_)))
  split
  · rename_i q
    have e : subIn K (.ref C2) (.ref C) = some false := by
      rcases Bool.or_eq_true_iff.mp hb with e | e
      · rw [beq_iff_eq.mp e] at q; simp at q
      · exact beq_iff_eq.mp e
    refine wpAny_bind ((looks_subIn X e).here ?_)
    simp only [Bool.false_eq_true, if_false]
    refine wpAny_bind (wpAny_mono one (fun r s' z => ?_) fun _ _ e => e)
    obtain ⟨v, rfl, hq⟩ := z
    exact wpAny_pure hq
  · refine wpAny_bind (wpAny_pure ?_)
    simp only [Bool.false_eq_true, if_false]
    refine wpAny_bind (wpAny_mono one (fun r s' z => ?_) fun _ _ e => e)
    obtain ⟨v, rfl, hq⟩ := z
    exact wpAny_pure hq
/-- x != y where y's class is a subclass of x's -/
theorem ne_right_K {Q : Value → Shared → Prop} (hu : A.in1.units < cLine) (hu0 : A.units < cLine) (F : Fr h₀ L s.heap m) (X₀ : K.In h₀) (I : InstAt s.heap x ox C od) (J : InstAt s.heap y oy C2 od2) (ne : C2 ≠ C) (hb : subIn K (.ref C2) (.ref C) = some true) (hm : mroIn K C2 (.type "object") = some true) (hn : findIn K (.ref C2) "__ne__" = some (some (.builtin "object.__ne__"))) (hr : findIn K (.ref C2) "__eq__" = some (some (.ref f))) (hf : isFn K (.ref f) = true)
    (h : wpAny (model prog w) A.in1 (call (.ref f) [.ref y, .ref x]) (fun v s' => ∃ b, v = .bool b ∧ Q (.bool (!b)) s') E s) : wpAny (model prog w) A (richCompare .NotEq (.ref x) (.ref y)) Q E s := by
  have X := X₀.keeps F.keep
  have one : wpAny (model prog w) A (tryCompare (.ref y) "__ne__" (.ref x)) (fun r s' => ∃ v, r = some v ∧ Q v s') E s := ne_one hu X J hm hn hr hf (wpAny_mono h (fun v s' ⟨b, e, q⟩ => ⟨b, e, _, rfl, q⟩) fun _ _ e => e)
  unfold richCompare
  simp only [oneThing_ref]
  refine wpAny_holding (wpAny_bind (wpAny_cRoomFor hu0 ?_))
  refine wpAny_bind (I.type.here (wpAny_bind (J.type.here ?_)))
  rw [if_pos (show ((Value.ref C != Value.ref C2) = true) by simpa using fun e => ne e.symm)]
  refine wpAny_bind ((looks_subIn X hb).here ?_)
  simp only [if_true]
  refine wpAny_bind (wpAny_mono one (fun r s' z => ?_) fun _ _ e => e)
  obtain ⟨v, rfl, hq⟩ := z
  exact wpAny_bind (wpAny_rule (wpAny_pure hq))
end
section
variable {X : Cx} {C C2 : Addr} {j : Nat} {sp : Sp}
/-- what object.__ne__ makes of the answer -/
abbrev noQ (Q : VK) : VK := fun z H => ∃ b, z = .bl b ∧ Q (.bl (!b)) H
/-- a != b, the left one's __eq__ is asked -/
def rNeL (C C2 : Addr) (sp : Sp) : R2 := fun x y H Q => (∃ fs, InsAt H C x fs) ∧ (∃ fs, InsAt H C2 y fs) ∧ sp [x, y] H (noQ Q) E0
/-- a != b, the right one's __eq__ is asked -/
def rNeS (C C2 : Addr) (sp : Sp) : R2 := fun x y H Q => (∃ fs, InsAt H C x fs) ∧ (∃ fs, InsAt H C2 y fs) ∧ sp [y, x] H (noQ Q) E0
theorem op_neL (D : OwnR X.prog X.w X.K X.mg X.base j C "__eq__" sp) (hr : Room (j + 1) X.A) (hn : PySem.W.notFirst X.K C (.ref C2) = true) (hm : PySem.W.mroIn X.K C (.type "object") = some true) (ho : PySem.W.findIn X.K (.ref C) "__ne__" = some (some (.builtin "object.__ne__"))) : OpR X (compareOp .NotEq) (rNeL C C2 sp) := by
  obtain ⟨f, h, F⟩ := D
  intro pins s σ H x y v u Q I rx ry ⟨⟨fs, a, dx, ex, ha⟩, ⟨fs', b, dx', ey, hb⟩, q⟩
  subst ex ey
  cases rx
  cases ry
  obtain ⟨od, J⟩ := inst_at I ha
  obtain ⟨od', J'⟩ := inst_at I hb
  obtain ⟨m, fr⟩ := I.fr
  show wpAny (model X.prog X.w) X.A (richCompare .NotEq (.ref a) (.ref b)) (EP X pins σ Q) X.xe s
  refine ne_left_K (by have := hr.un; show _ + 1 < _; omega) (by have := hr.un; omega) fr I.ok.mod.kin J J' hn hm ho h.at_ h.fn (wpAny_mono (run_met1 (vs := [.ref a, .ref b]) F hr I (.cons rfl (.cons rfl .nil)) q) (fun v s' ⟨z, H', I', rz, b, ez, q⟩ => ?_) fun _ _ z => z)
  subst ez
  obtain rfl : v = .bool b := rz
  exact ⟨b, rfl, .bl (!b), H', I', rfl, q⟩
theorem op_neS (D : OwnR X.prog X.w X.K X.mg X.base j C2 "__eq__" sp) (hr : Room (j + 1) X.A) (ne : C2 ≠ C) (hn : PySem.W.subIn X.K (.ref C2) (.ref C) = some true) (hm : PySem.W.mroIn X.K C2 (.type "object") = some true) (ho : PySem.W.findIn X.K (.ref C2) "__ne__" = some (some (.builtin "object.__ne__"))) : OpR X (compareOp .NotEq) (rNeS C C2 sp) := by
  obtain ⟨f, h, F⟩ := D
  intro pins s σ H x y v u Q I rx ry ⟨⟨fs, a, dx, ex, ha⟩, ⟨fs', b, dx', ey, hb⟩, q⟩
  subst ex ey
  cases rx
  cases ry
  obtain ⟨od, J⟩ := inst_at I ha
  obtain ⟨od', J'⟩ := inst_at I hb
  obtain ⟨m, fr⟩ := I.fr
  show wpAny (model X.prog X.w) X.A (richCompare .NotEq (.ref a) (.ref b)) (EP X pins σ Q) X.xe s
  refine ne_right_K (by have := hr.un; show _ + 1 < _; omega) (by have := hr.un; omega) fr I.ok.mod.kin J J' ne hn hm ho h.at_ h.fn (wpAny_mono (run_met1 (vs := [.ref b, .ref a]) F hr I (.cons rfl (.cons rfl .nil)) q) (fun v s' ⟨z, H', I', rz, b, ez, q⟩ => ?_) fun _ _ z => z)
  subst ez
  obtain rfl : v = .bool b := rz
  exact ⟨b, rfl, .bl (!b), H', I', rfl, q⟩
end
end XT
/-! expressions that only lay new things: what their value is, put together piece by piece -/
namespace XT
open PySem PySem.Spec PyProof.Rows L2
abbrev RV := Hp → V → Prop
/-- from H on the expression gives a value of which R is true -/
def Ev (R : RV) (t : TE) (σ : L2.St) (H : Hp) : Prop := ∀ H', Same H H' → ∀ Q : VK, (∀ H2 z, Same H' H2 → R H2 z → Q z H2) → t σ H' Q
def EvT (b : Bool) (t : TT) (σ : L2.St) (H : Hp) : Prop := ∀ H', Same H H' → ∀ Q : Bool → Hp → Prop, (∀ H2, Same H' H2 → Q b H2) → t σ H' Q
/-- what is true of a value stays true -/
def Sty (R : RV) : Prop := ∀ H H' z, Same H H' → R H z → R H' z
/-- an operator on values -/
def OpF (Ra Rb : RV) (r : R2) (Rc : RV) : Prop := ∀ H x y, Ra H x → Rb H y → ∀ Q : VK, (∀ H2 z, Same H H2 → Rc H2 z → Q z H2) → r x y H Q
abbrev isI (k : Int) : RV := fun _ z => z = .int k
abbrev isB (b : Bool) : RV := fun _ z => z = .bl b
abbrev isV (v : V) : RV := fun _ z => z = v
abbrev isLot (n : Nat) (p : Nat → Bool) : RV := fun H z => LotAt H z n p
abbrev isTup (ms : List Nat) : RV := fun H z => TupAt H z ms
theorem sty_v (v : V) : Sty (isV v) := fun _ _ _ _ h => h
theorem sty_lot (n : Nat) (p : Nat → Bool) : Sty (isLot n p) := fun _ _ _ e h => h.same e
theorem sty_tup (ms : List Nat) : Sty (isTup ms) := fun _ _ _ e h => h.same e
section
variable {R Ra Rb Rc : RV} {t ta tb : TE} {σ : L2.St} {H H' : Hp}
theorem Ev.same (h : Ev R t σ H) (e : Same H H') : Ev R t σ H' := fun H2 s Q q => h H2 (e.trans s) Q q
theorem Ev.mono {R' : RV} (h : Ev R t σ H) (i : ∀ H z, R H z → R' H z) : Ev R' t σ H := fun H2 s Q q => h H2 s Q fun H3 z s3 g => q H3 z s3 (i _ _ g)
theorem EvT.same {b : Bool} {t : TT} (h : EvT b t σ H) (e : Same H H') : EvT b t σ H' := fun H2 s Q q => h H2 (e.trans s) Q q
theorem ev_var {i : Nat} {z : V} (hs : Sty R) (e : σ[i]? = some (some z)) (h : R H z) : Ev R (tVar i) σ H := fun H2 s Q q => ⟨z, e, q _ _ (Same.refl _) (hs _ _ _ s h)⟩
theorem ev_c (v : V) : Ev (isV v) (tC v) σ H := fun H2 s Q q => q _ _ (Same.refl _) rfl
theorem ev_op {r : R2} (ha : Sty Ra) (a : Ev Ra ta σ H) (b : Ev Rb tb σ H) (f : OpF Ra Rb r Rc) : Ev Rc (tOp r ta tb) σ H := fun H1 s1 Q q =>
  a H1 s1 _ fun H2 x s2 gx => b H2 (s1.trans s2) _ fun H3 y s3 gy => f H3 x y (ha _ _ _ s3 gx) gy _ fun H4 z s4 gz => q H4 z ((s2.trans s3).trans s4) gz
theorem ev_def1 {sp : Sp} (a : Ev Ra ta σ H) (f : ∀ H x, Ra H x → ∀ Q : VK, (∀ H2 z, Same H H2 → Rc H2 z → Q z H2) → sp [x] H Q E0) : Ev Rc (fun σ H Q => tCons ta tNil σ H fun vs H1 => sp vs H1 Q E0) σ H := fun H1 s1 Q q =>
  a H1 s1 _ fun H2 x s2 gx => f H2 x gx _ fun H4 z s4 gz => q H4 z (s2.trans s4) gz
theorem ev_def2 {sp : Sp} (ha : Sty Ra) (a : Ev Ra ta σ H) (b : Ev Rb tb σ H) (f : ∀ H x y, Ra H x → Rb H y → ∀ Q : VK, (∀ H2 z, Same H H2 → Rc H2 z → Q z H2) → sp [x, y] H Q E0) : Ev Rc (fun σ H Q => tCons ta (tCons tb tNil) σ H fun vs H1 => sp vs H1 Q E0) σ H := fun H1 s1 Q q =>
  a H1 s1 _ fun H2 x s2 gx => b H2 (s1.trans s2) _ fun H3 y s3 gy => f H3 x y (ha _ _ _ s3 gx) gy _ fun H4 z s4 gz => q H4 z ((s2.trans s3).trans s4) gz
theorem evt_test {b : Bool} (h : Ev (isB b) t σ H) : EvT b (tTest t) σ H := fun H1 s1 Q q => h H1 s1 _ fun H2 z s2 e => ⟨b, e, q _ s2⟩
theorem evt_b {b : Bool} (h : Ev (isB b) t σ H) : EvT b (tB t) σ H := fun H1 s1 Q q => h H1 s1 _ fun H2 z s2 e => ⟨b, e, q _ s2⟩
theorem evt_not {b : Bool} {t : TT} (h : EvT b t σ H) : EvT (!b) (tNot t) σ H := fun H1 s1 Q q => h H1 s1 _ fun H2 s2 => q _ s2
theorem evt_or {b c : Bool} {t u : TT} (h : EvT b t σ H) (k : EvT c u σ H) : EvT (b || c) (tOr t u) σ H := fun H1 s1 Q q => h H1 s1 _ fun H2 s2 => by
  cases b with
  | true => exact iteT (q _ s2)
  | false => exact iteF (k H2 (s1.trans s2) _ fun H3 s3 => q _ (s2.trans s3))
theorem evt_and {b c : Bool} {t u : TT} (h : EvT b t σ H) (k : EvT c u σ H) : EvT (b && c) (tAnd t u) σ H := fun H1 s1 Q q => h H1 s1 _ fun H2 s2 => by
  cases b with
  | true => exact iteT (k H2 (s1.trans s2) _ fun H3 s3 => q _ (s2.trans s3))
  | false => exact iteF (q _ s2)
theorem ev_andV {b c : Bool} (h : Ev (isB b) ta σ H) (k : Ev (isB c) tb σ H) : Ev (isB (b && c)) (tAndV ta tb) σ H := fun H1 s1 Q q => h H1 s1 _ fun H2 z s2 e => by
  refine ⟨b, e, ?_⟩
  cases b with
  | true => exact iteT (k H2 (s1.trans s2) _ fun H3 z3 s3 e3 => q _ _ (s2.trans s3) e3)
  | false => exact iteF (q _ _ s2 rfl)
theorem ev_orV {b c : Bool} (h : Ev (isB b) ta σ H) (k : Ev (isB c) tb σ H) : Ev (isB (b || c)) (tOrV ta tb) σ H := fun H1 s1 Q q => h H1 s1 _ fun H2 z s2 e => by
  refine ⟨b, e, ?_⟩
  cases b with
  | true => exact iteT (q _ _ s2 rfl)
  | false => exact iteF (k H2 (s1.trans s2) _ fun H3 z3 s3 e3 => q _ _ (s2.trans s3) e3)
theorem ev_notV {b : Bool} (h : Ev (isB b) ta σ H) : Ev (isB (!b)) (tNotV ta) σ H := fun H1 s1 Q q => h H1 s1 _ fun H2 z s2 e => ⟨b, e, q _ _ s2 rfl⟩
/-- if t: never -/
theorem if_no {b : Bool} {t : TT} {u : TS} {D : Ends} (h : EvT b t σ H) (e : b = false) (q : ∀ H2, Same H H2 → u D σ H2) : tIfS t tNever u D σ H := h H (Same.refl _) _ fun H2 s2 => by rw [e]; exact iteF (q H2 s2)
end
theorem asg_ev {R : RV} {t : TE} {g : TG} {u : TS} {D : Ends} {σ : L2.St} {H : Hp} (h : Ev R t σ H) (q : ∀ H2 z, Same H H2 → R H2 z → g z σ H2 (u D)) : tSeq (tAsg t g) u D σ H := h H (Same.refl _) _ fun H2 z s2 gz => q H2 z s2 gz
theorem ret_ev {R : RV} {t : TE} {D : Ends} {σ : L2.St} {H : Hp} (h : Ev R t σ H) (q : ∀ H2 z, Same H H2 → R H2 z → D.rt z H2) : tRet t D σ H := h H (Same.refl _) _ fun H2 z s2 gz => q H2 z s2 gz
theorem ifs_no {b : Bool} {t : TT} {u rest : TS} {D : Ends} {σ : L2.St} {H : Hp} (h : EvT b t σ H) (e : b = false) (q : ∀ H2, Same H H2 → u { D with nx := rest D } σ H2) : tSeq (tIfS t tNever u) rest D σ H := if_no h e q
/-! sets -/
abbrev isMs (C : Addr) (n : Nat) (p : Nat → Bool) : RV := fun H z => IsMs C H z n p
theorem sty_ms (C : Addr) (n : Nat) (p : Nat → Bool) : Sty (isMs C n p) := fun _ _ _ e ⟨v, h⟩ => ⟨v, h.same e⟩
section
variable {C : Addr} {n : Nat} {p r : Nat → Bool}
theorem of_m2 {F : Nat → (Nat → Bool) → (Nat → Bool) → Hp → V → Prop} (h1 : 1 ≤ n) (h6 : n ≤ 6) : OpF (isMs C n p) (isMs C n r) (rOwn C (spM2 C F)) (fun H o => F n p r H o) := fun H x y ⟨v, gx⟩ ⟨v', gy⟩ Q q =>
  ⟨gx.ins, gy.ins, x, y, v, v', n, p, r, rfl, gx, gy, h1, h6, fun H' o s' g => q _ _ s' g⟩
theorem of_mx {F : Nat → (Nat → Bool) → Nat → Hp → V → Prop} {m : Nat} (h1 : 1 ≤ n) (h6 : n ≤ 6) (hm : m < 2 ^ n) : OpF (isMs C n p) (isV (.int (m : Int))) (rOwnI C (spMX C F)) (fun H o => F n p m H o) := fun H x y ⟨v, gx⟩ ey Q q =>
  ⟨gx.ins, ⟨m, ey⟩, x, v, n, m, p, by rw [ey], gx, h1, h6, hm, fun H' o s' g => q _ _ s' g⟩
theorem ev_m1 {F : Nat → (Nat → Bool) → Hp → V → V → Prop} {Rc : RV} {t : TE} {σ : L2.St} {H : Hp} (h1 : 1 ≤ n) (h6 : n ≤ 6) (a : Ev (isMs C n p) t σ H) (f : ∀ H v o, LotAt H v n p → F n p H v o → Rc H o) : Ev Rc (tUn (rOwn1 C (spM1 C F)) t) σ H := fun H1 s1 Q q =>
  a H1 s1 _ fun H2 x s2 ⟨v, gx⟩ => ⟨gx.ins, x, v, n, p, rfl, gx, h1, h6, fun H' o s' g => q _ _ (s2.trans s') (f _ _ _ (gx.2.same s') g)⟩
theorem ev_prop {F : Nat → (Nat → Bool) → Hp → V → V → Prop} {Rc : RV} {t : TE} {σ : L2.St} {H : Hp} (h1 : 1 ≤ n) (h6 : n ≤ 6) (a : Ev (isMs C n p) t σ H) (f : ∀ H v o, LotAt H v n p → F n p H v o → Rc H o) : Ev Rc (tProp C (spM1 C F) [] E0 t) σ H := fun H1 s1 Q q =>
  a H1 s1 _ fun H2 x s2 ⟨v, gx⟩ => by
    obtain ⟨aa, dx, ez, ha⟩ := id gx.1
    exact ⟨aa, dx, _, ez, ha, x, v, n, p, by rw [ez], gx, h1, h6, fun H' o s' g => q _ _ (s2.trans s') (f _ _ _ (gx.2.same s') g)⟩
theorem ev_len {F : Nat → (Nat → Bool) → Hp → V → V → Prop} {t : TE} {σ : L2.St} {H : Hp} (h1 : 1 ≤ n) (h6 : n ≤ 6) (a : Ev (isMs C n p) t σ H) (f : ∀ H v o, F n p H v o → o = .int ((lotOf n p).length : Int)) : Ev (isV (.int ((lotOf n p).length : Int))) (tCB (rOwnLen C (spM1 C F)) (tCons t tNil)) σ H := fun H1 s1 Q q =>
  a H1 s1 _ fun H2 x s2 ⟨v, gx⟩ => ⟨x, rfl, gx.ins, x, v, n, p, rfl, gx, h1, h6, fun H' o s' g => ⟨_, f _ _ _ g, by have := lot_len h6 p; omega, q _ _ (s2.trans s') rfl⟩⟩
/-- a.m(b), m a method of two sets -/
theorem ev_meth {m : Str} {F : Nat → (Nat → Bool) → (Nat → Bool) → Hp → V → Prop} {ta tb : TE} {σ : L2.St} {H : Hp} (h1 : 1 ≤ n) (h6 : n ≤ 6) (hm : (m == ("held" : Str)) = false) (a : Ev (isMs C n p) ta σ H) (b : Ev (isMs C n r) tb σ H) : Ev (fun H o => F n p r H o) (tMeth C m (spM2 C F) [] E0 ta (tCons tb tNil)) σ H := fun H1 s1 Q q =>
  a H1 s1 _ fun H2 x s2 ⟨v, gx⟩ => by
    obtain ⟨aa, dx, ez, ha⟩ := id gx.1
    refine ⟨aa, dx, _, ez, ha, ?_, b H2 (s1.trans s2) _ fun H3 y s3 ⟨v', gy⟩ => ?_⟩
    · rw [List.lookup_cons, hm]
      rfl
    · exact ⟨x, y, v, v', n, p, r, rfl, gx.same s3, gy, h1, h6, fun H' o s' g => q _ _ ((s2.trans s3).trans s') g⟩
theorem ev_mk {t : TE} {σ : L2.St} {H : Hp} (h1 : 1 ≤ n) (h6 : n ≤ 6) (a : Ev (isLot n p) t σ H) : Ev (isMs C n p) (tMake C (spMi C) [] E0 (tCons t tNil)) σ H := fun H1 s1 Q q =>
  a H1 s1 _ fun H2 x s2 gx => fun xa dxa nxa ndxa nea => ms_new gx h1 h6 nxa ndxa nea fun H3 s3 g => q _ _ (s2.trans s3) ⟨_, g⟩
theorem ev_lot2 {q' : Nat → Bool} {ms : List Nat} {ta tb : TE} {σ : L2.St} {H : Hp} (e : lotOf n q' = ms) (a : Ev (isV (.int (n : Int))) ta σ H) (b : Ev (isTup ms) tb σ H) : Ev (isLot n q') (tTup (tCons ta (tCons tb tNil))) σ H := fun H1 s1 Q q =>
  a H1 s1 _ fun H2 x s2 ex => b H2 (s1.trans s2) _ fun H3 y s3 ⟨y', ey, hy⟩ => ⟨sz (show 2 ≤ 1000 by decide), fun T nT => q _ _ ((s2.trans s3).trans (same_new nT)) ⟨T, y', rfl, by rw [upd_same, ex, ey], by rw [e]; exact same_new nT _ _ hy⟩⟩
theorem ev_tup1 {m : Nat} {t : TE} {σ : L2.St} {H : Hp} (a : Ev (isV (.int (m : Int))) t σ H) : Ev (isTup [m]) (tTup (tCons t tNil)) σ H := fun H1 s1 Q q =>
  a H1 s1 _ fun H2 x s2 ex => ⟨sz (show 1 ≤ 1000 by decide), fun T nT => q _ _ (s2.trans (same_new nT)) ⟨T, rfl, by rw [upd_same, ex]; rfl⟩⟩
theorem ev_tup0 {σ : L2.St} {H : Hp} : Ev (isTup []) (tTup tNil) σ H := fun H1 s1 Q q => ⟨sz (show 0 ≤ 1000 by decide), fun T nT => q _ _ (same_new nT) ⟨T, rfl, by rw [upd_same]; rfl⟩⟩
theorem ev_call {F : Nat → (Nat → Bool) → Nat → Hp → V → Prop} {i m : Nat} {z : V} {t : TE} {σ : L2.St} {H : Hp} (h1 : 1 ≤ n) (h6 : n ≤ 6) (hm : m < 2 ^ n) (e : σ[i]? = some (some z)) (a : IsMs C H z n p) (b : Ev (isV (.int (m : Int))) t σ H) : Ev (fun H o => F n p m H o) (tCallO i C (spMX C F) (tCons t tNil)) σ H := fun H1 s1 Q q => by
  obtain ⟨v, gx⟩ := a
  refine ⟨z, e, (gx.same s1).ins, b H1 s1 _ fun H2 y s2 ey => ⟨((gx.same s1).same s2).ins, z, v, n, m, p, by rw [ey], (gx.same s1).same s2, h1, h6, hm, fun H' o s' g => q _ _ (s2.trans s') g⟩⟩
end
theorem pe_methR {X : Cx} {k : Nat} {C : Addr} {m : Str} {sp : Sp} {o e : Expr} {es : List Expr} {ta : TE} {t : TA} {apos pos : Pos} {pl : Sem Bool} (he : PE X o ta) (D : MethR X.prog X.w X.K X.mg X.base k C m sp) (hr : Room k X.A) (ha : PA X (e :: es) t)
    (hst : starEach (e :: es) X.env = (false, eval e X.env) :: starEach es X.env := by rfl) (hpl : (backTo pos (starEach es X.env)).any (·.1) = false := by rfl)
    (ht : eval (.Call (.Attribute o m apos) (e :: es) [] pos) X.env = (do let ov ← eval o X.env; standAt apos.atName; let (f, first) ← holding [ov] (getMethod ov m pl); callWith pos f first (backTo pos (starEach (e :: es) X.env)) (backToKw pos (keywordEach [] X.env))) := by rfl) :
    PE X (.Call (.Attribute o m apos) (e :: es) [] pos) (tMeth C m sp [] E0 ta t) := by
  obtain ⟨f, fd, ps, c, hm, F, b⟩ := D
  exact pe_meth (pl := pl) he c hm F hr b .nil pass0 ha hst hpl ht
/-! ints, bools, tuples -/
section
variable {K : PySem.W.Frag} {a b : Int}
theorem of_i (g : Int → Int → V) : OpF (isV (.int a)) (isV (.int b)) (rI0 g) (isV (g a b)) := fun H x y ex ey Q q => ⟨a, b, ex, ey, q _ _ (Same.refl _) rfl⟩
theorem of_iC {Cc : Int → Int → Prop} (g : Int → Int → V) (h : Cc a b) : OpF (isV (.int a)) (isV (.int b)) (rI Cc g) (isV (g a b)) := fun H x y ex ey Q q => ⟨a, b, ex, ey, h, q _ _ (Same.refl _) rfl⟩
theorem of_eqI : OpF (isV (.int a)) (isV (.int b)) rEq (isB (decide (a = b))) := fun H x y ex ey Q q => by
  subst ex ey
  refine ⟨rfl, q _ _ (Same.refl _) (congrArg V.bl ?_)⟩
  rw [Bool.eq_iff_iff, decide_eq_true_iff, decide_eq_true_iff]
  exact ⟨fun e => V.int.inj e, fun e => by rw [e]⟩
theorem of_neI : OpF (isV (.int a)) (isV (.int b)) rNe (isB (!decide (a = b))) := fun H x y ex ey Q q => by
  subst ex ey
  refine ⟨rfl, q _ _ (Same.refl _) (congrArg V.bl (congrArg (!·) ?_))⟩
  rw [Bool.eq_iff_iff, decide_eq_true_iff, decide_eq_true_iff]
  exact ⟨fun e => V.int.inj e, fun e => by rw [e]⟩
theorem of_eqB {a b : Bool} : OpF (isB a) (isB b) rEq (isB (a == b)) := fun H x y ex ey Q q => by
  subst ex ey
  refine ⟨rfl, q _ _ (Same.refl _) (congrArg V.bl ?_)⟩
  cases a <;> cases b <;> rfl
theorem of_neB {a b : Bool} : OpF (isB a) (isB b) rNe (isB (a != b)) := fun H x y ex ey Q q => by
  subst ex ey
  refine ⟨rfl, q _ _ (Same.refl _) (congrArg V.bl ?_)⟩
  cases a <;> cases b <;> rfl
theorem of_in {m : Nat} {ms : List Nat} : OpF (isV (.int (m : Int))) (isTup ms) (rIn K false) (isB (decide (m ∈ ms))) := fun H x y ex ⟨y', ey, hy⟩ Q q => by
  subst ex ey
  refine ⟨y', _, rfl, .inr (SqT.of hy), rfl, vm_flat _, q _ _ (Same.refl _) (congrArg V.bl (in_vm _ _))⟩
theorem of_eqT {ms ks : List Nat} : OpF (isTup ms) (isTup ks) (rEqD K) (isB (decide (ms = ks))) := fun H x y gx gy Q q => eq_tupN gx gy (q _ _ (Same.refl _) rfl)
theorem of_neT {ms ks : List Nat} : OpF (isTup ms) (isTup ks) (rNeD K) (isB (!decide (ms = ks))) := fun H x y gx gy Q q => ne_tupN gx gy (q _ _ (Same.refl _) rfl)
theorem of_eqL {n : Nat} {p r : Nat → Bool} : OpF (isLot n p) (isLot n r) (rEqD K) (isB (decide (∀ m, m < 2 ^ n → p m = r m))) := fun H x y gx gy Q q => eq_lots gx gy (q _ _ (Same.refl _) rfl)
theorem of_neL {n : Nat} {p r : Nat → Bool} : OpF (isLot n p) (isLot n r) (rNeD K) (isB (!decide (∀ m, m < 2 ^ n → p m = r m))) := fun H x y gx gy Q q => ne_lots gx gy (q _ _ (Same.refl _) rfl)
theorem of_xor {a b : Nat} : OpF (isV (.int (a : Int))) (isV (.int (b : Int))) rXor (isV (.int ((a ^^^ b : Nat) : Int))) := fun H x y ex ey Q q => ⟨a, b, ex, ey, q _ _ (Same.refl _) (congrArg V.int (bx a b))⟩
/-- lot[0], lot[1] -/
theorem of_ix0 {n : Nat} {p : Nat → Bool} : OpF (isLot n p) (isV (.int 0)) (rIxT K) (isV (.int (n : Int))) := fun H x y gx ey Q q => by
  obtain ⟨a, b, e, h1, h2⟩ := gx
  exact ⟨a, _, 0, .int n, e, ey, SqT.of h1, rfl, q _ _ (Same.refl _) rfl⟩
theorem of_ix1 {n : Nat} {p : Nat → Bool} : OpF (isLot n p) (isV (.int 1)) (rIxT K) (isTup (lotOf n p)) := fun H x y gx ey Q q => by
  obtain ⟨a, b, e, h1, h2⟩ := gx
  exact ⟨a, _, 1, .ref b, e, ey, SqT.of h1, rfl, q _ _ (Same.refl _) ⟨b, rfl, h2⟩⟩
theorem ev_len_tup {ms : List Nat} {t : TE} {σ : L2.St} {H : Hp} (a : Ev (isTup ms) t σ H) : Ev (isV (.int (ms.length : Int))) (tCB (fun xs H Q => ∃ p ys, xs = [.ref p] ∧ (SqL K H p ys ∨ SqT K H p ys) ∧ Q (.int ys.length) H) (tCons t tNil)) σ H := fun H1 s1 Q q =>
  a H1 s1 _ fun H2 x s2 ⟨y, e, hy⟩ => ⟨y, _, by rw [e], .inr (SqT.of hy), q _ _ s2 (by rw [vm_len])⟩
end
end XT
/-! comprehensions whose turns lay new things, of which something is known -/
namespace XT
open PySem PySem.Spec PyProof.Rows L2
section
variable {K : PySem.W.Frag} {a : Addr} {g : TG} {tt : TT} {te : TE} {vs : List Nat} {σ : L2.St} {H1 : Hp} {D : Addr} {Qd : Hp → Prop} {G : Nat → V → Hp → Prop}
/-- what is known stays when new things are laid, and when a list is changed -/
structure Stay (G : Nat → V → Hp → Prop) : Prop where
  same : ∀ {j y H H'}, G j y H → Same H H' → G j y H'
  put : ∀ {j y H D xs ys}, G j y H → H D = some (.lst xs) → G j y (upd H D (.lst ys))
def TurnG (G : Nat → V → Hp → Prop) (g : TG) (tt : TT) (te : TE) (vs : List Nat) (σ : L2.St) (i : Nat) (x : V) (H : Hp) : Prop :=
  ∀ (R1 : Hp → Prop) (R2 : V → Hp → Prop), (∀ y H4, Same H H4 → G i y H4 → R2 y H4) →
    g x (wipe σ vs) H fun σ2 H2 => wipe σ2 vs = wipe σ vs ∧ tt σ2 H2 fun b H3 => if b = true then te σ2 H3 R2 else R1 H3
def PvG (H1 : Hp) (D : Addr) (G : Nat → V → Hp → Prop) (i : Nat) (H : Hp) : Prop := Same H1 H ∧ ∃ ys, H D = some (.lst ys) ∧ ys.length = i ∧ ∀ j y, ys[j]? = some y → G j y H
theorem pvg_turn {i : Nat} {x : V} {H : Hp} (hG : Stay G) (nD : H1 D = none) (hi : i ≤ 1000) (h : PvG H1 D G i H) (ht : TurnG G g tt te vs σ i x H) :
    g x (wipe σ vs) H fun σ2 H2 => wipe σ2 vs = wipe σ vs ∧ tt σ2 H2 fun b H3 =>
      if b = true then te σ2 H3 fun y H4 => ∃ acc, H4 D = some (.lst acc) ∧ acc.length < sizeLine ∧ PvG H1 D G (i + 1) (upd H4 D (.lst (acc ++ [y]))) else PvG H1 D G (i + 1) H3 := by
  obtain ⟨sm, ys, hD, hl, hall⟩ := h
  refine ht _ _ fun y H4 s4 gy => ⟨ys, s4 _ _ hD, small64 (by omega), same_upd (sm.trans s4) nD, ys ++ [y], upd_same, by rw [List.length_append, hl]; rfl, fun j z hz => hG.put ?_ (s4 _ _ hD)⟩
  rcases Nat.lt_or_ge j ys.length with lt | ge
  · rw [List.getElem?_append_left lt] at hz
    exact hG.same (hall j z hz) s4
  · rw [List.getElem?_append_right ge] at hz
    obtain ⟨h1, h2⟩ := List.getElem?_eq_some_iff.mp hz
    have e : j = i := by simp at h1; omega
    subst e
    have e2 : y = z := by simpa using h2
    rw [← e2]
    exact gy
theorem lcg_tup {xs : List V} (hG : Stay G) (nD : H1 D = none) (hA : SqT K H1 a xs) (hz : xs.length ≤ 1000) (ht : ∀ (i : Nat) x H, xs[i]? = some x → Same H1 H → TurnG G g tt te vs σ i x H) (hd : ∀ H, PvG H1 D G xs.length H → Qd H) :
    ∃ W : Nat → Nat → Hp → Prop, (∃ m, W 0 m (upd H1 D (.lst []))) ∧ ∀ i m H, W i m H →
      ((Itt K a).stop i H ∧ Qd H) ∨ ((Itt K a).go i H ∧ ∃ Nx : Hp → Prop, (∀ H', Nx H' → ∃ m', m' < m ∧ W (i + 1) m' H') ∧ ∀ x H', (Itt K a).yld i H x H' → g x (wipe σ vs) H' fun σ2 H2 => wipe σ2 vs = wipe σ vs ∧ tt σ2 H2 fun b H3 =>
        if b = true then te σ2 H3 fun y H4 => ∃ acc, H4 D = some (.lst acc) ∧ acc.length < sizeLine ∧ Nx (upd H4 D (.lst (acc ++ [y]))) else Nx H3) :=
  lc_tup (xs := xs) (fun i H => PvG H1 D G i H) ⟨same_new nD, [], upd_same, rfl, fun j y h => by simp at h⟩ (fun i H _ h => Same.sqT h.1 hA) (fun i x H hx h => pvg_turn hG nD (by have := (List.getElem?_eq_some_iff.mp hx).1; omega) h (ht i x H hx h.1)) hd
theorem lcg_list {xs : List V} (hG : Stay G) (nD : H1 D = none) (hA : SqL K H1 a xs) (hz : xs.length ≤ 1000) (ht : ∀ (i : Nat) x H, xs[i]? = some x → Same H1 H → TurnG G g tt te vs σ i x H) (hd : ∀ H, PvG H1 D G xs.length H → Qd H) :
    ∃ W : Nat → Nat → Hp → Prop, (∃ m, W 0 m (upd H1 D (.lst []))) ∧ ∀ i m H, W i m H →
      ((Itl K a).stop i H ∧ Qd H) ∨ ((Itl K a).go i H ∧ ∃ Nx : Hp → Prop, (∀ H', Nx H' → ∃ m', m' < m ∧ W (i + 1) m' H') ∧ ∀ x H', (Itl K a).yld i H x H' → g x (wipe σ vs) H' fun σ2 H2 => wipe σ2 vs = wipe σ vs ∧ tt σ2 H2 fun b H3 =>
        if b = true then te σ2 H3 fun y H4 => ∃ acc, H4 D = some (.lst acc) ∧ acc.length < sizeLine ∧ Nx (upd H4 D (.lst (acc ++ [y]))) else Nx H3) :=
  lc_list (xs := xs) (fun i H => PvG H1 D G i H) ⟨same_new nD, [], upd_same, rfl, fun j y h => by simp at h⟩ (fun i H _ h => h.1.seq hA) (fun i x H hx h => pvg_turn hG nD (by have := (List.getElem?_eq_some_iff.mp hx).1; omega) h (ht i x H hx h.1)) hd
theorem lcg_range {n : Nat} (hG : Stay G) (nD : H1 D = none) (hz : n ≤ 1000) (ht : ∀ (i : Nat) H, i < n → Same H1 H → TurnG G g tt te vs σ i (.int (0 + (i : Int))) H) (hd : ∀ H, PvG H1 D G n H → Qd H) :
    ∃ W : Nat → Nat → Hp → Prop, (∃ m, W 0 m (upd H1 D (.lst []))) ∧ ∀ i m H, W i m H →
      ((Itr 0 n).stop i H ∧ Qd H) ∨ ((Itr 0 n).go i H ∧ ∃ Nx : Hp → Prop, (∀ H', Nx H' → ∃ m', m' < m ∧ W (i + 1) m' H') ∧ ∀ x H', (Itr 0 n).yld i H x H' → g x (wipe σ vs) H' fun σ2 H2 => wipe σ2 vs = wipe σ vs ∧ tt σ2 H2 fun b H3 =>
        if b = true then te σ2 H3 fun y H4 => ∃ acc, H4 D = some (.lst acc) ∧ acc.length < sizeLine ∧ Nx (upd H4 D (.lst (acc ++ [y]))) else Nx H3) :=
  lc_range (lo := 0) (n := n) (fun i H => PvG H1 D G i H) ⟨same_new nD, [], upd_same, rfl, fun j y h => by simp at h⟩ (fun i H hi h => pvg_turn hG nD (by omega) h (ht i H hi h.1)) hd
end
theorem stay_lot (n : Nat) (p : Nat → Nat → Bool) : Stay (fun j y H => LotAt H y n (p j)) := ⟨fun h e => h.same e, fun h e => lot_upd e h⟩
end XT
/-! arguments and lists, piece by piece -/
namespace XT
open PySem PySem.Spec PyProof.Rows L2
def AllV : List RV → Hp → List V → Prop
  | [], _, [] => True
  | R :: Rs, H, v :: vs => R H v ∧ AllV Rs H vs
  | _, _, _ => False
def StyA (Rs : List RV) : Prop := ∀ R ∈ Rs, Sty R
theorem allV_same : ∀ {Rs : List RV} {H H' : Hp} {vs : List V}, StyA Rs → Same H H' → AllV Rs H vs → AllV Rs H' vs
  | [], _, _, [], _, _, h => h
  | R :: Rs, _, _, v :: vs, hs, e, h => ⟨hs R List.mem_cons_self _ _ _ e h.1, allV_same (fun R' h' => hs R' (List.mem_cons_of_mem _ h')) e h.2⟩
theorem allV_len : ∀ {Rs : List RV} {H : Hp} {vs : List V}, AllV Rs H vs → vs.length = Rs.length
  | [], _, [], _ => rfl
  | R :: Rs, _, v :: vs, h => by rw [List.length_cons, List.length_cons, allV_len h.2]
theorem allV_at : ∀ {Rs : List RV} {H : Hp} {vs : List V} {j : Nat} {R : RV}, AllV Rs H vs → Rs[j]? = some R → ∃ v, vs[j]? = some v ∧ R H v
  | [], _, _, _, _, _, e => by simp at e
  | R :: Rs, _, v :: vs, 0, _, h, e => by cases e; exact ⟨v, rfl, h.1⟩
  | R :: Rs, _, v :: vs, j + 1, _, h, e => allV_at (j := j) h.2 e
theorem allV_of : ∀ {Rs : List RV} {H : Hp} {vs : List V}, vs.length = Rs.length → (∀ (j : Nat) (R : RV) (v : V), Rs[j]? = some R → vs[j]? = some v → R H v) → AllV Rs H vs
  | [], _, [], _, _ => trivial
  | R :: Rs, _, v :: vs, hl, h => ⟨h 0 R v rfl rfl, allV_of (Nat.succ.inj hl) fun j R' v' a b => h (j + 1) R' v' a b⟩
theorem allV_app : ∀ {Rs Ss : List RV} {H : Hp} {vs us : List V}, AllV Rs H vs → AllV Ss H us → AllV (Rs ++ Ss) H (vs ++ us)
  | [], _, _, [], _, _, h => h
  | R :: Rs, _, _, v :: vs, _, h, k => ⟨h.1, allV_app h.2 k⟩
/-- a list whose items are so -/
abbrev isLst (Rs : List RV) : RV := fun H z => ∃ L vs, z = .ref L ∧ H L = some (.lst vs) ∧ AllV Rs H vs
theorem sty_lst {Rs : List RV} (h : StyA Rs) : Sty (isLst Rs) := fun _ _ _ e ⟨L, vs, ez, hL, a⟩ => ⟨L, vs, ez, e _ _ hL, allV_same h e a⟩
def EvA (Rs : List RV) (t : TA) (σ : L2.St) (H : Hp) : Prop := ∀ H', Same H H' → ∀ Q : List V → Hp → Prop, (∀ H2 vs, Same H' H2 → AllV Rs H2 vs → Q vs H2) → t σ H' Q
section
variable {R : RV} {Rs Ss : List RV} {t : TE} {ta : TA} {σ : L2.St} {H : Hp}
theorem eva_nil : EvA [] tNil σ H := fun H1 s1 Q q => q _ _ (Same.refl _) trivial
theorem eva_cons (hs : Sty R) (a : Ev R t σ H) (b : EvA Rs ta σ H) : EvA (R :: Rs) (tCons t ta) σ H := fun H1 s1 Q q =>
  a H1 s1 _ fun H2 x s2 gx => b H2 (s1.trans s2) _ fun H3 vs s3 gv => q _ _ (s2.trans s3) ⟨hs _ _ _ s3 gx, gv⟩
theorem ev_lst (hs : StyA Rs) (hl : Rs.length ≤ 1000) (a : EvA Rs ta σ H) : Ev (isLst Rs) (tLst ta) σ H := fun H1 s1 Q q =>
  a H1 s1 _ fun H2 vs s2 gv => ⟨by rw [allV_len gv]; exact sz hl, fun L nL => q _ _ (s2.trans (same_new nL)) ⟨L, vs, rfl, upd_same, allV_same hs (same_new nL) gv⟩⟩
theorem of_cat (hs : StyA Rs) (hs' : StyA Ss) (hl : Rs.length + Ss.length ≤ 1000) : OpF (isLst Rs) (isLst Ss) rCat (isLst (Rs ++ Ss)) := fun H x y ⟨L, vs, ex, hL, a⟩ ⟨L', us, ey, hL', a'⟩ Q q =>
  ⟨L, L', vs, us, ex, ey, hL, hL', by rw [allV_len a, allV_len a']; exact sz hl, fun p np => q _ _ (same_new np) ⟨p, _, rfl, upd_same, allV_app (allV_same hs (same_new np) a) (allV_same hs' (same_new np) a')⟩⟩
theorem styA_nil : StyA [] := fun _ h => absurd h (by simp)
theorem styA_cons (a : Sty R) (b : StyA Rs) : StyA (R :: Rs) := fun R' h => by
  rcases List.mem_cons.mp h with e | e
  · rw [e]; exact a
  · exact b R' e
theorem styA_map {α : Type} {f : α → RV} (h : ∀ x, Sty (f x)) (l : List α) : StyA (l.map f) := fun R' hR => by
  obtain ⟨x, _, rfl⟩ := List.mem_map.mp hR
  exact h x
end
/-- .. and stays so when a list is written -/
def StyL (R : RV) : Prop := ∀ (H : Hp) (D : Addr) (xs ys : List V) (z : V), H D = some (.lst xs) → R H z → R (upd H D (.lst ys)) z
theorem styL_lot (n : Nat) (p : Nat → Bool) : StyL (isLot n p) := fun _ _ _ _ _ e h => lot_upd e h
theorem styL_v (v : V) : StyL (isV v) := fun _ _ _ _ _ _ h => h
/-- [te for x in xs], a list of any kind -/
theorem ev_lcL {K : PySem.W.Frag} {i : Nat} {Rs Ss : List RV} {t te : TE} {σ : L2.St} {H : Hp} (hl : Rs.length = Ss.length) (hN : Rs.length ≤ 1000) (hR : StyA Rs) (hS : StyA Ss) (hL : ∀ S ∈ Ss, StyL S) (a : Ev (isLst Rs) t σ H) (hw : ∀ z : V, wipe ((wipe σ [i]).set i (some z)) [i] = wipe σ [i])
    (b : ∀ (j : Nat) (R S : RV) (z : V) (H1 : Hp), Rs[j]? = some R → Ss[j]? = some S → R H1 z → Same H H1 → Ev S te ((wipe σ [i]).set i (some z)) H1) : Ev (isLst Ss) (tLc (iList K t) (gName i) tYes te [i]) σ H := fun H1 s1 Q q =>
  a H1 s1 _ fun H2 x s2 ⟨L, vs, ex, hLv, gv⟩ => by
    have hvl : vs.length = Rs.length := allV_len gv
    refine ⟨L, ex, ⟨_, SqL.of hLv⟩, fun D nD => lcg_list (G := fun j y H => ∀ S, Ss[j]? = some S → S H y) ⟨fun {j y H H'} h e S hs => hS S (List.mem_of_getElem? hs) _ _ _ e (h S hs), fun {j y H D xs ys} h e S hs => hL S (List.mem_of_getElem? hs) _ _ _ _ _ e (h S hs)⟩ nD (SqL.of hLv) (by omega) (fun j z Hc hz sc => ?_) (fun H3 hpv => ?_)⟩
    · intro R1 R2 h2
      have hj : j < Rs.length := by rw [← hvl]; exact (List.getElem?_eq_some_iff.mp hz).1
      have hj2 : j < Ss.length := by omega
      obtain ⟨z', hz', gz⟩ := allV_at gv (List.getElem?_eq_getElem hj)
      cases hz.symm.trans hz'
      refine ⟨hw z, ?_⟩
      exact iteT (B := R1 Hc) (b j _ _ z Hc (List.getElem?_eq_getElem hj) (List.getElem?_eq_getElem hj2) (hR _ (List.getElem_mem hj) _ _ _ sc gz) ((s1.trans s2).trans sc) Hc (Same.refl _) _ fun H4 o s4 go => h2 _ _ s4 fun S hs => by
        cases hs.symm.trans (List.getElem?_eq_getElem hj2)
        exact go)
    · obtain ⟨s3, ys, hD, hyl, hys⟩ := hpv
      exact q _ _ (s2.trans s3) ⟨D, ys, rfl, hD, allV_of (by rw [hyl, hvl, hl]) fun j R v hRj hv => hys j v hv R hRj⟩
/-- t[i] -/
theorem of_ixT {K : PySem.W.Frag} {ms : List Nat} {i m : Nat} (h : ms[i]? = some m) : OpF (isTup ms) (isV (.int (i : Int))) (rIxT K) (isV (.int (m : Int))) := fun H x y ⟨q', ex, hq⟩ ey Q q =>
  ⟨q', _, i, .int (m : Int), ex, ey, SqT.of hq, atI_nat (by unfold vm; rw [List.getElem?_map, h]; rfl), q _ _ (Same.refl _) rfl⟩
/-- tuple(xs) -/
abbrev isLsN (ms : List Nat) : RV := fun H z => LsN H z ms
theorem sty_lsN (ms : List Nat) : Sty (isLsN ms) := fun _ _ _ e h => h.same e
theorem ev_tupO {K : PySem.W.Frag} {ms : List Nat} {t : TE} {σ : L2.St} {H : Hp} (a : Ev (isLsN ms) t σ H) : Ev (isTup ms) (tCB (rTupO K) (tCons t tNil)) σ H := fun H1 s1 Q q =>
  a H1 s1 _ fun H2 x s2 ⟨y, e, hy⟩ => ⟨y, _, by rw [e], .inl ⟨SqL.of hy, fun T nT => q _ _ (s2.trans (same_new nT)) ⟨T, rfl, upd_same⟩⟩⟩
/-- [te for x in range(n)], ints -/
theorem ev_lcR {i N : Nat} {ms : List Nat} {ta te : TE} {σ : L2.St} {H : Hp} (hl : ms.length = N) (hN : N ≤ 1000) (hw : ∀ z : V, wipe ((wipe σ [i]).set i (some z)) [i] = wipe σ [i])
    (a : Ev (isV (.int (N : Int))) ta σ H) (b : ∀ (j m : Nat) (H1 : Hp), ms[j]? = some m → Same H H1 → Ev (isV (.int (m : Int))) te ((wipe σ [i]).set i (some (.int (j : Int)))) H1) : Ev (isLsN ms) (tLc (iRng1 (tCons ta tNil)) (gName i) tYes te [i]) σ H := fun H1 s1 Q q =>
  a H1 s1 _ fun H2 x s2 ex => by
    refine ⟨(N : Int), by rw [ex], by omega, by omega, fun D nD => lcg_range (n := N) (G := fun j y _ => ∀ m, ms[j]? = some m → y = .int (m : Int)) ⟨fun h _ => h, fun h _ => h⟩ nD hN (fun j Hc hj sc => ?_) (fun H3 hpv => ?_)⟩
    · intro R1 R2 h2
      have hm : ms[j]? = some ms[j] := List.getElem?_eq_getElem (by omega)
      rw [Int.zero_add]
      refine ⟨hw _, ?_⟩
      exact iteT (B := R1 Hc) (b j _ Hc hm ((s1.trans s2).trans sc) Hc (Same.refl _) _ fun H4 o s4 go => h2 _ _ s4 fun m e => by
        cases e.symm.trans hm
        exact go)
    · obtain ⟨s3, ys, hD, hyl, hys⟩ := hpv
      refine q _ _ (s2.trans s3) ⟨D, rfl, ?_⟩
      have e : ys = vm ms := List.ext_getElem? fun j => by
        rcases Nat.lt_or_ge j N with lt | ge
        · have h1 := List.getElem?_eq_getElem (l := ys) (i := j) (by omega)
          have h2 := List.getElem?_eq_getElem (l := ms) (i := j) (by omega)
          rw [h1, hys j _ h1 _ h2]
          unfold vm
          rw [List.getElem?_map, h2]
          rfl
        · rw [List.getElem?_eq_none (by omega), List.getElem?_eq_none (by rw [vm_len]; omega)]
      rw [hD, e]
/-- [x for x in range(n) if tt] -/
theorem ev_lcF {i N : Nat} (q : Nat → Bool) {ta : TE} {tt : TT} {σ : L2.St} {H : Hp} (hi : i < σ.length) (hN : N ≤ 1000) (hw : ∀ z : V, wipe ((wipe σ [i]).set i (some z)) [i] = wipe σ [i]) (he : ∀ z : V, ((wipe σ [i]).set i (some z))[i]? = some (some z))
    (a : Ev (isV (.int (N : Int))) ta σ H) (b : ∀ (j : Nat) (H1 : Hp), j < N → Same H H1 → EvT (q j) tt ((wipe σ [i]).set i (some (.int (j : Int)))) H1) : Ev (isLsN ((List.range N).filter q)) (tLc (iRng1 (tCons ta tNil)) (gName i) tt (tVar i) [i]) σ H := fun H1 s1 Q q' =>
  a H1 s1 _ fun H2 x s2 ex => by
    refine ⟨(N : Int), by rw [ex], by omega, by omega, fun D nD => lcp_range (n := N) (p := q) (f := fun m => .int (m : Int)) nD (small64 hN) (fun j Hc hj sc => ?_) (fun H3 s3 hD => ?_)⟩
    · intro R1 R2 h1 h2
      rw [Int.zero_add]
      refine ⟨hw _, b j Hc hj ((s1.trans s2).trans sc) Hc (Same.refl _) _ fun H4 s4 => ?_⟩
      cases hq : q j with
      | true => exact iteT ⟨_, he _, h2 hq _ s4⟩
      | false => exact iteF (h1 hq _ s4)
    · exact q' _ _ (s2.trans s3) ⟨D, rfl, hD⟩
theorem of_neN {K : PySem.W.Frag} {ms ks : List Nat} : OpF (isLsN ms) (isLsN ks) (rNeD K) (isB (!decide (ms = ks))) := fun H x y gx gy Q q => ne_lstN gx gy (q _ _ (Same.refl _) rfl)
theorem ev_lst0 {σ : L2.St} {H : Hp} : Ev (isLsN []) (tLst tNil) σ H := fun H1 s1 Q q => ⟨sz (show 0 ≤ 1000 by decide), fun T nT => q _ _ (same_new nT) ⟨T, rfl, by rw [upd_same]; rfl⟩⟩
theorem lots_dp {K : PySem.W.Frag} {n : Nat} : ∀ {ps : List (Nat → Bool)} {H : Hp} {vs : List V}, AllV (ps.map (isLot n)) H vs → DpAll K H vs (ps.map (dLot n))
  | [], _, [], _ => .nil
  | p :: ps, _, v :: vs, h => .cons h.1.dp (lots_dp h.2)
theorem lots_eqv {n : Nat} : ∀ {ps qs : List (Nat → Bool)}, ps.length = qs.length → (∀ (j : Nat) (p q : Nat → Bool), ps[j]? = some p → qs[j]? = some q → ∀ m, m < 2 ^ n → p m = q m) → PyData.eqvAll (ps.map (dLot n)) (qs.map (dLot n)) = true
  | [], [], _, _ => rfl
  | p :: ps, q :: qs, hl, h => by
    show (PyData.eqv (dLot n p) (dLot n q) && PyData.eqvAll (ps.map (dLot n)) (qs.map (dLot n))) = true
    rw [eqv_lot (h 0 p q rfl rfl), lots_eqv (Nat.succ.inj hl) fun j p q a b => h (j + 1) p q a b]
    rfl
theorem lots_shaped {n : Nat} (hn : n ≤ 6) : ∀ {ps : List (Nat → Bool)}, ps.length ≤ 64 → SeqAt.shaped (.list (ps.map (dLot n))) = true := by
  intro ps _
  have h : ∀ ps : List (Nat → Bool), ShwAll (ps.map (dLot n)) (1002 * ps.length) 2 := fun ps => by
    induction ps with
    | nil => exact (ShwAll.nil (k := 2)).mono (Nat.zero_le _) (Nat.le_refl _)
    | cons p ps ih => exact (ShwAll.cons (shw_lot hn p) ih).mono (by rw [List.length_cons]; omega) (Nat.le_refl _)
  exact (h ps).list.shaped (show 2 + 1 ≤ 64 by decide)
/-- two lists of lots -/
theorem of_neLs {K : PySem.W.Frag} {n : Nat} {ps qs : List (Nat → Bool)} (hn : n ≤ 6) (h64 : ps.length ≤ 64) (hl : ps.length = qs.length) (h : ∀ (j : Nat) (p q : Nat → Bool), ps[j]? = some p → qs[j]? = some q → ∀ m, m < 2 ^ n → p m = q m) : OpF (isLst (ps.map (isLot n))) (isLst (qs.map (isLot n))) (rNeD K) (isB false) := fun H x y ⟨L, vs, ex, hL, a⟩ ⟨L', us, ey, hL', a'⟩ Q q => by
  subst ex ey
  refine ⟨_, _, .lst (SqL.of hL) (lots_dp a), .lst (SqL.of hL') (lots_dp a'), lots_shaped hn h64, lots_shaped hn (by omega), q _ _ (Same.refl _) (congrArg V.bl ?_)⟩
  show (!(PyData.eqvAll (ps.map (dLot n)) (qs.map (dLot n)))) = false
  rw [lots_eqv hl h]
  rfl
end XT
/-! data with dicts, and repr of them -/
namespace XT
open PySem PySem.Spec PyProof.Rows L2
/-- a dict of texts and numbers -/
def dkV (kvs : List (Str × Int)) : List (Key × V) := kvs.map fun p => (.inr p.1, .int p.2)
def dkD (kvs : List (Str × Int)) : PyData := .dict (kvs.map fun p => (.str p.1, .int p.2))
mutual
inductive Dz (K : PySem.W.Frag) (H : Hp) : V → PyData → Prop
  | non : Dz K H .non .none
  | bl (b : Bool) : Dz K H (.bl b) (.bool b)
  | int (i : Int) : Dz K H (.int i) (.int i)
  | str (x : Str) : Dz K H (.str x) (.str x)
  | lst {a : Addr} {xs : List V} {ds : List PyData} : SqL K H a xs → a ≠ sysModules → DzAll K H xs ds → Dz K H (.ref a) (.list ds)
  | tup {a : Addr} {xs : List V} {ds : List PyData} : SqT K H a xs → DzAll K H xs ds → Dz K H (.ref a) (.tuple ds)
  | dct {a : Addr} (kvs : List (Str × Int)) : H a = some (.dK (dkV kvs)) → Dz K H (.ref a) (dkD kvs)
inductive DzAll (K : PySem.W.Frag) (H : Hp) : List V → List PyData → Prop
  | nil : DzAll K H [] []
  | cons {v : V} {vs : List V} {d : PyData} {ds : List PyData} : Dz K H v d → DzAll K H vs ds → DzAll K H (v :: vs) (d :: ds)
end
mutual
theorem Dz.same {K : PySem.W.Frag} {H H' : Hp} (e : Same H H') : ∀ {v : V} {d : PyData}, Dz K H v d → Dz K H' v d
  | _, _, .non => .non
  | _, _, .bl b => .bl b
  | _, _, .int i => .int i
  | _, _, .str x => .str x
  | _, _, .lst h n a => .lst (e.seq h) n (DzAll.same e a)
  | _, _, .tup h a => .tup (Same.sqT e h) (DzAll.same e a)
  | _, _, .dct kvs h => .dct kvs (e _ _ h)
theorem DzAll.same {K : PySem.W.Frag} {H H' : Hp} (e : Same H H') : ∀ {vs : List V} {ds : List PyData}, DzAll K H vs ds → DzAll K H' vs ds
  | _, _, .nil => .nil
  | _, _, .cons h a => .cons (Dz.same e h) (DzAll.same e a)
end
theorem dk_reads {P : Program} {w : World} {h : Heap} : ∀ {kvs : List (Str × Int)} {vs : List (Key × Value)} {es : List DictEntry}, KV (dkV kvs) vs → Pairs (mixKind P w) es vs →
    ReadsAll h (es.map (·.key)) ((kvs.map fun p => ((PyData.str p.1, PyData.int p.2) : PyData × PyData)).map (·.1)) [] ∧ ReadsAll h (es.map (·.val)) ((kvs.map fun p => ((PyData.str p.1, PyData.int p.2) : PyData × PyData)).map (·.2)) []
  | [], _, _, r, p => by
    cases r
    cases p
    exact ⟨.nil, .nil⟩
  | (x, i) :: kvs, _, _, r, p => by
    cases r with
    | @cons a kv as bs r1 r2 =>
      cases p with
      | @cons e _ es' _ hk hv p2 =>
        obtain ⟨h1, h2⟩ := dk_reads (P := P) (w := w) (h := h) (kvs := kvs) r2 p2
        obtain ⟨e1, e2⟩ := r1
        have e1 : (Sum.inr x : Key) = kv.1 := e1
        have e2 : RelV (.int i) kv.2 := e2
        have hk : keyIs kv.1 e.key = true := hk
        rw [← e1] at hk
        rcases keyIs_shape hk with ⟨j, t, z, _⟩ | ⟨y, t, z, ey⟩
        · cases z
        · cases z
          obtain ⟨t2, e3⟩ := e2
          refine ⟨?_, ?_⟩
          · show ReadsAll h (e.key :: es'.map (·.key)) (PyData.str x :: _) ([] ++ [])
            rw [ey]
            exact .cons (.str x t) h1
          · show ReadsAll h (e.val :: es'.map (·.val)) (PyData.int i :: _) ([] ++ [])
            rw [hv, e3]
            exact .cons (.int i t2) h2
section
variable {X : Cx} {pins : List (Addr × Obj)} {σ : L2.St} {H : Hp} {s : Shared}
mutual
theorem Dz.reads (I : Inv X pins σ H s) : ∀ {v : V} {d : PyData}, Dz X.K H v d → ∀ u : Value, RelV v u → ∃ as, Reads s.heap u d as ∧ sysModules ∉ as
  | _, _, .non, u, r => by
    cases r
    exact ⟨_, Reads.none, by simp⟩
  | _, _, .bl b, u, r => by
    cases r
    exact ⟨_, Reads.bool b, by simp⟩
  | _, _, .int i, u, r => by
    obtain ⟨t, rfl⟩ := r
    exact ⟨_, Reads.int i t, by simp⟩
  | _, _, .str x, u, r => by
    obtain ⟨t, rfl⟩ := r
    exact ⟨_, Reads.str x t, by simp⟩
  | _, _, .lst hs ne ha, u, r => by
    cases r
    obtain ⟨its, rv, ⟨o, n, ho, hc, _, hd⟩, _⟩ := I.list hs
    obtain ⟨as, hr, nm⟩ := DzAll.reads I ha its rv
    exact ⟨_, Reads.list ho hc hd hr, fun z => (List.mem_cons.mp z).elim (fun z => ne z.symm) nm⟩
  | _, _, .tup hs ha, u, r => by
    cases r
    obtain ⟨its, rv, ⟨o, ho, hc, n, hd⟩, _⟩ := I.tuple hs
    obtain ⟨as, hr, nm⟩ := DzAll.reads I ha its rv
    exact ⟨_, Reads.tuple ho hc hd hr, nm⟩
  | _, _, .dct (a := a) kvs h, u, r => by
    cases r
    have hx : ObjOk X.prog X.w H s.heap a (.dK (dkV kvs)) := I.hok a _ h
    obtain ⟨_, hm, vs, rk, o, es, ep, ho, hex, hd, _, hp, _⟩ := hx
    obtain ⟨h1, h2⟩ := dk_reads (h := s.heap) rk hp
    have hne : a ≠ sysModules := beq_eq_false_iff_ne.mp hm
    exact ⟨_, Reads.dict ho hex.1 hd h1 h2, fun z => by
      simp only [List.append_nil, List.mem_cons, List.not_mem_nil, or_false] at z
      exact hne z.symm⟩
theorem DzAll.reads (I : Inv X pins σ H s) : ∀ {vs : List V} {ds : List PyData}, DzAll X.K H vs ds → ∀ us : List Value, Vals vs us → ∃ as, ReadsAll s.heap us ds as ∧ sysModules ∉ as
  | _, _, .nil, us, r => by
    cases r
    exact ⟨_, ReadsAll.nil, by simp⟩
  | _, _, .cons h1 h2, us, r => by
    cases r with
    | cons r1 r2 =>
      obtain ⟨as, q1, n1⟩ := Dz.reads I h1 _ r1
      obtain ⟨bs, q2, n2⟩ := DzAll.reads I h2 _ r2
      exact ⟨_, ReadsAll.cons q1 q2, fun z => (List.mem_append.mp z).elim n1 n2⟩
end
end
section
variable {X : Cx}
def rReprZ (K : PySem.W.Frag) : List V → Hp → VK → Prop := fun xs H Q => ∃ (a : Addr) (d : PyData), xs = [.ref a] ∧ Dz K H (.ref a) d ∧ d.depth ≤ 64 ∧ d.showable = true ∧ d.shown.length ≤ sizeLine ∧ Q (.str d.shown) H
theorem cr_reprZ (hg : X.A.guards = some []) (hu : X.A.units + 128 < cLine) : CallR X (.builtin "repr") (rReprZ X.K) := by
  intro pins s σ H xs us Q I r h
  obtain ⟨a, d, rfl, hd, dp, hw, hz, q⟩ := h
  rw [Vals.ref1 r]
  obtain ⟨as, rd, nm⟩ := Dz.reads I hd (.ref a) rfl
  refine repr_of_reads' rd hw (fun _ => nm) hg (by omega) (fun _ _ e => e) (fun h2 u tk k => ?_) hz
  exact ⟨.str d.shown, H, I.kept (t' := tk) k, ⟨u, rfl⟩, q⟩
/-- a list display: not at the place of sys.modules -/
def tLstB (t : TA) : TE := fun σ H Q => t σ H fun xs H1 => xs.length ≤ sizeLine ∧ ∀ p, H1 p = none → p ≠ sysModules → Q (.ref p) (upd H1 p (.lst xs))
theorem pe_lstB {es : List Expr} {t : TA} {pos : Pos} (h : PA X es t) : PE X (.List es pos) (tLstB t) := by
  refine ⟨fun pins s σ H Q I hq => ?_⟩
  refine wpAny_List_spliced (thn (h.run pos pins s σ H _ I hq) fun us s1 ⟨xs, H1, I1, r, z, q⟩ => ⟨by rw [← r.length]; exact z, ?_⟩)
  have hf : H1 s1.heap.objs.size = none := I1.hok.fresh (Nat.le_refl _)
  refine ⟨.ref s1.heap.objs.size, upd H1 s1.heap.objs.size (.lst xs), I1.laid (t' := s1.toks) (fun b u e => Heap.get?_push_of_some _ e) (Nat.le_refl _) ?_, rfl, q _ hf (Ne.symm (Nat.ne_of_lt I1.big))⟩
  exact ⟨z, us, 0, r, Heap.get?_push_size _ rfl⟩
end
end XT
/-! kinds of data -/
namespace XT
open PySem PySem.Spec PyProof.Rows L2
def tyD : PyData → String
  | .none => "NoneType" | .bool _ => "bool" | .int _ => "int" | .str _ => "str" | .list _ => "list" | .tuple _ => "tuple" | .dict _ => "dict"
theorem Dz.ty {K : PySem.W.Frag} {H : Hp} {v : V} {d : PyData} (h : Dz K H v d) : TyX K H v (.type (tyD d)) := by
  cases h with
  | non => exact .base .non
  | bl b => exact .base (.bl b)
  | int i => exact .base (.int i)
  | str x => exact .base (.str x)
  | lst h n a =>
    rcases h with (h | ⟨o, h⟩) | ⟨o, its, n, h, c, _⟩
    · exact .base (.lst h)
    · exact .base (.frz h)
    · exact .kList h c
  | tup h a =>
    rcases h with (h | ⟨o, h⟩) | ⟨o, its, n, h, c, _⟩
    · exact .base (.tup h)
    · exact .fTuple h
    · exact .kTuple h c
  | dct kvs h => exact .base (.dK h)
def isIt : PyData → Bool
  | .int _ => true | .bool _ => true | _ => false
def isBl : PyData → Bool
  | .bool _ => true | _ => false
def isN : PyData → Bool
  | .int _ => true | _ => false
theorem kitI {K : PySem.W.Frag} : ∀ d : PyData, PySem.W.kitOne K (.type (tyD d)) (.type "int") = some (isIt d)
  | .none => kit_ty (a := "NoneType") (b := "int") (r := false) (by decide +kernel)
  | .bool _ => kit_ty (a := "bool") (b := "int") (r := true) (by decide +kernel)
  | .int _ => kit_ty (a := "int") (b := "int") (r := true) (by decide +kernel)
  | .str _ => kit_ty (a := "str") (b := "int") (r := false) (by decide +kernel)
  | .list _ => kit_ty (a := "list") (b := "int") (r := false) (by decide +kernel)
  | .tuple _ => kit_ty (a := "tuple") (b := "int") (r := false) (by decide +kernel)
  | .dict _ => kit_ty (a := "dict") (b := "int") (r := false) (by decide +kernel)
theorem kitB' {K : PySem.W.Frag} : ∀ d : PyData, PySem.W.kitOne K (.type (tyD d)) (.type "bool") = some (isBl d)
  | .none => kit_ty (a := "NoneType") (b := "bool") (r := false) (by decide +kernel)
  | .bool _ => kit_ty (a := "bool") (b := "bool") (r := true) (by decide +kernel)
  | .int _ => kit_ty (a := "int") (b := "bool") (r := false) (by decide +kernel)
  | .str _ => kit_ty (a := "str") (b := "bool") (r := false) (by decide +kernel)
  | .list _ => kit_ty (a := "list") (b := "bool") (r := false) (by decide +kernel)
  | .tuple _ => kit_ty (a := "tuple") (b := "bool") (r := false) (by decide +kernel)
  | .dict _ => kit_ty (a := "dict") (b := "bool") (r := false) (by decide +kernel)
def isM (n : Nat) : PyData → Bool
  | .int i => decide (0 ≤ i) && decide (i < ((2 ^ n : Nat) : Int))
  | _ => false
theorem DzAll.at {K : PySem.W.Frag} {H : Hp} : ∀ {vs : List V} {ds : List PyData}, DzAll K H vs ds → ∀ {i : Nat} {v : V}, vs[i]? = some v → ∃ d, ds[i]? = some d ∧ Dz K H v d
  | _, _, .nil, i, v, h => by simp at h
  | _, _, .cons (d := d) h a, 0, v, e => by
    cases e
    exact ⟨d, rfl, h⟩
  | _, _, .cons h a, i + 1, v, e => DzAll.at a (i := i) e
theorem DzAll.len {K : PySem.W.Frag} {H : Hp} : ∀ {vs : List V} {ds : List PyData}, DzAll K H vs ds → vs.length = ds.length
  | _, _, .nil => rfl
  | _, _, .cons h a => by rw [List.length_cons, List.length_cons, DzAll.len a]
def oddD : List PyData := [.none, .bool true, .bool false, .int (-1), .int 0, .int 1, .int 2, .int 3, .int 6, .int 7, .int 63, .int 64, .int (10 ^ 39), .str "", .str "0", .str "lot", .tuple [], .list [], .dict [], .tuple [.int 0], .list [.int 0], .tuple [.bool true],
  .tuple [.int 2, .tuple [.int 0]], .tuple [.int 0, .int 1], .dict [(.str "a", .int 1)], .str "01"]
end XT
/-! sizes of data -/
namespace XT
open PySem PySem.Spec PyProof.Rows L2
/-! texts -/
def TxOk (x : Str) : Prop := ∀ c ∈ x.cps.toList, c < 16 ^ 8
theorem shifted_lt {B : Nat} : ∀ {l : List (Nat × Nat × Nat)}, l.all (fun p => decide (p.2.2 + (p.2.1 - p.1) < B)) = true → ∀ {c x : Nat}, Unicode.shifted l c = some x → x < B
  | [], _, c, x, h => by simp [Unicode.shifted] at h
  | (a, b, t) :: l, ha, c, x, h => by
    rw [List.all_cons, Bool.and_eq_true] at ha
    have h1 : t + (b - a) < B := of_decide_eq_true ha.1
    unfold Unicode.shifted at h
    by_cases hc : c < a
    · rw [if_pos hc] at h; cases h
    · rw [if_neg hc] at h
      by_cases hb : c ≤ b
      · rw [if_pos hb] at h
        cases h
        omega
      · rw [if_neg hb] at h
        exact shifted_lt ha.2 h
theorem lookup_mem {β : Type} : ∀ {l : List (Nat × β)} {a : Nat} {b : β}, l.lookup a = some b → (a, b) ∈ l
  | [], a, b, h => by simp at h
  | (k, v) :: l, a, b, h => by
    rw [List.lookup_cons] at h
    cases e : a == k with
    | true =>
      rw [e] at h
      cases h
      rw [eq_of_beq e]
      exact List.mem_cons_self
    | false =>
      rw [e] at h
      exact List.mem_cons_of_mem _ (lookup_mem h)
theorem tabOne : UnicodeData.oneUpper.all (fun p => decide (p.2.2 + (p.2.1 - p.1) < 16 ^ 8)) = true := by decide +kernel
theorem tabSev : UnicodeData.severalUpper.all (fun p => p.2.all fun x => decide (x < 16 ^ 8)) = true := by decide +kernel
theorem upperOf_lt {c : Nat} (h : c < 16 ^ 8) : ∀ x ∈ Unicode.upperOf c, x < 16 ^ 8 := by
  intro x hx
  unfold Unicode.upperOf Unicode.image at hx
  cases e : UnicodeData.severalUpper.lookup c with
  | some cs =>
    rw [e] at hx
    have := List.all_eq_true.mp tabSev _ (lookup_mem e)
    exact of_decide_eq_true (List.all_eq_true.mp this x hx)
  | none =>
    rw [e] at hx
    rw [List.mem_singleton.mp hx]
    cases e2 : Unicode.shifted UnicodeData.oneUpper c with
    | none => exact h
    | some y => exact shifted_lt tabOne e2
theorem TxOk.upper {x : Str} (h : TxOk x) : TxOk (Txt.upper x) := by
  intro c hc
  unfold Txt.upper placed at hc
  have hc := Array.mem_toList_iff.mp hc
  obtain ⟨ys, h1, h2⟩ := Array.mem_flatten.mp hc
  obtain ⟨i, hi, e⟩ := Array.mem_mapIdx.mp h1
  subst e
  have h3 : c ∈ Unicode.upperOf x.cps[i] := by simpa using h2
  exact upperOf_lt (h _ (Array.mem_toList_iff.mpr (Array.getElem_mem hi))) c h3
theorem TxOk.app {x y : Str} (h : TxOk x) (k : TxOk y) : TxOk (x ++ y) := by
  intro c hc
  have e : (x ++ y).cps.toList = x.cps.toList ++ y.cps.toList := by
    show (x.cps ++ y.cps).toList = _
    simp
  rw [e] at hc
  exact (List.mem_append.mp hc).elim (h c) (k c)
theorem TxOk.cut {x : Str} (h : TxOk x) (lo hi : Option Int) : TxOk (cutS x lo hi) := by
  intro c hc
  have hc : c ∈ (((x.cps.toList.drop (HT.sIx x.length 0 lo)).take (HT.sIx x.length x.length hi - HT.sIx x.length 0 lo)).toArray).toList := hc
  rw [List.toList_toArray] at hc
  exact h c (List.mem_of_mem_drop (List.mem_of_mem_take hc))
theorem TxOk.of (s : String) : TxOk (Str.ofString s) := by
  intro c hc
  rw [Str.ofString_eq_toList] at hc
  have hc : c ∈ s.toList.map Char.toNat := by simpa using hc
  obtain ⟨d, _, rfl⟩ := List.mem_map.mp hc
  have := d.valid
  have h2 : d.toNat < 0x110000 := by
    rcases this with h | h
    · exact Nat.lt_trans h (by decide)
    · exact h.2
  exact Nat.lt_trans h2 (by decide)
theorem str_app_len (x y : Str) : (x ++ y).length = x.length + y.length := strLen_append x y

/-! size -/
mutual
def zs : PyData → Nat
  | .none => 10
  | .bool _ => 10
  | .int _ => 60
  | .str x => 10 * x.length + 2
  | .list ds => zsAll ds + 4
  | .tuple ds => zsAll ds + 4
  | .dict _ => 50
def zsAll : List PyData → Nat
  | [] => 0
  | d :: ds => zs d + 2 + zsAll ds
end
mutual
def fz (M : Nat) : PyData → Prop
  | .none => True
  | .bool _ => True
  | .int i => i.natAbs ≤ M
  | .str x => TxOk x
  | .list ds => fzAll M ds
  | .tuple ds => fzAll M ds
  | .dict kvs => (PyData.showable (.dict kvs) = true) ∧ (PyData.shown (.dict kvs)).length ≤ 50
def fzAll (M : Nat) : List PyData → Prop
  | [] => True
  | d :: ds => fz M d ∧ fzAll M ds
end
mutual
theorem fz_mono {M N : Nat} (h : M ≤ N) : ∀ d : PyData, fz M d → fz N d
  | .none, a => a
  | .bool _, a => a
  | .int _, a => Nat.le_trans a h
  | .str _, a => a
  | .list ds, a => fzAll_mono h ds a
  | .tuple ds, a => fzAll_mono h ds a
  | .dict _, a => a
theorem fzAll_mono {M N : Nat} (h : M ≤ N) : ∀ ds : List PyData, fzAll M ds → fzAll N ds
  | [], a => a
  | d :: ds, a => ⟨fz_mono h d a.1, fzAll_mono h ds a.2⟩
end
theorem fzAll_iff {M : Nat} : ∀ {ds : List PyData}, fzAll M ds ↔ ∀ d ∈ ds, fz M d
  | [] => ⟨fun _ d h => by simp at h, fun _ => trivial⟩
  | d :: ds => by
    constructor
    · intro h e he
      rcases List.mem_cons.mp he with rfl | he
      · exact h.1
      · exact fzAll_iff.mp h.2 e he
    · intro h
      exact ⟨h d List.mem_cons_self, fzAll_iff.mpr fun e he => h e (List.mem_cons_of_mem _ he)⟩
theorem depthAll_iff {k : Nat} : ∀ {ds : List PyData}, PyData.depthAll ds ≤ k ↔ ∀ d ∈ ds, PyData.depth d ≤ k
  | [] => ⟨fun _ d h => by simp at h, fun _ => Nat.zero_le _⟩
  | d :: ds => by
    simp only [PyData.depthAll]
    constructor
    · intro h e he
      have h := Nat.max_le.mp h
      rcases List.mem_cons.mp he with rfl | he
      · exact h.1
      · exact depthAll_iff.mp h.2 e he
    · intro h
      exact Nat.max_le.mpr ⟨h d List.mem_cons_self, depthAll_iff.mpr fun e he => h e (List.mem_cons_of_mem _ he)⟩
theorem zsAll_app : ∀ a b : List PyData, zsAll (a ++ b) = zsAll a + zsAll b
  | [], b => by simp [zsAll]
  | d :: a, b => by
    show zs d + 2 + zsAll (a ++ b) = zs d + 2 + zsAll a + zsAll b
    rw [zsAll_app a b]
    omega
theorem zsAll_take (n : Nat) (ds : List PyData) : zsAll (ds.take n) ≤ zsAll ds := by
  have := zsAll_app (ds.take n) (ds.drop n)
  rw [List.take_append_drop] at this
  omega
theorem zsAll_drop (n : Nat) (ds : List PyData) : zsAll (ds.drop n) ≤ zsAll ds := by
  have := zsAll_app (ds.take n) (ds.drop n)
  rw [List.take_append_drop] at this
  omega
theorem zsAll_rev : ∀ ds : List PyData, zsAll ds.reverse = zsAll ds
  | [] => rfl
  | d :: ds => by
    rw [List.reverse_cons, zsAll_app, zsAll_rev ds]
    show zsAll ds + (zs d + 2 + 0) = zs d + 2 + zsAll ds
    omega
theorem zs_mem : ∀ {ds : List PyData} {d : PyData}, d ∈ ds → zs d + 2 ≤ zsAll ds
  | e :: ds, d, h => by
    show zs d + 2 ≤ zs e + 2 + zsAll ds
    rcases List.mem_cons.mp h with rfl | h
    · omega
    · have := zs_mem h
      omega
theorem zsAll_len : ∀ ds : List PyData, ds.length ≤ zsAll ds
  | [] => Nat.zero_le _
  | d :: ds => by
    have := zsAll_len ds
    show ds.length + 1 ≤ zs d + 2 + zsAll ds
    omega
/-- what the data are: their numbers, their size, their depth -/
structure Gd (M n k : Nat) (d : PyData) : Prop where
  f : fz M d
  z : zs d ≤ n
  p : PyData.depth d ≤ k
structure GdAll (M n k : Nat) (ds : List PyData) : Prop where
  f : fzAll M ds
  z : zsAll ds ≤ n
  p : PyData.depthAll ds ≤ k
theorem Gd.mono {M N n m k j : Nat} {d : PyData} (h : Gd M n k d) (a : M ≤ N) (b : n ≤ m) (c : k ≤ j) : Gd N m j d := ⟨fz_mono a d h.f, Nat.le_trans h.z b, Nat.le_trans h.p c⟩
theorem GdAll.mono {M N n m k j : Nat} {d : List PyData} (h : GdAll M n k d) (a : M ≤ N) (b : n ≤ m) (c : k ≤ j) : GdAll N m j d := ⟨fzAll_mono a d h.f, Nat.le_trans h.z b, Nat.le_trans h.p c⟩
theorem Gd.all {M n k : Nat} {ds : List PyData} (h : Gd M n k (.tuple ds)) : GdAll M (n - 4) (k - 1) ds ∧ 4 ≤ n ∧ 1 ≤ k := by
  have h2 : zsAll ds + 4 ≤ n := h.z
  have h3 : PyData.depthAll ds + 1 ≤ k := by
    have := h.p
    simp only [PyData.depth] at this
    exact this
  exact ⟨⟨h.f, by omega, by omega⟩, by omega, by omega⟩
theorem GdAll.tuple {M n k : Nat} {ds : List PyData} (h : GdAll M n k ds) : Gd M (n + 4) (k + 1) (.tuple ds) := by
  refine ⟨h.f, Nat.add_le_add_right h.z 4, ?_⟩
  simp only [PyData.depth]
  exact Nat.add_le_add_right h.p 1
theorem GdAll.list {M n k : Nat} {ds : List PyData} (h : GdAll M n k ds) : Gd M (n + 4) (k + 1) (.list ds) := by
  refine ⟨h.f, Nat.add_le_add_right h.z 4, ?_⟩
  simp only [PyData.depth]
  exact Nat.add_le_add_right h.p 1
theorem GdAll.nil {M k : Nat} : GdAll M 0 k [] := ⟨trivial, Nat.le_refl _, Nat.zero_le _⟩
theorem GdAll.cons {M n m k : Nat} {d : PyData} {ds : List PyData} (h : Gd M n k d) (t : GdAll M m k ds) : GdAll M (n + 2 + m) k (d :: ds) := by
  refine ⟨⟨h.f, t.f⟩, ?_, ?_⟩
  · have := h.z
    have := t.z
    show zs d + 2 + zsAll ds ≤ _
    omega
  · simp only [PyData.depthAll]
    exact Nat.max_le.mpr ⟨h.p, t.p⟩
theorem GdAll.app {M n m k : Nat} {ds es : List PyData} (h : GdAll M n k ds) (t : GdAll M m k es) : GdAll M (n + m) k (ds ++ es) := by
  refine ⟨fzAll_iff.mpr fun d hd => (List.mem_append.mp hd).elim (fzAll_iff.mp h.f d) (fzAll_iff.mp t.f d), ?_, depthAll_iff.mpr fun d hd => (List.mem_append.mp hd).elim (depthAll_iff.mp h.p d) (depthAll_iff.mp t.p d)⟩
  rw [zsAll_app]
  exact Nat.add_le_add h.z t.z
theorem GdAll.sub {M n k : Nat} {ds es : List PyData} (h : GdAll M n k ds) (s : ∀ d ∈ es, d ∈ ds) (z : zsAll es ≤ zsAll ds) : GdAll M n k es :=
  ⟨fzAll_iff.mpr fun d hd => fzAll_iff.mp h.f d (s d hd), Nat.le_trans z h.z, depthAll_iff.mpr fun d hd => depthAll_iff.mp h.p d (s d hd)⟩
theorem GdAll.take {M n k : Nat} {ds : List PyData} (i : Nat) (h : GdAll M n k ds) : GdAll M n k (ds.take i) := h.sub (fun _ hd => List.mem_of_mem_take hd) (zsAll_take i ds)
theorem GdAll.drop {M n k : Nat} {ds : List PyData} (i : Nat) (h : GdAll M n k ds) : GdAll M n k (ds.drop i) := h.sub (fun _ hd => List.mem_of_mem_drop hd) (zsAll_drop i ds)
theorem GdAll.rev {M n k : Nat} {ds : List PyData} (h : GdAll M n k ds) : GdAll M n k ds.reverse := h.sub (fun _ hd => List.mem_reverse.mp hd) (Nat.le_of_eq (zsAll_rev ds))
theorem GdAll.at {M n k : Nat} {ds : List PyData} {d : PyData} (h : GdAll M n k ds) (m : d ∈ ds) : Gd M n k d :=
  ⟨fzAll_iff.mp h.f d m, by have := zs_mem m; have := h.z; omega, depthAll_iff.mp h.p d m⟩
/-- shown -/
theorem shown_int {M : Nat} {i : Int} (hM : M < 10 ^ 40) (h : i.natAbs ≤ M) : (PyData.shown (.int i)).length ≤ 60 := by
  have e := int_text_length_le10 (a := i) (k := 40) (by decide) (by omega)
  show (Str.ofString (toString i)).length ≤ 60
  rw [PySem.ofString_length]
  omega
theorem log_int {M : Nat} {i : Int} (hM : M < 10 ^ 40) (h : i.natAbs ≤ M) : i.natAbs.log2 < 1920 := by
  by_cases h0 : i.natAbs = 0
  · rw [h0]; decide
  · exact Nat.lt_of_lt_of_le ((Nat.log2_lt h0).mpr (show i.natAbs < 2 ^ 140 from Nat.lt_of_lt_of_le (show i.natAbs < 10 ^ 40 by omega) (by decide))) (by decide)
mutual
theorem shown_le {M : Nat} (hM : M < 10 ^ 40) : ∀ d : PyData, fz M d → PyData.showable d = true ∧ (PyData.shown d).length ≤ zs d
  | .none, _ => ⟨rfl, by decide⟩
  | .bool b, _ => ⟨rfl, by cases b <;> decide⟩
  | .int i, h => ⟨decide_eq_true (log_int hM h), shown_int hM h⟩
  | .str x, h => ⟨rfl, by
    show (reprText x).length ≤ 10 * x.length + 2
    exact StrLaws.reprText_len x h⟩
  | .list ds, h => by
    obtain ⟨h1, h2⟩ := shownAll_le hM ds h
    refine ⟨by simpa only [PyData.showable] using h1, ?_⟩
    simp only [PyData.shown, zs]
    have := listText_len_le (PyData.shownAll ds)
    omega
  | .tuple ds, h => by
    obtain ⟨h1, h2⟩ := shownAll_le hM ds h
    refine ⟨by simpa only [PyData.showable] using h1, ?_⟩
    simp only [PyData.shown, zs]
    have := tupleText_len_le (PyData.shownAll ds)
    omega
  | .dict kvs, h => h
theorem shownAll_le {M : Nat} (hM : M < 10 ^ 40) : ∀ ds : List PyData, fzAll M ds → PyData.showableAll ds = true ∧ ((PyData.shownAll ds).map (·.length)).sum + 2 * (PyData.shownAll ds).length ≤ zsAll ds
  | [], _ => ⟨rfl, Nat.le_refl _⟩
  | d :: ds, h => by
    obtain ⟨h1, h2⟩ := shown_le hM d h.1
    obtain ⟨h3, h4⟩ := shownAll_le hM ds h.2
    refine ⟨by simp only [PyData.showableAll, h1, h3, Bool.and_self], ?_⟩
    simp only [PyData.shownAll, List.map_cons, List.sum_cons, List.length_cons, zsAll]
    omega
end
end XT
/-! repr of any data -/
namespace XT
open PySem PySem.Spec PyProof.Rows L2
section
variable {X : Cx}
/-- repr of any data -/
def rReprA (K : PySem.W.Frag) : List V → Hp → VK → Prop := fun xs H Q => ∃ (x : V) (d : PyData), xs = [x] ∧ Dz K H x d ∧ d.depth ≤ 64 ∧ d.showable = true ∧ d.shown.length ≤ sizeLine ∧ Q (.str d.shown) H
theorem cr_reprA (hg : X.A.guards = some []) (hu : X.A.units + 128 < cLine) : CallR X (.builtin "repr") (rReprA X.K) := by
  intro pins s σ H xs us Q I r h
  obtain ⟨x, d, rfl, hd, dp, hw, hz, q⟩ := h
  obtain ⟨u, rfl, ru⟩ := vals1 r
  cases hd with
  | non => cases ru; exact PySem.P.repr_of_none ⟨.str _, H, I.tok _, ⟨_, rfl⟩, q⟩
  | bl b => cases ru; exact PySem.P.repr_of_bool ⟨.str (if b then "True" else "False"), H, I.tok _, ⟨_, by cases b <;> rfl⟩, by cases b <;> exact q⟩
  | int i =>
    obtain ⟨t, rfl⟩ := ru
    exact PySem.P.repr_of_int (of_decide_eq_true hw) ⟨.str _, H, I.tok _, ⟨_, rfl⟩, q⟩
  | str y =>
    obtain ⟨t, rfl⟩ := ru
    exact PySem.P.repr_of_str ⟨.str _, H, I.tok _, ⟨_, rfl⟩, q⟩ (hsz := hz)
  | lst a b c => cases ru; exact cr_reprZ hg hu pins s σ H _ _ Q I r ⟨_, _, rfl, .lst a b c, dp, hw, hz, q⟩
  | tup a b => cases ru; exact cr_reprZ hg hu pins s σ H _ _ Q I r ⟨_, _, rfl, .tup a b, dp, hw, hz, q⟩
  | dct kvs a => cases ru; exact cr_reprZ hg hu pins s σ H _ _ Q I r ⟨_, _, rfl, .dct kvs a, dp, hw, hz, q⟩
/-- list(t): not at the place of sys.modules -/
theorem call_listB : CallR X (.type "list") (fun xs H Q => ∃ p ys, xs = [.ref p] ∧ SqT X.K H p ys ∧ ∀ l, H l = none → l ≠ sysModules → Q (.ref l) (upd H l (.lst ys))) := by
  intro pins s σ H xs us Q I r h
  obtain ⟨p, ys, rfl, hq, q⟩ := h
  obtain ⟨u, rfl, rx⟩ := vals1 r
  cases rx
  have fin : ∀ (its : List Value), Vals ys its → ys.length ≤ sizeLine → ∀ (h' : Heap) (c' : Nat), (∀ b o', s.heap.get? b = some o' → h'.get? b = some o') →
      h'.get? s.heap.objs.size = some { cls := .type "list", dict := none, data := .seq its.toArray c', slots := #[] } → EP X pins σ Q (.ref s.heap.objs.size) { s with heap := h' } := fun its r' hz h' c' kp e =>
    ⟨.ref s.heap.objs.size, _, I.laid (t' := s.toks) kp (Nat.le_refl _) (show ObjOk X.prog X.w _ h' _ (.lst ys) from ⟨hz, its, c', r', e⟩), rfl, q _ (I.hok.fresh (Nat.le_refl _)) (Ne.symm (Nat.ne_of_lt I.big))⟩
  obtain ⟨its, r', pl, hz⟩ := I.tuple hq
  have hlen := r'.length
  obtain ⟨o, ho, hc, n, hd⟩ := pl
  exact call_list_seq p (.inr rfl) ho hc hd (fun h' c' kp e => fin its r' hz h' c' kp e) (by simp only [List.size_toArray] <;> omega)
/-- t != () -/
theorem op_neE (hu : X.A.units < cLine) : OpR X (compareOp .NotEq) (fun x y H Q => ∃ (a b : Addr) (xs : List V), x = .ref a ∧ y = .ref b ∧ SqT X.K H a xs ∧ SqT X.K H b [] ∧ Q (.bl (!xs.isEmpty)) H) := by
  intro pins s σ H x y v u Q I rx ry h
  obtain ⟨a, b, xs, rfl, rfl, ha, hb, q⟩ := h
  cases rx
  cases ry
  obtain ⟨its, r1, p1, _⟩ := I.tuple ha
  obtain ⟨its2, r2, p2, _⟩ := I.tuple hb
  cases r2
  refine SeqAt.RcNeAt.tuples (e := fun _ => true) p1 p2 hu (fun j h1 h2 => absurd h2 (Nat.not_lt_zero _)) X.prog X.w _ _ ⟨.bl (!xs.isEmpty), H, I, ?_, q⟩
  show Value.bool _ = Value.bool _
  congr 1
  cases r1 with
  | nil => rfl
  | cons _ _ => simp
/-- True + 1 -/
theorem op_add_bi : OpR X (binaryOp .Add) (fun x y H Q => ∃ k i, x = .bl k ∧ y = .int i ∧ Q (.int ((if k = true then (1 : Int) else 0) + i)) H) := by
  intro pins s σ H x y v u Q I rx ry h
  obtain ⟨k, i, rfl, rfl, q⟩ := h
  obtain ⟨t, rfl⟩ := ry
  cases rx
  exact PySem.IntBool.add_bool_int ⟨.int _, H, I.tok _, ⟨_, rfl⟩, q⟩
theorem op_sub_bi : OpR X (binaryOp .Sub) (fun x y H Q => ∃ k i, x = .bl k ∧ y = .int i ∧ Q (.int ((if k = true then (1 : Int) else 0) - i)) H) := by
  intro pins s σ H x y v u Q I rx ry h
  obtain ⟨k, i, rfl, rfl, q⟩ := h
  obtain ⟨t, rfl⟩ := ry
  cases rx
  exact PySem.IntBool.sub_bool_int ⟨.int _, H, I.tok _, ⟨_, rfl⟩, q⟩
theorem op_eq_bi : OpR X (compareOp .Eq) (fun x y H Q => ∃ k i, x = .bl k ∧ y = .int i ∧ Q (.bl ((if k then 1 else 0) == i)) H) := by
  intro pins s σ H x y v u Q I rx ry h
  obtain ⟨k, i, rfl, rfl, q⟩ := h
  obtain ⟨t, rfl⟩ := ry
  cases rx
  exact PySem.EqBoolInt.eq_bool_int ⟨.bl _, H, I, rfl, q⟩
theorem call_str_bool : CallR X (.type "str") (fun xs H Q => ∃ b, xs = [.bl b] ∧ Q (.str (Str.ofString (if b then "True" else "False"))) H) := by
  intro pins s σ H xs us Q I r h
  obtain ⟨b, rfl, q⟩ := h
  obtain ⟨u, rfl, ru⟩ := vals1 r
  cases ru
  exact PySem.P.str_of_bool ⟨.str _, H, I.tok _, ⟨_, by cases b <;> rfl⟩, q⟩
/-- two rules for one operator -/
theorem OpR.or {f : Value → Value → Sem Value} {r r' : R2} (h : OpR X f r) (h' : OpR X f r') : OpR X f (fun x y H Q => r x y H Q ∨ r' x y H Q) := by
  intro pins s σ H x y v u Q I rx ry q
  rcases q with q | q
  · exact h pins s σ H x y v u Q I rx ry q
  · exact h' pins s σ H x y v u Q I rx ry q
theorem CallR.or {f : Value} {r r' : List V → Hp → VK → Prop} (h : CallR X f r) (h' : CallR X f r') : CallR X f (fun xs H Q => r xs H Q ∨ r' xs H Q) := by
  intro pins s σ H xs us Q I rx q
  rcases q with q | q
  · exact h pins s σ H xs us Q I rx q
  · exact h' pins s σ H xs us Q I rx q
end
/-! t[::-1] -/
section
variable {prog : Program} {w : World} {A : Around} {E : Value → Shared → Prop} {s : Shared}
theorem adjust_rev (n : Nat) : Builtin.Slice.sliceAdjust none none (-1) (n : Int) = ((n : Int) - 1, -1) := rfl
theorem places_rev (n : Nat) : Builtin.Slice.slicePlaces ((n : Int) - 1) (-1) (-1) = n := by
  unfold Builtin.Slice.slicePlaces
  have h1 : ¬ ((-1 : Int) > 0) := by decide
  rw [if_neg h1]
  by_cases h : (n : Int) - 1 > -1
  · rw [if_pos h, show (- -1 : Int) = 1 by decide, Int.ediv_one]
    omega
  · rw [if_neg h]
    omega
theorem pick_rev (xs : Array Value) : ((List.range xs.size).filterMap fun (m : Nat) => xs[((xs.size : Int) - 1 + (m : Int) * (-1)).toNat]?).toArray = xs.toList.reverse.toArray := by
  have e : (List.range xs.size).filterMap (fun (m : Nat) => xs[((xs.size : Int) - 1 + (m : Int) * (-1)).toNat]?) = ((List.range xs.size).map fun k => xs.size - 1 - k).filterMap (xs[·]?) := by
    rw [List.filterMap_map]
    have g : ∀ l : List Nat, (∀ m ∈ l, m < xs.size) → l.filterMap (fun (m : Nat) => xs[((xs.size : Int) - 1 + (m : Int) * (-1)).toNat]?) = l.filterMap ((fun x => xs[x]?) ∘ fun k => xs.size - 1 - k) := by
      intro l
      induction l with
      | nil => intro _; rfl
      | cons m l ih =>
        intro hm
        have h1 := hm m List.mem_cons_self
        have e2 : ((xs.size : Int) - 1 + (m : Int) * (-1)).toNat = xs.size - 1 - m := by omega
        rw [List.filterMap_cons, List.filterMap_cons, ih fun x hx => hm x (List.mem_cons_of_mem _ hx)]
        rw [e2]
        rfl
    exact g _ fun m hm => List.mem_range.mp hm
  rw [e, PySem.W.krv_range, List.filterMap_reverse, PySem.W.krv_all]
theorem sliceApplied_rev {sl : Addr} {tk : Tok} {n : Nat} {Q : Int × Int × Nat → Shared → Prop} (hs : s.heap.IsSliceOf sl .none .none (.int (-1) tk))
    (h : Q ((n : Int) - 1, -1, n) s) : wpAny (model prog w) A (Builtin.Slice.sliceApplied (.ref sl) (pure (n : Int))) Q E s := by
  obtain ⟨os, hos, hcs, hds⟩ := id hs
  unfold Builtin.Slice.sliceApplied Builtin.Slice.sliceFields
  refine wpAny_bind (wpAny_bind (wpAny_field hos hds (x := .none) rfl (wpAny_bind (wpAny_field hos hds (x := .none) rfl (wpAny_bind (wpAny_field hos hds (x := .int (-1) tk) rfl (wpAny_pure ?_)))))))
  refine wpAny_bind (HT.slicePart_ (.int (-1) tk) ?_)
  show wpAny _ _ (if ((-1 : Int) == 0) = true then _ else _) _ _ s
  rw [if_neg (by decide)]
  refine wpAny_bind (HT.slicePart_ .none (wpAny_bind (HT.slicePart_ .none (wpAny_bind (wpAny_pure ?_)))))
  show wpAny _ _ (match Builtin.Slice.sliceAdjust none none (-1) (n : Int) with | (lo, hi) => pure (lo, (-1 : Int), Builtin.Slice.slicePlaces lo hi (-1))) _ _ s
  rw [adjust_rev n]
  show wpAny _ _ (pure ((n : Int) - 1, (-1 : Int), Builtin.Slice.slicePlaces ((n : Int) - 1) (-1) (-1))) _ _ s
  rw [places_rev]
  exact wpAny_pure h
theorem getItem_tuple_rev {t sl : Addr} {items : Array Value} {tk : Tok} {Q : Value → Shared → Prop} (ht : IsTup s.heap t items) (hs : s.heap.IsSliceOf sl .none .none (.int (-1) tk))
    (h : Q (.ref s.heap.objs.size) { s with heap := s.heap.push { cls := .type "tuple", data := .seq items.toList.reverse.toArray } })
    (hsz : items.size ≤ sizeLine) : wpAny (model prog w) A (getItem (.ref t) (.ref sl)) Q E s := by
  have htake : sizeOk (.seq items.toList.reverse.toArray) := by
    show items.toList.reverse.toArray.size ≤ sizeLine
    rw [List.size_toArray, List.length_reverse, Array.length_toList]
    exact hsz
  obtain ⟨os, hos, hcs, hds⟩ := id hs
  have hTs : s.TypeIs (.ref sl) "slice" := ⟨os, hos, hcs⟩
  unfold getItem
  try with_reducible refine wpAny_holding ?_
  first | refine wpAny_bind (wpAny_pure ?_) | skip
  refine wpAny_bind (wpAny_sequenceKey ht.typeIs (by decide) ?_)
  refine wpAny_bind (wpAny_callSpecial?_slot (name := Str.ofString "__getitem__") ht.typeIs PyProof.Rows.slot_tuple_getitem
    (wpAny_call_entry PyProof.Rows.slot_tuple_getitem ht.typeIs entry_tuple_getitem ?_ (args_tuple_getitem _ _)))
  show wpAny _ _ (Builtin.Tuple.tupleItemsOf (.ref t) >>= _) _ _ s
  refine wpAny_bind (tupleItemsOf_ ht ?_)
  refine wpAny_bind (wpAny_typeOf hTs ?_)
  rw [if_pos (by decide)]
  refine wpAny_bind (sliceApplied_rev hs ?_)
  have hno : ¬ ((((items.size : Int) - 1) == 0 && (-1 : Int) == 1 && items.size == items.size) = true) := by
    intro q
    rw [Bool.and_eq_true, Bool.and_eq_true] at q
    exact absurd q.1.2 (by decide)
  show wpAny _ _ (if ((((items.size : Int) - 1) == 0 && (-1 : Int) == 1 && items.size == items.size) = true) then _ else _) _ _ s
  rw [if_neg hno, pick_rev]
  first
    | exact wpAny_bind (m := Builtin.Tuple.tupleExact _) (wpAny_newObj_type (wpAny_pure ⟨_, rfl, wpAny_pure h⟩) htake)
    | exact wpAny_bind (m := Builtin.Tuple.tupleExact _) (wpAny_newObj_type (wpAny_bind (wpAny_pure (wpAny_pure ⟨_, rfl, wpAny_pure h⟩))) htake)
    | exact wpAny_bind (wpAny_bind (m := Builtin.Tuple.tupleExact _) (wpAny_newObj_type (wpAny_pure (wpAny_pure ⟨_, rfl, wpAny_pure h⟩)) htake))
    | exact wpAny_bind (wpAny_bind (m := Builtin.Tuple.tupleExact _) (wpAny_newObj_type (wpAny_pure ⟨_, rfl, wpAny_pure h⟩) htake))
end
section
variable {X : Cx} {e st : Expr} {te ts : TE} {pos p2 : Pos}
def tRevT (K : PySem.W.Frag) (te ts : TE) : TE := fun σ H Q => te σ H fun x H1 => ts σ H1 fun y H2 => ∃ a xs, x = .ref a ∧ y = .int (-1) ∧ SqT K H2 a xs ∧ ∀ p, H2 p = none → Q (.ref p) (upd H2 p (.tup xs.reverse))
/-- t[::-1] -/
theorem pe_revT (he : PE X e te) (hs : PE X st ts) : PE X (.Subscript e (.Slice none none (some st) p2) pos) (tRevT X.K te ts) := by
  refine ⟨fun pins s σ H Q I h => ?_⟩
  refine Subscript_ (thn (he.run pins s σ H _ I h) fun v s1 ⟨x, H1, I1, r1, q1⟩ => ?_)
  refine wpAny_Slice ?_
  rw [evalPart_none]
  refine wpAny_pure ?_
  refine wpAny_pure ?_
  rw [evalPart_some]
  refine thn (hs.run pins s1 σ H1 _ I1 q1) fun u s3 ⟨y, H3, I3, r3, q3⟩ => ?_
  obtain ⟨a, xs, rfl, rfl, hx, q⟩ := q3
  obtain ⟨tk, rfl⟩ := r3
  cases r1
  have I4 : Inv X pins σ H3 { s3 with heap := s3.heap.push { cls := .type "slice", data := .fields #[.none, .none, .int (-1) tk] } } := I3.kept (t' := s3.toks) fun b ob q => Heap.get?_push_of_some _ q
  obtain ⟨its, r, ht, hz⟩ := I4.tuple hx
  have hlen : its.toArray.size = xs.length := by rw [List.size_toArray]; exact r.length.symm
  show wpAny (model X.prog X.w) X.A (subscriptTail e (.Slice none none (some st) p2) (.ref a) (.ref s3.heap.objs.size)) (EP X pins σ Q) X.xe { s3 with heap := s3.heap.push { cls := .type "slice", data := .fields #[.none, .none, .int (-1) tk] } }
  refine tail_any (ops := [.ref a, .ref s3.heap.objs.size]) ht.typeIs PyProof.Rows.slot_tuple_getitem.lookup ?_ (by with_unfolding_all rfl)
  refine getItem_tuple_rev ht (Heap.IsSliceOf.new ..) ?_ (by rw [hlen]; exact hz)
  refine ⟨.ref (s3.heap.push { cls := .type "slice", data := .fields #[.none, .none, .int (-1) tk] }).objs.size, _, I4.laid (t' := s3.toks) (o := .tup xs.reverse) (fun b ob q => Heap.get?_push_of_some _ q) (Nat.le_refl _) ?_, rfl, q _ (I4.hok.fresh (Nat.le_refl _))⟩
  exact ⟨by rw [List.length_reverse]; exact hz, _, r.reverse, IsTup.new _ _⟩
end
end XT
/-! data that avoid the stream -/
namespace XT
open PySem PySem.Spec PyProof.Rows L2
mutual
inductive Dv (K : PySem.W.Frag) (N : Addr → Prop) (H : Hp) : V → PyData → Prop
  | non : Dv K N H .non .none
  | bl (b : Bool) : Dv K N H (.bl b) (.bool b)
  | int (i : Int) : Dv K N H (.int i) (.int i)
  | str (x : Str) : Dv K N H (.str x) (.str x)
  | lst {a : Addr} {xs : List V} {ds : List PyData} : SqL K H a xs → a ≠ sysModules → N a → DvAll K N H xs ds → Dv K N H (.ref a) (.list ds)
  | tup {a : Addr} {xs : List V} {ds : List PyData} : SqT K H a xs → DvAll K N H xs ds → Dv K N H (.ref a) (.tuple ds)
  | dct {a : Addr} (kvs : List (Str × Int)) : H a = some (.dK (dkV kvs)) → Dv K N H (.ref a) (dkD kvs)
inductive DvAll (K : PySem.W.Frag) (N : Addr → Prop) (H : Hp) : List V → List PyData → Prop
  | nil : DvAll K N H [] []
  | cons {v : V} {vs : List V} {d : PyData} {ds : List PyData} : Dv K N H v d → DvAll K N H vs ds → DvAll K N H (v :: vs) (d :: ds)
end
/-- not of the stream -/
abbrev Nof (S : Sm) : Addr → Prop := fun a => a ≠ S.s ∧ a ≠ S.p
abbrev Ds (K : PySem.W.Frag) (S : Sm) (H : Hp) : V → PyData → Prop := Dv K (Nof S) H
abbrev DsAll (K : PySem.W.Frag) (S : Sm) (H : Hp) : List V → List PyData → Prop := DvAll K (Nof S) H
mutual
theorem Dv.dz {K : PySem.W.Frag} {N : Addr → Prop} {H : Hp} : ∀ {v : V} {d : PyData}, Dv K N H v d → Dz K H v d
  | _, _, .non => .non
  | _, _, .bl b => .bl b
  | _, _, .int i => .int i
  | _, _, .str x => .str x
  | _, _, .lst h n _ a => .lst h n (DvAll.dz a)
  | _, _, .tup h a => .tup h (DvAll.dz a)
  | _, _, .dct kvs h => .dct kvs h
theorem DvAll.dz {K : PySem.W.Frag} {N : Addr → Prop} {H : Hp} : ∀ {vs : List V} {ds : List PyData}, DvAll K N H vs ds → DzAll K H vs ds
  | _, _, .nil => .nil
  | _, _, .cons h a => .cons (Dv.dz h) (DvAll.dz a)
end
mutual
/-- all that the data stand on is kept -/
theorem Dv.map {K : PySem.W.Frag} {N N' : Addr → Prop} {H H' : Hp} (kt : ∀ b xs, SqT K H b xs → SqT K H' b xs) (kl : ∀ b xs, N b → SqL K H b xs → SqL K H' b xs) (kd : ∀ b kvs, H b = some (.dK kvs) → H' b = some (.dK kvs)) (kn : ∀ b, N b → N' b) :
    ∀ {v : V} {d : PyData}, Dv K N H v d → Dv K N' H' v d
  | _, _, .non => .non
  | _, _, .bl b => .bl b
  | _, _, .int i => .int i
  | _, _, .str x => .str x
  | _, _, .lst h n m a => .lst (kl _ _ m h) n (kn _ m) (DvAll.map kt kl kd kn a)
  | _, _, .tup h a => .tup (kt _ _ h) (DvAll.map kt kl kd kn a)
  | _, _, .dct kvs h => .dct kvs (kd _ _ h)
theorem DvAll.map {K : PySem.W.Frag} {N N' : Addr → Prop} {H H' : Hp} (kt : ∀ b xs, SqT K H b xs → SqT K H' b xs) (kl : ∀ b xs, N b → SqL K H b xs → SqL K H' b xs) (kd : ∀ b kvs, H b = some (.dK kvs) → H' b = some (.dK kvs)) (kn : ∀ b, N b → N' b) :
    ∀ {vs : List V} {ds : List PyData}, DvAll K N H vs ds → DvAll K N' H' vs ds
  | _, _, .nil => .nil
  | _, _, .cons h a => .cons (Dv.map kt kl kd kn h) (DvAll.map kt kl kd kn a)
end
theorem Dv.same {K : PySem.W.Frag} {N : Addr → Prop} {H H' : Hp} (e : Same H H') {v : V} {d : PyData} (h : Dv K N H v d) : Dv K N H' v d := h.map (fun _ _ q => Same.sqT e q) (fun _ _ _ q => e.seq q) (fun _ _ q => e _ _ q) (fun _ q => q)
theorem DvAll.same {K : PySem.W.Frag} {N : Addr → Prop} {H H' : Hp} (e : Same H H') {v : List V} {d : List PyData} (h : DvAll K N H v d) : DvAll K N H' v d := h.map (fun _ _ q => Same.sqT e q) (fun _ _ _ q => e.seq q) (fun _ _ q => e _ _ q) (fun _ q => q)
theorem Dv.imp {K : PySem.W.Frag} {N N' : Addr → Prop} {H : Hp} {v : V} {d : PyData} (h : Dv K N H v d) (k : ∀ b, N b → N' b) : Dv K N' H v d := h.map (fun _ _ q => q) (fun _ _ _ q => q) (fun _ _ q => q) k
theorem DvAll.imp {K : PySem.W.Frag} {N N' : Addr → Prop} {H : Hp} {v : List V} {d : List PyData} (h : DvAll K N H v d) (k : ∀ b, N b → N' b) : DvAll K N' H v d := h.map (fun _ _ q => q) (fun _ _ _ q => q) (fun _ _ q => q) k
theorem Strm.ks {S : Sm} {H : Hp} {t : Int} {b : Addr} {o : HO} (h : Strm S H t) (e : H b = some o) (ne : ∀ xs, o ≠ .lst xs) : b ≠ S.s ∧ b ≠ S.p := by
  obtain ⟨_, h⟩ := h
  refine ⟨fun z => ?_, fun z => ?_⟩
  · rw [z, h.hs] at e
    exact ne _ (Option.some.inj e).symm
  · rw [z, h.hp] at e
    exact ne _ (Option.some.inj e).symm
theorem Keep.ko {S : Sm} {H H' : Hp} {t : Int} {b : Addr} {o : HO} (k : Keep S H H') (h : Strm S H t) (e : H b = some o) (ne : ∀ xs, o ≠ .lst xs) : H' b = some o := k b o (h.ks e ne).1 (h.ks e ne).2 e
theorem Keep.sqT {K : PySem.W.Frag} {S : Sm} {H H' : Hp} {t : Int} {b : Addr} {xs : List V} (k : Keep S H H') (h : Strm S H t) (e : SqT K H b xs) : SqT K H' b xs := by
  rcases e with (e | ⟨o, e⟩) | e
  · exact .inl (.inl (k.ko h e (fun _ z => nomatch z)))
  · exact .inl (.inr ⟨o, k.ko h e (fun _ z => nomatch z)⟩)
  · exact .inr e
theorem Keep.sqL {K : PySem.W.Frag} {S : Sm} {H H' : Hp} {b : Addr} {xs : List V} (k : Keep S H H') (n1 : b ≠ S.s) (n2 : b ≠ S.p) (e : SqL K H b xs) : SqL K H' b xs := by
  rcases e with (e | ⟨o, e⟩) | e
  · exact .inl (.inl (k b _ n1 n2 e))
  · exact .inl (.inr ⟨o, k b _ n1 n2 e⟩)
  · exact .inr e
theorem Dv.keep {K : PySem.W.Frag} {S : Sm} {H H' : Hp} {t : Int} {v : V} {d : PyData} (h : Ds K S H v d) (k : Keep S H H') (st : Strm S H t) : Ds K S H' v d := h.map (fun _ _ q => k.sqT st q) (fun _ _ n q => k.sqL n.1 n.2 q) (fun _ _ q => k.ko st q (fun _ z => nomatch z)) (fun _ q => q)
theorem DvAll.keep {K : PySem.W.Frag} {S : Sm} {H H' : Hp} {t : Int} {v : List V} {d : List PyData} (h : DsAll K S H v d) (k : Keep S H H') (st : Strm S H t) : DsAll K S H' v d := h.map (fun _ _ q => k.sqT st q) (fun _ _ n q => k.sqL n.1 n.2 q) (fun _ _ q => k.ko st q (fun _ z => nomatch z)) (fun _ q => q)
/-- a list of one's own is changed -/
theorem Dv.put {K : PySem.W.Frag} {N : Addr → Prop} {H : Hp} {L : Addr} {xs ys : List V} {v : V} {d : PyData} (h : Dv K N H v d) (hL : H L = some (.lst xs)) (hN : ∀ b, N b → b ≠ L) : Dv K N (upd H L (.lst ys)) v d := by
  refine h.map (fun b zs q => ?_) (fun b zs n q => ?_) (fun b kvs q => ?_) (fun _ q => q)
  · rcases q with (q | ⟨o, q⟩) | q
    · exact .inl (.inl (by rw [upd_ne (ne_of q hL (by intro z; cases z))]; exact q))
    · exact .inl (.inr ⟨o, by rw [upd_ne (ne_of q hL (by intro z; cases z))]; exact q⟩)
    · exact .inr q
  · rcases q with (q | ⟨o, q⟩) | q
    · exact .inl (.inl (by rw [upd_ne (hN b n)]; exact q))
    · exact .inl (.inr ⟨o, by rw [upd_ne (hN b n)]; exact q⟩)
    · exact .inr q
  · rw [upd_ne (ne_of q hL (by intro z; cases z))]
    exact q
theorem DvAll.put {K : PySem.W.Frag} {N : Addr → Prop} {H : Hp} {L : Addr} {xs ys : List V} (hL : H L = some (.lst xs)) (hN : ∀ b, N b → b ≠ L) : ∀ {vs : List V} {ds : List PyData}, DvAll K N H vs ds → DvAll K N (upd H L (.lst ys)) vs ds
  | _, _, .nil => .nil
  | _, _, .cons h a => .cons (h.put hL hN) (DvAll.put hL hN a)
theorem DvAll.at {K : PySem.W.Frag} {N : Addr → Prop} {H : Hp} : ∀ {vs : List V} {ds : List PyData}, DvAll K N H vs ds → ∀ {i : Nat} {v : V}, vs[i]? = some v → ∃ d, ds[i]? = some d ∧ Dv K N H v d
  | _, _, .nil, i, v, h => by simp at h
  | _, _, .cons (d := d) h a, 0, v, e => by
    cases e
    exact ⟨d, rfl, h⟩
  | _, _, .cons h a, i + 1, v, e => DvAll.at a (i := i) e
theorem DvAll.len {K : PySem.W.Frag} {N : Addr → Prop} {H : Hp} : ∀ {vs : List V} {ds : List PyData}, DvAll K N H vs ds → vs.length = ds.length
  | _, _, .nil => rfl
  | _, _, .cons h a => by rw [List.length_cons, List.length_cons, DvAll.len a]
theorem DvAll.app {K : PySem.W.Frag} {N : Addr → Prop} {H : Hp} : ∀ {vs us : List V} {ds es : List PyData}, DvAll K N H vs ds → DvAll K N H us es → DvAll K N H (vs ++ us) (ds ++ es)
  | _, _, _, _, .nil, b => b
  | _, _, _, _, .cons h a, b => .cons h (DvAll.app a b)
theorem DvAll.take {K : PySem.W.Frag} {N : Addr → Prop} {H : Hp} : ∀ {vs : List V} {ds : List PyData} (n : Nat), DvAll K N H vs ds → DvAll K N H (vs.take n) (ds.take n)
  | _, _, 0, _ => by rw [List.take_zero, List.take_zero]; exact .nil
  | _, _, n + 1, .nil => .nil
  | _, _, n + 1, .cons h a => .cons h (DvAll.take n a)
theorem DvAll.drop {K : PySem.W.Frag} {N : Addr → Prop} {H : Hp} : ∀ {vs : List V} {ds : List PyData} (n : Nat), DvAll K N H vs ds → DvAll K N H (vs.drop n) (ds.drop n)
  | _, _, 0, a => a
  | _, _, n + 1, .nil => .nil
  | _, _, n + 1, .cons h a => DvAll.drop n a
theorem DvAll.rev {K : PySem.W.Frag} {N : Addr → Prop} {H : Hp} : ∀ {vs : List V} {ds : List PyData}, DvAll K N H vs ds → DvAll K N H vs.reverse ds.reverse
  | _, _, .nil => .nil
  | _, _, .cons h a => by
    rw [List.reverse_cons, List.reverse_cons]
    exact (DvAll.rev a).app (.cons h .nil)
/-- the data of a cut -/
def cutD (ds : List PyData) (lo hi : Option Int) : List PyData := (ds.drop (HT.sIx ds.length 0 lo)).take (HT.sIx ds.length ds.length hi - HT.sIx ds.length 0 lo)
theorem DvAll.cut {K : PySem.W.Frag} {N : Addr → Prop} {H : Hp} {vs : List V} {ds : List PyData} (h : DvAll K N H vs ds) (lo hi : Option Int) : DvAll K N H (cutV vs lo hi) (cutD ds lo hi) := by
  unfold cutV cutD
  rw [h.len]
  exact (h.drop _).take _
end XT
/-! kinds of data for lots -/
namespace XT
open PySem PySem.Spec PyProof.Rows L2
def isTp : PyData → Bool
  | .tuple _ => true | _ => false
def isSt : PyData → Bool
  | .str _ => true | _ => false
theorem kitT {K : PySem.W.Frag} : ∀ d : PyData, PySem.W.kitOne K (.type (tyD d)) (.type "tuple") = some (isTp d)
  | .none => kit_ty (a := "NoneType") (b := "tuple") (r := false) (by decide +kernel)
  | .bool _ => kit_ty (a := "bool") (b := "tuple") (r := false) (by decide +kernel)
  | .int _ => kit_ty (a := "int") (b := "tuple") (r := false) (by decide +kernel)
  | .str _ => kit_ty (a := "str") (b := "tuple") (r := false) (by decide +kernel)
  | .list _ => kit_ty (a := "list") (b := "tuple") (r := false) (by decide +kernel)
  | .tuple _ => kit_ty (a := "tuple") (b := "tuple") (r := true) (by decide +kernel)
  | .dict _ => kit_ty (a := "dict") (b := "tuple") (r := false) (by decide +kernel)
theorem kitS {K : PySem.W.Frag} : ∀ d : PyData, PySem.W.kitOne K (.type (tyD d)) (.type "str") = some (isSt d)
  | .none => kit_ty (a := "NoneType") (b := "str") (r := false) (by decide +kernel)
  | .bool _ => kit_ty (a := "bool") (b := "str") (r := false) (by decide +kernel)
  | .int _ => kit_ty (a := "int") (b := "str") (r := false) (by decide +kernel)
  | .str _ => kit_ty (a := "str") (b := "str") (r := true) (by decide +kernel)
  | .list _ => kit_ty (a := "list") (b := "str") (r := false) (by decide +kernel)
  | .tuple _ => kit_ty (a := "tuple") (b := "str") (r := false) (by decide +kernel)
  | .dict _ => kit_ty (a := "dict") (b := "str") (r := false) (by decide +kernel)
def isW : PyData → Bool
  | .int i => decide (1 ≤ i) && decide (i ≤ 6)
  | _ => false
def iv : PyData → Int
  | .int i => i
  | _ => 0
def okM (n : Nat) (least : Int) (d : PyData) : Bool := isM n d && decide (least ≤ iv d)
def errM (n : Nat) : Nat → Int → List PyData → PyData
  | _, _, [] => .none
  | i, least, d :: ds => if okM n least d = true then errM n (i + 1) (iv d + 1) ds else .tuple [.int (i : Nat), .str "mask"]
def eT (x : Str) : PyData := .tuple [.none, .str x]
def mskErr (n : Nat) : PyData → PyData
  | .tuple ms => errM n 0 0 ms
  | _ => eT "masks"
def lotErr : PyData → PyData
  | .tuple [a, b] => if isW a = true then mskErr (iv a).toNat b else eT "width"
  | _ => eT "lot"
theorem isW_nat {d : PyData} (h : isW d = true) : ∃ n : Nat, d = .int (n : Int) ∧ 1 ≤ n ∧ n ≤ 6 := by
  cases d with
  | int i =>
    have h : (decide (1 ≤ i) && decide (i ≤ 6)) = true := h
    rw [Bool.and_eq_true, decide_eq_true_iff, decide_eq_true_iff] at h
    obtain ⟨n, rfl⟩ := Int.eq_ofNat_of_zero_le (show 0 ≤ i by omega)
    exact ⟨n, rfl, by omega, by omega⟩
  | _ => exact absurd h (by simp [isW])
theorem isM_int {n : Nat} {d : PyData} (h : isM n d = true) : ∃ a : Nat, d = .int (a : Int) ∧ a < 2 ^ n := by
  cases d with
  | int i =>
    have h : (decide (0 ≤ i) && decide (i < ((2 ^ n : Nat) : Int))) = true := h
    rw [Bool.and_eq_true, decide_eq_true_iff, decide_eq_true_iff] at h
    obtain ⟨a, rfl⟩ := Int.eq_ofNat_of_zero_le h.1
    exact ⟨a, rfl, by omega⟩
  | _ => exact absurd h (by simp [isM])
theorem Dz.cast {K : PySem.W.Frag} {H : Hp} {v : V} {d e : PyData} (h : Dz K H v d) (q : d = e) : Dz K H v e := q ▸ h
theorem dz2 {K : PySem.W.Frag} {H : Hp} {p : Addr} {a b : V} {d e : PyData} (h : H p = some (.tup [a, b])) (x : Dz K H a d) (y : Dz K H b e) : Dz K H (.ref p) (.tuple [d, e]) := .tup (SqT.of h) (.cons x (.cons y .nil))
end XT
/-! cuts and sums of tuples -/
namespace XT
open PySem PySem.Spec PyProof.Rows L2
section
variable {X : Cx}
theorem cutV_whole {xs : List V} {lo hi : Option Int} (h : HT.sIx xs.length 0 lo = 0 ∧ HT.sIx xs.length xs.length hi = xs.length) : cutV xs lo hi = xs := by
  unfold cutV
  rw [h.1, h.2, List.drop_zero, Nat.sub_zero, List.take_length]
/-- a cut of a tuple, the same one or a new one -/
def rSlU (K : PySem.W.Frag) : V → Option Int → Option Int → Hp → VK → Prop := fun x lo hi H Q => ∃ a xs, x = .ref a ∧ SqT K H a xs ∧ ∀ H' p, Same H H' → SqT K H' p (cutV xs lo hi) → Q (.ref p) H'
theorem sl_tupU : SlR X (rSlU X.K) := by
  intro pins s σ H x v vl vu lo hi sl Q I rx hs pl pu h
  obtain ⟨a, xs, rfl, hx, q⟩ := h
  refine sl_tupA pins s σ H _ v vl vu lo hi sl Q I rx hs pl pu ⟨a, xs, rfl, hx, fun hw => q H a (Same.refl H) (by rw [cutV_whole hw]; exact hx), fun _ p np => q _ p (same_new np) (SqT.of upd_same)⟩
/-- t + u -/
def rCatU (K : PySem.W.Frag) : R2 := fun x y H Q => ∃ a b xs ys, x = .ref a ∧ y = .ref b ∧ SqT K H a xs ∧ SqT K H b ys ∧ xs.length + ys.length ≤ sizeLine ∧ ∀ H' p, Same H H' → SqT K H' p (xs ++ ys) → Q (.ref p) H'
theorem op_catU : OpR X (binaryOp .Add) (rCatU X.K) := by
  intro pins s σ H x y v u Q I rx ry h
  obtain ⟨a, b, xs, ys, rfl, rfl, ha, hb, hz, q⟩ := h
  refine op_catA pins s σ H _ _ v u Q I rx ry ⟨a, b, xs, ys, rfl, rfl, ha, hb, hz, fun e => q H b (Same.refl H) (by rw [e]; exact hb), fun _ e => q H a (Same.refl H) (by rw [e, List.append_nil]; exact ha), fun _ _ p np => q _ p (same_new np) (SqT.of upd_same)⟩
end
end XT
/-! cuts, sums, sizes -/
namespace XT
open PySem PySem.Spec PyProof.Rows L2
section
variable {X : Cx}
end
theorem gd_non {M : Nat} : Gd M 10 0 .none := ⟨trivial, Nat.le_refl _, Nat.le_refl _⟩
theorem gd_bl {M : Nat} (b : Bool) : Gd M 10 0 (.bool b) := ⟨trivial, Nat.le_refl _, Nat.le_refl _⟩
theorem gd_int {M : Nat} {i : Int} (h : i.natAbs ≤ M) : Gd M 60 0 (.int i) := ⟨h, Nat.le_refl _, Nat.le_refl _⟩
theorem gd_str {M n : Nat} {x : Str} (h : TxOk x) (l : x.length ≤ n) : Gd M (10 * n + 2) 0 (.str x) := ⟨h, by show 10 * x.length + 2 ≤ _; omega, Nat.le_refl _⟩
theorem gd_odd : ∀ d ∈ oddD, Gd (10 ^ 39) 200 3 d := by
  unfold oddD
  have hs : ∀ (s : String), (Str.ofString s).length ≤ 3 → Gd (10 ^ 39) 200 3 (.str (Str.ofString s)) := fun s h => (gd_str (TxOk.of s) h).mono (Nat.le_refl _) (by omega) (by omega)
  have hi : ∀ i : Int, i.natAbs ≤ 10 ^ 39 → Gd (10 ^ 39) 60 0 (.int i) := fun i h => gd_int h
  have hi3 : ∀ i : Int, i.natAbs ≤ 10 ^ 39 → Gd (10 ^ 39) 200 3 (.int i) := fun i h => (gd_int h).mono (Nat.le_refl _) (by omega) (by omega)
  repeat' (first | exact List.forall_mem_nil _ | refine List.forall_mem_cons.mpr ⟨?_, ?_⟩)
  · exact gd_non.mono (Nat.le_refl _) (by omega) (by omega)
  · exact (gd_bl _).mono (Nat.le_refl _) (by omega) (by omega)
  · exact (gd_bl _).mono (Nat.le_refl _) (by omega) (by omega)
  all_goals first
    | exact hi3 _ (by decide)
    | exact hs "" (by decide)
    | exact hs "0" (by decide)
    | exact hs "lot" (by decide)
    | exact hs "01" (by decide)
    | exact (GdAll.nil (k := 0)).tuple.mono (Nat.le_refl _) (by omega) (by omega)
    | exact (GdAll.nil (k := 0)).list.mono (Nat.le_refl _) (by omega) (by omega)
    | exact (GdAll.cons (hi 0 (by decide)) GdAll.nil).tuple.mono (Nat.le_refl _) (by omega) (by omega)
    | exact (GdAll.cons (hi 0 (by decide)) GdAll.nil).list.mono (Nat.le_refl _) (by omega) (by omega)
    | exact (GdAll.cons (gd_bl true) GdAll.nil).tuple.mono (Nat.le_refl _) (by omega) (by omega)
    | exact (GdAll.cons (hi 0 (by decide)) (GdAll.cons (hi 1 (by decide)) GdAll.nil)).tuple.mono (Nat.le_refl _) (by omega) (by omega)
    | exact (GdAll.cons ((hi 2 (by decide)).mono (Nat.le_refl _) (Nat.le_refl _) (Nat.zero_le 1)) (GdAll.cons (GdAll.cons (hi 0 (by decide)) GdAll.nil).tuple GdAll.nil)).tuple.mono (Nat.le_refl _) (by omega) (by omega)
    | exact ⟨⟨by decide +kernel, by decide +kernel⟩, by decide, by decide⟩
theorem cutD_gd {M n k : Nat} {ds : List PyData} (h : GdAll M n k ds) (lo hi : Option Int) : GdAll M n k (cutD ds lo hi) := (h.drop _).take _
theorem cutD_take {ds : List PyData} {i : Nat} (h : i ≤ ds.length) : cutD ds none (some (i : Int)) = ds.take i := by
  unfold cutD
  rw [HT.sIx_none, HT.sIx_nat, List.drop_zero, Nat.sub_zero, Nat.min_eq_left h]
theorem cutD_drop {ds : List PyData} {i : Nat} (h : i ≤ ds.length) : cutD ds (some (i : Int)) none = ds.drop i := by
  unfold cutD
  rw [HT.sIx_none, HT.sIx_nat, Nat.min_eq_left h]
  exact List.take_of_length_le (by rw [List.length_drop]; exact Nat.le_refl _)
theorem cutV_len {xs : List V} {lo hi : Option Int} : (cutV xs lo hi).length ≤ xs.length := cutV_length xs lo hi
theorem szl {n m : Nat} (h : n ≤ m) (hm : m ≤ 10000000) : n ≤ sizeLine := by rw [sizeLine_eq]; omega
end XT
/-! int(a bool); a tuple once -/
namespace XT
open PySem PySem.Spec PyProof.Rows L2
section
variable {X : Cx}
theorem call_intB : CallR X (.type "int") (fun xs H Q => ∃ b, xs = [.bl b] ∧ Q (.int (if b = true then 1 else 0)) H) := by
  intro pins s σ H xs us Q I rs h
  obtain ⟨b, rfl, h⟩ := h
  cases rs with
  | cons r1 rs =>
    cases rs
    cases r1
    exact PySem.call_int_bool ⟨.int (if b = true then 1 else 0), H, I.tok _, ⟨_, rfl⟩, h⟩
theorem tuple_mul1 (l : Addr) (items : Array Value) (n : Nat) (dd : Option Addr) (sl : Array (Option Value)) (u : Tok) :
    Meets (Builtin.«tuple.__mul__» ⟨[.ref l, .int 1 u], []⟩) (fun _ R s => s.heap.get? l = some { cls := .type "tuple", dict := dd, data := .seq items n, slots := sl } ∧ R (.ok (.ret (Value.ref l))) s) :=
  .of_wp fun prog w A R s h => by
    obtain ⟨hp, g, d, tk, os⟩ := s
    obtain ⟨hl, h⟩ := h
    have f1 := AutoSeq1.idx_int
    wp_walk using wpAny_loadPart' hl
    exact ⟨_, rfl, h⟩
theorem op_rep1 : OpR X (binaryOp .Mult) (fun x y H Q => ∃ l xs, x = .ref l ∧ y = .int 1 ∧ SqT X.K H l xs ∧ Q (.ref l) H) := by
  intro pins s σ H x y v u Q I rx ry h
  obtain ⟨l, xs, rfl, rfl, hT, q⟩ := h
  cases rx
  obtain ⟨t, rfl⟩ := ry
  obtain ⟨its, r, ⟨⟨cls, dd, data, sl⟩, ho, hc, n, hd⟩, hs⟩ := I.tuple hT
  simp only at hc hd
  subst hc hd
  exact wpAny_binaryOp_repeat_ref (T := "tuple") (U := "int") (by decide) ⟨_, ho, rfl⟩ (fun s' => typeIs_int s' 1 t) noFill_tuple_mul F.fills_int_mul F.slot_int_rmul repeat_tuple F.slot_int_index.lookup
    (call_meets F.slot_int_rmul (typeIs_int s 1 t) F.entry_int_rmul (F.args_int_rmul_2 _ _) (int_rmul_tuple 1 t l its.toArray n dd sl)
      ⟨ho, rfl, ⟨_, ho, rfl⟩, call_meets F.slot_tuple_mul ⟨_, ho, rfl⟩ F.entry_tuple_mul (F.args_tuple_mul_2 _ _) (tuple_mul1 l its.toArray n dd sl t) ⟨ho, ⟨.ref l, H, I, rfl, q⟩⟩⟩)
/-- xs == [], xs != [], a list of any things -/
def rEqEL (K : PySem.W.Frag) : R2 := fun x y H Q => ∃ (a b : Addr) (xs : List V), x = .ref a ∧ y = .ref b ∧ SqL K H a xs ∧ SqL K H b [] ∧ Q (.bl xs.isEmpty) H
def rNeEL (K : PySem.W.Frag) : R2 := fun x y H Q => ∃ (a b : Addr) (xs : List V), x = .ref a ∧ y = .ref b ∧ SqL K H a xs ∧ SqL K H b [] ∧ Q (.bl (!xs.isEmpty)) H
theorem op_eqEL (hu : X.A.units < cLine) : OpR X (compareOp .Eq) (rEqEL X.K) := by
  intro pins s σ H x y v u Q I rx ry h
  obtain ⟨a, b, xs, rfl, rfl, ha, hb, q⟩ := h
  cases rx
  cases ry
  obtain ⟨its, r1, p1, _⟩ := I.list ha
  obtain ⟨its2, r2, p2, _⟩ := I.list hb
  cases r2
  cases r1 with
  | nil => exact SeqAt.RcAt.lists (e := fun _ => true) p1.isList p2.isList rfl hu (fun j h1 h2 => absurd h2 (Nat.not_lt_zero _)) X.prog X.w _ _ ⟨.bl true, H, I, rfl, q⟩
  | cons _ _ => exact SeqAt.RcAt.lists_lengths p1.isList p2.isList (by simp) hu X.prog X.w _ _ ⟨.bl false, H, I, rfl, q⟩
theorem op_neEL (hu : X.A.units < cLine) : OpR X (compareOp .NotEq) (rNeEL X.K) := by
  intro pins s σ H x y v u Q I rx ry h
  obtain ⟨a, b, xs, rfl, rfl, ha, hb, q⟩ := h
  cases rx
  cases ry
  obtain ⟨its, r1, p1, _⟩ := I.list ha
  obtain ⟨its2, r2, p2, _⟩ := I.list hb
  cases r2
  cases r1 with
  | nil => exact SeqAt.RcNeAt.lists (e := fun _ => true) p1.isList p2.isList rfl hu (fun j h1 h2 => absurd h2 (Nat.not_lt_zero _)) X.prog X.w _ _ ⟨.bl false, H, I, rfl, q⟩
  | cons _ _ => exact SeqAt.RcNeAt.lists_lengths p1.isList p2.isList (by simp) hu X.prog X.w _ _ ⟨.bl true, H, I, rfl, q⟩
end
end XT
/-! expressions whose value is known as data -/
namespace XT
open PySem PySem.Spec PyProof.Rows L2
abbrev isD (K : PySem.W.Frag) (d : PyData) : RV := fun H z => Dz K H z d
theorem sty_d (K : PySem.W.Frag) (d : PyData) : Sty (isD K d) := fun _ _ _ e h => h.same e
section
variable {K : PySem.W.Frag} {R : RV} {t te : TE} {ta : TA} {σ : L2.St} {H : Hp} {d : PyData} {ds : List PyData}
theorem ev_varD {i : Nat} {v : V} (e : σ[i]? = some (some v)) (h : Dz K H v d) : Ev (isD K d) (tVar i) σ H := ev_var (sty_d K d) e h
theorem ev_i {k : Int} (h : Ev (isV (.int k)) t σ H) : Ev (isD K (.int k)) t σ H := h.mono fun H z e => by subst e; exact .int k
theorem ev_b {b : Bool} (h : Ev (isB b) t σ H) : Ev (isD K (.bool b)) t σ H := h.mono fun H z e => by subst e; exact .bl b
theorem ev_s {x : Str} (h : Ev (isV (.str x)) t σ H) : Ev (isD K (.str x)) t σ H := h.mono fun H z e => by subst e; exact .str x
theorem ev_n (h : Ev (isV .non) t σ H) : Ev (isD K .none) t σ H := h.mono fun H z e => by subst e; exact .non
theorem dz_vm {H : Hp} : ∀ ms : List Nat, DzAll K H (vm ms) (ms.map fun (m : Nat) => .int (m : Int))
  | [] => .nil
  | m :: ms => .cons (.int m) (dz_vm ms)
theorem lot_dz {H : Hp} {v : V} {n : Nat} {p : Nat → Bool} (h : LotAt H v n p) : Dz K H v (dLot n p) := by
  obtain ⟨a, b, rfl, h1, h2⟩ := h
  exact .tup (SqT.of h1) (.cons (.int _) (.cons (.tup (SqT.of h2) (dz_vm _)) .nil))
theorem ev_lotD {n : Nat} {p : Nat → Bool} (h : Ev (isLot n p) t σ H) : Ev (isD K (dLot n p)) t σ H := h.mono fun H z g => lot_dz g
def dTup (ms : List Nat) : PyData := .tuple (ms.map fun (m : Nat) => .int (m : Int))
theorem tup_dz {H : Hp} {v : V} {ms : List Nat} (h : TupAt H v ms) : Dz K H v (dTup ms) := by
  obtain ⟨q, rfl, h⟩ := h
  exact .tup (SqT.of h) (dz_vm _)
theorem ev_tupD {ms : List Nat} (h : Ev (isTup ms) t σ H) : Ev (isD K (dTup ms)) t σ H := h.mono fun H z g => tup_dz g
theorem allV_dz : ∀ {ds : List PyData} {H : Hp} {vs : List V}, AllV (ds.map (isD K)) H vs → DzAll K H vs ds
  | [], _, [], _ => .nil
  | d :: ds, _, v :: vs, h => .cons h.1 (allV_dz h.2)
theorem styA_d : StyA (ds.map (isD K)) := styA_map (fun d => sty_d K d) ds
theorem eva_consD (a : Ev (isD K d) te σ H) (b : EvA (ds.map (isD K)) ta σ H) : EvA ((d :: ds).map (isD K)) (tCons te ta) σ H := eva_cons (sty_d K d) a b
theorem ev_lstD (hl : ds.length ≤ 1000) (a : EvA (ds.map (isD K)) ta σ H) : Ev (isD K (.list ds)) (tLstB ta) σ H := fun H1 s1 Q q =>
  a H1 s1 _ fun H2 vs s2 gv => by
    have g := allV_dz gv
    have hz := g.len
    exact ⟨sz (by omega), fun L nL bL => q _ _ (s2.trans (same_new nL)) (.lst (SqL.of upd_same) bL (g.same (same_new nL)))⟩
theorem ev_tuD (hl : ds.length ≤ 1000) (a : EvA (ds.map (isD K)) ta σ H) : Ev (isD K (.tuple ds)) (tTup ta) σ H := fun H1 s1 Q q =>
  a H1 s1 _ fun H2 vs s2 gv => by
    have g := allV_dz gv
    have hz := g.len
    exact ⟨sz (by omega), fun L nL => q _ _ (s2.trans (same_new nL)) (.tup (SqT.of upd_same) (g.same (same_new nL)))⟩
/-- what repr can tell -/
structure ShD (d : PyData) : Prop where
  dp : d.depth ≤ 64
  sh : d.showable = true
  ln : d.shown.length ≤ sizeLine
theorem Gd.shD {M n k : Nat} {d : PyData} (h : Gd M n k d) (hM : M < 10 ^ 40) (hn : n ≤ 10000000) (hk : k ≤ 64) : ShD d := by
  have s := shown_le hM d h.f
  have z := h.z
  have p := h.p
  exact ⟨by omega, s.1, szl (m := n) (by omega) (by omega)⟩
theorem ev_reprD (s : ShD d) (a : Ev (isD K d) t σ H) : Ev (isV (.str d.shown)) (tCB (rReprA K) (tCons t tNil)) σ H := fun H1 s1 Q q =>
  a H1 s1 _ fun H2 x s2 gx => ⟨x, d, rfl, gx, s.dp, s.sh, s.ln, q _ _ s2 rfl⟩
theorem of_neS {x y : Str} : OpF (isV (.str x)) (isV (.str y)) rNe (isB (!decide (x = y))) := fun H u v ex ey Q q => by
  subst ex ey
  refine ⟨rfl, q _ _ (Same.refl _) (congrArg V.bl (congrArg (!·) ?_))⟩
  rw [Bool.eq_iff_iff, decide_eq_true_iff, decide_eq_true_iff]
  exact ⟨fun e => V.str.inj e, fun e => by rw [e]⟩
theorem of_eqS {x y : Str} : OpF (isV (.str x)) (isV (.str y)) rEq (isB (decide (x = y))) := fun H u v ex ey Q q => by
  subst ex ey
  refine ⟨rfl, q _ _ (Same.refl _) (congrArg V.bl ?_)⟩
  rw [Bool.eq_iff_iff, decide_eq_true_iff, decide_eq_true_iff]
  exact ⟨fun e => V.str.inj e, fun e => by rw [e]⟩
/-- repr(a) != repr(b), of the same data -/
theorem evt_reprs {t' : TE} {e : PyData} (s : ShD d) (he : d = e) (a : Ev (isD K d) t σ H) (b : Ev (isD K e) t' σ H) : EvT false (tTest (tOp rNe (tCB (rReprA K) (tCons t tNil)) (tCB (rReprA K) (tCons t' tNil)))) σ H := by
  subst he
  refine evt_test ((ev_op (sty_v _) (ev_reprD s a) (ev_reprD s b) of_neS).mono fun H z e => ?_)
  rw [e, decide_eq_true rfl]
  rfl
theorem evt_repr1 {i : Nat} {x : Str} (s : ShD d) (he : x = d.shown) (h : σ[i]? = some (some (.str x))) (a : Ev (isD K d) t σ H) : EvT false (tTest (tOp rNe (tCB (rReprA K) (tCons t tNil)) (tVar i))) σ H := by
  subst he
  refine evt_test ((ev_op (sty_v _) (ev_reprD s a) (ev_var (sty_v _) h rfl) of_neS).mono fun H z e => ?_)
  rw [e, decide_eq_true rfl]
  rfl
end
/-- data whose parts are small -/
theorem gd_lot {M n : Nat} (hM : 64 ≤ M) (hn : n ≤ 6) (p : Nat → Bool) : Gd M 5000 2 (dLot n p) := by
  have hl := lot_len hn p
  have h6 := pow6 hn
  have g : ∀ ms : List Nat, (∀ m ∈ ms, m ≤ M) → GdAll M (62 * ms.length) 0 (ms.map fun (m : Nat) => PyData.int (m : Int)) := fun ms => by
    induction ms with
    | nil => intro _; exact GdAll.nil
    | cons m ms ih => intro h; exact (GdAll.cons (gd_int (by have := h m List.mem_cons_self; omega)) (ih fun x hx => h x (List.mem_cons_of_mem _ hx))).mono (Nat.le_refl _) (by rw [List.length_cons]; omega) (Nat.le_refl _)
  have g1 := (g (lotOf n p) fun m hm => by have := (mem_lot.mp hm).1; omega).tuple
  have g2 := (GdAll.cons ((gd_int (M := M) (i := (n : Int)) (by omega)).mono (Nat.le_refl _) (Nat.le_refl _) (Nat.zero_le 1)) (GdAll.cons g1 GdAll.nil)).tuple
  exact g2.mono (Nat.le_refl _) (by omega) (Nat.le_refl _)
end XT
/-! d == a, where d is a number, a text, None, a truth value, a tuple, a list or a dict, and a is an instance of an own class with an __eq__ of its own -/
namespace XT
open PySem PySem.Spec PyProof.Rows L2
section
open PySem.SeqAt
open AutoSeq1 (wpAny_loadPart')
open MeetsSeq
/-- a's class is not below the builtin class T -/
def NoSub (C : Addr) (T : String) (s : Shared) : Prop := ∀ (M : Model) (A : Around) (E : Value → Shared → Prop) (Q : Bool → Shared → Prop), Q false s → wpAny M A (isSubtype (.ref C) (.type T)) Q E s
theorem list_eq_dec (l b C : Addr) (items : Array Value) (n : Nat) (dd dd2 : Option Addr) (sl sl2 : Array (Option Value)) :
    Meets (Builtin.«list.__eq__» ⟨[.ref l, .ref b], []⟩) (fun _ R s => s.heap.get? l = some { cls := .type "list", dict := dd, data := .seq items n, slots := sl } ∧ s.heap.get? b = some { cls := .ref C, dict := dd2, data := .plain, slots := sl2 } ∧ NoSub C "list" s ∧ R (.ok (.ret .notImplemented)) s) :=
  .of_wp fun prog w A R s h => by obtain ⟨hp, g, d, tk, os⟩ := s; obtain ⟨hl, hb, hs, h⟩ := h; wp_walk using wpAny_loadPart' hl, wpAny_loadPart' hb; refine hs _ _ _ _ ?_; wp_walk; exact ⟨_, rfl, h⟩
theorem tuple_eq_dec (l b C : Addr) (items : Array Value) (n : Nat) (dd dd2 : Option Addr) (sl sl2 : Array (Option Value)) :
    Meets (Builtin.«tuple.__eq__» ⟨[.ref l, .ref b], []⟩) (fun _ R s => s.heap.get? l = some { cls := .type "tuple", dict := dd, data := .seq items n, slots := sl } ∧ s.heap.get? b = some { cls := .ref C, dict := dd2, data := .plain, slots := sl2 } ∧ NoSub C "tuple" s ∧ R (.ok (.ret .notImplemented)) s) :=
  .of_wp fun prog w A R s h => by obtain ⟨hp, g, d, tk, os⟩ := s; obtain ⟨hl, hb, hs, h⟩ := h; wp_walk using wpAny_loadPart' hl, wpAny_loadPart' hb; refine hs _ _ _ _ ?_; wp_walk; exact ⟨_, rfl, h⟩
theorem dict_eq_dec (l b C : Addr) (es : Array DictEntry) (n : Nat) (dd dd2 : Option Addr) (sl sl2 : Array (Option Value)) :
    Meets (Builtin.«dict.__eq__» ⟨[.ref l, .ref b], []⟩) (fun _ R s => s.heap.get? l = some { cls := .type "dict", dict := dd, data := .dict es n, slots := sl } ∧ s.heap.get? b = some { cls := .ref C, dict := dd2, data := .plain, slots := sl2 } ∧ NoSub C "dict" s ∧ R (.ok (.ret .notImplemented)) s) :=
  .of_wp fun prog w A R s h => by obtain ⟨hp, g, d, tk, os⟩ := s; obtain ⟨hl, hb, hs, h⟩ := h; wp_walk using wpAny_loadPart' hl, wpAny_loadPart' hb; refine hs _ _ _ _ ?_; wp_walk; exact ⟨_, rfl, h⟩
theorem int_eq_dec_bool (b : Bool) (l : Addr) (c : Value) (dd : Option Addr) (sl : Array (Option Value)) :
    Meets (Builtin.«int.__eq__» ⟨[.bool b, .ref l], []⟩) (fun _ R s => s.heap.get? l = some { cls := c, dict := dd, data := .plain, slots := sl } ∧ R (.ok (.ret .notImplemented)) s) :=
  .of_wp fun prog w A R s h => by obtain ⟨hp, g, d, tk, os⟩ := s; obtain ⟨hl, h⟩ := h; wp_walk using wpAny_loadPart' hl, wpAny_load hl; exact ⟨_, rfl, h⟩
theorem int_eq_dec_int (b : Int) (u : Tok) (l : Addr) (c : Value) (dd : Option Addr) (sl : Array (Option Value)) :
    Meets (Builtin.«int.__eq__» ⟨[.int b u, .ref l], []⟩) (fun _ R s => s.heap.get? l = some { cls := c, dict := dd, data := .plain, slots := sl } ∧ R (.ok (.ret .notImplemented)) s) :=
  .of_wp fun prog w A R s h => by obtain ⟨hp, g, d, tk, os⟩ := s; obtain ⟨hl, h⟩ := h; wp_walk using wpAny_loadPart' hl, wpAny_load hl; exact ⟨_, rfl, h⟩
theorem str_eq_dec (b : Str) (u : Tok) (l : Addr) (c : Value) (dd : Option Addr) (sl : Array (Option Value)) :
    Meets (Builtin.«str.__eq__» ⟨[.str b u, .ref l], []⟩) (fun _ R s => s.heap.get? l = some { cls := c, dict := dd, data := .plain, slots := sl } ∧ R (.ok (.ret .notImplemented)) s) :=
  .of_wp fun prog w A R s h => by obtain ⟨hp, g, d, tk, os⟩ := s; obtain ⟨hl, h⟩ := h; wp_walk using wpAny_loadPart' hl, wpAny_load hl; exact ⟨_, rfl, h⟩
end

section
variable {K : PySem.W.Frag} {H H' : Hp}
/-- a number, a text, None, a truth value, a list, a tuple or a dict, with the name of its type -/
inductive BuV (K : PySem.W.Frag) (H : Hp) : V → String → Prop
  | non : BuV K H .non "NoneType"
  | bl (b : Bool) : BuV K H (.bl b) "bool"
  | int (i : Int) : BuV K H (.int i) "int"
  | str (x : Str) : BuV K H (.str x) "str"
  | lst {a : Addr} {xs : List V} (h : SqL K H a xs) : BuV K H (.ref a) "list"
  | tup {a : Addr} {xs : List V} (h : SqT K H a xs) : BuV K H (.ref a) "tuple"
  | dct {a : Addr} {kvs : List (Key × V)} (h : H a = some (.dK kvs)) : BuV K H (.ref a) "dict"
theorem Dz.bu {v : V} {d : PyData} (h : Dz K H v d) : BuV K H v (tyD d) := by
  cases h with
  | non => exact .non
  | bl b => exact .bl b
  | int i => exact .int i
  | str x => exact .str x
  | lst h n a => exact .lst h
  | tup h a => exact .tup h
  | dct kvs h => exact .dct h
theorem BuV.ty {v : V} {T : String} (h : BuV K H v T) : TyX K H v (.type T) := by
  cases h with
  | non => exact .base .non
  | bl b => exact .base (.bl b)
  | int i => exact .base (.int i)
  | str x => exact .base (.str x)
  | lst h =>
    rcases h with (h | ⟨o, h⟩) | ⟨o, its, n, h, c, _⟩
    · exact .base (.lst h)
    · exact .base (.frz h)
    · exact .kList h c
  | tup h =>
    rcases h with (h | ⟨o, h⟩) | ⟨o, its, n, h, c, _⟩
    · exact .base (.tup h)
    · exact .fTuple h
    · exact .kTuple h c
  | dct h => exact .base (.dK h)
theorem BuV.same {v : V} {T : String} (e : Same H H') (h : BuV K H v T) : BuV K H' v T := by
  cases h with
  | non => exact .non
  | bl b => exact .bl b
  | int i => exact .int i
  | str x => exact .str x
  | lst h => exact .lst (e.seq h)
  | tup h => exact .tup (Same.sqT e h)
  | dct h => exact .dct (e _ _ h)
def buTs : List String := ["NoneType", "bool", "int", "str", "list", "tuple", "dict"]
theorem BuV.mem {v : V} {T : String} (h : BuV K H v T) : T ∈ buTs := by cases h <;> decide
/-- no builtin class of these is below the own class C -/
theorem sub_bu {C : Addr} : ∀ T ∈ buTs, PySem.W.subIn K (.type T) (.ref C) = some false := by
  have go : ∀ T : String, (PySem.fastBuiltinMro T).map (fun l => l.all fun v => match v with | .type _ => true | _ => false) = some true → PySem.W.subIn K (.type T) (.ref C) = some false := fun T h => by
    show (PySem.fastBuiltinMro T).map (·.contains (.ref C)) = some false
    obtain ⟨l, e, h⟩ := Option.map_eq_some_iff.mp h
    rw [e]
    show some (l.contains (.ref C)) = some false
    congr 1
    rw [List.contains_eq_any_beq, List.any_eq_false]
    intro x hx q
    have := List.all_eq_true.mp h x hx
    rw [← beq_iff_eq.mp q] at this
    cases this
  intro T hT
  simp only [buTs, List.mem_cons, List.not_mem_nil, or_false] at hT
  rcases hT with rfl | rfl | rfl | rfl | rfl | rfl | rfl
  all_goals exact go _ (by decide +kernel)
theorem notFirst_bu {C : Addr} {T : String} (h : T ∈ buTs) : PySem.W.notFirst K C (.type T) = true := by
  unfold PySem.W.notFirst
  rw [sub_bu T h]
  simp
/-- the own class C is below none of them -/
def noSubs (K : PySem.W.Frag) (C : Addr) : Bool := buTs.all fun T => PySem.W.subIn K (.ref C) (.type T) == some false
theorem noSubs_mk {C : Addr} (h1 : PySem.W.subIn K (.ref C) (.type "NoneType") = some false) (h2 : PySem.W.subIn K (.ref C) (.type "bool") = some false) (h3 : PySem.W.subIn K (.ref C) (.type "int") = some false) (h4 : PySem.W.subIn K (.ref C) (.type "str") = some false) (h5 : PySem.W.subIn K (.ref C) (.type "list") = some false) (h6 : PySem.W.subIn K (.ref C) (.type "tuple") = some false) (h7 : PySem.W.subIn K (.ref C) (.type "dict") = some false) : noSubs K C = true := by
  unfold noSubs buTs
  simp only [List.all_cons, List.all_nil, h1, h2, h3, h4, h5, h6, h7]
  rfl
theorem noSubs_at {C : Addr} (h : noSubs K C = true) {T : String} (m : T ∈ buTs) : PySem.W.subIn K (.ref C) (.type T) = some false := beq_iff_eq.mp (List.all_eq_true.mp h T m)
end
section
open PySem.SeqAt
variable {X : Cx} {pins : List (Addr × Obj)} {σ : L2.St} {H : Hp} {s : Shared}
/-- its == declines -/
theorem bu_dec {x : V} {u : Value} {T : String} {y C : Addr} {dx : Addr} {od : Option Obj} {A : Around} {E : Value → Shared → Prop} (I : Inv X pins σ H s) (rx : RelV x u) (b : BuV X.K H x T) (J : PySem.W.InstAt s.heap y (PySem.W.instObj C dx) C od) (hn : noSubs X.K C = true) :
    s.TypeIs u T ∧ ∀ Q, Q none s → wpAny (model X.prog X.w) A (tryCompare u "__eq__" (.ref y)) Q E s := by
  have ns : ∀ T ∈ buTs, NoSub C T s := fun T hT M A E Q q => (PySem.W.looks_subIn I.kIn (noSubs_at hn hT)).here q
  have hy := J.at_
  cases b with
  | non =>
    cases rx
    exact ⟨rfl, fun Q q => wpAny_tryCompare_declines rfl PySem.F.slot_NoneType_eq (call_gives PySem.F.slot_NoneType_eq rfl PySem.F.entry_NoneType_eq (PySem.F.args_NoneType_eq_2 _ _) (NoneType___eq___none_ref_0 y) ⟨rfl, q⟩)⟩
  | bl b =>
    cases rx
    exact ⟨rfl, fun Q q => wpAny_tryCompare_declines rfl PySem.F.slot_bool_eq (call_meets PySem.F.slot_bool_eq rfl PySem.F.entry_int_eq (PySem.F.args_int_eq_2 _ _) (int_eq_dec_bool b y _ _ _) ⟨hy, rfl, q⟩)⟩
  | int i =>
    obtain ⟨t, rfl⟩ := rx
    exact ⟨typeIs_int s i t, fun Q q => wpAny_tryCompare_declines (typeIs_int s i t) PySem.F.slot_int_eq (call_meets PySem.F.slot_int_eq (typeIs_int s i t) PySem.F.entry_int_eq (PySem.F.args_int_eq_2 _ _) (int_eq_dec_int i t y _ _ _) ⟨hy, rfl, q⟩)⟩
  | str x =>
    obtain ⟨t, rfl⟩ := rx
    exact ⟨typeIs_str s x t, fun Q q => wpAny_tryCompare_declines (typeIs_str s x t) PySem.F.slot_str_eq (call_meets PySem.F.slot_str_eq (typeIs_str s x t) PySem.F.entry_str_eq (PySem.F.args_str_eq_2 _ _) (str_eq_dec x t y _ _ _) ⟨hy, rfl, q⟩)⟩
  | lst h =>
    cases rx
    obtain ⟨its, r, ⟨⟨cls, dd, data, sl⟩, n, ho, hc, hdd, hd⟩, _⟩ := I.list h
    simp only at hc hd
    subst hc hd
    have ty : s.TypeIs (.ref _) "list" := ⟨_, ho, rfl⟩
    exact ⟨ty, fun Q q => wpAny_tryCompare_declines ty PySem.F.slot_list_eq (call_meets PySem.F.slot_list_eq ty PySem.F.entry_list_eq (PySem.F.args_list_eq_2 _ _) (list_eq_dec _ y C _ n dd _ sl _) ⟨ho, hy, ns _ (by decide), rfl, q⟩)⟩
  | tup h =>
    cases rx
    obtain ⟨its, r, ⟨⟨cls, dd, data, sl⟩, ho, hc, n, hd⟩, _⟩ := I.tuple h
    simp only at hc hd
    subst hc hd
    have ty : s.TypeIs (.ref _) "tuple" := ⟨_, ho, rfl⟩
    exact ⟨ty, fun Q q => wpAny_tryCompare_declines ty PySem.F.slot_tuple_eq (call_meets PySem.F.slot_tuple_eq ty PySem.F.entry_tuple_eq (PySem.F.args_tuple_eq_2 _ _) (tuple_eq_dec _ y C _ n dd _ sl _) ⟨ho, hy, ns _ (by decide), rfl, q⟩)⟩
  | dct h =>
    cases rx
    obtain ⟨_, _, vs, _, ⟨cls, dd, data, sl⟩, es, ep, ho, hE, hd, _⟩ := dk_of I.hok h
    have hc := hE.1
    simp only at hc hd
    subst hc hd
    have ty : s.TypeIs (.ref _) "dict" := ⟨_, ho, rfl⟩
    exact ⟨ty, fun Q q => wpAny_tryCompare_declines ty PySem.F.slot_dict_eq (call_meets PySem.F.slot_dict_eq ty PySem.F.entry_dict_eq (PySem.F.args_dict_eq_2 _ _) (dict_eq_dec _ y C es ep dd _ sl _) ⟨ho, hy, ns _ (by decide), rfl, q⟩)⟩
end
section
open PySem.W
variable {prog : Program} {w : World} {A : Around} {E : Value → Shared → Prop} {s : Shared} {K : Frag} {x : Value} {T : String} {y C L f : Addr} {h₀ : Heap} {m : Str → Option Value} {oy : Obj} {od : Option Obj}
/-- x == y, x a builtin value whose == declines, y an instance of an own class -/
theorem eq_bu_K {Q : Value → Shared → Prop} (hu : A.units < cLine) (X : K.In s.heap) (ha : s.TypeIs x T) (hd : ∀ Q, Q none s → wpAny (model prog w) A (tryCompare x "__eq__" (.ref y)) Q E s) (J : InstAt s.heap y oy C od) (hn : subIn K (.ref C) (.type T) = some false)
    (hs : findIn K (.ref C) "__eq__" = some (some (.ref f))) (hf : isFn K (.ref f) = true)
    (h : wpAny (model prog w) A (call (.ref f) [.ref y, x]) (PySem.W.CmpBack Q) E s) : wpAny (model prog w) A (richCompare .Eq x (.ref y)) Q E s := by
  have one : wpAny (model prog w) A (tryCompare (.ref y) "__eq__" x) (fun r s' => ∃ v, r = some v ∧ Q v s') E s := by
    unfold tryCompare
    refine wpAny_bind (ifBound_K X J hs hf (wpAny_mono h (fun v s' hv => ?_) fun _ _ e => e))
    cases v <;> first | exact (show False from hv).elim | exact wpAny_pure ⟨_, rfl, hv⟩
  unfold richCompare
  simp only [ha.oneThing_none]
  refine wpAny_holding (wpAny_bind (wpAny_cRoomFor hu ?_))
  refine wpAny_bind (wpAny_typeOf ha (wpAny_bind (J.type.here ?_)))
  rw [if_pos (show ((Value.type T != Value.ref C) = true) by simp)]
  refine wpAny_bind ((looks_subIn X hn).here ?_)
  simp only [Bool.false_eq_true, if_false, Bool.not_false, if_true]
  refine wpAny_bind (hd _ ?_)
  refine wpAny_bind (wpAny_mono one (fun r s' z => ?_) fun _ _ e => e)
  obtain ⟨v, rfl, hq⟩ := z
  exact wpAny_pure hq
/-- y != x -/
theorem ne_bu_K {Q : Value → Shared → Prop} (hu : A.in1.units < cLine) (hu0 : A.units < cLine) (X : K.In s.heap) (I : InstAt s.heap y oy C od) (ha : Looks (model prog w) s.heap (typeOf x) (.type T)) (hb : notFirst K C (.type T) = true) (hm : mroIn K C (.type "object") = some true) (hn : findIn K (.ref C) "__ne__" = some (some (.builtin "object.__ne__"))) (hr : findIn K (.ref C) "__eq__" = some (some (.ref f))) (hf : isFn K (.ref f) = true)
    (h : wpAny (model prog w) A.in1 (call (.ref f) [.ref y, x]) (fun v s' => ∃ b, v = .bool b ∧ Q (.bool (!b)) s') E s) : wpAny (model prog w) A (richCompare .NotEq (.ref y) x) Q E s := by
  have one : wpAny (model prog w) A (tryCompare (.ref y) "__ne__" x) (fun r s' => ∃ v, r = some v ∧ Q v s') E s := ne_one hu X I hm hn hr hf (wpAny_mono h (fun v s' ⟨b, e, q⟩ => ⟨b, e, _, rfl, q⟩) fun _ _ e => e)
  unfold richCompare
  simp only [oneThing_ref]
  refine wpAny_holding (wpAny_bind (wpAny_cRoomFor hu0 ?_))
  refine wpAny_bind (I.type.here (wpAny_bind (ha.here ?_)))
  rw [if_pos (show ((Value.ref C != Value.type T) = true) by simp)]
  have e : subIn K (.type T) (.ref C) = some false := by
    rcases Bool.or_eq_true_iff.mp hb with e | e
    · simp at e
    · exact beq_iff_eq.mp e
  refine wpAny_bind ((looks_subIn X e).here ?_)
  simp only [Bool.false_eq_true, if_false]
  refine wpAny_bind (wpAny_mono one (fun r s' z => ?_) fun _ _ e => e)
  obtain ⟨v, rfl, hq⟩ := z
  exact wpAny_pure hq
end
section
variable {X : Cx} {C : Addr} {j : Nat} {sp : Sp}
theorem looks_bu {pins : List (Addr × Obj)} {σ : L2.St} {H : Hp} {s : Shared} {x : V} {u : Value} {T : String} (I : Inv X pins σ H s) (rx : RelV x u) (b : BuV X.K H x T) : PySem.W.Looks (model X.prog X.w) s.heap (typeOf u) (.type T) := by
  have at_ : ∀ {a : Addr} {o : Obj}, s.heap.get? a = some o → o.cls = .type T → PySem.W.Looks (model X.prog X.w) s.heap (typeOf (.ref a)) (.type T) := fun {a o} h c => c ▸ (PySem.W.Looks.ld h).andThen .now
  cases b with
  | non => cases rx; exact .now
  | bl b => cases rx; exact .now
  | int i => obtain ⟨t, rfl⟩ := rx; exact .now
  | str x => obtain ⟨t, rfl⟩ := rx; exact .now
  | lst h =>
    cases rx
    obtain ⟨its, r, ⟨o, n, ho, hc, _⟩, _⟩ := I.list h
    exact at_ ho hc
  | tup h =>
    cases rx
    obtain ⟨its, r, ⟨o, ho, hc, _⟩, _⟩ := I.tuple h
    exact at_ ho hc
  | dct h =>
    cases rx
    obtain ⟨_, _, vs, _, o, es, ep, ho, hE, _⟩ := dk_of I.hok h
    exact at_ ho hE.1
/-- d == a -/
def rBuEq (K : PySem.W.Frag) (C : Addr) (sp : Sp) : R2 := fun x y H Q => (∃ T, BuV K H x T) ∧ (∃ fs, InsAt H C y fs) ∧ sp [y, x] H Q E0
/-- a == d -/
def rEqBu (K : PySem.W.Frag) (C : Addr) (sp : Sp) : R2 := fun x y H Q => (∃ fs, InsAt H C x fs) ∧ (∃ T, BuV K H y T) ∧ sp [x, y] H Q E0
/-- a != d -/
def rNeBu (K : PySem.W.Frag) (C : Addr) (sp : Sp) : R2 := fun x y H Q => (∃ fs, InsAt H C x fs) ∧ (∃ T, BuV K H y T) ∧ sp [x, y] H (noQ Q) E0
theorem op_buEq (D : OwnR X.prog X.w X.K X.mg X.base j C "__eq__" sp) (hr : Room j X.A) (hn : noSubs X.K C = true) : OpR X (compareOp .Eq) (rBuEq X.K C sp) := by
  obtain ⟨f, h, F⟩ := D
  intro pins s σ H x y v u Q I rx ry ⟨⟨T, b⟩, ⟨fs, a, dx, ey, ha⟩, q⟩
  subst ey
  cases ry
  obtain ⟨od, J⟩ := inst_at I ha
  obtain ⟨ty, dec⟩ := bu_dec (A := X.A) (E := X.xe) I rx b J hn
  show wpAny (model X.prog X.w) X.A (richCompare .Eq v (.ref a)) (EP X pins σ Q) X.xe s
  exact eq_bu_K (by have := hr.un; omega) I.kIn ty dec J (noSubs_at hn b.mem) h.at_ h.fn (wpAny_mono (run_met (vs := [.ref a, x]) F hr I (.cons rfl (.cons rx .nil)) q) (fun _ _ z => back_ok z) fun _ _ z => z)
theorem op_eqBu (D : OwnR X.prog X.w X.K X.mg X.base j C "__eq__" sp) (hr : Room j X.A) : OpR X (compareOp .Eq) (rEqBu X.K C sp) := by
  obtain ⟨f, h, F⟩ := D
  intro pins s σ H x y v u Q I rx ry ⟨⟨fs, a, dx, ex, ha⟩, ⟨T, b⟩, q⟩
  subst ex
  cases rx
  obtain ⟨od, J⟩ := inst_at I ha
  obtain ⟨m, fr⟩ := I.fr
  show wpAny (model X.prog X.w) X.A (richCompare .Eq (.ref a) u) (EP X pins σ Q) X.xe s
  exact PySem.W.cmp_K (op := .Eq) (by have := hr.un; omega) fr I.ok.mod.kin J (looks_bu I ry b) (notFirst_bu b.mem) h.at_ h.fn (wpAny_mono (run_met (vs := [.ref a, y]) F hr I (.cons rfl (.cons ry .nil)) q) (fun _ _ z => back_ok z) fun _ _ z => z)
theorem op_neBu (D : OwnR X.prog X.w X.K X.mg X.base j C "__eq__" sp) (hr : Room (j + 1) X.A) (hm : PySem.W.mroIn X.K C (.type "object") = some true) (ho : PySem.W.findIn X.K (.ref C) "__ne__" = some (some (.builtin "object.__ne__"))) : OpR X (compareOp .NotEq) (rNeBu X.K C sp) := by
  obtain ⟨f, h, F⟩ := D
  intro pins s σ H x y v u Q I rx ry ⟨⟨fs, a, dx, ex, ha⟩, ⟨T, b⟩, q⟩
  subst ex
  cases rx
  obtain ⟨od, J⟩ := inst_at I ha
  show wpAny (model X.prog X.w) X.A (richCompare .NotEq (.ref a) u) (EP X pins σ Q) X.xe s
  refine ne_bu_K (by have := hr.un; show _ + 1 < _; omega) (by have := hr.un; omega) I.kIn J (looks_bu I ry b) (notFirst_bu b.mem) hm ho h.at_ h.fn (wpAny_mono (run_met1 (vs := [.ref a, y]) F hr I (.cons rfl (.cons ry .nil)) q) (fun v s' ⟨z, H', I', rz, b, ez, q⟩ => ?_) fun _ _ z => z)
  subst ez
  obtain rfl : v = .bool b := rz
  exact ⟨b, rfl, .bl (!b), H', I', rfl, q⟩
end
end XT
/-! a op b where the own class's operator may raise; b an instance of the class, or built-in data -/
namespace XT
open PySem PySem.Spec PyProof.Rows L2
section
variable {X : Cx} {j : Nat} {f C : Addr} {sp : Sp} {W : WX}
theorem run_metX {pins : List (Addr × Obj)} {σ : L2.St} {H : Hp} {s : Shared} {us : List Value} {vs : List V} {Q : VK} (F : MetX X.prog X.w X.K X.mg X.base j f sp) (hr : Room j X.A) (tk : Takes X W) (I : Inv X pins σ H s) (r : Vals vs us) (q : sp vs H Q (WE W σ)) : wpAny (model X.prog X.w) X.A (call (.ref f) us) (EP X pins σ Q) X.xe s := by
  refine wpAny_call (codeAny_mono (F X.A X.stack s H us vs Q (WE W σ) hr I.env0 r q) fun r s2 z => ?_)
  match r, z with
  | .ok (.ret v), z => exact I.after z
  | .ok .next, z => exact False.elim z
  | .ok .brk, z => exact False.elim z
  | .ok .cont, z => exact False.elim z
  | .error e, z => exact passAt tk σ pins H s e s2 I z
def tOpX (K : PySem.W.Frag) (C : Addr) (sp : Sp) (W : WX) (ta tb : TE) : TE := fun σ H Q => ta σ H fun x H1 => tb σ H1 fun y H2 => (∃ fs, InsAt H2 C x fs) ∧ ((∃ T, BuV K H2 y T) ∨ ∃ fs, InsAt H2 C y fs) ∧ sp [x, y] H2 Q (WE W σ)
end
section
open PySem.W
variable {prog : Program} {w : World} {A : Around} {E : Value → Shared → Prop} {s : Shared} {K : Frag} {x f C : Addr} {L : Addr} {h₀ : Heap} {m : Str → Option Value} {ox : Obj} {od : Option Obj}
/-- x op b, b of a built-in type told by Looks: x's own method is asked, and answers -/
theorem bin_bu {op : Operator} {b : Value} {T : String} {Q : Value → Shared → Prop} (X : K.In s.heap) (I : InstAt s.heap x ox C od) (lb : Looks (model prog w) s.heap (typeOf b) (.type T)) (hT : T ∈ buTs) (hc : selfFirst K C = true)
    (hs : findIn K (.ref C) (PySem.dunder op.info.2) = some (some (.ref f))) (hf : isFn K (.ref f) = true) (ho : opB K C op = true)
    (h : wpAny (model prog w) A (call (.ref f) [.ref x, b]) (PySem.W.CmpBack Q) E s) : wpAny (model prog w) A (binaryOp op (.ref x) b) Q E s := by
  obtain ⟨hr, hall⟩ := Bool.and_eq_true_iff.mp ho
  have hall := List.all_eq_true.mp hall T (show T ∈ opBt from hT)
  obtain ⟨h1, h2⟩ := Bool.and_eq_true_iff.mp hall
  obtain ⟨fo, h1⟩ := Option.isSome_iff_exists.mp h1
  obtain ⟨ro, h2⟩ := Option.isSome_iff_exists.mp h2
  have hr := beq_iff_eq.mp hr
  have hsub := sub_bu (K := K) (C := C) T hT
  obtain ⟨cd, rest, hcd, hm⟩ := ksp_first hc
  rcases hi : op.info with ⟨sym, nm'⟩
  rw [hi] at hs hr h1 h2
  dsimp only at hs hr h1 h2
  have one := ksp_try X I hs hf h
  obtain ⟨hp, g, d, tk, os⟩ := s
  have kC : Looks (model prog w) hp (typeOf (.ref x)) (.ref C) := I.type
  have kF : Looks (model prog w) hp (fillsNumberSlot (.ref C) nm') true := fills_K X hcd hm hs
  have kG : Looks (model prog w) hp (fillsNumberSlot (.type T) nm') _ := ksp_fillsT X h1 h2
  have kS : Looks (model prog w) hp (isSubtype (.type T) (.ref C)) false := looks_subIn X hsub
  have kP : Looks (model prog w) hp (numberSlotInPython (.ref C) nm') true := ksp_inPy X hs hr (.inl rfl)
  have kQ : Looks (model prog w) hp (numberSlotInPython (.type T) nm') false := Looks.of_pure rfl
  have kT : Looks (model prog w) hp (typeLookup (.type T) (dunderR nm')) ro := looks_findIn X h2
  generalize ((fo.isSome && !isSeqSlot fo) || (ro.isSome && !isSeqSlot ro)) = both at kG
  have other : (Value.ref C == Value.type T) = false := by
    rw [Bool.eq_false_iff]
    intro q
    cases beq_iff_eq.mp q
  simp only [binaryOp, hi]
  refine wpAny_holding (wpAny_bind ?_)
  unfold binaryOp1
  refine wpAny_bind (kC.at (wpAny_bind (lb.at (wpAny_bind (kF.at ?_)))))
  simp only [other, Bool.false_eq_true, if_false]
  cases both
  all_goals
    ksp_lk
    refine wpAny_mono one (fun r s' z => ?_) fun _ _ e => e
    obtain ⟨v, rfl, hq⟩ := z
    ksp_lk
    exact hq
end
section
variable {X : Cx} {j : Nat} {C : Addr} {sp : Sp} {W : WX} {a b : Expr} {ta tb : TE} {pos : Pos}
theorem pe_opX {op : Operator} (K : PySem.W.Frag) (hK : X.K = K) (D : OwnX X.prog X.w X.K X.mg X.base j C (PySem.dunder op.info.2) sp) (hr : Room j X.A) (hc : PySem.W.selfFirst X.K C = true) (ho : opB X.K C op = true) (tk : Takes X W) (ha : PE X a ta) (hb : PE X b tb) : PE X (.BinOp a op b pos) (tOpX K C sp W ta tb) := by
  subst hK
  obtain ⟨f, h, hf, F⟩ := D
  refine ⟨fun pins s σ H Q I hq => ?_⟩
  refine wpAny_BinOp (binT (R := fun x y H2 => (∃ fs, InsAt H2 C x fs) ∧ ((∃ T, BuV X.K H2 y T) ∨ ∃ fs, InsAt H2 C y fs) ∧ sp [x, y] H2 Q (WE W σ)) ha hb I hq fun v u s2 x y H2 I2 rx ry q => ?_)
  obtain ⟨⟨fs, a', dx, ex, hz⟩, hy, q⟩ := q
  subst ex
  cases rx
  obtain ⟨od, J⟩ := inst_at I2 hz
  obtain ⟨m, fr⟩ := I2.fr
  have go := wpAny_mono (run_metX (vs := [.ref a', y]) (us := [.ref a', u]) F hr tk I2 (.cons rfl (.cons ry .nil)) q) (fun _ _ z => back_ok z) fun _ _ z => z
  rcases hy with ⟨T, hy⟩ | ⟨fs', b', dx', ey, hy⟩
  · exact bin_bu I2.kIn J (looks_bu I2 ry hy) hy.mem hc h.at_ h.fn ho go
  · subst ey
    cases ry
    obtain ⟨od', J'⟩ := inst_at I2 hy
    exact PySem.W.binop_K fr I2.ok.mod.kin J J'.type hc h.at_ h.fn go
end
/-- a op b, both of the class C -/
def tOpXO (C : Addr) (sp : Sp) (W : WX) (ta tb : TE) : TE := fun σ H Q => ta σ H fun x H1 => tb σ H1 fun y H2 => (∃ fs, InsAt H2 C x fs) ∧ (∃ fs, InsAt H2 C y fs) ∧ sp [x, y] H2 Q (WE W σ)
section
variable {X : Cx} {j : Nat} {C : Addr} {sp : Sp} {W : WX} {a b : Expr} {ta tb : TE} {pos : Pos}
theorem pe_opXO {op : Operator} (D : OwnX X.prog X.w X.K X.mg X.base j C (PySem.dunder op.info.2) sp) (hr : Room j X.A) (hc : PySem.W.selfFirst X.K C = true) (tk : Takes X W) (ha : PE X a ta) (hb : PE X b tb) : PE X (.BinOp a op b pos) (tOpXO C sp W ta tb) := by
  obtain ⟨f, h, hf, F⟩ := D
  refine ⟨fun pins s σ H Q I hq => ?_⟩
  refine wpAny_BinOp (binT (R := fun x y H2 => (∃ fs, InsAt H2 C x fs) ∧ (∃ fs, InsAt H2 C y fs) ∧ sp [x, y] H2 Q (WE W σ)) ha hb I hq fun v u s2 x y H2 I2 rx ry q => ?_)
  obtain ⟨⟨fs, a', dx, ex, hz⟩, ⟨fs', b', dx', ey, hy⟩, q⟩ := q
  subst ex ey
  cases rx
  cases ry
  obtain ⟨od, J⟩ := inst_at I2 hz
  obtain ⟨m, fr⟩ := I2.fr
  obtain ⟨od', J'⟩ := inst_at I2 hy
  exact PySem.W.binop_K fr I2.ok.mod.kin J J'.type hc h.at_ h.fn (wpAny_mono (run_metX (vs := [.ref a', .ref b']) (us := [.ref a', .ref b']) F hr tk I2 (.cons rfl (.cons rfl .nil)) q) (fun _ _ z => back_ok z) fun _ _ z => z)
end
/-- x(..), x in the slot i an instance of C, whose __call__ may raise -/
def tCallOX (i : Nat) (C : Addr) (sp : Sp) (W : WX) (t : TA) : TE := fun σ H Q => ∃ z, σ[i]? = some (some z) ∧ (∃ fs, InsAt H C z fs) ∧ t σ H fun vs H1 => (∃ fs, InsAt H1 C z fs) ∧ sp (z :: vs) H1 Q (WE W σ)
section
variable {X : Cx} {j i : Nat} {C : Addr} {sp : Sp} {W : WX} {x : Str} {p pos : Pos} {e : Expr} {es : List Expr} {t : TA}
theorem pe_callOX (D : OwnX X.prog X.w X.K X.mg X.base j C "__call__" sp) (hr : Room j X.A) (hN : X.N[i]? = some x) (hv : Vis X.env.scope x) (tk : Takes X W) (ha : PA X (e :: es) t)
    (hdb : (x == ("__debug__" : Str)) = false := by decide) (hcd : (x == ("__classdict__" : Str)) = false := by decide)
    (he : starEach (e :: es) X.env = (false, eval e X.env) :: starEach es X.env := by rfl) (hpl : (backTo pos (starEach es X.env)).any (·.1) = false := by rfl) : PE X (.Call (.Name x p) (e :: es) [] pos) (tCallOX i C sp W t) := by
  obtain ⟨f, hh, hfn, F⟩ := D
  refine ⟨fun pins s σ H Q I h => ?_⟩
  obtain ⟨z, hs, ⟨fs, a, dx, ez, hz⟩, ht⟩ := h
  refine wpAny_Call_Name_kw (thn ((pe_var (pos := p) hN hv hdb hcd).run pins s σ H (fun v H1 => v = z ∧ H1 = H) I ⟨z, hs, rfl, rfl⟩) fun u s1 ⟨v, H1, I1, r1, q1⟩ => ?_)
  obtain ⟨rfl, rfl⟩ := q1
  subst ez
  cases r1
  obtain ⟨od, J⟩ := inst_at I1 hz
  rw [he]
  refine callO_of (C := C) ?_ (PySem.Calls.evalArgs_plain ?_)
  · show ((false || (backTo pos (starEach es X.env)).any (·.1)) || false) = false
    rw [hpl]; rfl
  have ha2 := ha.run pos pins s1 σ _ _ I1 ht
  rw [he] at ha2
  refine wpAny_mono ha2 (fun us s2 hz2 => ?_) fun _ _ z => z
  obtain ⟨vs, H2, I2, r, ⟨fs2, a2, dx2, e2, h2⟩, q⟩ := hz2
  cases e2
  obtain ⟨od2, J2⟩ := inst_at I2 h2
  refine ⟨⟨_, _, rfl, J2⟩, ?_⟩
  refine wpAny_call (PySem.W.kco_code I2.kIn J2 rfl hh.at_ hh.fn hfn ?_)
  refine codeAny_mono (F X.A X.stack s2 H2 _ (.ref a :: vs) Q (WE W σ) hr I2.env0 (.cons rfl r) q) fun r' s3 hq => ?_
  match r', hq with
  | .ok (.ret v), hq => exact I2.after hq
  | .ok .next, hq => exact False.elim hq
  | .ok .brk, hq => exact False.elim hq
  | .ok .cont, hq => exact False.elim hq
  | .error e, hq => exact passAt tk σ pins H2 s2 e s3 I2 hq
end
end XT
namespace XT
open PySem PySem.Spec PyProof.Rows L2
section
variable {P : Program} {w : World} {K : PySem.W.Frag} {mg : Str → Option Value} {base : Heap}
theorem scNum : FnScope ["value"] ["value"] (defScope sNum) := ⟨rfl, rfl, rfl, by decide +kernel, rfl, by decide +kernel, by decide +kernel⟩
def spNum : Sp := fun vs H Q _ => ∃ i, vs = [.int i] ∧ Q (.bl true) H
theorem ok_num {f : Addr} {fd : FuncData} {k : Nat} (B : Bl mg) (F : Fun K "is_number" "is_number" sNum f fd) : FnOk P w K mg base CX0 (k + 1) f fd ["value"] spNum := by
  refine F.ok scNum (fun vs H Q E h => ?_) (fun cdv A outer s H vs Q E hr h => ?_)
  · obtain ⟨i, rfl, _⟩ := h
    rfl
  · obtain ⟨i, rfl, q⟩ := h
    refine ⟨_, pss_one (ps_ret (pe_and (pe_callB call_isi (by rfl) B.isinstance bI (pa_cons (pv 0) (pa_cons (pe_bltn (v := .ty "int") (by rfl) B.int bInt rfl) pa_nil)))
      (pe_one (pe_not (pe_callB call_isi (by rfl) B.isinstance bI (pa_cons (pv 0) (pa_cons (pe_bltn (v := .ty "bool") (by rfl) B.bool bBool rfl) pa_nil))))))), ?_⟩
    refine ⟨.int i, rfl, .int i, .ty "int", _, _, true, rfl, .ty _, .base (.int i), kit_ty (by decide +kernel), true, rfl, iteT ?_⟩
    refine ⟨.int i, rfl, .int i, .ty "bool", _, _, false, rfl, .ty _, .base (.int i), kit_ty (by decide +kernel), false, rfl, ?_⟩
    exact q
end
end XT
namespace XT
open PySem PySem.Spec PyProof.Rows L2
section
variable {P : Program} {w : World} {K : PySem.W.Frag} {mg : Str → Option Value} {base : Heap}
theorem scMask : FnScope ["value", "width"] ["value", "width"] (defScope sMask) := ⟨rfl, rfl, rfl, by decide +kernel, rfl, by decide +kernel, by decide +kernel⟩
def spMask : Sp := fun vs H Q _ => ∃ (a n : Nat), vs = [.int (a : Int), .int (n : Int)] ∧ n ≤ 6 ∧ a < 2 ^ n ∧ Q (.bl true) H
theorem ok_mask {f : Addr} {fd : FuncData} {k : Nat} (F : Fun K "is_mask" "is_mask" sMask f fd) (dN : DefR P w K mg base 1 "is_number" spNum) : FnOk P w K mg base CX0 (k + 2) f fd ["value", "width"] spMask := by
  refine F.ok scMask (fun vs H Q E h => ?_) (fun cdv A outer s H vs Q E hr h => ?_)
  · obtain ⟨a, n, rfl, _⟩ := h
    rfl
  · obtain ⟨a, n, rfl, hn, ha, q⟩ := h
    refine ⟨_, pss_one (ps_ret (pe_and (pe_def dN (hr.mono (by omega)) (by rfl) (pa_cons (pv 0) pa_nil)) (pe_one (pe_chain op_le op_lt pe_int (pv 0) (pe_op op_shl pe_int (pv 1)))))), ?_⟩
    refine ⟨.int a, rfl, a, rfl, true, rfl, iteT ?_⟩
    refine ⟨.int a, rfl, 0, a, rfl, rfl, true, ?_, iteT ?_⟩
    · exact congrArg V.bl (decide_eq_true (by omega))
    · refine ⟨.int n, rfl, 1, n, rfl, rfl, cpow hn, a, _, rfl, rfl, ?_⟩
      have e : decide ((a : Int) < 1 * 2 ^ ((n : Int).toNat)) = true := decide_eq_true (by rw [shl1]; omega)
      show Q (V.bl (decide ((a : Int) < 1 * 2 ^ ((n : Int).toNat)))) H
      rw [e]
      exact q
end
end XT
/-! lots that are valid are judged so -/
namespace XT
open PySem PySem.Spec PyProof.Rows L2
section
variable {P : Program} {w : World} {K : PySem.W.Frag} {mg : Str → Option Value} {base : Heap}
theorem scIw : FnScope ["value"] ["value"] (defScope sIsW) := ⟨rfl, rfl, rfl, by decide +kernel, rfl, by decide +kernel, by decide +kernel⟩
def spIw : Sp := fun vs H Q _ => ∃ (n : Nat), vs = [.int (n : Int)] ∧ 1 ≤ n ∧ n ≤ 6 ∧ Q (.bl true) H
theorem ok_iw {f : Addr} {fd : FuncData} {k : Nat} {tk : Tok} (F : Fun K "is_width" "is_width" sIsW f fd) (hW : mg "MAX_WIDTH" = some (.int 6 tk)) (dN : DefR P w K mg base 1 "is_number" spNum) : FnOk P w K mg base CX0 (k + 2) f fd ["value"] spIw := by
  refine F.ok scIw (fun vs H Q E h => ?_) (fun cdv A outer s H vs Q E hr h => ?_)
  · obtain ⟨n, rfl, _⟩ := h
    rfl
  · obtain ⟨n, rfl, h1, h6, q⟩ := h
    refine ⟨_, pss_one (ps_ret (pe_and (pe_def dN (hr.mono (by omega)) (by rfl) (pa_cons (pv 0) pa_nil)) (pe_one (pe_chain op_le op_le pe_int (pv 0) (pe_glob (v := .int 6) (by rfl) hW ⟨tk, rfl⟩))))), ?_⟩
    refine ⟨.int n, rfl, n, rfl, true, rfl, iteT ?_⟩
    refine ⟨.int n, rfl, 1, n, rfl, rfl, true, ?_, iteT ?_⟩
    · exact congrArg V.bl (decide_eq_true (by omega))
    · refine ⟨n, _, rfl, rfl, ?_⟩
      have e : decide ((n : Int) ≤ 6) = true := decide_eq_true (by omega)
      show Q (V.bl (decide ((n : Int) ≤ 6))) H
      rw [e]
      exact q
abbrev nMe : List Str := ["width", "masks", "least", "index", "mask"]
theorem scMe : FnScope nMe ["width", "masks"] (defScope sMaskE) := ⟨rfl, rfl, rfl, by decide +kernel, rfl, by decide +kernel, by decide +kernel⟩
def spMe : Sp := fun vs H Q _ => ∃ (n : Nat) (p : Nat → Bool) (y : Addr), vs = [.int (n : Int), .ref y] ∧ H y = some (.tup (vm (lotOf n p))) ∧ n ≤ 6 ∧ ∀ H', Same H H' → Q .non H'
theorem ok_me {f : Addr} {fd : FuncData} {k : Nat} (B : Bl mg) (F : Fun K "mask_error" "mask_error" sMaskE f fd) (dM : DefR P w K mg base 2 "is_mask" spMask) : FnOk P w K mg base CX0 (k + 3) f fd ["width", "masks"] spMe := by
  refine F.ok scMe (fun vs H Q E h => ?_) (fun cdv A outer s H vs Q E hr h => ?_)
  · obtain ⟨n, p, y, rfl, _⟩ := h
    rfl
  · obtain ⟨n, p, y, rfl, hy, hn, q⟩ := h
    refine ⟨_, pss_cons (ps_set (i := 2) scMe.nd rfl (by first | exact Or.inl rfl | exact Or.inr rfl) pe_int)
      (pss_cons (ps_for PassesOwn.never rfl (pi_enumT (by rfl) B.enumerate (pa_cons (pv 1) pa_nil)) (pg_tup rfl (pgs_cons (pg_name (i := 3) scMe.nd rfl (by first | exact Or.inl rfl | exact Or.inr rfl)) (pgs_cons (pg_name (i := 4) scMe.nd rfl (by first | exact Or.inl rfl | exact Or.inr rfl)) pgs_nil)))
        (pss_cons (ps_if (PW.pt (pw_or (pt_not (pt_val (pe_def dM (hr.mono (by omega)) (by rfl) (pa_cons (pv 4) (pa_cons (pv 0) pa_nil))))) (pw_or1 (pt_cmpR op_lt (pv 4) (pv 2) (nomark _))))) pss_never pss_nil)
        (pss_one (ps_set (i := 2) scMe.nd rfl (by first | exact Or.inl rfl | exact Or.inr rfl) (pe_op op_add (pv 4) pe_int)))))
      (pss_one (ps_ret pe_non))), ?_⟩
    refine ⟨.ref y, rfl, y, _, rfl, SqT.of hy, for_enumT (K := K) (xs := vm (lotOf n p)) (fun i σ H' => Same H H' ∧ ∃ (l : Nat) (z3 z4 : Option V), σ = [some (.int (n : Int)), some (.ref y), some (.int (l : Int)), z3, z4] ∧ ∀ j m, i ≤ j → (lotOf n p)[j]? = some m → l ≤ m) ⟨Same.refl _, 0, none, none, rfl, fun _ _ _ _ => Nat.zero_le _⟩ (fun i σ H' _ h => SqT.of (h.1 _ _ hy)) (fun i x σ H1 T hx1 h nT => ?_) (fun σ H1 h => ?_)⟩
    · obtain ⟨s1, l, z3, z4, rfl, hl⟩ := h
      obtain ⟨m, hm, rfl⟩ := mem_vm hx1
      have hm2 := mem_lot.mp (List.mem_of_getElem? hm)
      have sT := same_new (o := .tup [.int (i : Nat), .int (m : Int)]) nT
      have lm := hl i m (Nat.le_refl _) hm
      refine ⟨T, _, rfl, SqT.of upd_same, rfl, _, _, rfl, _, _, rfl, rfl, ?_⟩
      refine ⟨.int (m : Int), rfl, .int (n : Int), rfl, m, n, rfl, hn, hm2.1, true, rfl, iteF ?_⟩
      refine ⟨.int (m : Int), rfl, .int (l : Int), rfl, _, _, rfl, rfl, _, rfl, iteNT (decide_eq_false (by omega)) ?_⟩
      refine ⟨.int (m : Int), rfl, _, _, rfl, rfl, s1.trans sT, m + 1, _, _, rfl, fun j m' hj hm' => ?_⟩
      have hi := (List.getElem?_eq_some_iff.mp hm).1
      obtain ⟨hj2, ej⟩ := List.getElem?_eq_some_iff.mp hm'
      have r := lot_rising n p
      rw [List.pairwise_map] at r
      have := List.pairwise_iff_getElem.mp r i j hi hj2 (by omega)
      rw [(List.getElem?_eq_some_iff.mp hm).2, ej] at this
      omega
    · obtain ⟨s1, l, z3, z4, rfl, hl⟩ := h
      exact q _ s1
abbrev nLe : List Str := ["value", "width", "masks"]
theorem scLe : FnScope nLe ["value"] (defScope sLotE) := ⟨rfl, rfl, rfl, by decide +kernel, rfl, by decide +kernel, by decide +kernel⟩
def spLe : Sp := fun vs H Q _ => ∃ (v : V) (n : Nat) (p : Nat → Bool), vs = [v] ∧ LotAt H v n p ∧ 1 ≤ n ∧ n ≤ 6 ∧ ∀ H', Same H H' → Q .non H'
theorem ok_le {f : Addr} {fd : FuncData} {k : Nat} (B : Bl mg) (F : Fun K "lot_error" "lot_error" sLotE f fd) (dW : DefR P w K mg base 2 "is_width" spIw) (dE : DefR P w K mg base 3 "mask_error" spMe) : FnOk P w K mg base CX0 (k + 4) f fd ["value"] spLe := by
  refine F.ok scLe (fun vs H Q E h => ?_) (fun cdv A outer s H vs Q E hr h => ?_)
  · obtain ⟨v, n, p, rfl, _⟩ := h
    rfl
  · obtain ⟨v, n, p, rfl, ⟨x, y, rfl, hx, hy⟩, h1, h6, q⟩ := h
    refine ⟨_, pss_cons (ps_if (PW.pt (pw_or (pt_not (pt_val (pe_callB call_isi (by rfl) B.isinstance bI (pa_cons (pv 0) (pa_cons (pe_bltn (v := .ty "tuple") (by rfl) B.tuple bT rfl) pa_nil))))) (pw_or1 (pt_cmpR op_ne (pe_callB call_len_seq (by rfl) B.len PySem.boot_len (pa_cons (pv 0) pa_nil)) pe_int (nomark _))))) pss_never pss_nil)
      (pss_cons (ps_asg (pv 0) (pg_tup rfl (pgs_cons (pg_name (i := 1) scLe.nd rfl (by first | exact Or.inl rfl | exact Or.inr rfl)) (pgs_cons (pg_name (i := 2) scLe.nd rfl (by first | exact Or.inl rfl | exact Or.inr rfl)) pgs_nil))))
      (pss_cons (ps_if (pt_not (pt_val (pe_def dW (hr.mono (by omega)) (by rfl) (pa_cons (pv 1) pa_nil)))) pss_never pss_nil)
      (pss_cons (ps_if (pt_not (pt_val (pe_callB call_isi (by rfl) B.isinstance bI (pa_cons (pv 2) (pa_cons (pe_bltn (v := .ty "tuple") (by rfl) B.tuple bT rfl) pa_nil))))) pss_never pss_nil)
      (pss_one (ps_ret (pe_def dE (hr.mono (by omega)) (by rfl) (pa_cons (pv 1) (pa_cons (pv 2) pa_nil)))))))), ?_⟩
    refine ⟨.ref x, rfl, .ref x, .ty "tuple", _, _, true, rfl, .ty _, .base (.tup hx), kit_ty (by decide +kernel), true, rfl, iteF ?_⟩
    refine ⟨.ref x, rfl, x, _, rfl, .inr (SqT.of hx), rfl, _, rfl, iteNT rfl ?_⟩
    refine ⟨.ref x, rfl, x, _, rfl, SqT.of hx, rfl, _, _, rfl, _, _, rfl, rfl, ?_⟩
    refine ⟨.int n, rfl, n, rfl, h1, h6, true, rfl, iteF ?_⟩
    refine ⟨.ref y, rfl, .ref y, .ty "tuple", _, _, true, rfl, .ty _, .base (.tup hy), kit_ty (by decide +kernel), true, rfl, iteF ?_⟩
    exact ⟨.int n, rfl, .ref y, rfl, n, p, y, rfl, hy, h6, q⟩
end
end XT
namespace XT
open PySem PySem.Spec PyProof.Rows L2
section
variable {P : Program} {w : World} {K : PySem.W.Frag} {mg : Str → Option Value} {base : Heap}
abbrev nCk : List Str := ["value", "error"]
theorem scCk : FnScope nCk ["value"] (defScope sCheckLot) := ⟨rfl, rfl, rfl, by decide +kernel, rfl, by decide +kernel, by decide +kernel⟩
def spCk : Sp := fun vs H Q _ => ∃ (v : V) (n : Nat) (p : Nat → Bool), vs = [v] ∧ LotAt H v n p ∧ 1 ≤ n ∧ n ≤ 6 ∧ ∀ H', Same H H' → Q .non H'
theorem ok_ck {f : Addr} {fd : FuncData} {k : Nat} (F : Fun K "check_lot" "check_lot" sCheckLot f fd) (dE : DefR P w K mg base 4 "lot_error" spLe) : FnOk P w K mg base CX0 (k + 5) f fd ["value"] spCk := by
  refine F.ok scCk (fun vs H Q E h => ?_) (fun cdv A outer s H vs Q E hr h => ?_)
  · obtain ⟨v, n, p, rfl, _⟩ := h
    rfl
  · obtain ⟨v, n, p, rfl, hv, h1, h6, q⟩ := h
    refine ⟨_, pss_cons (ps_set (i := 1) scCk.nd rfl (by first | exact Or.inl rfl | exact Or.inr rfl) (pe_def dE (hr.mono (by omega)) (by rfl) (pa_cons (pv 0) pa_nil)))
      (pss_one (ps_if (pt_cmpR op_notN (pv 1) pe_non (nomark _)) pss_never pss_nil)), ?_⟩
    exact ⟨v, rfl, v, n, p, rfl, hv, h1, h6, fun H' s' => ⟨.non, rfl, rfl, _, rfl, iteNT rfl (q _ s')⟩⟩
end
end XT
namespace XT
open PySem PySem.Spec PyProof.Rows L2
section
variable {P : Program} {w : World} {K : PySem.W.Frag} {mg : Str → Option Value} {base : Heap}
theorem scTurned : FnScope ["lot", "mask", "width", "masks", "x"] ["lot", "mask"] (defScope sTurned) := ⟨rfl, rfl, rfl, by decide +kernel, rfl, by decide +kernel, by decide +kernel⟩
def spTurned : Sp := fun vs H Q _ => ∃ (v : V) (n a : Nat) (p : Nat → Bool), vs = [v, .int (a : Int)] ∧ LotAt H v n p ∧ n ≤ 6 ∧ a < 2 ^ n ∧
  ∀ H' r, Same H H' → LotAt H' r n (fun m => p (m ^^^ a)) → (lotOf n fun m => p (m ^^^ a)).length = (lotOf n p).length → Q r H'
theorem lot_nodup (n : Nat) (p : Nat → Bool) : (lotOf n p).Nodup := by
  unfold lotOf
  exact List.Pairwise.filter _ (List.nodup_range)
theorem xor_nodup (a : Nat) {l : List Nat} (h : l.Nodup) : (l.map fun (m : Nat) => ((m ^^^ a : Nat) : Int)).Nodup := by
  unfold List.Nodup at h ⊢
  rw [List.pairwise_map]
  refine h.imp fun {x y} hxy e => hxy ?_
  have e2 : x ^^^ a = y ^^^ a := by omega
  have e3 := congrArg (· ^^^ a) e2
  simpa [Nat.xor_assoc] using e3
theorem ok_turned {f : Addr} {fd : FuncData} {k : Nat} (B : Bl mg) (F : Fun K "turned" "turned" sTurned f fd) (dM : DefR P w K mg base 2 "is_mask" spMask) : FnOk P w K mg base CX0 (k + 3) f fd ["lot", "mask"] spTurned := by
  refine F.ok scTurned (fun vs H Q E h => ?_) (fun cdv A outer s H vs Q E hr h => ?_)
  · obtain ⟨v, n, a, p, rfl, _⟩ := h
    rfl
  · obtain ⟨v, n, a, p, rfl, ⟨x, y, rfl, hx, hy⟩, hn, ha, q⟩ := h
    refine ⟨_, pss_cons (ps_asg (pv 0) (pg_tup rfl (pgs_cons (pg_name (i := 2) scTurned.nd rfl (.inl rfl)) (pgs_cons (pg_name (i := 3) scTurned.nd rfl (.inl rfl)) pgs_nil))))
      (pss_cons (ps_if (pt_not (pt_val (pe_def dM (hr.mono (by omega)) (by rfl) (pa_cons (pv 1) (pa_cons (pv 2) pa_nil))))) pss_never pss_nil)
      (pss_one (ps_ret (pe_tup (pa_cons (pv 2) (pa_cons (pe_callTy call_tuple_of (by rfl) B.tuple bT (pa_cons (pe_callB cr_sortedI (by rfl) B.sorted bS (pa_cons
        (pe_lc (own := [("x", 4)]) (g := gName 4) (tt := tYes) rfl scTurned.nd (pi_tup (pv 3)) (blkOk_by (own := [("x", 4)]) (N := ["lot", "mask", "width", "masks", "x"]) (sc := defScope sTurned) (by decide +kernel))
          (fun _ _ _ _ _ => pg_name (i := 4) scTurned.nd rfl (Or.inl rfl)) (fun _ _ _ _ _ => pts_nil) (fun _ _ _ _ _ => pe_op op_xor (pv 4) (pv 1))) pa_nil)) pa_nil)) pa_nil)))))), ?_⟩
    refine ⟨.ref x, rfl, x, _, rfl, SqT.of hx, rfl, _, _, rfl, _, _, rfl, rfl, ?_⟩
    refine ⟨.int a, rfl, .int n, rfl, a, n, rfl, hn, ha, true, rfl, iteF ?_⟩
    have hl := lot_len hn p
    refine ⟨.int n, rfl, .ref y, rfl, y, rfl, ⟨_, SqT.of hy⟩, fun D nD => lcp_tup (p := fun _ => true) (f := fun v => match v with | .int i => .int (Builtin.bitXor i a) | v => v) nD (SqT.of hy) (small64 (by rw [vm_len]; omega)) (fun i z H3 hz sm => ?_) (fun H3 sm hD => ?_)⟩
    · intro R1 R2 h1 h2
      unfold vm at hz
      rw [List.getElem?_map] at hz
      obtain ⟨m, -, rfl⟩ := Option.map_eq_some_iff.mp hz
      exact ⟨rfl, iteT (B := R1 H3) ⟨_, rfl, .int a, rfl, m, a, rfl, rfl, h2 rfl _ (Same.refl _)⟩⟩
    · have e : (((vm (lotOf n p)).filter fun _ => true).map fun v => match v with | .int i => V.int (Builtin.bitXor i a) | v => v) = ((lotOf n p).map fun (m : Nat) => ((m ^^^ a : Nat) : Int)).map V.int := by
        rw [List.filter_eq_self.mpr (fun _ _ => rfl), List.map_map]
        unfold vm
        rw [List.map_map]
        refine List.map_congr_left fun m _ => ?_
        show V.int (Builtin.bitXor (m : Int) (a : Int)) = V.int ((m ^^^ a : Nat) : Int)
        rw [bx]
      rw [e] at hD
      refine ⟨D, _, rfl, SqL.of hD, fun ns L perm asc nL => ?_⟩
      have s4 : Same H3 (upd H3 L (.lst (ns.map V.int))) := same_new nL
      refine ⟨L, _, rfl, .inl ⟨SqL.of upd_same, fun T nT => ?_⟩⟩
      have s5 := same_new (o := .tup (ns.map V.int)) nT
      refine ⟨sz (n := 2) (by decide), fun U nU => ?_⟩
      have s6 := same_new (o := .tup [.int (n : Int), .ref T]) nU
      -- the masks
      have nd : ns.Nodup := by
        rw [perm.nodup_iff]
        exact xor_nodup a (lot_nodup n p)
      have hm : ns.map V.int = vm (lotOf n fun m => p (m ^^^ a)) := by
        refine rising_lot (lt_of_le_nodup ns asc nd) fun k => ?_
        rw [perm.mem_iff, List.mem_map]
        constructor
        · rintro ⟨m, hm, rfl⟩
          obtain ⟨h1, h2⟩ := mem_lot.mp hm
          exact ⟨m ^^^ a, rfl, xor_lt h1 ha, by rw [Nat.xor_assoc, Nat.xor_self, Nat.xor_zero]; exact h2⟩
        · rintro ⟨m, rfl, h1, h2⟩
          exact ⟨m ^^^ a, mem_lot.mpr ⟨xor_lt h1 ha, h2⟩, by rw [Nat.xor_assoc, Nat.xor_self, Nat.xor_zero]⟩
      refine q _ _ (((sm.trans s4).trans s5).trans s6) ⟨U, T, rfl, upd_same, ?_⟩ ?_
      · rw [upd_ne (ne_of_none upd_same nU), upd_same, hm]
      · have h1 := congrArg List.length hm
        rw [vm_len, List.length_map, perm.length_eq, List.length_map] at h1
        exact h1.symm
end
end XT
/-! common_width, at lots of one width -/
namespace XT
open PySem PySem.Spec PyProof.Rows L2
section
variable {P : Program} {w : World} {K : PySem.W.Frag} {mg : Str → Option Value} {base : Heap}
theorem scWidth : FnScope ["lots", "width", "index", "lot"] ["lots"] (defScope sWidth) := ⟨rfl, rfl, rfl, by decide +kernel, rfl, by decide +kernel, by decide +kernel⟩
abbrev Lots := List (V × (Nat → Bool))
def LotsAt (H : Hp) (ls : Lots) (n : Nat) : Prop := ls ≠ [] ∧ ls.length ≤ 8 ∧ n ≤ 6 ∧ ∀ l ∈ ls, LotAt H l.1 n l.2
theorem LotsAt.same {H H' : Hp} {ls : Lots} {n : Nat} (h : LotsAt H ls n) (e : Same H H') : LotsAt H' ls n := ⟨h.1, h.2.1, h.2.2.1, fun l hl => (h.2.2.2 l hl).same e⟩
def spWidth (K : PySem.W.Frag) : Sp := fun vs H Q _ => ∃ (t : Addr) (ls : Lots) (n : Nat), vs = [.ref t] ∧ SqT K H t (ls.map (·.1)) ∧ LotsAt H ls n ∧ ∀ H', Same H H' → Q (.int (n : Int)) H'
theorem ok_width {f : Addr} {fd : FuncData} {k : Nat} (B : Bl mg) (F : Fun K "common_width" "common_width" sWidth f fd) : FnOk P w K mg base CX0 (k + 1) f fd ["lots"] (spWidth K) := by
  refine F.ok scWidth (fun vs H Q E h => ?_) (fun cdv A outer s H vs Q E hr h => ?_)
  · obtain ⟨t, ls, n, rfl, _⟩ := h
    rfl
  · obtain ⟨t, ls, n, rfl, ht, hL, q⟩ := h
    refine ⟨_, pss_cons (ps_if (pt_cmpR op_eq (pe_callB call_len_seq (by rfl) B.len PySem.boot_len (pa_cons (pv 0) pa_nil)) pe_int (nomark _)) pss_never pss_nil)
      (pss_cons (ps_set (i := 1) scWidth.nd rfl (.inl rfl) (pe_ix ix_tup (pe_ix ix_tup (pv 0) pe_int (fun _ _ => rfl)) pe_int (fun _ _ => rfl)))
      (pss_cons (ps_for PassesOwn.never rfl (pi_enumT (by rfl) B.enumerate (pa_cons (pv 0) pa_nil)) (pg_tup rfl (pgs_cons (pg_name (i := 2) scWidth.nd rfl (.inl rfl)) (pgs_cons (pg_name (i := 3) scWidth.nd rfl (.inl rfl)) pgs_nil)))
        (pss_one (ps_if (pt_cmpR op_ne (pe_ix ix_tup (pv 3) pe_int (fun _ _ => rfl)) (pv 1) (nomark _)) pss_never pss_nil)))
      (pss_one (ps_ret (pv 1))))), ?_⟩
    obtain ⟨hne, hlen, hn, hall⟩ := hL
    obtain ⟨l0, ls', rfl⟩ : ∃ l0 ls', ls = l0 :: ls' := by
      cases ls with
      | nil => exact absurd rfl hne
      | cons a b => exact ⟨a, b, rfl⟩
    refine ⟨.ref t, rfl, t, _, rfl, .inr ht, rfl, _, rfl, ?_⟩
    have e0 : decide (V.int (((l0 :: ls').map (·.1)).length : Nat) = V.int 0) = false := by
      rw [decide_eq_false]
      intro z
      have z2 := V.int.inj z
      rw [List.map_cons, List.length_cons] at z2
      omega
    rw [e0]
    refine iteF ?_
    obtain ⟨x0, y0, e1, hx0, hy0⟩ := hall l0 List.mem_cons_self
    refine ⟨.ref t, rfl, t, _, 0, l0.1, rfl, rfl, ht, atI_nat (j := 0) rfl, x0, _, 0, .int n, e1, rfl, SqT.of hx0, rfl, ?_⟩
    refine ⟨.ref t, rfl, t, _, rfl, ht, for_enumT (K := K) (xs := (l0 :: ls').map (·.1)) (fun i σ H' => Same H H' ∧ ∃ a b, σ = [some (.ref t), some (.int (n : Int)), a, b]) ⟨Same.refl H, none, none, rfl⟩ (fun i σ H' _ h => Same.sqT h.1 ht) (fun i v σ H' T hv h nT => ?_) (fun σ H' h => ?_)⟩
    · obtain ⟨sm, a, b, rfl⟩ := h
      have sT := same_new (o := .tup [.int (i : Nat), v]) nT
      rw [List.getElem?_map] at hv
      obtain ⟨l, hl, rfl⟩ := Option.map_eq_some_iff.mp hv
      obtain ⟨x, y, ev, hx, hy⟩ := hall l (List.mem_of_getElem? hl)
      refine ⟨T, _, rfl, SqT.of upd_same, rfl, _, _, rfl, _, _, rfl, rfl, ?_⟩
      refine ⟨l.1, rfl, x, _, 0, .int n, ev, rfl, SqT.of (sT _ _ (sm _ _ hx)), rfl, .int n, rfl, rfl, _, rfl, iteNS rfl ?_⟩
      exact ⟨sm.trans sT, _, _, rfl⟩
    · obtain ⟨sm, a, b, rfl⟩ := h
      exact ⟨.int n, rfl, q H' sm⟩
theorem lots2 {H : Hp} {u v : V} {n : Nat} {p r : Nat → Bool} (hu : LotAt H u n p) (hv : LotAt H v n r) (hn : n ≤ 6) : LotsAt H [(u, p), (v, r)] n :=
  ⟨by simp, (by decide : 2 ≤ 8), hn, fun l hl => by
    rcases List.mem_cons.mp hl with rfl | hl
    · exact hu
    · rw [List.mem_singleton.mp hl]; exact hv⟩
end
end XT
namespace XT
open PySem PySem.Spec PyProof.Rows L2
section
variable {P : Program} {w : World} {K : PySem.W.Frag} {mg : Str → Option Value} {base : Heap}
theorem scLeft : FnScope ["one", "other", "width", "x"] ["one", "other"] (defScope sLeft) := ⟨rfl, rfl, rfl, by decide +kernel, rfl, by decide +kernel, by decide +kernel⟩
def spLeft : Sp := fun vs H Q _ => ∃ (v u : V) (n : Nat) (p r : Nat → Bool), vs = [v, u] ∧ LotAt H v n p ∧ LotAt H u n r ∧ n ≤ 6 ∧ ∀ H' z, Same H H' → LotAt H' z n (fun m => p m && !r m) → Q z H'
theorem ok_left {f : Addr} {fd : FuncData} {k : Nat} (B : Bl mg) (F : Fun K "left_over" "left_over" sLeft f fd) (dW : DefR P w K mg base 1 "common_width" (spWidth K)) : FnOk P w K mg base CX0 (k + 2) f fd ["one", "other"] spLeft := by
  refine F.ok scLeft (fun vs H Q E h => ?_) (fun cdv A outer s H vs Q E hr h => ?_)
  · obtain ⟨v, u, n, p, r, rfl, _⟩ := h
    rfl
  · obtain ⟨v, u, n, p, r, rfl, hv, hu, hn, q⟩ := h
    refine ⟨_, pss_cons (ps_set (i := 2) scLeft.nd rfl (.inl rfl) (pe_def dW (hr.mono (by omega)) (by rfl) (pa_cons (pe_tup (pa_cons (pv 0) (pa_cons (pv 1) pa_nil))) pa_nil)))
      (pss_one (ps_ret (pe_tup (pa_cons (pv 2) (pa_cons (pe_callTy call_tuple_of (by rfl) B.tuple bT (pa_cons
        (pe_lc (own := [("x", 3)]) (g := gName 3) (tt := tTest (tOp (rIn K true) (tVar 3) (tOp (rIxT K) (tVar 1) (tC (.int 1))))) rfl scLeft.nd (pi_tup (pe_ix ix_tup (pv 0) pe_int (fun _ _ => rfl))) (blkOk_by (own := [("x", 3)]) (N := ["one", "other", "width", "x"]) (sc := defScope sLeft) (by decide +kernel))
          (fun _ _ _ _ _ => pg_name (i := 3) scLeft.nd rfl (Or.inl rfl)) (fun _ _ _ _ _ => pts_one (pt_cmpR op_notIn_seq (pv 3) (pe_ix ix_tup (pv 1) pe_int (fun _ _ => rfl)) (by rfl))) (fun _ _ _ _ _ => pv 3)) pa_nil)) pa_nil))))), ?_⟩
    refine ⟨v, rfl, u, rfl, sz (n := 2) (by decide), fun T nT => ?_⟩
    have sT := same_new (o := .tup [v, u]) nT
    refine ⟨T, [(v, p), (u, r)], n, rfl, SqT.of upd_same, ⟨by simp, (by decide : 2 ≤ 8), hn, ?_⟩, fun H2 s2 => ?_⟩
    · intro l hl
      rcases List.mem_cons.mp hl with rfl | hl
      · exact hv.same sT
      · rw [List.mem_singleton.mp hl]; exact hu.same sT
    have hv2 := (hv.same sT).same s2
    have hu2 := (hu.same sT).same s2
    obtain ⟨x, y, rfl, hx, hy⟩ := hv2
    obtain ⟨x', y', rfl, hx', hy'⟩ := hu2
    have hl := lot_len hn p
    refine ⟨.int n, rfl, .ref x, rfl, x, _, 1, .ref y, rfl, rfl, SqT.of hx, rfl, y, rfl, ⟨_, SqT.of hy⟩, fun D nD => ?_⟩
    refine lcp_tup (p := fun z => !inV z (vm (lotOf n r))) (f := id) nD (SqT.of hy) (small64 (by rw [vm_len]; omega)) (fun i z H3 hz sm => ?_) (fun H3 sm hD => ?_)
    · intro R1 R2 h1 h2
      obtain ⟨m, hm, rfl⟩ := mem_vm hz
      refine ⟨rfl, _, rfl, .ref x', rfl, x', _, 1, .ref y', rfl, rfl, SqT.of (sm _ _ hx'), rfl, y', _, rfl, .inr (SqT.of (sm _ _ hy')), rfl, vm_flat _, _, rfl, ite2 (fun z => ?_) (fun z => ?_)⟩
      · exact ⟨_, rfl, h2 z _ (Same.refl _)⟩
      · exact h1 (by simpa using z) _ (Same.refl _)
    · have e : ((vm (lotOf n p)).filter fun z => !inV z (vm (lotOf n r))).map id = vm (lotOf n fun m => p m && !r m) := by
        rw [vm_filter (lotOf n p) (fun m => !r m) _ fun m hm => by rw [in_lot (mem_lot.mp hm).1], lot_filter]
      rw [e] at hD
      refine ⟨D, _, rfl, .inl ⟨SqL.of hD, fun L nL => ⟨sz (n := 2) (by decide), fun U nU => ?_⟩⟩⟩
      refine q _ _ ((((sT.trans s2).trans sm).trans (same_new nL)).trans (same_new nU)) ⟨U, L, rfl, upd_same, ?_⟩
      rw [upd_ne (ne_of_none upd_same nU), upd_same]
end
end XT
namespace XT
open PySem PySem.Spec PyProof.Rows L2
section
variable {P : Program} {w : World} {K : PySem.W.Frag} {mg : Str → Option Value} {base : Heap}
/-- def f( *lots): by its body -/
theorem star_ok {x : Str} {st : Stmt} {f : Addr} {fd : FuncData} {N : List Str} {k : Nat} {sp : Sp} {pv : Str} (F : Fun K x x st f fd) (S : FnScope N [pv] (defScope st))
    (hb : ∀ (kV doc pm : Value) (an : Option Addr) (cdv ct : Value) (rest : List Value), bindArgs (PySem.W.fnOf x x (defArgs st) (defBody st) (defScope st) .none kV doc pm an cdv ct) ⟨rest, []⟩ = (newTuple rest >>= fun t => pure [(pv, t)]))
    (hbody : ∀ (cdv : Value) (A : Around) (outer : List Env) (s : Shared) (H : Hp) (vs : List V) (Q : VK) (E : XK), Room k (A.deeper (envOfC x (defScope st) s.heap.objs.size f cdv)) → sp vs H Q E →
      ∃ t, PSs (cxOf CX0 P w K mg base N x (defScope st) f cdv A outer s H E).nox (defBody st) t ∧ t { nx := fun _ H' => Q .non H', rt := Q } (start N vs) H) :
    FnR P w K mg base CX0 (k + 1) f (fun vs H Q E => vs.length ≤ 1000 ∧ ∀ p, H p = none → sp [V.ref p] (upd H p (.tup vs)) Q E) := by
  obtain ⟨oc, od, kV, doc, pm, an, cdv, ct, osl, rfl, lk, hcd⟩ := F.ex
  refine (StX.fn_star (ps := []) (sp := sp) lk hcd S StX.cxUp_none (fun us rest hl => ?_) fun A outer s H vs Q E hr hsp => ?_).imp fun vs H Q E h => ⟨[], vs, rfl, rfl, sz h.1, h.2⟩
  · have e : us = [] := List.eq_nil_of_length_eq_zero hl
    subst e
    exact hb kV doc pm an cdv ct rest
  · obtain ⟨t, h1, h2⟩ := hbody cdv A outer s H vs Q E hr hsp
    exact ⟨t, h1.nox, h2⟩
def spMany (op : List Bool → Bool) : Sp := fun vs H Q _ => ∃ (ls : Lots) (n : Nat), vs = ls.map (·.1) ∧ LotsAt H ls n ∧ ∀ H' r, Same H H' → LotAt H' r n (fun m => op (ls.map fun l => l.2 m)) → Q r H'
def spManyT (K : PySem.W.Frag) (op : List Bool → Bool) : Sp := fun vs H Q _ => ∃ (t : Addr) (ls : Lots) (n : Nat), vs = [.ref t] ∧ SqT K H t (ls.map (·.1)) ∧ LotsAt H ls n ∧ ∀ H' r, Same H H' → LotAt H' r n (fun m => op (ls.map fun l => l.2 m)) → Q r H'
theorem many_of {op : List Bool → Bool} {k : Nat} {f : Addr} (h : FnR P w K mg base CX0 k f (fun vs H Q E => vs.length ≤ 1000 ∧ ∀ p, H p = none → spManyT K op [V.ref p] (upd H p (.tup vs)) Q E)) : FnR P w K mg base CX0 k f (spMany op) :=
  h.imp fun vs H Q E ⟨ls, n, ev, hL, q⟩ => by
    subst ev
    refine ⟨by rw [List.length_map]; exact Nat.le_trans hL.2.1 (by decide), fun p np => ⟨p, ls, n, rfl, SqT.of upd_same, hL.same (same_new np), fun H' r sm => q H' r ((same_new np).trans sm)⟩⟩
end
end XT
/-! {e for a in s for b in t}, ints -/
namespace XT
open PySem PySem.Spec PyProof.Rows L2
abbrev C2 (elt ta ia tb ib : Expr) (sc : Scope) (pos : Pos) : Expr := .SetComp elt [⟨ta, ia, [], 0⟩, ⟨tb, ib, [], 0⟩] sc pos
section
variable {prog : Program} {w : World} {A : Around} {R : Result → Shared → Prop} {s : Shared} {elt ta ia tb ib : Expr} {sc : Scope} {pos : Pos} {it acc : Value} {env : Env}
theorem c2_first : compTurn (C2 elt ta ia tb ib sc pos) 0 it acc env = (do
    standAt ia.pos
    match ← pyNext it with
    | none => pure (.done .next)
    | some v =>
      letOwnedTupleGo ta it v
      assign ta env v
      let x ← eval ib env
      standAt ib.pos
      let x ← foldedSetIterable ib env x
      let _ ← runOwn (.compStart (C2 elt ta ia tb ib sc pos) 1 (← holding [x] (pyIter x)) acc env) env
      again (.compLoop (C2 elt ta ia tb ib sc pos) 0 it acc env)) := by rfl
theorem c2_second : compTurn (C2 elt ta ia tb ib sc pos) 1 it acc env = (do
    standAt ib.pos
    match ← pyNext it with
    | none => pure (.done .next)
    | some v =>
      letOwnedTupleGo tb it v
      assign tb env v
      (do let v ← eval elt env; standAt elt.pos; let _ ← call (.builtin "set.add") [acc, v])
      again (.compLoop (C2 elt ta ia tb ib sc pos) 1 it acc env)) := by rfl
abbrev Out (R : Result → Shared → Prop) (M : Model) (A : Around) (env : Env) : Value → Shared → Prop := notedBy M A env fun e s2 => R (.error e) s2
theorem c2_loop0 (hs : ∀ x, foldedSetIterable ib env x = pure x) (J : Nat → Shared → Prop)
    (turn : ∀ n s, J n s → wpAny (model prog w) A (pyNext it) (fun r s1 => match r with
      | none => R (.ok .next) s1
      | some v => wpAny (model prog w) A (letOwnedTupleGo ta it v) (fun _ s2 => wpAny (model prog w) A (assign ta env v) (fun _ s3 => wpAny (model prog w) A (eval ib env) (fun x s4 => wpAny (model prog w) A (pyIter x) (fun it1 s5 =>
          codeAny (model prog w) A (.compStart (C2 elt ta ia tb ib sc pos) 1 it1 acc env) (fun r s6 => match r with
            | .ok _ => ∃ m, m < n ∧ J m s6
            | .error _ => False) s5) (Out R (model prog w) A env) s4) (Out R (model prog w) A env) s3) (Out R (model prog w) A env) s2) (Out R (model prog w) A env) s1) (Out R (model prog w) A env) s) (n : Nat) (h : J n s) :
    codeAny (model prog w) A (.compLoop (C2 elt ta ia tb ib sc pos) 0 it acc env) R s := by
  refine codeAny_loop rfl J (fun n s hJ => ?_) n h
  show wpAny _ A ((compTurn (C2 elt ta ia tb ib sc pos) 0 it acc env).onRaise (fun x => do noteFrame x env; theTreesLotGoes x)) _ _ s
  refine wpAny_noted ?_
  rw [c2_first]
  refine wpAny_bind (wpAny_standAt (wpAny_bind (wpAny_mono (turn n s hJ) (fun r s1 h1 => ?_) fun _ _ z => z)))
  match r, h1 with
  | none, h1 => exact wpAny_pure h1
  | some v, h1 =>
    refine wpAny_bind (wpAny_mono h1 (fun _ s2 h2 => wpAny_bind (wpAny_mono h2 (fun _ s3 h3 => wpAny_bind (wpAny_mono h3 (fun x s4 h4 => ?_) fun _ _ z => z)) fun _ _ z => z)) fun _ _ z => z)
    refine wpAny_bind (wpAny_standAt (wpAny_bind (wpAny_of_eq (hs x) (wpAny_bind (wpAny_holding (wpAny_mono h4 (fun it1 s5 h5 => ?_) fun _ _ z => z))))))
    refine wpAny_bind (wpAny_runOwn ?_)
    rw [Around.mark_none]
    refine codeAny_mono h5 fun r s6 hr => ?_
    match r, hr with
    | .ok f, hr => exact wpAny_pure ⟨rfl, hr⟩
    | .error e, hr => exact hr.elim
theorem c2_loop1 (J : Nat → Shared → Prop)
    (turn : ∀ n s, J n s → wpAny (model prog w) A (pyNext it) (fun r s1 => match r with
      | none => R (.ok .next) s1
      | some v => wpAny (model prog w) A (letOwnedTupleGo tb it v) (fun _ s2 => wpAny (model prog w) A (assign tb env v) (fun _ s3 => wpAny (model prog w) A (eval elt env) (fun x s4 =>
          wpAny (model prog w) A (call (.builtin "set.add") [acc, x]) (fun _ s5 => ∃ m, m < n ∧ J m s5) (Out R (model prog w) A env) s4) (Out R (model prog w) A env) s3) (Out R (model prog w) A env) s2) (Out R (model prog w) A env) s1) (Out R (model prog w) A env) s) (n : Nat) (h : J n s) :
    codeAny (model prog w) A (.compLoop (C2 elt ta ia tb ib sc pos) 1 it acc env) R s := by
  refine codeAny_loop rfl J (fun n s hJ => ?_) n h
  show wpAny _ A ((compTurn (C2 elt ta ia tb ib sc pos) 1 it acc env).onRaise (fun x => do noteFrame x env; theTreesLotGoes x)) _ _ s
  refine wpAny_noted ?_
  rw [c2_second]
  refine wpAny_bind (wpAny_standAt (wpAny_bind (wpAny_mono (turn n s hJ) (fun r s1 h1 => ?_) fun _ _ z => z)))
  match r, h1 with
  | none, h1 => exact wpAny_pure h1
  | some v, h1 =>
    refine wpAny_bind (wpAny_mono h1 (fun _ s2 h2 => wpAny_bind (wpAny_mono h2 (fun _ s3 h3 => ?_) fun _ _ z => z)) fun _ _ z => z)
    exact wpAny_bind (wpAny_bind (wpAny_mono h3 (fun x s4 h4 => wpAny_bind (wpAny_standAt (wpAny_bind (wpAny_mono h4 (fun _ s5 h5 => wpAny_pure (wpAny_pure ⟨rfl, h5⟩)) fun _ _ z => z)))) fun _ _ z => z))
theorem c2_start (k : Nat) (hk : k = 0 ∨ k = 1) (h0 : codeAny (model prog w) A (.compLoop (C2 elt ta ia tb ib sc pos) k it acc env) R s)
    (h : wpAny (model prog w) A (pyIter it) (fun it2 s2 => codeAny (model prog w) A (.compLoop (C2 elt ta ia tb ib sc pos) k it2 acc env) R s2) (Out R (model prog w) A env) s) :
    codeAny (model prog w) A (.compStart (C2 elt ta ia tb ib sc pos) k it acc env) R s := by
  rcases hk with rfl | rfl
  · refine codeAny_of_tree ?_
    show wpAny _ _ ((compStart (C2 elt ta ia tb ib sc pos) 0 it acc env).onRaise (fun x => do noteFrame x env; standAt theWindowsPlace)) _ _ s
    refine wpAny_notedAt ?_
    unfold compStart
    show wpAny _ _ (ask >>= _) _ _ s
    refine wpAny_bind (wpAny_askSetting (wpAny_ite ?_))
    split
    · exact wpAny_pure (And.intro rfl h0)
    · refine wpAny_bind (wpAny_rule ?_)
      show wpAny _ _ (standAt ia.pos >>= _) _ _ s
      exact wpAny_bind (wpAny_standAt (wpAny_bind (wpAny_mono h (fun it2 s2 h2 => wpAny_pure (And.intro rfl h2)) fun _ _ x => x)))
  · refine codeAny_of_tree ?_
    show wpAny _ _ ((compStart (C2 elt ta ia tb ib sc pos) 1 it acc env).onRaise (fun x => do noteFrame x env; standAt theWindowsPlace)) _ _ s
    refine wpAny_notedAt ?_
    unfold compStart
    show wpAny _ _ (ask >>= _) _ _ s
    refine wpAny_bind (wpAny_askSetting (wpAny_ite ?_))
    split
    · exact wpAny_pure (And.intro rfl h0)
    · refine wpAny_bind (wpAny_rule ?_)
      show wpAny _ _ (standAt ib.pos >>= _) _ _ s
      exact wpAny_bind (wpAny_standAt (wpAny_bind (wpAny_mono h (fun it2 s2 h2 => wpAny_pure (And.intro rfl h2)) fun _ _ x => x)))
end
end XT
namespace XT
open PySem PySem.Spec PyProof.Rows L2
section
variable {X : Cx}
/-- {elt for ta in ia for tb in ib}, elt an int: D the new set; vs: the block's names, vb: those of the second target -/
def tSc2 (w : World) (wa : TI) (ga : TG) (wb : TI) (gb : TG) (te : TE) (vs vb : List Nat) : TE := fun σ H Q => wa σ H fun J H1 => ∀ D, H1 D = none →
  ∃ W : Nat → Nat → Hp → Prop, (∃ m, W 0 m (upd H1 D (SetO w D (fun _ => false) 0))) ∧ ∀ i m H, W i m H →
    (J.stop i H ∧ Q (.ref D) H) ∨ (J.go i H ∧ ∃ N : Hp → Prop, (∀ H', N H' → ∃ m', m' < m ∧ W (i + 1) m' H') ∧ ∀ x H', J.yld i H x H' → ga x (wipe σ vs) H' fun σ2 H2 => wipe σ2 vs = wipe σ vs ∧
      wb σ2 H2 fun J1 H4 => ∃ W1 : Nat → Nat → Hp → Prop, (∃ m, W1 0 m H4) ∧ ∀ j k H, W1 j k H →
        (J1.stop j H ∧ N H) ∨ (J1.go j H ∧ ∃ N1 : Hp → Prop, (∀ H', N1 H' → ∃ k', k' < k ∧ W1 (j + 1) k' H') ∧ ∀ x H', J1.yld j H x H' → gb x (wipe σ2 vb) H' fun σ3 H5 => wipe σ3 vb = wipe σ2 vb ∧
          te σ3 H5 fun y H6 => rSAdd w (.ref D) [y] H6 fun _ H7 => N1 H7))
abbrev Blk (X : Cx) (sc : Scope) (p : Cx → Prop) : Prop := ∀ (s : Shared) (H : Hp) (C : Addr) (cl : List (Str × Addr)) (fp : List Addr), p (X.blk s H sc (compEnvC sc cl C X.env) fp)
theorem pe_sc2 {elt ta ia tb ib : Expr} {sc : Scope} {own : List (Str × Nat)} {vb : List Nat} {pos : Pos} {wa wb : TI} {ga gb : TG} {te : TE} (hc : X.calm = true) (hN : X.N.Nodup) (hi : PI X ta ia wa) (ok : BlkOk X.N X.env.scope sc own) (hv : ∀ i ∈ vb, i ∈ own.map (·.2))
    (hg : Blk X sc fun Y => PG Y ta ga) (hib : Blk X sc fun Y => PI Y tb ib wb) (hgb : Blk X sc fun Y => PG Y tb gb) (he : Blk X sc fun Y => PE Y elt te)
    (hs : ∀ x, foldedSetIterable ia X.env x = pure x := by intro _; rfl) (hs1 : ∀ env x, foldedSetIterable ib env x = pure x := by intro _ _; rfl) :
    PE X (C2 elt ta ia tb ib sc pos) (tSc2 X.w wa ga wb gb te (own.map (·.2)) vb) := by
  refine ⟨fun pins s σ H Q I h => ?_⟩
  rw [PpSet.eval_SetComp]
  have hfree : ∀ y ∈ sc.names, y.2 = .free → ∃ c, X.env.cells.lookup y.1 = some c := fun y hy e => (ok.free y hy e).elim (fun k => I.ok.has _ (.inl k)) fun k => I.ok.has _ (.inr k)
  refine wpAny_comprehension_free (use := none) rfl hs (closure_ok hfree) ok.kind (fun y hy e => by rw [ok.uniq y hy, e]) (thn (hi.run pins s σ H _ I h) fun xv s1 hx => thn hx fun itv s2 h2 => ?_)
  obtain ⟨it, fp, tn, J, H2, e, I2, T, st2, f2, q⟩ := h2
  subst e
  refine PpSet.newSet_ok (newEnv_comp ?_)
  generalize hD : s2.heap.objs.size = D
  have hDn : H2 D = none := I2.hok.fresh (Nat.le_of_eq hD)
  obtain ⟨W, ⟨m0, w0⟩, turn⟩ := q D hDn
  generalize hs3 : ({ s2 with heap := s2.heap.push (newS X.w) } : Shared) = s3
  have h3 : s3.heap = s2.heap.push (newS X.w) := by rw [← hs3]
  have I3 : Inv X pins σ (upd H2 D (SetO X.w D (fun _ => false) 0)) s3 := by
    rw [← hs3]
    refine I2.laid (t' := s2.toks) (fun b o e => Heap.get?_push_of_some _ e) (Nat.le_of_eq hD) ?_
    rw [← hD]
    exact setO_new (setR_fresh X.w)
  have f3 : ∀ b ∈ fp, FpOk X pins (upd H2 D (SetO X.w D (fun _ => false) 0)) b ∧ b < s3.heap.objs.size := fun b hb => by
    obtain ⟨o, e, _⟩ := T.obj _ _ st2 b hb
    have lt := Heap.lt_size e
    refine ⟨⟨?_, (f2 b hb).2⟩, by rw [h3, Heap.size_push]; exact Nat.lt_succ_of_lt lt⟩
    rw [upd_ne (by rw [← hD]; exact Nat.ne_of_lt lt)]
    exact (f2 b hb).1
  have st3 : tn 0 s3.heap := T.keep _ _ _ st2 fun b _ o e => by rw [h3]; exact Heap.get?_push_of_some _ e
  have I4 := block_start I3 ok hN f3
  have pg := hg s3 (upd H2 D (SetO X.w D (fun _ => false) 0)) s3.heap.objs.size (cellsFrom (s3.heap.objs.size + 1) sc.names (cloFrom X.env.cells sc.names [])) fp
  have pb := hib s3 (upd H2 D (SetO X.w D (fun _ => false) 0)) s3.heap.objs.size (cellsFrom (s3.heap.objs.size + 1) sc.names (cloFrom X.env.cells sc.names [])) fp
  have pgb := hgb s3 (upd H2 D (SetO X.w D (fun _ => false) 0)) s3.heap.objs.size (cellsFrom (s3.heap.objs.size + 1) sc.names (cloFrom X.env.cells sc.names [])) fp
  have pe := he s3 (upd H2 D (SetO X.w D (fun _ => false) 0)) s3.heap.objs.size (cellsFrom (s3.heap.objs.size + 1) sc.names (cloFrom X.env.cells sc.names [])) fp
  show codeAny _ _ (.compStart (C2 elt ta ia tb ib sc pos) 0 (.ref it) (.ref D) (compEnvC sc (cellsFrom (s3.heap.objs.size + 1) sc.names (cloFrom X.env.cells sc.names [])) s3.heap.objs.size X.env)) (compPost (model X.prog X.w) X.A X.xe none (EP X pins σ Q) (.ref D) s3.heap.objs.size) { s3 with heap := pushCells (s3.heap.push { cls := .type "dict", data := .dict #[] }) sc.names }
  have nfp : ∀ b ∈ fp, (upd H2 D (SetO X.w D (fun _ => false) 0)) b = none := fun b hb => (f3 b hb).1.1
  generalize hce : compEnvC sc (cellsFrom (s3.heap.objs.size + 1) sc.names (cloFrom X.env.cells sc.names [])) s3.heap.objs.size X.env = ce at I4 pg pb pgb pe ⊢
  have cL : ce.locals = s3.heap.objs.size := by subst hce; rfl
  generalize hH3 : upd H2 D (SetO X.w D (fun _ => false) 0) = H3 at I3 I4 pg pb pgb pe w0 nfp f3
  generalize hs4 : ({ s3 with heap := pushCells (s3.heap.push { cls := .type "dict", data := .dict #[] }) sc.names } : Shared) = s4 at I4 ⊢
  have st4 : tn 0 s4.heap := T.keep _ _ _ st3 fun b _ o e => by rw [← hs4]; exact pushCells_keeps _ _ _ _ (Heap.get?_push_of_some _ e)
  have stat : ∀ {σ' : L2.St} {H' : Hp} {s' : Shared}, Inv (X.blk s3 H3 sc ce fp) [] σ' H' s' → (∀ b ∈ fp, H' b = none) → ∀ b ∈ fp, FpOk (X.blk s3 H3 sc ce fp) [] H' b := fun {σ' H' s'} K' hn b hb =>
    ⟨hn b hb, (K'.ok.exf b hb).1, K'.ok.exfs b hb, .inl hb, fun x c e => (K'.ok.exf b hb).2 x c e, fun p hp => absurd (show p ∈ ([] : List (Addr × Obj)) ++ [] from hp) (by simp)⟩
  have loop : codeAny (model X.prog X.w) X.A (.compLoop (C2 elt ta ia tb ib sc pos) 0 (.ref it) (.ref D) ce) (compPost (model X.prog X.w) X.A X.xe none (EP X pins σ Q) (.ref D) s3.heap.objs.size) s4 := by
    refine c2_loop0 (hs1 ce) (fun n s' => ∃ i H', Inv (X.blk s3 H3 sc ce fp) [] (wipe σ (own.map (·.2))) H' s' ∧ tn i s'.heap ∧ (∀ b ∈ fp, H' b = none) ∧ W i n H') ?_ m0 ⟨0, H3, I4, st4, nfp, w0⟩
    rintro n s5 ⟨i, H5, I5, st5, n5, w5⟩
    rcases turn i n H5 w5 with ⟨stop, qq⟩ | ⟨go, N, hNx, step⟩
    · refine thnF (T.done (X.blk s3 H3 sc ce fp) rfl rfl rfl hc i [] s5 _ H5 (fun _ _ => False) I5 (stat I5 n5) st5 stop) fun r s6 ⟨hr, I6⟩ => ?_
      subst hr
      have I7 : Inv X pins σ H5 s6 := I3.call' (ch := fp) I6.os I6.base I6.hok I6.bare fun b hb => ⟨(f3 b hb).1.2.2.2.1, (f3 b hb).1.2.1, (f3 b hb).1.2.2.2.2.1, (f3 b hb).1.2.2.2.2.2⟩
      have nC : H5 s3.heap.objs.size = none := by
        have z : H5 ce.locals = none := I6.free
        rwa [cL] at z
      obtain ⟨m, hn, _⟩ := I6.loc
      have hn : s6.heap.Ns ce.locals m := hn
      rw [cL] at hn
      obtain ⟨z0, z1, z2, z3, z4, z5⟩ := I3.fpOk (H' := H5) (Nat.le_refl s3.heap.objs.size) nC
      exact ⟨m, hn, fun h9 sb => ⟨.ref D, H5, I7.turned (t' := s6.toks) (fun b o hb e => (sb.2 b hb).trans e) z0 z1 z3 z4 z5, rfl, qq⟩⟩
    · refine thnF (T.item (X.blk s3 H3 sc ce fp) rfl rfl rfl hc i [] s5 _ H5 (fun _ _ => False) I5 (stat I5 n5) st5 go) fun r s6 ⟨u, hr, h6⟩ => ?_
      subst hr
      refine thnF h6 fun _ s7 ⟨x, H7, I7, r7, y7, st7, n7⟩ => ?_
      refine thnF (pg.run _ s7 _ H7 x u _ (I7.pinned (stat I7 n7) (T.obj _ _ st7)) r7 (step x H7 y7)) fun _ s8 ⟨σ8, H8, I8, hw8, q8⟩ => ?_
      have len8 : (wipe σ (own.map (·.2))).length = σ8.length := by rw [← hw8, wipe_length]
      have more8 : ∀ (j : Nat) v, (wipe σ (own.map (·.2)))[j]? = some (some v) → (wipe σ8 vb)[j]? = some (some v) := fun j v e => by
        rw [← hw8] at e
        obtain ⟨e1, e2⟩ := wipe_some e
        rw [wipe_out fun z => e2 (hv j z)]
        exact e1
      have fin : ∀ {s' : Shared} {H' : Hp}, Inv (X.blk s3 H3 sc ce fp) ([] ++ pinsAt fp s7.heap) (wipe σ8 vb) H' s' → N H' →
          ∃ m, m < n ∧ ∃ i H', Inv (X.blk s3 H3 sc ce fp) [] (wipe σ (own.map (·.2))) H' s' ∧ tn i s'.heap ∧ (∀ b ∈ fp, H' b = none) ∧ W i m H' := fun {s' H'} K' nx => by
        obtain ⟨m1, hm, w1⟩ := hNx H' nx
        have old : ∀ b ∈ fp, ∀ o, s7.heap.get? b = some o → s'.heap.get? b = some o ∧ H' b = none := fun b hb o e =>
          have z := K'.pin (b, o) (List.mem_append_right _ (List.mem_append_right _ (mem_pinsAt hb e)))
          ⟨z.1, z.2.1⟩
        refine ⟨m1, hm, i + 1, H', (K'.unpinned (pins := [])).weak (by rw [wipe_length σ8 vb]; exact len8) more8, T.keep _ _ _ st7 fun b hb o e => (old b hb o e).1, fun b hb => ?_, w1⟩
        obtain ⟨o, e, _⟩ := T.obj _ _ st7 b hb
        exact (old b hb o e).2
      refine thnF (pb.run _ s8 σ8 H8 _ I8 q8) fun xv s10 hx => thnF hx fun itv s11 h11 => ?_
      obtain ⟨it1, fp1, tn1, J1, H11, e1, I11, T1, st11, f11, W1, ⟨m1, w1⟩, turn1⟩ := h11
      subst e1
      have stat1 : ∀ {H' : Hp}, (∀ b ∈ fp1, H' b = none) → ∀ b ∈ fp1, FpOk (X.blk s3 H3 sc ce fp) ([] ++ pinsAt fp s7.heap) H' b := fun hn b hb => ⟨hn b hb, (f11 b hb).2⟩
      have inner : codeAny (model X.prog X.w) X.A (.compLoop (C2 elt ta ia tb ib sc pos) 1 (.ref it1) (.ref D) ce) (fun r s' => match r with
          | .ok _ => ∃ m, m < n ∧ ∃ i H', Inv (X.blk s3 H3 sc ce fp) [] (wipe σ (own.map (·.2))) H' s' ∧ tn i s'.heap ∧ (∀ b ∈ fp, H' b = none) ∧ W i m H'
          | .error _ => False) s11 := by
        refine c2_loop1 (fun k s' => ∃ j H', Inv (X.blk s3 H3 sc ce fp) ([] ++ pinsAt fp s7.heap) (wipe σ8 vb) H' s' ∧ tn1 j s'.heap ∧ (∀ b ∈ fp1, H' b = none) ∧ W1 j k H') ?_ m1 ⟨0, H11, I11.weak (wipe_length _ _) (fun j v e => (wipe_some e).1), st11, fun b hb => (f11 b hb).1, w1⟩
        rintro k s12 ⟨j, H12, I12, st12, n12, w12⟩
        rcases turn1 j k H12 w12 with ⟨stop1, nx1⟩ | ⟨go1, N1, hN1, step1⟩
        · refine thnF (T1.done (X.blk s3 H3 sc ce fp) rfl rfl rfl hc j _ s12 (wipe σ8 vb) H12 (fun _ _ => False) I12 (stat1 n12) st12 stop1) fun r s13 ⟨hr, I13⟩ => ?_
          subst hr
          exact fin I13 nx1
        · refine thnF (T1.item (X.blk s3 H3 sc ce fp) rfl rfl rfl hc j _ s12 (wipe σ8 vb) H12 (fun _ _ => False) I12 (stat1 n12) st12 go1) fun r s13 ⟨u1, hr, h13⟩ => ?_
          subst hr
          refine thnF h13 fun _ s14 ⟨x1, H14, I14, r14, y14, st14, n14⟩ => ?_
          refine thnF (pgb.run _ s14 (wipe σ8 vb) H14 x1 u1 _ (I14.pinned (stat1 n14) (T1.obj _ _ st14)) r14 (step1 x1 H14 y14)) fun _ s15 ⟨σ15, H15, I15, hw15, q15⟩ => ?_
          refine thnF (pe.run _ s15 σ15 H15 _ I15 q15) fun z s17 ⟨yv, H17, I17, r17, q17⟩ => ?_
          refine thnF (mt_sadd (X := X.blk s3 H3 sc ce fp) _ s17 σ15 H17 (.ref D) [yv] (.ref D) [z] _ I17 rfl (.cons r17 .nil) q17) fun v s18 ⟨_, H18, I18, _, nx⟩ => ?_
          obtain ⟨m2, hm2, w2⟩ := hN1 H18 nx
          have old1 : ∀ b ∈ fp1, ∀ o, s14.heap.get? b = some o → s18.heap.get? b = some o ∧ H18 b = none := fun b hb o e =>
            have z := I18.pin (b, o) (List.mem_append_right _ (List.mem_append_right _ (mem_pinsAt hb e)))
            ⟨z.1, z.2.1⟩
          refine ⟨m2, hm2, j + 1, H18, I18.unpinned.weak (by rw [← hw15, wipe_length]) (fun j v e => by rw [← hw15] at e; exact (wipe_some e).1), T1.keep _ _ _ st14 fun b hb o e => (old1 b hb o e).1, fun b hb => ?_, w2⟩
          obtain ⟨o, e, _⟩ := T1.obj _ _ st14 b hb
          exact (old1 b hb o e).2
      exact c2_start 1 (.inr rfl) inner (T1.self X.A 0 _ _ _ st11 inner)
  exact c2_start 0 (.inl rfl) loop (T.self X.A 0 _ _ _ st4 loop)
end
end XT
namespace XT
open PySem PySem.Spec PyProof.Rows L2
section
variable {P : Program} {w : World} {K : PySem.W.Frag} {mg : Str → Option Value} {base : Heap}
theorem scUnited : FnScope ["lots", "width", "lot", "x"] ["lots"] (defScope sUnited) := ⟨rfl, rfl, rfl, by decide +kernel, rfl, by decide +kernel, by decide +kernel⟩
def HasM (n : Nat) (ls : Lots) (z : Int) : Prop := ∃ l ∈ ls, ∃ m : Nat, z = m ∧ m ∈ lotOf n l.2
theorem hasM_take {n : Nat} {ls : Lots} {i : Nat} {l : V × (Nat → Bool)} (h : ls[i]? = some l) (z : Int) : HasM n (ls.take (i + 1)) z ↔ HasM n (ls.take i) z ∨ ∃ m : Nat, z = m ∧ m ∈ lotOf n l.2 := by
  unfold HasM
  rw [List.take_add_one, h]
  constructor
  · rintro ⟨x, hx, m, h1, h2⟩
    rcases List.mem_append.mp hx with hx | hx
    · exact .inl ⟨x, hx, m, h1, h2⟩
    · have e : x = l := by simpa using hx
      subst e
      exact .inr ⟨m, h1, h2⟩
  · rintro (⟨x, hx, m, h1, h2⟩ | ⟨m, h1, h2⟩)
    · exact ⟨x, List.mem_append_left _ hx, m, h1, h2⟩
    · exact ⟨l, List.mem_append_right _ (by simp), m, h1, h2⟩
theorem ok_united {f : Addr} {fd : FuncData} {k : Nat} (B : Bl mg) (F : Fun K "united" "united" sUnited f fd) (dW : DefR P w K mg base 1 "common_width" (spWidth K)) : FnR P w K mg base CX0 (k + 2) f (spMany (fun bs => bs.any id)) := by
  refine many_of (star_ok F scUnited (fun _ _ _ _ _ _ rest => by cases rest <;> rfl) fun cdv A outer s H vs Q E hr h => ?_)
  obtain ⟨t, ls, n, rfl, ht, hL, q⟩ := h
  refine ⟨_, pss_cons (ps_set (i := 1) scUnited.nd rfl (.inl rfl) (pe_def dW (hr.mono (by omega)) (by rfl) (pa_cons (pv 0) pa_nil)))
      (pss_one (ps_ret (pe_tup (pa_cons (pv 1) (pa_cons (pe_callTy call_tuple_of (by rfl) B.tuple bT (pa_cons (pe_callB (cr_sortS rfl) (by rfl) B.sorted bS (pa_cons
        (pe_sc2 (own := [("lot", 2), ("x", 3)]) (vb := [3]) (ga := gName 2) (gb := gName 3) (wb := iTup K (tOp (rIxT K) (tVar 2) (tC (.int 1)))) (te := tVar 3) rfl scUnited.nd (pi_tup (pv 0))
          (blkOk_by (own := [("lot", 2), ("x", 3)]) (N := ["lots", "width", "lot", "x"]) (sc := defScope sUnited) (by decide +kernel)) (by decide)
          (fun _ _ _ _ _ => pg_name (i := 2) scUnited.nd rfl (Or.inl rfl)) (fun _ _ _ _ _ => pi_tup (pe_ix ix_tup (pv 2) pe_int (fun _ _ => rfl))) (fun _ _ _ _ _ => pg_name (i := 3) scUnited.nd rfl (Or.inl rfl)) (fun _ _ _ _ _ => pv 3)) pa_nil)) pa_nil)) pa_nil))))), ?_⟩
  refine ⟨.ref t, rfl, t, ls, n, rfl, ht, hL, fun H1 s1 => ?_⟩
  have ht1 := Same.sqT s1 ht
  have hL1 := hL.same s1
  obtain ⟨hne, hlen, hn, hall⟩ := hL1
  refine ⟨.int n, rfl, .ref t, rfl, t, rfl, ⟨_, ht1⟩, fun D nD => ?_⟩
  refine ⟨fun i m H => m = ls.length - i ∧ i ≤ ls.length ∧ Same H1 H ∧ ∃ S c, H D = some (SetO w D S c) ∧ c ≤ 64 * i ∧ ∀ z, S z = true ↔ HasM n (ls.take i) z, ⟨ls.length, by simp, Nat.zero_le _, same_new nD, _, 0, upd_same, by simp, fun z => by simp [HasM]⟩, ?_⟩
  rintro i m H2 ⟨rfl, hi, s2, S, c, hD, hc, hS⟩
  have ht2 := Same.sqT s2 ht1
  rcases Nat.lt_or_ge i ls.length with lt | ge
  · have gl : (ls.map (·.1))[i]? = some (ls[i].1) := by rw [List.getElem?_map, List.getElem?_eq_getElem lt]; rfl
    refine .inr ⟨⟨_, _, ht2, gl⟩, fun H' => Same H1 H' ∧ ∃ S c, H' D = some (SetO w D S c) ∧ c ≤ 64 * (i + 1) ∧ ∀ z, S z = true ↔ HasM n (ls.take (i + 1)) z, ?_, ?_⟩
    · rintro H' ⟨a, S', c', b⟩
      exact ⟨ls.length - (i + 1), by omega, rfl, lt, a, S', c', b⟩
    · rintro v H' ⟨rfl, fv⟩
      have ev : v = ls[i].1 := Option.some.inj ((fv _ ht2).symm.trans gl)
      subst ev
      obtain ⟨x, y, ex, hx, hy⟩ := hall ls[i] (List.getElem_mem lt)
      have hx2 := s2 _ _ hx
      have hy2 := s2 _ _ hy
      refine ⟨rfl, ls[i].1, rfl, x, _, 1, .ref y, ex, rfl, SqT.of hx2, rfl, y, rfl, ⟨_, SqT.of hy2⟩, ?_⟩
      have hlm := lot_len hn ls[i].2
      refine ⟨fun j k H => k = (lotOf n ls[i].2).length - j ∧ j ≤ (lotOf n ls[i].2).length ∧ Same H1 H ∧ ∃ S c, H D = some (SetO w D S c) ∧ c ≤ 64 * i + j ∧ ∀ z, S z = true ↔ HasM n (ls.take i) z ∨ ∃ m : Nat, z = m ∧ m ∈ (lotOf n ls[i].2).take j,
        ⟨_, rfl, Nat.zero_le _, s2, S, c, hD, hc, fun z => by rw [hS z]; simp⟩, ?_⟩
      rintro j k H3 ⟨rfl, hj, s3, S3, c3, hD3, hc3, hS3⟩
      have hy3 := s3 _ _ hy
      rcases Nat.lt_or_ge j (lotOf n ls[i].2).length with lt2 | ge2
      · have gm : (vm (lotOf n ls[i].2))[j]? = some (.int ((lotOf n ls[i].2)[j] : Int)) := by unfold vm; rw [List.getElem?_map, List.getElem?_eq_getElem lt2]; rfl
        refine .inr ⟨⟨_, _, SqT.of hy3, gm⟩, fun H' => Same H1 H' ∧ ∃ S c, H' D = some (SetO w D S c) ∧ c ≤ 64 * i + (j + 1) ∧ ∀ z, S z = true ↔ HasM n (ls.take i) z ∨ ∃ m : Nat, z = m ∧ m ∈ (lotOf n ls[i].2).take (j + 1), ?_, ?_⟩
        · rintro H' ⟨a, S', c', b⟩
          exact ⟨(lotOf n ls[i].2).length - (j + 1), by omega, rfl, lt2, a, S', c', b⟩
        · rintro u H' ⟨rfl, fu⟩
          have eu : u = .int ((lotOf n ls[i].2)[j] : Int) := Option.some.inj ((fu _ (SqT.of hy3)).symm.trans gm)
          subst eu
          refine ⟨rfl, _, rfl, D, _, S3, c3, rfl, rfl, hD3, ?_, ?_⟩
          · unfold scanBound; omega
          · refine ⟨fun b o e => ?_, _, _, upd_same, ?_, fun z => ?_⟩
            · rw [upd_ne (ne_of_none e nD)]
              exact s3 _ _ e
            · split <;> omega
            · rw [Bool.or_eq_true, hS3 z, decide_eq_true_iff, List.take_add_one, List.getElem?_eq_getElem lt2]
              constructor
              · rintro ((h | ⟨m, h1, h2⟩) | h)
                · exact .inl h
                · exact .inr ⟨m, h1, List.mem_append_left _ h2⟩
                · exact .inr ⟨_, h, List.mem_append_right _ (by simp)⟩
              · rintro (h | ⟨m, h1, h2⟩)
                · exact .inl (.inl h)
                · rcases List.mem_append.mp h2 with h2 | h2
                  · exact .inl (.inr ⟨m, h1, h2⟩)
                  · have e : m = (lotOf n ls[i].2)[j] := by simpa using h2
                    exact .inr (by rw [h1, e])
      · have e : j = (lotOf n ls[i].2).length := by omega
        refine .inl ⟨⟨_, SqT.of hy3, by rw [vm_len]; omega⟩, s3, S3, c3, hD3, by omega, fun z => ?_⟩
        rw [hS3 z, hasM_take (List.getElem?_eq_getElem lt), show (lotOf n ls[i].2).take j = lotOf n ls[i].2 from List.take_of_length_le (by omega)]
  · have e : i = ls.length := by omega
    refine .inl ⟨⟨_, ht2, by rw [List.length_map]; omega⟩, D, S, c, rfl, hD, fun ns L asc hm nL => ?_⟩
    have s3 := same_new (o := .lst (ns.map V.int)) nL
    refine ⟨L, _, rfl, .inl ⟨SqL.of upd_same, fun T nT => ⟨sz (n := 2) (by decide), fun U nU => ?_⟩⟩⟩
    refine q _ _ ((((s1.trans s2).trans s3).trans (same_new nT)).trans (same_new nU)) ⟨U, T, rfl, upd_same, ?_⟩
    rw [upd_ne (ne_of_none upd_same nU), upd_same, rising_lot (w := n) (P := fun m => (ls.map fun l => l.2 m).any id) asc fun z => ?_]
    rw [hm z, hS z, e, List.take_length]
    unfold HasM
    constructor
    · rintro ⟨l, hl, m, h1, h2⟩
      obtain ⟨h3, h4⟩ := mem_lot.mp h2
      exact ⟨m, h1, h3, by rw [List.any_eq_true]; exact ⟨true, List.mem_map.mpr ⟨l, hl, h4⟩, rfl⟩⟩
    · rintro ⟨m, h1, h3, h4⟩
      obtain ⟨b, hb, hb2⟩ := List.any_eq_true.mp h4
      obtain ⟨l, hl, rfl⟩ := List.mem_map.mp hb
      exact ⟨l, hl, m, h1, mem_lot.mpr ⟨h3, hb2⟩⟩
end
end XT
namespace XT
open PySem PySem.Spec PyProof.Rows L2
section
variable {P : Program} {w : World} {K : PySem.W.Frag} {mg : Str → Option Value} {base : Heap}
theorem scShared : FnScope ["lots", "width", "x", "lot"] ["lots"] (defScope sShared) := ⟨rfl, rfl, rfl, by decide +kernel, rfl, by decide +kernel, by decide +kernel⟩
def outSc : Scope := match (defBody sShared).getD 1 (.Pass ⟨0, 0, 0, 0⟩) with
  | .Return (some (.Tuple [_, .Call _ [.ListComp _ _ sc _] _ _] _ _)) _ => sc
  | _ => defScope sShared
theorem ok_shared {f : Addr} {fd : FuncData} {k : Nat} (B : Bl mg) (F : Fun K "shared" "shared" sShared f fd) (dW : DefR P w K mg base 1 "common_width" (spWidth K)) : FnR P w K mg base CX0 (k + 2) f (spMany (fun bs => bs.all id)) := by
  refine many_of (star_ok F scShared (fun _ _ _ _ _ _ rest => by cases rest <;> rfl) fun cdv A outer s H vs Q E hr h => ?_)
  obtain ⟨t, ls, n, rfl, ht, hL, q⟩ := h
  refine ⟨_, pss_cons (ps_set (i := 1) scShared.nd rfl (.inl rfl) (pe_def dW (hr.mono (by omega)) (by rfl) (pa_cons (pv 0) pa_nil)))
      (pss_one (ps_ret (pe_tup (pa_cons (pv 1) (pa_cons (pe_callTy call_tuple_of (by rfl) B.tuple bT (pa_cons
        (pe_lc (own := [("x", 2)]) (g := gName 2) (te := tVar 2)
          (tt := tTest (tCB (rAll K) (tCons (tLc (iTup K (tVar 0)) (gName 3) tYes (tOp (rIn K false) (tVar 2) (tOp (rIxT K) (tVar 3) (tC (.int 1)))) [3]) tNil)))
          rfl scShared.nd (pi_tup (pe_ix ix_tup (pe_ix ix_tup (pv 0) pe_int (fun _ _ => rfl)) pe_int (fun _ _ => rfl)))
          (blkOk_by (own := [("x", 2)]) (N := ["lots", "width", "x", "lot"]) (sc := defScope sShared) (by decide +kernel))
          (fun _ _ _ _ _ => pg_name (i := 2) scShared.nd rfl (Or.inr rfl))
          (fun _ _ _ _ _ => pts_one (pt_val (pe_callB (L2.cr_all rfl) (by rfl) B.all bAll (pa_cons
            (pe_lc (own := [("lot", 3)]) (g := gName 3) (tt := tYes) (te := tOp (rIn K false) (tVar 2) (tOp (rIxT K) (tVar 3) (tC (.int 1)))) rfl scShared.nd (pi_tup (pv 0))
              (blkOk_by (own := [("lot", 3)]) (N := ["lots", "width", "x", "lot"]) (sc := relS outSc (defScope sShared)) (by decide +kernel))
              (fun _ _ _ _ _ => pg_name (i := 3) scShared.nd rfl (Or.inl rfl)) (fun _ _ _ _ _ => pts_nil) (fun _ _ _ _ _ => pe_cmpR op_in_seq (pv 2) (pe_ix ix_tup (pv 3) pe_int (fun _ _ => rfl)) (by rfl))) pa_nil))))
          (fun _ _ _ _ _ => pv 2)) pa_nil)) pa_nil))))), ?_⟩
  refine ⟨.ref t, rfl, t, ls, n, rfl, ht, hL, fun H1 s1 => ?_⟩
  have ht1 := Same.sqT s1 ht
  have hL1 := hL.same s1
  obtain ⟨hne, hlen, hn, hall⟩ := hL1
  obtain ⟨l0, ls', rfl⟩ : ∃ l0 ls', ls = l0 :: ls' := by
    cases ls with
    | nil => exact absurd rfl hne
    | cons a b => exact ⟨a, b, rfl⟩
  obtain ⟨x0, y0, e1, hx0, hy0⟩ := hall l0 List.mem_cons_self
  have hl0 := lot_len hn l0.2
  refine ⟨.int n, rfl, .ref t, rfl, t, _, 0, l0.1, rfl, rfl, ht1, atI_nat (j := 0) rfl, x0, _, 1, .ref y0, e1, rfl, SqT.of hx0, rfl, y0, rfl, ⟨_, SqT.of hy0⟩, fun D nD => ?_⟩
  let ls : Lots := l0 :: ls'
  refine lcp_tup (p := fun v => match v with | .int i => (ls.map fun l => l.2 i.toNat).all id | _ => false) (f := id) nD (SqT.of hy0) (small64 (by rw [vm_len]; omega)) (fun i z H3 hz s3 => ?_) (fun H3 s3 hD => ?_)
  · intro R1 R2 h1 h2
    obtain ⟨m, hm, rfl⟩ := mem_vm hz
    have hm2 : m < 2 ^ n := (mem_lot.mp (List.mem_of_getElem? hm)).1
    have ht3 := Same.sqT s3 ht1
    refine ⟨rfl, .ref t, rfl, t, rfl, ⟨_, ht3⟩, fun B2 nB => ?_⟩
    refine lc_tup (K := K) (xs := ls.map (·.1)) (fun i H => PvP H3 B2 ((ls.take i).map fun l => V.bl (l.2 m)) H) ⟨same_new nB, upd_same⟩ (fun i H _ h => Same.sqT h.1 ht3) (fun i v H4 hv h => ?_) (fun H4 h => ?_)
    · rw [List.getElem?_map] at hv
      obtain ⟨l, hl, rfl⟩ := Option.map_eq_some_iff.mp hv
      obtain ⟨x, y, ex, hx, hy⟩ := hall l (List.mem_of_getElem? hl)
      refine pvp_turn (y := .bl (l.2 m)) (keep := true) nB h ?_ ?_ _ ?_
      · rw [List.length_map, List.length_take]
        exact small64 (Nat.le_trans (Nat.min_le_right _ _) (Nat.le_trans hlen (by decide)))
      · intro R3 R4 h3 h4
        refine ⟨rfl, iteT (B := R3 H4) ⟨_, rfl, l.1, rfl, x, _, 1, .ref y, ex, rfl, SqT.of (h.1 _ _ (s3 _ _ hx)), rfl, y, _, rfl, .inr (SqT.of (h.1 _ _ (s3 _ _ hy))), rfl, vm_flat _, ?_⟩⟩
        show R4 (.bl (inV (.int (m : Int)) (vm (lotOf n l.2)))) H4
        rw [in_lot hm2]
        exact h4 rfl _ (Same.refl _)
      · rw [List.take_add_one, hl, List.map_append]
        rfl
    · have hB := h.2
      rw [List.length_map, List.take_length] at hB
      refine ⟨B2, ls.map fun l => l.2 m, rfl, SqL.of ?_, _, rfl, ite2 (fun z => ?_) (fun z => ?_)⟩
      · rw [hB, List.map_map]
        rfl
      · exact ⟨_, rfl, h2 z _ h.1⟩
      · exact h1 (by simpa using z) _ h.1
  · have e : ((vm (lotOf n l0.2)).filter fun v => match v with | .int i => (ls.map fun l => l.2 i.toNat).all id | _ => false).map id = vm (lotOf n fun m => (ls.map fun l => l.2 m).all id) := by
      rw [vm_filter (lotOf n l0.2) (fun m => (ls.map fun l => l.2 m).all id) _ fun m hm => rfl, lot_filter]
      congr 1
      refine lot_congr fun m _ => ?_
      show (l0.2 m && (l0.2 m && (ls'.map fun l => l.2 m).all id)) = (l0.2 m && (ls'.map fun l => l.2 m).all id)
      cases l0.2 m <;> rfl
    rw [e] at hD
    refine ⟨D, _, rfl, .inl ⟨SqL.of hD, fun T nT => ⟨sz (n := 2) (by decide), fun U nU => ?_⟩⟩⟩
    refine q _ _ (((s1.trans s3).trans (same_new nT)).trans (same_new nU)) ⟨U, T, rfl, upd_same, ?_⟩
    rw [upd_ne (ne_of_none upd_same nU), upd_same]
end
end XT
namespace XT
open PySem PySem.Spec PyProof.Rows L2
section
variable {P : Program} {w : World} {K : PySem.W.Frag} {mg : Str → Option Value} {base : Heap}
theorem scRest : FnScope ["lot", "width", "masks", "x"] ["lot"] (defScope sRest) := ⟨rfl, rfl, rfl, by decide +kernel, rfl, by decide +kernel, by decide +kernel⟩
def spRest : Sp := fun vs H Q _ => ∃ (v : V) (n : Nat) (p : Nat → Bool), vs = [v] ∧ LotAt H v n p ∧ n ≤ 6 ∧ ∀ H' r, Same H H' → LotAt H' r n (fun m => !p m) → Q r H'
theorem ok_rest {f : Addr} {fd : FuncData} {k : Nat} (B : Bl mg) (F : Fun K "rest_of" "rest_of" sRest f fd) : FnOk P w K mg base CX0 (k + 1) f fd ["lot"] spRest := by
  refine F.ok scRest (fun vs H Q E h => ?_) (fun cdv A outer s H vs Q E hr h => ?_)
  · obtain ⟨v, n, p, rfl, _⟩ := h
    rfl
  · obtain ⟨v, n, p, rfl, ⟨x, y, rfl, hx, hy⟩, hn, q⟩ := h
    refine ⟨_, pss_cons (ps_asg (pv 0) (pg_tup rfl (pgs_cons (pg_name (i := 1) scRest.nd rfl (.inl rfl)) (pgs_cons (pg_name (i := 2) scRest.nd rfl (.inr rfl)) pgs_nil))))
      (pss_one (ps_ret (pe_tup (pa_cons (pv 1) (pa_cons (pe_callTy call_tuple_of (by rfl) B.tuple bT (pa_cons
        (pe_lc (own := [("x", 3)]) (g := gName 3) (tt := tTest (tOp (rIn K true) (tVar 3) (tVar 2))) rfl scRest.nd (pi_range1 (by rfl) B.range (pa_cons (pe_op op_shl pe_int (pv 1)) pa_nil)) (blkOk_by (own := [("x", 3)]) (N := ["lot", "width", "masks", "x"]) (sc := defScope sRest) (by decide +kernel))
          (fun _ _ _ _ _ => pg_name (i := 3) scRest.nd rfl (Or.inl rfl)) (fun _ _ _ _ _ => pts_one (pt_cmpR op_notIn_seq (pv 3) (pv 2) (by rfl))) (fun _ _ _ _ _ => pv 3)) pa_nil)) pa_nil))))), ?_⟩
    refine ⟨.ref x, rfl, x, _, rfl, SqT.of hx, rfl, _, _, rfl, _, _, rfl, rfl, ?_⟩
    refine ⟨.int n, rfl, .int n, rfl, 1, n, rfl, rfl, cpow hn, ((2 ^ n : Nat) : Int), congrArg (fun z => [V.int z]) (shl1 n), l62, r62 hn, fun D nD => ?_⟩
    have h6 := pow6 hn
    refine lcp_range (n := 2 ^ n) (p := fun m => !p m) (f := fun m => .int (m : Int)) nD (small64 (by omega)) (fun i H3 hi sm => ?_) (fun H3 sm hD => ?_)
    · intro R1 R2 h1 h2
      refine ⟨rfl, _, rfl, .ref y, rfl, y, _, rfl, .inr (SqT.of (sm _ _ hy)), rfl, vm_flat _, _, rfl, ?_⟩
      have e : inV (.int (0 + (i : Int))) (vm (lotOf n p)) = p i := by
        rw [Int.zero_add]; exact in_lot hi
      show if (!inV (.int (0 + (i : Int))) (vm (lotOf n p))) = true then _ else _
      rw [e]
      refine ite2 (fun z => ?_) (fun z => ?_)
      · refine ⟨.int (0 + (i : Int)), rfl, ?_⟩
        rw [Int.zero_add]
        exact h2 z _ (Same.refl _)
      · exact h1 (by simpa using z) _ (Same.refl _)
    · refine ⟨D, _, rfl, .inl ⟨SqL.of hD, fun T nT => ⟨sz (n := 2) (by decide), fun U nU => ?_⟩⟩⟩
      refine q _ _ ((sm.trans (same_new nT)).trans (same_new nU)) ⟨U, T, rfl, upd_same, ?_⟩
      rw [upd_ne (ne_of_none upd_same nU), upd_same]
      rfl
end
end XT
/-! sums of lots as numbers -/
namespace XT
open PySem PySem.Spec PyProof.Rows L2
/-- how many numbers below N the set has -/
def cnt (N : Nat) (S : Int → Bool) : Nat := ((List.range N).filter fun (m : Nat) => S (m : Int)).length
theorem cnt_le (N : Nat) (S : Int → Bool) : cnt N S ≤ N := by
  unfold cnt
  refine Nat.le_trans (List.length_filter_le _ _) ?_
  rw [List.length_range]
  exact Nat.le_refl _
theorem cnt_succ (N : Nat) (S : Int → Bool) : cnt (N + 1) S = cnt N S + if S (N : Int) = true then 1 else 0 := by
  unfold cnt
  rw [List.range_succ, List.filter_append, List.length_append]
  by_cases h : S (N : Int) = true
  · simp [h]
  · simp [h]
theorem cnt_old {N m : Nat} (S : Int → Bool) (h : N ≤ m) : cnt N (fun j => S j || decide (j = (m : Int))) = cnt N S := by
  unfold cnt
  congr 1
  refine List.filter_congr fun x hx => ?_
  have h2 := List.mem_range.mp hx
  show (S (x : Int) || decide ((x : Int) = (m : Int))) = S (x : Int)
  rw [decide_eq_false (by omega), Bool.or_false]
theorem cnt_add {m : Nat} (S : Int → Bool) : ∀ {N : Nat}, m < N → cnt N (fun j => S j || decide (j = (m : Int))) = if S (m : Int) = true then cnt N S else cnt N S + 1
  | 0, h => absurd h (Nat.not_lt_zero _)
  | N + 1, h => by
    rw [cnt_succ, cnt_succ]
    by_cases e : m = N
    · subst e
      rw [cnt_old S (Nat.le_refl _)]
      by_cases hS : S (m : Int) = true
      · simp [hS]
      · simp [hS]
    · rw [cnt_add S (show m < N by omega), decide_eq_false (show ¬((N : Int) = (m : Int)) by omega), Bool.or_false]
      by_cases hS : S (m : Int) = true
      · simp [hS]
      · simp [hS]; omega
/-- the sum of two lots -/
def addB (n : Nat) (p r : Nat → Bool) (m : Nat) : Bool := (List.range (2 ^ n)).any fun x => p x && r (x ^^^ m)
theorem add_iff {n : Nat} {p r : Nat → Bool} {m : Nat} : addB n p r m = true ↔ ∃ x, x < 2 ^ n ∧ p x = true ∧ r (x ^^^ m) = true := by
  unfold addB
  rw [List.any_eq_true]
  constructor
  · rintro ⟨x, h1, h2⟩
    rw [Bool.and_eq_true] at h2
    exact ⟨x, List.mem_range.mp h1, h2.1, h2.2⟩
  · rintro ⟨x, h1, h2, h3⟩
    exact ⟨x, List.mem_range.mpr h1, by rw [h2, h3]; rfl⟩
def zeroB (m : Nat) : Bool := decide (m = 0)
def sumB (n : Nat) (ps : List (Nat → Bool)) : Nat → Bool := ps.foldl (addB n) zeroB
theorem lot_zero (n : Nat) : lotOf n zeroB = [0] := by
  have h : ∀ N, 0 < N → (List.range N).filter zeroB = [0] := by
    intro N hN
    obtain ⟨k, rfl⟩ : ∃ k, N = k + 1 := ⟨N - 1, by omega⟩
    rw [List.range_succ_eq_map, List.filter_cons]
    have e : (List.filter zeroB (List.map Nat.succ (List.range k))) = [] := by
      rw [List.filter_eq_nil_iff]
      intro a ha
      obtain ⟨b, _, rfl⟩ := List.mem_map.mp ha
      simp [zeroB]
    rw [e]
    rfl
  exact h _ (pow0 n)
theorem sum_take {n : Nat} {ps : List (Nat → Bool)} {i : Nat} {p : Nat → Bool} (h : ps[i]? = some p) : sumB n (ps.take (i + 1)) = addB n (sumB n (ps.take i)) p := by
  unfold sumB
  rw [List.take_add_one, h, List.foldl_append]
  rfl
theorem add_congr {n : Nat} {p p' r r' : Nat → Bool} {m : Nat} (hm : m < 2 ^ n) (h1 : ∀ x, x < 2 ^ n → p x = p' x) (h2 : ∀ x, x < 2 ^ n → r x = r' x) : addB n p r m = addB n p' r' m := by
  rw [Bool.eq_iff_iff, add_iff, add_iff]
  constructor
  · rintro ⟨x, a, b, c⟩
    exact ⟨x, a, by rw [← h1 x a]; exact b, by rw [← h2 _ (xor_lt a hm)]; exact c⟩
  · rintro ⟨x, a, b, c⟩
    exact ⟨x, a, by rw [h1 x a]; exact b, by rw [h2 _ (xor_lt a hm)]; exact c⟩
theorem add_zero' {n : Nat} {p : Nat → Bool} {m : Nat} (hm : m < 2 ^ n) : addB n zeroB p m = p m := by
  rw [Bool.eq_iff_iff, add_iff]
  constructor
  · rintro ⟨x, a, b, c⟩
    have : x = 0 := of_decide_eq_true b
    subst this
    rwa [Nat.zero_xor] at c
  · intro h
    exact ⟨0, pow0 n, rfl, by rw [Nat.zero_xor]; exact h⟩
theorem add_comm' {n : Nat} {p r : Nat → Bool} {m : Nat} (hm : m < 2 ^ n) : addB n p r m = addB n r p m := by
  have go : ∀ {p r : Nat → Bool}, addB n p r m = true → addB n r p m = true := fun {p r} h => by
    obtain ⟨x, a, b, c⟩ := add_iff.mp h
    exact add_iff.mpr ⟨x ^^^ m, xor_lt a hm, c, by rw [xor_back]; exact b⟩
  rw [Bool.eq_iff_iff]
  exact ⟨go, go⟩
theorem add_assoc' {n : Nat} {p r o : Nat → Bool} {m : Nat} (hm : m < 2 ^ n) : addB n (addB n p r) o m = addB n p (addB n r o) m := by
  rw [Bool.eq_iff_iff, add_iff, add_iff]
  constructor
  · rintro ⟨x, a, b, c⟩
    obtain ⟨y, a2, b2, c2⟩ := add_iff.mp b
    refine ⟨y, a2, b2, add_iff.mpr ⟨y ^^^ x, xor_lt a2 a, c2, ?_⟩⟩
    have e : y ^^^ x ^^^ (y ^^^ m) = x ^^^ m := by rw [Nat.xor_comm y x, Nat.xor_assoc, ← Nat.xor_assoc y y m, Nat.xor_self, Nat.zero_xor]
    rw [e]
    exact c
  · rintro ⟨y, a2, b2, c⟩
    obtain ⟨z, a, c2, c3⟩ := add_iff.mp c
    refine ⟨y ^^^ z, xor_lt a2 a, add_iff.mpr ⟨y, a2, b2, ?_⟩, ?_⟩
    · have e : y ^^^ (y ^^^ z) = z := by rw [← Nat.xor_assoc, Nat.xor_self, Nat.zero_xor]
      rw [e]
      exact c2
    · have e : y ^^^ z ^^^ m = z ^^^ (y ^^^ m) := by rw [Nat.xor_comm y z, Nat.xor_assoc]
      rw [e]
      exact c3
/-- the greatest addend of p for r -/
def gaB (n : Nat) (p r : Nat → Bool) (m : Nat) : Bool := (lotOf n p).all fun x => r (x ^^^ m)
theorem ga_iff {n : Nat} {p r : Nat → Bool} {m : Nat} : gaB n p r m = true ↔ ∀ x, x < 2 ^ n → p x = true → r (x ^^^ m) = true := by
  unfold gaB
  rw [List.all_eq_true]
  exact ⟨fun h x a b => h x (mem_lot.mpr ⟨a, b⟩), fun h x hx => h x (mem_lot.mp hx).1 (mem_lot.mp hx).2⟩
/-! sums as numbers -/
theorem sum1 {n : Nat} {p : Nat → Bool} {m : Nat} (hm : m < 2 ^ n) : sumB n [p] m = p m := add_zero' hm
theorem sum2 {n : Nat} {p r : Nat → Bool} {m : Nat} (hm : m < 2 ^ n) : sumB n [p, r] m = addB n p r m := add_congr hm (fun _ h => add_zero' h) fun _ _ => rfl
theorem sum3 {n : Nat} {p r o : Nat → Bool} {m : Nat} (hm : m < 2 ^ n) : sumB n [p, r, o] m = addB n (addB n p r) o m := add_congr hm (fun _ h => sum2 h) fun _ _ => rfl
theorem add_or {n : Nat} {p r o : Nat → Bool} {m : Nat} : addB n p (fun x => r x || o x) m = (addB n p r m || addB n p o m) := by
  rw [Bool.eq_iff_iff, Bool.or_eq_true, add_iff, add_iff, add_iff]
  constructor
  · rintro ⟨x, a, b, c⟩
    rcases Bool.or_eq_true_iff.mp c with c | c
    · exact .inl ⟨x, a, b, c⟩
    · exact .inr ⟨x, a, b, c⟩
  · rintro (⟨x, a, b, c⟩ | ⟨x, a, b, c⟩)
    · exact ⟨x, a, b, by rw [c]; rfl⟩
    · exact ⟨x, a, b, by rw [c, Bool.or_true]⟩
def oneB (a m : Nat) : Bool := decide (m = a)
theorem lot_one {n a : Nat} (ha : a < 2 ^ n) : vm (lotOf n (oneB a)) = [.int (a : Int)] := by
  refine (rising_lot (ns := [(a : Int)]) (by simp) fun k => ?_).symm
  constructor
  · intro h
    have : k = (a : Int) := by simpa using h
    exact ⟨a, this, ha, decide_eq_true rfl⟩
  · rintro ⟨m, h1, h2, h3⟩
    have : m = a := of_decide_eq_true h3
    rw [h1, this]
    exact List.mem_singleton.mpr rfl
theorem add_one {n a : Nat} {p : Nat → Bool} {m : Nat} (ha : a < 2 ^ n) (hm : m < 2 ^ n) : addB n (oneB a) p m = p (m ^^^ a) := by
  rw [Bool.eq_iff_iff, add_iff]
  constructor
  · rintro ⟨x, a', b, c⟩
    have : x = a := of_decide_eq_true b
    subst this
    rwa [Nat.xor_comm] at c
  · intro h
    exact ⟨a, ha, decide_eq_true rfl, by rw [Nat.xor_comm]; exact h⟩
theorem lot_mono {n : Nat} {p r : Nat → Bool} (h : ∀ m, m < 2 ^ n → p m = true → r m = true) : (lotOf n p).length ≤ (lotOf n r).length := by
  unfold lotOf
  rw [← List.countP_eq_length_filter, ← List.countP_eq_length_filter]
  exact List.countP_mono_left fun m hm => h m (List.mem_range.mp hm)
theorem nodup_le : ∀ {l m : List Nat}, l.Nodup → l ⊆ m → l.length ≤ m.length
  | [], _, _, _ => Nat.zero_le _
  | x :: l, m, h, s => by
    obtain ⟨h1, h2⟩ := List.nodup_cons.mp h
    have hx : x ∈ m := s List.mem_cons_self
    have h3 := nodup_le (l := l) (m := m.erase x) h2 fun y hy => (List.mem_erase_of_ne (fun e => h1 (by rw [← e]; exact hy))).mpr (s (List.mem_cons_of_mem _ hy))
    rw [List.length_erase_of_mem hx] at h3
    have h4 : 0 < m.length := List.length_pos_of_mem hx
    rw [List.length_cons]
    omega
theorem lot_len_xor {n a : Nat} {p : Nat → Bool} (ha : a < 2 ^ n) : (lotOf n fun m => p (m ^^^ a)).length = (lotOf n p).length := by
  have sub : ∀ {p : Nat → Bool}, (lotOf n p).length ≤ (lotOf n fun m => p (m ^^^ a)).length := fun {p} => by
    have h1 : ((lotOf n p).map fun (m : Nat) => m ^^^ a).Nodup := by
      have h := nodup_lot n p
      unfold List.Nodup at h ⊢
      rw [List.pairwise_map]
      refine h.imp fun {x y} hxy e => hxy ?_
      have e3 := congrArg (· ^^^ a) e
      simpa [Nat.xor_assoc] using e3
    have h2 : ((lotOf n p).map fun (m : Nat) => m ^^^ a) ⊆ (lotOf n fun m => p (m ^^^ a)) := by
      intro z hz
      obtain ⟨m, hm, rfl⟩ := List.mem_map.mp hz
      obtain ⟨h3, h4⟩ := mem_lot.mp hm
      exact mem_lot.mpr ⟨xor_lt h3 ha, by rw [xor_back]; exact h4⟩
    have h3 := nodup_le h1 h2
    rw [List.length_map] at h3
    exact h3
  refine Nat.le_antisymm ?_ sub
  have h := sub (p := fun m => p (m ^^^ a))
  have e : (lotOf n fun m => p (m ^^^ a ^^^ a)) = lotOf n p := lot_congr fun m _ => by rw [xor_back]
  rw [e] at h
  exact h
end XT
/-! sum_of, at lots of one width -/
namespace XT
open PySem PySem.Spec PyProof.Rows L2
section
variable {P : Program} {w : World} {K : PySem.W.Frag} {mg : Str → Option Value} {base : Heap}
abbrev nSu : List Str := ["lots", "width", "reached", "lot", "x", "y"]
theorem scSu : FnScope nSu ["lots"] (defScope sSumOf) := ⟨rfl, rfl, rfl, by decide +kernel, rfl, by decide +kernel, by decide +kernel⟩
def spSum : Sp := fun vs H Q _ => ∃ (ls : Lots) (n : Nat), vs = ls.map (·.1) ∧ LotsAt H ls n ∧ ∀ H' r, Same H H' → LotAt H' r n (sumB n (ls.map (·.2))) → Q r H'
def spSumT (K : PySem.W.Frag) : Sp := fun vs H Q _ => ∃ (t : Addr) (ls : Lots) (n : Nat), vs = [.ref t] ∧ SqT K H t (ls.map (·.1)) ∧ LotsAt H ls n ∧ ∀ H' r, Same H H' → LotAt H' r n (sumB n (ls.map (·.2))) → Q r H'
theorem sum_of' {k : Nat} {f : Addr} (h : FnR P w K mg base CX0 k f (fun vs H Q E => vs.length ≤ 1000 ∧ ∀ p, H p = none → spSumT K [V.ref p] (upd H p (.tup vs)) Q E)) : FnR P w K mg base CX0 k f spSum :=
  h.imp fun vs H Q E ⟨ls, n, ev, hL, q⟩ => by
    subst ev
    refine ⟨by rw [List.length_map]; exact Nat.le_trans hL.2.1 (by decide), fun p np => ⟨p, ls, n, rfl, SqT.of upd_same, hL.same (same_new np), fun H' r sm => q H' r ((same_new np).trans sm)⟩⟩
/-- what the set has behind some x, and some y of the next x -/
def XorM (as bs : List Nat) (i j : Nat) (z : Int) : Prop := (∃ x ∈ as.take i, ∃ y ∈ bs, z = ((x ^^^ y : Nat) : Int)) ∨ ∃ x, as[i]? = some x ∧ ∃ y ∈ bs.take j, z = ((x ^^^ y : Nat) : Int)
theorem ok_sum {f : Addr} {fd : FuncData} {k : Nat} (B : Bl mg) (F : Fun K "sum_of" "sum_of" sSumOf f fd) (dW : DefR P w K mg base 1 "common_width" (spWidth K)) : FnR P w K mg base CX0 (k + 2) f spSum := by
  refine sum_of' (star_ok F scSu (fun _ _ _ _ _ _ rest => by cases rest <;> rfl) fun cdv A outer s H vs Q E hr h => ?_)
  obtain ⟨t, ls, n, rfl, ht, hL, q⟩ := h
  refine ⟨_, pss_cons (ps_set (i := 1) scSu.nd rfl (by first | exact Or.inl rfl | exact Or.inr rfl) (pe_def dW (hr.mono (by omega)) (by rfl) (pa_cons (pv 0) pa_nil)))
      (pss_cons (ps_set (i := 2) scSu.nd rfl (by first | exact Or.inl rfl | exact Or.inr rfl) (pe_lst (pa_cons pe_int pa_nil)))
      (pss_cons (ps_for PassesOwn.never rfl (pi_tup (pv 0)) (pg_name (i := 3) scSu.nd rfl (by first | exact Or.inl rfl | exact Or.inr rfl))
        (pss_one (ps_set (i := 2) scSu.nd rfl (by first | exact Or.inl rfl | exact Or.inr rfl) (pe_callB (cr_sortS rfl) (by rfl) B.sorted bS (pa_cons
          (pe_sc2 (own := [("x", 4), ("y", 5)]) (vb := [5]) (ga := gName 4) (gb := gName 5) (wb := iTup K (tOp (rIxT K) (tVar 3) (tC (.int 1)))) (te := tOp rXor (tVar 4) (tVar 5)) rfl scSu.nd (pi_list (pv 2))
            (blkOk_by (own := [("x", 4), ("y", 5)]) (N := nSu) (sc := defScope sSumOf) (by decide +kernel)) (by decide)
            (fun _ _ _ _ _ => pg_name (i := 4) scSu.nd rfl (Or.inl rfl)) (fun _ _ _ _ _ => pi_tup (pe_ix ix_tup (pv 3) pe_int (fun _ _ => rfl))) (fun _ _ _ _ _ => pg_name (i := 5) scSu.nd rfl (Or.inl rfl)) (fun _ _ _ _ _ => pe_op op_xor (pv 4) (pv 5))) pa_nil)))))
      (pss_one (ps_ret (pe_tup (pa_cons (pv 1) (pa_cons (pe_callTy call_tuple_of (by rfl) B.tuple bT (pa_cons (pv 2) pa_nil)) pa_nil))))))), ?_⟩
  refine ⟨.ref t, rfl, t, ls, n, rfl, ht, hL, fun H1 s1 => ?_⟩
  have ht1 := Same.sqT s1 ht
  have hL1 := hL.same s1
  obtain ⟨hne, hlen, hn, hall⟩ := hL1
  have h6 := pow6 hn
  refine ⟨sz (n := 1) (by decide), fun R0 nR0 => ?_⟩
  have sR := same_new (o := .lst [.int 0]) nR0
  refine ⟨.ref t, rfl, t, rfl, ⟨_, Same.sqT sR ht1⟩, for_tup (K := K) (xs := ls.map (·.1)) (fun i σ H' => Same H1 H' ∧ ∃ (R : Addr) (z3 : Option V), σ = [some (.ref t), some (.int (n : Int)), some (.ref R), z3, none, none] ∧ H' R = some (.lst (vm (lotOf n (sumB n ((ls.map (·.2)).take i)))))) ⟨sR, R0, none, rfl, ?_⟩ (fun i σ H' _ h => Same.sqT h.1 ht1) (fun i v σ H2 hv h => ?_) (fun σ H2 h => ?_)⟩
  · rw [upd_same]
    show some (HO.lst [V.int 0]) = some (.lst (vm (lotOf n zeroB)))
    rw [lot_zero]
    rfl
  · obtain ⟨sm, R, z3, rfl, hR⟩ := h
    rw [List.getElem?_map] at hv
    obtain ⟨l, hl, rfl⟩ := Option.map_eq_some_iff.mp hv
    obtain ⟨x, y, ex, hx, hy⟩ := hall l (List.mem_of_getElem? hl)
    have hx2 := sm _ _ hx
    have hy2 := sm _ _ hy
    have eps : (ls.map (·.2))[i]? = some l.2 := by rw [List.getElem?_map, hl]; rfl
    obtain ⟨as, eas⟩ : ∃ as, as = lotOf n (sumB n ((ls.map (·.2)).take i)) := ⟨_, rfl⟩
    obtain ⟨bs, ebs⟩ : ∃ bs, bs = lotOf n l.2 := ⟨_, rfl⟩
    rw [← eas] at hR
    rw [← ebs] at hy2 hy
    have las : ∀ m ∈ as, m < 2 ^ n := fun m hm => by rw [eas] at hm; exact (mem_lot.mp hm).1
    have lbs : ∀ m ∈ bs, m < 2 ^ n := fun m hm => by rw [ebs] at hm; exact (mem_lot.mp hm).1
    refine ⟨.ref R, rfl, R, rfl, ⟨_, SqL.of hR⟩, fun D nD => ?_⟩
    refine ⟨fun a m H => m = as.length - a ∧ a ≤ as.length ∧ Same H2 H ∧ ∃ S, H D = some (SetO w D S (cnt (2 ^ n) S)) ∧ ∀ z, S z = true ↔ XorM as bs a 0 z, ⟨as.length, by simp, Nat.zero_le _, same_new nD, fun _ => false, ?_, fun z => by simp [XorM]⟩, ?_⟩
    · rw [upd_same]
      congr 2
      unfold cnt
      rw [List.filter_eq_nil_iff.mpr fun _ _ => Bool.false_ne_true]
      rfl
    rintro a m H3 ⟨rfl, ha, s3, S, hD, hS⟩
    have hR3 := s3 _ _ hR
    rcases Nat.lt_or_ge a as.length with lt | ge
    · have ga : (vm as)[a]? = some (.int (as[a] : Int)) := by unfold vm; rw [List.getElem?_map, List.getElem?_eq_getElem lt]; rfl
      have hla : as[a] < 2 ^ n := las _ (List.getElem_mem lt)
      refine .inr ⟨⟨_, _, SqL.of hR3, ga⟩, fun H' => Same H2 H' ∧ ∃ S, H' D = some (SetO w D S (cnt (2 ^ n) S)) ∧ ∀ z, S z = true ↔ XorM as bs (a + 1) 0 z, ?_, ?_⟩
      · rintro H' ⟨e, S', b⟩
        exact ⟨as.length - (a + 1), by omega, rfl, lt, e, S', b⟩
      · rintro v H' ⟨rfl, fv⟩
        have ev : v = .int (as[a] : Int) := Option.some.inj ((fv _ (SqL.of hR3)).symm.trans ga)
        subst ev
        refine ⟨rfl, l.1, rfl, x, _, 1, .ref y, ex, rfl, SqT.of (s3 _ _ hx2), rfl, y, rfl, ⟨_, SqT.of (s3 _ _ hy2)⟩, ?_⟩
        refine ⟨fun j k H => k = bs.length - j ∧ j ≤ bs.length ∧ Same H2 H ∧ ∃ S, H D = some (SetO w D S (cnt (2 ^ n) S)) ∧ ∀ z, S z = true ↔ XorM as bs a j z, ⟨_, rfl, Nat.zero_le _, s3, S, hD, hS⟩, ?_⟩
        rintro j k H4 ⟨rfl, hj, s4, S4, hD4, hS4⟩
        have hy4 := s4 _ _ hy2
        rcases Nat.lt_or_ge j bs.length with lt2 | ge2
        · have gb : (vm bs)[j]? = some (.int (bs[j] : Int)) := by unfold vm; rw [List.getElem?_map, List.getElem?_eq_getElem lt2]; rfl
          have hlb : bs[j] < 2 ^ n := lbs _ (List.getElem_mem lt2)
          refine .inr ⟨⟨_, _, SqT.of hy4, gb⟩, fun H' => Same H2 H' ∧ ∃ S, H' D = some (SetO w D S (cnt (2 ^ n) S)) ∧ ∀ z, S z = true ↔ XorM as bs a (j + 1) z, ?_, ?_⟩
          · rintro H' ⟨e, S', b⟩
            exact ⟨bs.length - (j + 1), by omega, rfl, lt2, e, S', b⟩
          · rintro u H' ⟨rfl, fu⟩
            have eu : u = .int (bs[j] : Int) := Option.some.inj ((fu _ (SqT.of hy4)).symm.trans gb)
            subst eu
            have cl := cnt_le (2 ^ n) S4
            refine ⟨rfl, _, rfl, _, rfl, (as[a] : Int), (bs[j] : Int), rfl, rfl, D, ((as[a] ^^^ bs[j] : Nat) : Int), S4, _, rfl, congrArg (fun z => [V.int z]) (bx _ _), hD4, ?_, fun b o e => ?_, fun z => S4 z || decide (z = ((as[a] ^^^ bs[j] : Nat) : Int)), ?_, fun z => ?_⟩
            · unfold scanBound; omega
            · rw [upd_ne (ne_of_none e nD)]
              exact s4 _ _ e
            · rw [upd_same, cnt_add S4 (xor_lt hla hlb)]
              rfl
            · rw [Bool.or_eq_true, hS4 z, decide_eq_true_iff]
              unfold XorM
              rw [List.take_add_one, List.getElem?_eq_getElem lt2]
              constructor
              · rintro ((h | ⟨x', h1, y', h2, h3⟩) | h)
                · exact .inl h
                · exact .inr ⟨x', h1, y', List.mem_append_left _ h2, h3⟩
                · exact .inr ⟨as[a], List.getElem?_eq_getElem lt, bs[j], List.mem_append_right _ (by simp), h⟩
              · rintro (h | ⟨x', h1, y', h2, h3⟩)
                · exact .inl (.inl h)
                · rcases List.mem_append.mp h2 with h2 | h2
                  · exact .inl (.inr ⟨x', h1, y', h2, h3⟩)
                  · have e : y' = bs[j] := by simpa using h2
                    rw [List.getElem?_eq_getElem lt] at h1
                    rw [h3, e, ← Option.some.inj h1]
                    exact .inr rfl
        · refine .inl ⟨⟨_, SqT.of hy4, by rw [vm_len]; omega⟩, s4, S4, hD4, fun z => ?_⟩
          rw [hS4 z]
          unfold XorM
          rw [List.take_of_length_le ge2, List.take_add_one, List.getElem?_eq_getElem lt]
          constructor
          · rintro (⟨x', h1, y', h2, h3⟩ | ⟨x', h1, y', h2, h3⟩)
            · exact .inl ⟨x', List.mem_append_left _ h1, y', h2, h3⟩
            · exact .inl ⟨x', List.mem_append_right _ (by rw [← Option.some.inj h1]; simp), y', h2, h3⟩
          · rintro (⟨x', h1, y', h2, h3⟩ | ⟨x', h1, y', h2, h3⟩)
            · rcases List.mem_append.mp h1 with h1 | h1
              · exact .inl ⟨x', h1, y', h2, h3⟩
              · have e : x' = as[a] := by simpa using h1
                exact .inr ⟨as[a], rfl, y', h2, by rw [← e]; exact h3⟩
            · simp at h2
    · refine .inl ⟨⟨_, SqL.of hR3, by rw [vm_len]; omega⟩, D, S, _, rfl, hD, fun ns L asc hm nL => ?_⟩
      have s5 := same_new (o := .lst (ns.map V.int)) nL
      refine ⟨(sm.trans s3).trans s5, L, _, rfl, ?_⟩
      rw [upd_same, sum_take eps, rising_lot (w := n) (P := addB n (sumB n ((ls.map (·.2)).take i)) l.2) asc fun z => ?_]
      rw [hm z, hS z]
      unfold XorM
      rw [List.take_of_length_le ge]
      constructor
      · rintro (⟨x', h1, y', h2, h3⟩ | ⟨x', h1, y', h2, h3⟩)
        · rw [eas] at h1
          rw [ebs] at h2
          obtain ⟨h4, h5⟩ := mem_lot.mp h1
          obtain ⟨h6', h7⟩ := mem_lot.mp h2
          exact ⟨x' ^^^ y', h3, xor_lt h4 h6', add_iff.mpr ⟨x', h4, h5, by rw [← Nat.xor_assoc, Nat.xor_self, Nat.zero_xor]; exact h7⟩⟩
        · simp at h2
      · rintro ⟨m, h1, h2, h3⟩
        obtain ⟨x', h4, h5, h6'⟩ := add_iff.mp h3
        refine .inl ⟨x', by rw [eas]; exact mem_lot.mpr ⟨h4, h5⟩, x' ^^^ m, by rw [ebs]; exact mem_lot.mpr ⟨xor_lt h4 h2, h6'⟩, ?_⟩
        rw [← Nat.xor_assoc, Nat.xor_self, Nat.zero_xor]
        exact h1
  · obtain ⟨sm, R, z3, rfl, hR⟩ := h
    rw [List.length_map, List.take_of_length_le (by rw [List.length_map]; exact Nat.le_refl _)] at hR
    refine ⟨.int n, rfl, .ref R, rfl, R, _, rfl, .inl ⟨SqL.of hR, fun T nT => ⟨sz (n := 2) (by decide), fun U nU => ?_⟩⟩⟩
    refine q _ _ (((s1.trans sm).trans (same_new nT)).trans (same_new nU)) ⟨U, T, rfl, upd_same, ?_⟩
    rw [upd_ne (ne_of_none upd_same nU), upd_same]
end
end XT
/-! the methods of MaskSet at valid sets -/
namespace XT
open PySem PySem.Spec PyProof.Rows L2
/-- facts of the class -/
structure MsC (K : PySem.W.Frag) (C : Addr) : Prop where
  cl : Cls K C
  nH : NoAttr K C "held"
  sf : PySem.W.selfFirst K C = true
section
variable {P : Program} {w : World} {K : PySem.W.Frag} {mg : Str → Option Value} {base : Heap} {C : Addr}
theorem scMsI : FnScope ["self", "lot"] ["self", "lot"] (defScope sMsInit) := ⟨rfl, rfl, rfl, by decide +kernel, rfl, by decide +kernel, by decide +kernel⟩
theorem ok_msI {f : Addr} {fd : FuncData} {k : Nat} (T : MsC K C) (F : Fun K "__init__" "MaskSet.__init__" sMsInit f fd) (dC : DefR P w K mg base 5 "check_lot" spCk) : FnOk P w K mg base CX0 (k + 6) f fd ["self", "lot"] (spMi C) := by
  refine F.ok scMsI (fun vs H Q E h => ?_) (fun cdv A outer s H vs Q E hr h => ?_)
  · obtain ⟨a, dx, v, n, p, rfl, _⟩ := h
    rfl
  · obtain ⟨a, dx, v, n, p, rfl, ha, hv, h1, h6, q⟩ := h
    refine ⟨_, pss_cons (ps_expr (pe_def dC (hr.mono (by omega)) (by rfl) (pa_cons (pv 1) pa_nil))) (pss_one (ps_fld (pv 0) (pv 1) rfl)), ?_⟩
    exact ⟨v, rfl, v, n, p, rfl, hv, h1, h6, fun H' s' => ⟨v, rfl, .ref a, rfl, a, C, dx, _, rfl, s' _ _ ha, T.cl, T.nH, (by decide), q _ s'⟩⟩
theorem scMsG {st : Stmt} (h : FnScope ["self"] ["self"] (defScope st)) : FnScope ["self"] ["self"] (defScope st) := h
theorem scMsLot : FnScope ["self"] ["self"] (defScope sMsLot) := ⟨rfl, rfl, rfl, by decide +kernel, rfl, by decide +kernel, by decide +kernel⟩
abbrev spMsLot (C : Addr) : Sp := spM1 C fun _ _ _ v r => r = v
theorem ok_msLot {f : Addr} {fd : FuncData} {k : Nat} (T : MsC K C) (F : Fun K "lot" "MaskSet.lot" sMsLot f fd) : FnOk P w K mg base CX0 (k + 1) f fd ["self"] (spMsLot C) := by
  refine F.ok scMsLot (fun vs H Q E h => ?_) (fun cdv A outer s H vs Q E hr h => ?_)
  · obtain ⟨z, v, n, p, rfl, _⟩ := h
    rfl
  · obtain ⟨z, v, n, p, rfl, ⟨⟨a, dx, rfl, ha⟩, hv⟩, h1, h6, q⟩ := h
    refine ⟨_, pss_one (ps_ret (pe_fld (pv 0) rfl)), ?_⟩
    exact ⟨.ref a, rfl, a, C, dx, _, _, rfl, ha, T.cl, T.nH, rfl, q _ _ (Same.refl _) rfl⟩
theorem scMsXor : FnScope ["self", "other"] ["self", "other"] (defScope sMsXor) := ⟨rfl, rfl, rfl, by decide +kernel, rfl, by decide +kernel, by decide +kernel⟩
abbrev spMsXor (C : Addr) : Sp := spMX C fun n p m H o => IsMs C H o n (fun x => p (x ^^^ m))
theorem ok_msXor {f : Addr} {fd : FuncData} {k : Nat} (F : Fun K "__xor__" "MaskSet.__xor__" sMsXor f fd) (dL : PropR P w K mg base 1 C "lot" (spMsLot C)) (dT : DefR P w K mg base 3 "turned" spTurned) (dM : MakeR P w K mg base 6 C "MaskSet" (spMi C)) : FnOk P w K mg base CX0 (k + 8) f fd ["self", "other"] (spMsXor C) := by
  refine F.ok scMsXor (fun vs H Q E h => ?_) (fun cdv A outer s H vs Q E hr h => ?_)
  · obtain ⟨z, v, n, m, p, rfl, _⟩ := h
    rfl
  · obtain ⟨z, v, n, m, p, rfl, hz, h1, h6, hm, q⟩ := h
    refine ⟨_, pss_one (ps_ret (pe_mkR dM (hr.mono (by omega)) (by rfl) (pa_cons (pe_def dT (hr.mono (by omega)) (by rfl) (pa_cons (pe_propR (pv 0) dL (hr.mono (by omega))) (pa_cons (pv 1) pa_nil))) pa_nil))), ?_⟩
    obtain ⟨a, dx, ez, ha⟩ := hz.1
    refine ⟨z, rfl, a, dx, _, ez, ha, z, v, n, p, by rw [ez], hz, h1, h6, fun H1 r s1 er => ?_⟩
    subst er
    refine ⟨.int m, rfl, r, n, m, p, rfl, hz.2.same s1, h6, hm, fun H2 z2 s2 g2 _ => ms_make g2 h1 h6 fun H3 z3 s3 g3 => q _ _ ((s1.trans s2).trans s3) ⟨_, g3⟩⟩
theorem scMsInvert : FnScope ["self"] ["self"] (defScope sMsInvert) := ⟨rfl, rfl, rfl, by decide +kernel, rfl, by decide +kernel, by decide +kernel⟩
abbrev spMsInv (C : Addr) : Sp := spM1 C fun n p H _ o => IsMs C H o n (fun x => !p x)
theorem ok_msInv {f : Addr} {fd : FuncData} {k : Nat} (F : Fun K "__invert__" "MaskSet.__invert__" sMsInvert f fd) (dL : PropR P w K mg base 1 C "lot" (spMsLot C)) (dR : DefR P w K mg base 1 "rest_of" spRest) (dM : MakeR P w K mg base 6 C "MaskSet" (spMi C)) : FnOk P w K mg base CX0 (k + 8) f fd ["self"] (spMsInv C) := by
  refine F.ok scMsInvert (fun vs H Q E h => ?_) (fun cdv A outer s H vs Q E hr h => ?_)
  · obtain ⟨z, v, n, p, rfl, _⟩ := h
    rfl
  · obtain ⟨z, v, n, p, rfl, hz, h1, h6, q⟩ := h
    refine ⟨_, pss_one (ps_ret (pe_mkR dM (hr.mono (by omega)) (by rfl) (pa_cons (pe_def dR (hr.mono (by omega)) (by rfl) (pa_cons (pe_propR (pv 0) dL (hr.mono (by omega))) pa_nil)) pa_nil))), ?_⟩
    obtain ⟨a, dx, ez, ha⟩ := hz.1
    refine ⟨z, rfl, a, dx, _, ez, ha, z, v, n, p, by rw [ez], hz, h1, h6, fun H1 r s1 er => ?_⟩
    subst er
    exact ⟨r, n, p, rfl, hz.2.same s1, h6, fun H2 z2 s2 g2 => ms_make g2 h1 h6 fun H3 z3 s3 g3 => q _ _ ((s1.trans s2).trans s3) ⟨_, g3⟩⟩
theorem scMsOr : FnScope ["self", "other"] ["self", "other"] (defScope sMsOr) := ⟨rfl, rfl, rfl, by decide +kernel, rfl, by decide +kernel, by decide +kernel⟩
abbrev spMsOr (C : Addr) : Sp := spM2 C fun n p r H o => IsMs C H o n (fun m => p m || r m)
theorem ok_msOr {f : Addr} {fd : FuncData} {k : Nat} (F : Fun K "__or__" "MaskSet.__or__" sMsOr f fd) (dL : PropR P w K mg base 1 C "lot" (spMsLot C)) (dT : DefR P w K mg base 2 "united" (spMany fun bs => bs.any id)) (dM : MakeR P w K mg base 6 C "MaskSet" (spMi C)) : FnOk P w K mg base CX0 (k + 8) f fd ["self", "other"] (spMsOr C) := by
  refine F.ok scMsOr (fun vs H Q E h => ?_) (fun cdv A outer s H vs Q E hr h => ?_)
  · obtain ⟨z, z', v, v', n, p, r, rfl, _⟩ := h
    rfl
  · obtain ⟨z, z', v, v', n, p, r, rfl, hz, hz', h1, h6, q⟩ := h
    refine ⟨_, pss_one (ps_ret (pe_mkR dM (hr.mono (by omega)) (by rfl) (pa_cons (pe_def dT (hr.mono (by omega)) (by rfl) (pa_cons (pe_propR (pv 0) dL (hr.mono (by omega))) (pa_cons (pe_propR (pv 1) dL (hr.mono (by omega))) pa_nil))) pa_nil))), ?_⟩
    obtain ⟨a, dx, ez, ha⟩ := hz.1
    obtain ⟨a', dx', ez', ha'⟩ := hz'.1
    refine ⟨z, rfl, a, dx, _, ez, ha, z, v, n, p, by rw [ez], hz, h1, h6, fun H1 r1 s1 er => ?_⟩
    subst er
    refine ⟨z', rfl, a', dx', _, ez', s1 _ _ ha', z', v', n, r, by rw [ez'], hz'.same s1, h1, h6, fun H2 r2 s2 er => ?_⟩
    subst er
    have s12 := s1.trans s2
    refine ⟨[(r1, p), (r2, r)], n, rfl, lots2 (hz.2.same s12) (hz'.2.same s12) h6, fun H3 z3 s3 g3 => ms_make g3 h1 h6 fun H4 z4 s4 g4 => q _ _ ((s12.trans s3).trans s4) ⟨_, g4.congr (fun m hm => by simp)⟩⟩
theorem scMsAnd : FnScope ["self", "other"] ["self", "other"] (defScope sMsAnd) := ⟨rfl, rfl, rfl, by decide +kernel, rfl, by decide +kernel, by decide +kernel⟩
abbrev spMsAnd (C : Addr) : Sp := spM2 C fun n p r H o => IsMs C H o n (fun m => p m && r m)
theorem ok_msAnd {f : Addr} {fd : FuncData} {k : Nat} (F : Fun K "__and__" "MaskSet.__and__" sMsAnd f fd) (dL : PropR P w K mg base 1 C "lot" (spMsLot C)) (dT : DefR P w K mg base 2 "shared" (spMany fun bs => bs.all id)) (dM : MakeR P w K mg base 6 C "MaskSet" (spMi C)) : FnOk P w K mg base CX0 (k + 8) f fd ["self", "other"] (spMsAnd C) := by
  refine F.ok scMsAnd (fun vs H Q E h => ?_) (fun cdv A outer s H vs Q E hr h => ?_)
  · obtain ⟨z, z', v, v', n, p, r, rfl, _⟩ := h
    rfl
  · obtain ⟨z, z', v, v', n, p, r, rfl, hz, hz', h1, h6, q⟩ := h
    refine ⟨_, pss_one (ps_ret (pe_mkR dM (hr.mono (by omega)) (by rfl) (pa_cons (pe_def dT (hr.mono (by omega)) (by rfl) (pa_cons (pe_propR (pv 0) dL (hr.mono (by omega))) (pa_cons (pe_propR (pv 1) dL (hr.mono (by omega))) pa_nil))) pa_nil))), ?_⟩
    obtain ⟨a, dx, ez, ha⟩ := hz.1
    obtain ⟨a', dx', ez', ha'⟩ := hz'.1
    refine ⟨z, rfl, a, dx, _, ez, ha, z, v, n, p, by rw [ez], hz, h1, h6, fun H1 r1 s1 er => ?_⟩
    subst er
    refine ⟨z', rfl, a', dx', _, ez', s1 _ _ ha', z', v', n, r, by rw [ez'], hz'.same s1, h1, h6, fun H2 r2 s2 er => ?_⟩
    subst er
    have s12 := s1.trans s2
    refine ⟨[(r1, p), (r2, r)], n, rfl, lots2 (hz.2.same s12) (hz'.2.same s12) h6, fun H3 z3 s3 g3 => ms_make g3 h1 h6 fun H4 z4 s4 g4 => q _ _ ((s12.trans s3).trans s4) ⟨_, g4.congr (fun m hm => by simp)⟩⟩
theorem scMsSub : FnScope ["self", "other"] ["self", "other"] (defScope sMsSub) := ⟨rfl, rfl, rfl, by decide +kernel, rfl, by decide +kernel, by decide +kernel⟩
abbrev spMsSub (C : Addr) : Sp := spM2 C fun n p r H o => IsMs C H o n (fun m => p m && !r m)
theorem ok_msSub {f : Addr} {fd : FuncData} {k : Nat} (F : Fun K "__sub__" "MaskSet.__sub__" sMsSub f fd) (dL : PropR P w K mg base 1 C "lot" (spMsLot C)) (dT : DefR P w K mg base 2 "left_over" (spLeft)) (dM : MakeR P w K mg base 6 C "MaskSet" (spMi C)) : FnOk P w K mg base CX0 (k + 8) f fd ["self", "other"] (spMsSub C) := by
  refine F.ok scMsSub (fun vs H Q E h => ?_) (fun cdv A outer s H vs Q E hr h => ?_)
  · obtain ⟨z, z', v, v', n, p, r, rfl, _⟩ := h
    rfl
  · obtain ⟨z, z', v, v', n, p, r, rfl, hz, hz', h1, h6, q⟩ := h
    refine ⟨_, pss_one (ps_ret (pe_mkR dM (hr.mono (by omega)) (by rfl) (pa_cons (pe_def dT (hr.mono (by omega)) (by rfl) (pa_cons (pe_propR (pv 0) dL (hr.mono (by omega))) (pa_cons (pe_propR (pv 1) dL (hr.mono (by omega))) pa_nil))) pa_nil))), ?_⟩
    obtain ⟨a, dx, ez, ha⟩ := hz.1
    obtain ⟨a', dx', ez', ha'⟩ := hz'.1
    refine ⟨z, rfl, a, dx, _, ez, ha, z, v, n, p, by rw [ez], hz, h1, h6, fun H1 r1 s1 er => ?_⟩
    subst er
    refine ⟨z', rfl, a', dx', _, ez', s1 _ _ ha', z', v', n, r, by rw [ez'], hz'.same s1, h1, h6, fun H2 r2 s2 er => ?_⟩
    subst er
    have s12 := s1.trans s2
    exact ⟨r1, r2, n, p, r, rfl, hz.2.same s12, hz'.2.same s12, h6, fun H3 z3 s3 g3 => ms_make g3 h1 h6 fun H4 z4 s4 g4 => q _ _ ((s12.trans s3).trans s4) ⟨_, g4⟩⟩
theorem scMsAdd : FnScope ["self", "other"] ["self", "other"] (defScope sMsAdd) := ⟨rfl, rfl, rfl, by decide +kernel, rfl, by decide +kernel, by decide +kernel⟩
abbrev spMsAdd (C : Addr) : Sp := spM2 C fun n p r H o => IsMs C H o n (fun m => addB n p r m)
theorem ok_msAdd {f : Addr} {fd : FuncData} {k : Nat} (F : Fun K "__add__" "MaskSet.__add__" sMsAdd f fd) (dL : PropR P w K mg base 1 C "lot" (spMsLot C)) (dT : DefR P w K mg base 2 "sum_of" (spSum)) (dM : MakeR P w K mg base 6 C "MaskSet" (spMi C)) : FnOk P w K mg base CX0 (k + 8) f fd ["self", "other"] (spMsAdd C) := by
  refine F.ok scMsAdd (fun vs H Q E h => ?_) (fun cdv A outer s H vs Q E hr h => ?_)
  · obtain ⟨z, z', v, v', n, p, r, rfl, _⟩ := h
    rfl
  · obtain ⟨z, z', v, v', n, p, r, rfl, hz, hz', h1, h6, q⟩ := h
    refine ⟨_, pss_one (ps_ret (pe_mkR dM (hr.mono (by omega)) (by rfl) (pa_cons (pe_def dT (hr.mono (by omega)) (by rfl) (pa_cons (pe_propR (pv 0) dL (hr.mono (by omega))) (pa_cons (pe_propR (pv 1) dL (hr.mono (by omega))) pa_nil))) pa_nil))), ?_⟩
    obtain ⟨a, dx, ez, ha⟩ := hz.1
    obtain ⟨a', dx', ez', ha'⟩ := hz'.1
    refine ⟨z, rfl, a, dx, _, ez, ha, z, v, n, p, by rw [ez], hz, h1, h6, fun H1 r1 s1 er => ?_⟩
    subst er
    refine ⟨z', rfl, a', dx', _, ez', s1 _ _ ha', z', v', n, r, by rw [ez'], hz'.same s1, h1, h6, fun H2 r2 s2 er => ?_⟩
    subst er
    have s12 := s1.trans s2
    refine ⟨[(r1, p), (r2, r)], n, rfl, lots2 (hz.2.same s12) (hz'.2.same s12) h6, fun H3 z3 s3 g3 => ms_make g3 h1 h6 fun H4 z4 s4 g4 => q _ _ ((s12.trans s3).trans s4) ⟨_, g4.congr (fun m hm => sum2 hm)⟩⟩
end
end XT
/-! MaskSet: width, masks, len, bool, == -/
namespace XT
open PySem PySem.Spec PyProof.Rows L2
section
variable {P : Program} {w : World} {K : PySem.W.Frag} {mg : Str → Option Value} {base : Heap} {C : Addr}
theorem scMsWidth : FnScope ["self"] ["self"] (defScope sMsWidth) := ⟨rfl, rfl, rfl, by decide +kernel, rfl, by decide +kernel, by decide +kernel⟩
abbrev spMsWidth (C : Addr) : Sp := spM1 C fun n _ _ _ r => r = .int (n : Int)
theorem ok_msWidth {f : Addr} {fd : FuncData} {k : Nat} (T : MsC K C) (F : Fun K "width" "MaskSet.width" sMsWidth f fd) : FnOk P w K mg base CX0 (k + 1) f fd ["self"] (spMsWidth C) := by
  refine F.ok scMsWidth (fun vs H Q E h => ?_) (fun cdv A outer s H vs Q E hr h => ?_)
  · obtain ⟨z, v, n, p, rfl, _⟩ := h
    rfl
  · obtain ⟨z, v, n, p, rfl, hz, h1, h6, q⟩ := h
    obtain ⟨⟨a, dx, rfl, ha⟩, hv⟩ := id hz
    obtain ⟨x, y, ex, hx, hy⟩ := id hv
    refine ⟨_, pss_one (ps_ret (pe_ix ix_tup (pe_fld (pv 0) rfl) pe_int (fun _ _ => rfl))), ?_⟩
    exact ⟨.ref a, rfl, a, C, dx, _, _, rfl, ha, T.cl, T.nH, rfl, x, _, 0, .int n, ex, rfl, SqT.of hx, rfl, q _ _ (Same.refl _) rfl⟩
theorem scMsMasks : FnScope ["self"] ["self"] (defScope sMsMasks) := ⟨rfl, rfl, rfl, by decide +kernel, rfl, by decide +kernel, by decide +kernel⟩
abbrev spMsMasks (C : Addr) : Sp := spM1 C fun n p H _ r => TupAt H r (lotOf n p)
theorem ok_msMasks {f : Addr} {fd : FuncData} {k : Nat} (T : MsC K C) (F : Fun K "masks" "MaskSet.masks" sMsMasks f fd) : FnOk P w K mg base CX0 (k + 1) f fd ["self"] (spMsMasks C) := by
  refine F.ok scMsMasks (fun vs H Q E h => ?_) (fun cdv A outer s H vs Q E hr h => ?_)
  · obtain ⟨z, v, n, p, rfl, _⟩ := h
    rfl
  · obtain ⟨z, v, n, p, rfl, hz, h1, h6, q⟩ := h
    obtain ⟨⟨a, dx, rfl, ha⟩, hv⟩ := id hz
    obtain ⟨x, y, ex, hx, hy⟩ := id hv
    refine ⟨_, pss_one (ps_ret (pe_ix ix_tup (pe_fld (pv 0) rfl) pe_int (fun _ _ => rfl))), ?_⟩
    exact ⟨.ref a, rfl, a, C, dx, _, _, rfl, ha, T.cl, T.nH, rfl, x, _, 1, .ref y, ex, rfl, SqT.of hx, rfl, q _ _ (Same.refl _) ⟨y, rfl, hy⟩⟩
theorem scMsLen : FnScope ["self"] ["self"] (defScope sMsLen) := ⟨rfl, rfl, rfl, by decide +kernel, rfl, by decide +kernel, by decide +kernel⟩
abbrev spMsLen (C : Addr) : Sp := spM1 C fun n p _ _ r => r = .int ((lotOf n p).length : Int)
theorem ok_msLen {f : Addr} {fd : FuncData} {k : Nat} (B : Bl mg) (T : MsC K C) (F : Fun K "__len__" "MaskSet.__len__" sMsLen f fd) : FnOk P w K mg base CX0 (k + 1) f fd ["self"] (spMsLen C) := by
  refine F.ok scMsLen (fun vs H Q E h => ?_) (fun cdv A outer s H vs Q E hr h => ?_)
  · obtain ⟨z, v, n, p, rfl, _⟩ := h
    rfl
  · obtain ⟨z, v, n, p, rfl, hz, h1, h6, q⟩ := h
    obtain ⟨⟨a, dx, rfl, ha⟩, hv⟩ := id hz
    obtain ⟨x, y, ex, hx, hy⟩ := id hv
    refine ⟨_, pss_one (ps_ret (pe_callB call_len_seq (by rfl) B.len PySem.boot_len (pa_cons (pe_ix ix_tup (pe_fld (pv 0) rfl) pe_int (fun _ _ => rfl)) pa_nil))), ?_⟩
    refine ⟨.ref a, rfl, a, C, dx, _, _, rfl, ha, T.cl, T.nH, rfl, x, _, 1, .ref y, ex, rfl, SqT.of hx, rfl, y, _, rfl, .inr (SqT.of hy), ?_⟩
    rw [vm_len]
    exact q _ _ (Same.refl _) rfl
theorem scMsBool : FnScope ["self"] ["self"] (defScope sMsBool) := ⟨rfl, rfl, rfl, by decide +kernel, rfl, by decide +kernel, by decide +kernel⟩
abbrev spMsBool (C : Addr) : Sp := spM1 C fun n p _ _ r => r = .bl (decide (lotOf n p ≠ []))
theorem ok_msBool {f : Addr} {fd : FuncData} {k : Nat} (B : Bl mg) (T : MsC K C) (F : Fun K "__bool__" "MaskSet.__bool__" sMsBool f fd) : FnOk P w K mg base CX0 (k + 1) f fd ["self"] (spMsBool C) := by
  refine F.ok scMsBool (fun vs H Q E h => ?_) (fun cdv A outer s H vs Q E hr h => ?_)
  · obtain ⟨z, v, n, p, rfl, _⟩ := h
    rfl
  · obtain ⟨z, v, n, p, rfl, hz, h1, h6, q⟩ := h
    obtain ⟨⟨a, dx, rfl, ha⟩, hv⟩ := id hz
    obtain ⟨x, y, ex, hx, hy⟩ := id hv
    refine ⟨_, pss_one (ps_ret (pe_cmpR op_gt (pe_callB call_len_seq (by rfl) B.len PySem.boot_len (pa_cons (pe_ix ix_tup (pe_fld (pv 0) rfl) pe_int (fun _ _ => rfl)) pa_nil)) pe_int (nomark _))), ?_⟩
    refine ⟨.ref a, rfl, a, C, dx, _, _, rfl, ha, T.cl, T.nH, rfl, x, _, 1, .ref y, ex, rfl, SqT.of hx, rfl, y, _, rfl, .inr (SqT.of hy), _, _, rfl, rfl, q _ _ (Same.refl _) (congrArg V.bl ?_)⟩
    rw [vm_len, Bool.eq_iff_iff, decide_eq_true_iff, decide_eq_true_iff, ← List.length_pos_iff]
    omega
theorem scMsEq : FnScope ["self", "other"] ["self", "other"] (defScope sMsEq) := ⟨rfl, rfl, rfl, by decide +kernel, rfl, by decide +kernel, by decide +kernel⟩
abbrev spMsEq (C : Addr) : Sp := spM2 C fun n p r _ o => o = .bl (decide (∀ m, m < 2 ^ n → p m = r m))
theorem ok_msEq {f : Addr} {fd : FuncData} {k : Nat} (B : Bl mg) (hC : mg "MaskSet" = some (.ref C)) (ist : ∀ {H : Hp} {a dx : Addr} {fs : List (Str × V)}, H a = some (.ins C dx fs) → TyX K H (.ref a) (.ref C)) (dL : PropR P w K mg base 1 C "lot" (spMsLot C)) (F : Fun K "__eq__" "MaskSet.__eq__" sMsEq f fd) : FnOk P w K mg base CX0 (k + 3) f fd ["self", "other"] (spMsEq C) := by
  refine F.ok scMsEq (fun vs H Q E h => ?_) (fun cdv A outer s H vs Q E hr h => ?_)
  · obtain ⟨z, z', v, v', n, p, r, rfl, _⟩ := h
    rfl
  · obtain ⟨z, z', v, v', n, p, r, rfl, hz, hz', h1, h6, q⟩ := h
    obtain ⟨a, dx, ez, ha⟩ := id hz.1
    obtain ⟨a', dx', ez', ha'⟩ := id hz'.1
    refine ⟨_, pss_one (ps_ret (pe_and (pe_callB call_isi (by rfl) B.isinstance bI (pa_cons (pv 1) (pa_cons (pe_glob (v := .ref C) (by rfl) hC rfl) pa_nil))) (pe_one (pe_cmpR (op_eqD hr.units) (pe_propR (pv 0) dL (hr.mono (by omega))) (pe_propR (pv 1) dL (hr.mono (by omega))) (nomark _))))), ?_⟩
    refine ⟨z', rfl, z', .ref C, _, _, true, rfl, .own _, by rw [ez']; exact ist ha', kit_me, true, rfl, iteT ?_⟩
    refine ⟨z, rfl, a, dx, _, ez, ha, z, v, n, p, by rw [ez], hz, h1, h6, fun H1 r1 s1 er => ?_⟩
    subst er
    refine ⟨z', rfl, a', dx', _, ez', s1 _ _ ha', z', v', n, r, by rw [ez'], hz'.same s1, h1, h6, fun H2 r2 s2 er => ?_⟩
    subst er
    have s12 := s1.trans s2
    exact eq_lots (hz.2.same s12) (hz'.2.same s12) (q _ _ s12 rfl)
end
end XT
/-! pair counts -/
namespace XT
open PySem PySem.Spec PyProof.Rows L2
def pcN (n : Nat) (p : Nat → Bool) (m : Nat) : Nat := ((lotOf n p).filter fun x => p (x ^^^ m)).length
def pcL (n : Nat) (p : Nat → Bool) : List Nat := (List.range (2 ^ n)).map (pcN n p)
def spPc : Sp := fun vs H Q _ => ∃ (v : V) (n : Nat) (p : Nat → Bool), vs = [v] ∧ LotAt H v n p ∧ n ≤ 6 ∧ ∀ H' z, Same H H' → TupAt H' z (pcL n p) → Q z H'
abbrev ttPc (K : PySem.W.Frag) : TT := tTest (tOp (rIn K false) (tOp rXor (tVar 4) (tVar 3)) (tVar 2))
abbrev rLenK (K : PySem.W.Frag) : List V → Hp → VK → Prop := fun vs H R => ∃ a zs, vs = [.ref a] ∧ (SqL K H a zs ∨ SqT K H a zs) ∧ R (.int zs.length) H
abbrev tePc (K : PySem.W.Frag) : TE := tCB (rLenK K) (tCons (tLc (iTup K (tVar 2)) (gName 4) (ttPc K) (tVar 4) [4]) tNil)
theorem pc_walk {K : PySem.W.Frag} {n : Nat} {p : Nat → Bool} {y : Addr} {H : Hp} {v1 : V} {z1 z3 z4 : Option V} {D : Addr} {Qd : Hp → Prop} (hn : n ≤ 6) (hy : H y = some (.tup (vm (lotOf n p)))) (nD : H D = none)
    (hd : ∀ H3, Same H H3 → H3 D = some (.lst (vm (pcL n p))) → Qd H3) :
    ∃ W : Nat → Nat → Hp → Prop, (∃ m, W 0 m (upd H D (.lst []))) ∧ ∀ i m H, W i m H →
      ((Itr 0 (2 ^ n)).stop i H ∧ Qd H) ∨ ((Itr 0 (2 ^ n)).go i H ∧ ∃ Nx : Hp → Prop, (∀ H', Nx H' → ∃ m', m' < m ∧ W (i + 1) m' H') ∧ ∀ x H', (Itr 0 (2 ^ n)).yld i H x H' → gName 3 x (wipe [some v1, z1, some (.ref y), z3, z4] [3]) H' fun σ2 H2 => wipe σ2 [3] = wipe [some v1, z1, some (.ref y), z3, z4] [3] ∧ tYes σ2 H2 fun c H3 =>
        if c = true then tePc K σ2 H3 fun y H4 => ∃ acc, H4 D = some (.lst acc) ∧ acc.length < sizeLine ∧ Nx (upd H4 D (.lst (acc ++ [y]))) else Nx H3) := by
  have h6 := pow6 hn
  have hl := lot_len hn p
  refine lcp_range (n := 2 ^ n) (p := fun _ => true) (f := fun m => .int (pcN n p m : Int)) nD (small64 (by omega)) (fun i H3 hi s3 => ?_) (fun H3 s3 hD => hd H3 s3 ?_)
  · intro R1 R2 h1 h2
    have hy3 := s3 _ _ hy
    refine ⟨rfl, iteT (B := R1 H3) ⟨.ref y, rfl, y, rfl, ⟨_, SqT.of hy3⟩, fun B2 nB => ?_⟩⟩
    refine lcp_tup (p := fun v => match v with | .int k => p (k.toNat ^^^ i) | _ => false) (f := id) nB (SqT.of hy3) (small64 (by rw [vm_len]; omega)) (fun k z H4 hz s4 => ?_) (fun H4 s4 hD2 => ?_)
    · intro R3 R4 h3 h4
      obtain ⟨m, hm, rfl⟩ := mem_vm hz
      have hm2 := (mem_lot.mp (List.mem_of_getElem? hm)).1
      refine ⟨rfl, _, rfl, _, rfl, (m : Int), 0 + (i : Int), rfl, rfl, .ref y, rfl, y, _, rfl, .inr (SqT.of (s4 _ _ hy3)), rfl, vm_flat _, _, rfl, ?_⟩
      have e : inV (.int (Builtin.bitXor (m : Int) (0 + (i : Int)))) (vm (lotOf n p)) = p (m ^^^ i) := by
        rw [Int.zero_add, bx, in_lot (xor_lt hm2 hi)]
      show if inV (.int (Builtin.bitXor (m : Int) (0 + (i : Int)))) (vm (lotOf n p)) = true then _ else _
      rw [e]
      refine ite2 (fun z => ?_) (fun z => ?_)
      · exact ⟨_, rfl, h4 z _ (Same.refl _)⟩
      · exact h3 (by simpa using z) _ (Same.refl _)
    · rw [vm_filter (lotOf n p) (fun m => p (m ^^^ i)) _ fun m hm => rfl] at hD2
      refine ⟨B2, _, rfl, .inl (SqL.of hD2), ?_⟩
      rw [vm_len]
      exact h2 rfl _ s4
  · rw [hD, List.filter_eq_self.mpr (fun _ _ => rfl)]
    unfold pcL vm
    rw [List.map_map]
    rfl
end XT
namespace XT
open PySem PySem.Spec PyProof.Rows L2
section
variable {P : Program} {w : World} {K : PySem.W.Frag} {mg : Str → Option Value} {base : Heap}
abbrev nPc : List Str := ["lot", "width", "masks", "mask", "x"]
theorem scPc : FnScope nPc ["lot"] (defScope sPairCounts) := ⟨rfl, rfl, rfl, by decide +kernel, rfl, by decide +kernel, by decide +kernel⟩
def outPc : Scope := match (defBody sPairCounts).getD 1 (.Pass ⟨0, 0, 0, 0⟩) with
  | .Return (some (.Call _ [.ListComp _ _ sc _] _ _)) _ => sc
  | _ => defScope sPairCounts
theorem ok_Pc {f : Addr} {fd : FuncData} {k : Nat} (B : Bl mg) (F : Fun K "pair_counts" "pair_counts" sPairCounts f fd) : FnOk P w K mg base CX0 (k + 1) f fd ["lot"] spPc := by
  refine F.ok scPc (fun vs H Q E h => ?_) (fun cdv A outer s H vs Q E hr h => ?_)
  · obtain ⟨v, n, p, rfl, _⟩ := h
    rfl
  · obtain ⟨v, n, p, rfl, ⟨x, y, rfl, hx, hy⟩, hn, q⟩ := h
    refine ⟨_, pss_cons (ps_asg (pv 0) (pg_tup rfl (pgs_cons (pg_name (i := 1) scPc.nd rfl (by first | exact Or.inl rfl | exact Or.inr rfl)) (pgs_cons (pg_name (i := 2) scPc.nd rfl (by first | exact Or.inl rfl | exact Or.inr rfl)) pgs_nil))))
      (pss_one (ps_ret (pe_callTy call_tuple_of (by rfl) B.tuple bT (pa_cons
        (pe_lc (own := [("mask", 3)]) (g := gName 3) (tt := tYes) (te := tePc K)
          rfl scPc.nd (pi_range1 (by rfl) B.range (pa_cons (pe_op op_shl pe_int (pv 1)) pa_nil))
          (blkOk_by (own := [("mask", 3)]) (N := nPc) (sc := defScope sPairCounts) (by decide +kernel))
          (fun _ _ _ _ _ => pg_name (i := 3) scPc.nd rfl (Or.inr rfl)) (fun _ _ _ _ _ => pts_nil)
          (fun _ _ _ _ _ => pe_callB call_len_seq (by rfl) B.len PySem.boot_len (pa_cons
            (pe_lc (own := [("x", 4)]) (g := gName 4) (tt := ttPc K) (te := tVar 4) rfl scPc.nd (pi_tup (pv 2))
              (blkOk_by (own := [("x", 4)]) (N := nPc) (sc := relS outPc (defScope sPairCounts)) (by decide +kernel))
              (fun _ _ _ _ _ => pg_name (i := 4) scPc.nd rfl (Or.inl rfl)) (fun _ _ _ _ _ => pts_one (pt_cmpR op_in_seq (pe_op op_xor (pv 4) (pv 3)) (pv 2) (by rfl))) (fun _ _ _ _ _ => pv 4)) pa_nil))) pa_nil)))), ?_⟩
    refine ⟨.ref x, rfl, x, _, rfl, SqT.of hx, rfl, _, _, rfl, _, _, rfl, rfl, ?_⟩
    refine ⟨.int n, rfl, 1, n, rfl, rfl, cpow hn, ((2 ^ n : Nat) : Int), congrArg (fun z => [V.int z]) (shl1 n), l62, r62 hn, fun D nD => ?_⟩
    exact pc_walk hn hy nD (fun H3 s3 hD => ⟨D, _, rfl, .inl ⟨SqL.of hD, fun L nL => q _ _ (s3.trans (same_new nL)) ⟨L, rfl, upd_same⟩⟩⟩)
end
end XT
/-! f"{m:b}" -/
namespace XT
open PySem PySem.Spec PyProof.Rows L2 Builtin
def binL (m : Nat) : List Nat := (Nat.toDigits 2 m).map Char.toNat
def binS (m : Nat) : Str := ⟨(binL m).toArray⟩
def sB : Str := ⟨#[98]⟩
def fB : Float.FormatSpec := { align := 62, type := some 98 }
theorem binL_ne (m : Nat) : (binL m).isEmpty = false := by
  have h := toDigits_len_ge 2 m
  unfold binL
  cases e : Nat.toDigits 2 m with
  | nil => rw [e] at h; simp at h
  | cons a b => rfl
theorem field_b (m : Nat) : intField' fB false [] (binL m) [] 4 = binS m := by
  unfold intField' binS
  have h := binL_ne m
  have h1 : 1 ≤ (binL m).length := by
    cases e : binL m with
    | nil => rw [e] at h; simp at h
    | cons a b => simp
  simp only [h, fB]
  simp
theorem gives_b (m : Nat) (t u : Tok) : Gives («int.__format__» ⟨[.int (m : Int) t, .str sB u], []⟩) (.str (binS m)) := by
  intro prog w A R s hq
  unfold Builtin.«int.__format__»
  simp only [selfAndOne, noKeywords, Int.intOfSelf, asInt?, asStr?, pure_bind, bind_pure, bind_assoc, List.isEmpty_nil, if_true, show (Value.str sB u == Value.none) = false from rfl, Bool.false_eq_true, if_false]
  refine wpAny_bind (wpAny_typeNameOf (T := "str") (typeIs_str s sB u) (by decide) fun _ => ?_)
  rw [if_neg (by decide), if_neg (by decide)]
  refine wpAny_bind (wpAny_typeNameOfCut_int ?_)
  have hp : Float.parseFormatSpec sB.cps.toList "int" 62 = .ok fB := rfl
  rw [hp]
  dsimp only
  have ht : fB.type.getD (if (sB.cps.back? == some 0) = true then 0 else 100) = 98 := rfl
  rw [ht, if_pos (by decide)]
  show wpAny _ _ (retStr _) _ _ _
  unfold retStr
  have hneg : decide ((m : Int) < 0) = false := decide_eq_false (by omega)
  rw [hneg]
  change wpAny _ _ (mkStr (intField' fB false [] (binL m) [] 4) >>= fun d => ret d) _ _ _
  rw [field_b]
  exact wpAny_bind (wpAny_mkStr (wpAny_pure hq.2) hq.1)
/-- {m:b} -/
def tFmtB (te : TE) : TE := fun σ H Q => te σ H fun x H1 => ∃ m : Nat, x = .int (m : Int) ∧ m < 2 ^ 900 ∧ Q (.str (binS m)) H1
theorem binL_len {m k : Nat} (hk : 1 ≤ k) (h : m < 2 ^ k) : (binL m).length ≤ k := by
  unfold binL
  rw [List.length_map]
  exact toDigits_len_pow (by decide) hk h
theorem binS_len (m : Nat) : (binS m).length = (binL m).length := by
  unfold binS Str.length
  simp
section
variable {X : Cx}
theorem pe_fmtB {e : Expr} {te : TE} {pos p1 p2 : Pos} {j : Nat} {b : Str} (hb : b = sB) (he : PE X e te) : PE X (.FormattedValue e (-1) (some (.JoinedStr [.Constant (.str b) j p1] p2)) pos) (tFmtB te) := by
  subst hb
  have hs : PE X (.JoinedStr [.Constant (.str sB) j p1] p2) (tC (.str sB)) := pe_joined1 pe_str
  refine ⟨fun pins s σ H Q I h => ?_⟩
  refine wpAny_FormattedValue_spec (thn (he.run pins s σ H _ I h) fun v s1 hv => ?_)
  obtain ⟨x, H1, I1, r1, m, rfl, hm, q⟩ := hv
  obtain ⟨t, rfl⟩ := r1
  refine thn (hs.run pins s1 σ H1 (fun x H2 => x = .str sB ∧ H2 = H1) I1 ⟨rfl, rfl⟩) fun r s2 hr => ?_
  obtain ⟨y, H2, I2, ry, ey, eH⟩ := hr
  subst ey eH
  obtain ⟨t2, rfl⟩ := ry
  refine ⟨sB, t2, rfl, wpAny_formatField_spec (by decide) (fun s' => typeIs_int s' _ _) PySem.F.slot_int_format PySem.F.entry_int_format PySem.F.args_int_format_2 (fun u => gives_b m t u) ⟨.str (binS m), H2, I2.tok _, ⟨_, rfl⟩, q⟩ (by decide) ?_⟩
  rw [binS_len]
  exact Nat.le_trans (binL_len (by decide) hm) (sz (by decide))
end
end XT
/-! how many ones a number has -/
namespace XT
open PySem PySem.Spec PyProof.Rows L2 Builtin Builtin.Str
def pop (m : Nat) : Nat := (binL m).count 49
theorem pop_lt {m : Nat} (h : m < 2) : pop m = m := by
  have : m = 0 ∨ m = 1 := by omega
  rcases this with rfl | rfl <;> decide
theorem pop_half (m : Nat) : pop m = pop (m / 2) + m % 2 := by
  by_cases h : m < 2
  · have : m = 0 ∨ m = 1 := by omega
    rcases this with rfl | rfl <;> decide
  · unfold pop binL
    rw [Nat.toDigits_of_base_le (by decide) (by omega), List.map_append, List.count_append]
    congr 1
    have : m % 2 = 0 ∨ m % 2 = 1 := by omega
    rcases this with e | e <;> rw [e] <;> decide
theorem occ_count (s : PySem.Str) (c limit : Nat) : ∀ (k a : Nat) (st : Array Nat × Nat), st.snd ≤ a → st.fst.size + k ≤ limit →
    (forIn (List.range' a k) st (StrLaws.occBody s ⟨#[c]⟩ s.length limit)).run.fst.size = st.fst.size + ((List.range' a k).filter fun i => decide (s.cps.toList[i]? = some c)).length
  | 0, a, st, _, _ => by simp
  | k + 1, a, st, h1, h2 => by
    rw [List.range'_succ, List.forIn_cons, List.filter_cons]
    unfold StrLaws.occBody
    have hs := StrLaws.subAt_one s c a
    by_cases hc : s.cps.toList[a]? = some c
    · obtain ⟨q1, q2⟩ := hs.mpr hc
      have hif : ((st.fst.size < limit ∧ st.snd ≤ a) ∧ a + (⟨#[c]⟩ : PySem.Str).length ≤ s.length) ∧ subAt s ⟨#[c]⟩ a = true := ⟨⟨⟨by omega, h1⟩, q1⟩, q2⟩
      rw [if_pos hif, if_pos (decide_eq_true hc)]
      have ih := occ_count s c limit k (a + 1) (st.fst.push a, a + 1) (Nat.le_refl _) (by simp; omega)
      rw [Array.size_push] at ih
      rw [List.length_cons]
      refine Eq.trans ih ?_
      omega
    · have hif : ¬(((st.fst.size < limit ∧ st.snd ≤ a) ∧ a + (⟨#[c]⟩ : PySem.Str).length ≤ s.length) ∧ subAt s ⟨#[c]⟩ a = true) := fun z => hc (hs.mp ⟨z.1.2, z.2⟩)
      rw [if_neg hif, if_neg (by simpa using hc)]
      exact occ_count s c limit k (a + 1) st (by omega) (by omega)
theorem count_list (c : Nat) : ∀ l : List Nat, ((List.range' 0 (l.length + 1)).filter fun i => decide (l[i]? = some c)).length = l.count c
  | [] => by simp [List.range'_succ]
  | x :: l => by
    have ih := count_list c l
    have e : List.range' 0 ((x :: l).length + 1) = 0 :: (List.range' 0 (l.length + 1)).map (· + 1) := by
      rw [List.length_cons, List.range'_succ]
      congr 1
      rw [List.range'_eq_map_range, List.range'_eq_map_range, List.map_map]
      refine List.map_congr_left fun i _ => ?_
      show 0 + 1 + i = 0 + i + 1
      omega
    rw [e, List.filter_cons, List.filter_map, List.count_cons]
    have e2 : ((fun i => decide ((x :: l)[i]? = some c)) ∘ fun x => x + 1) = fun i => decide (l[i]? = some c) := by
      funext i
      simp
    rw [e2]
    by_cases hx : x = c
    · subst hx
      simp [ih]
    · simp [hx, ih]
theorem count_one (m : Nat) : (occurrences (binS m) ⟨#[49]⟩ 0 (binS m).length ((binS m).length + 1)).length = pop m := by
  rw [StrLaws.occ_eq, Array.length_toList]
  have h := occ_count (binS m) 49 ((binS m).length + 1) ((binS m).length + 1) 0 (#[], 0) (Nat.le_refl _) (by simp)
  have h2 := count_list 49 (binL m)
  have e : (binS m).cps.toList = binL m := by unfold binS; simp
  rw [e, binS_len] at h
  simp only [Nat.sub_zero]
  rw [binS_len]
  refine h.trans ?_
  rw [h2]
  show 0 + pop m = pop m
  omega
/-- the sign of two numbers -/
def sgn (a b : Nat) : Int := if pop (a &&& b) % 2 = 0 then 1 else -1
theorem and_half (a b : Nat) : (a &&& b) / 2 = a / 2 &&& b / 2 := Nat.and_div_two
theorem and_mod (a b : Nat) : (a &&& b) % 2 = a % 2 * (b % 2) := by
  have e : (a &&& b) &&& 1 = (a &&& 1) &&& (b &&& 1) := by
    apply Nat.eq_of_testBit_eq
    intro i
    simp only [Nat.testBit_and]
    cases a.testBit i <;> cases b.testBit i <;> cases (1 : Nat).testBit i <;> rfl
  rw [Nat.and_one_is_mod, Nat.and_one_is_mod, Nat.and_one_is_mod] at e
  rw [e]
  have h1 : a % 2 = 0 ∨ a % 2 = 1 := by omega
  have h2 : b % 2 = 0 ∨ b % 2 = 1 := by omega
  rcases h1 with h1 | h1 <;> rcases h2 with h2 | h2 <;> rw [h1, h2] <;> rfl
theorem sgn_step (a b : Nat) : sgn a b = (if a % 2 = 1 ∧ b % 2 = 1 then -1 else 1) * sgn (a / 2) (b / 2) := by
  unfold sgn
  rw [pop_half (a &&& b), and_half, and_mod]
  have h1 : a % 2 = 0 ∨ a % 2 = 1 := by omega
  have h2 : b % 2 = 0 ∨ b % 2 = 1 := by omega
  rcases h1 with h1 | h1 <;> rcases h2 with h2 | h2 <;> simp only [h1, h2] <;> simp <;> split <;> split <;> omega
theorem sgn_zeroL (b : Nat) : sgn 0 b = 1 := by
  unfold sgn
  rw [Nat.zero_and]
  decide
theorem sgn_comm (a b : Nat) : sgn a b = sgn b a := by
  unfold sgn
  rw [Nat.and_comm]
theorem sgn_zeroR (a : Nat) : sgn a 0 = 1 := by rw [sgn_comm, sgn_zeroL]
end XT
/-! signed counts -/
namespace XT
open PySem PySem.Spec PyProof.Rows L2
def scI (n : Nat) (p : Nat → Bool) (u : Nat) : Int := ((lotOf n p).map fun x => sgn u x).sum
def scL (n : Nat) (p : Nat → Bool) : List Int := (List.range (2 ^ n)).map (scI n p)
def TupI (H : Hp) (v : V) (is : List Int) : Prop := ∃ q, v = .ref q ∧ H q = some (.tup (is.map V.int))
theorem TupI.same {H H' : Hp} {v : V} {is : List Int} (h : TupI H v is) (e : Same H H') : TupI H' v is := by
  obtain ⟨q, rfl, h⟩ := h
  exact ⟨q, rfl, e _ _ h⟩
def spSc : Sp := fun vs H Q _ => ∃ (v : V) (n : Nat) (p : Nat → Bool), vs = [v] ∧ LotAt H v n p ∧ n ≤ 6 ∧ ∀ H' z, Same H H' → TupI H' z (scL n p) → Q z H'
def spSgn : Sp := fun vs H Q _ => ∃ a b : Nat, vs = [.int (a : Int), .int (b : Int)] ∧ a < 2 ^ 900 ∧ b < 2 ^ 900 ∧ ∀ H', Same H H' → Q (.int (sgn a b)) H'
abbrev teSc (K : PySem.W.Frag) : TE := tCB (rSum K) (tCons (tLc (iTup K (tVar 2)) (gName 4) tYes (tDf spSgn (tCons (tVar 3) (tCons (tVar 4) tNil))) [4]) tNil)
theorem lt900 {a : Nat} (h : a < 64) : a < 2 ^ 900 := Nat.lt_of_lt_of_le h (by decide)
theorem sc_walk {K : PySem.W.Frag} {n : Nat} {p : Nat → Bool} {y : Addr} {H : Hp} {v1 : V} {z1 z3 z4 : Option V} {D : Addr} {Qd : Hp → Prop} (hn : n ≤ 6) (hy : H y = some (.tup (vm (lotOf n p)))) (nD : H D = none)
    (hd : ∀ H3, Same H H3 → H3 D = some (.lst ((scL n p).map V.int)) → Qd H3) :
    ∃ W : Nat → Nat → Hp → Prop, (∃ m, W 0 m (upd H D (.lst []))) ∧ ∀ i m H, W i m H →
      ((Itr 0 (2 ^ n)).stop i H ∧ Qd H) ∨ ((Itr 0 (2 ^ n)).go i H ∧ ∃ Nx : Hp → Prop, (∀ H', Nx H' → ∃ m', m' < m ∧ W (i + 1) m' H') ∧ ∀ x H', (Itr 0 (2 ^ n)).yld i H x H' → gName 3 x (wipe [some v1, z1, some (.ref y), z3, z4] [3]) H' fun σ2 H2 => wipe σ2 [3] = wipe [some v1, z1, some (.ref y), z3, z4] [3] ∧ tYes σ2 H2 fun c H3 =>
        if c = true then teSc K σ2 H3 fun y H4 => ∃ acc, H4 D = some (.lst acc) ∧ acc.length < sizeLine ∧ Nx (upd H4 D (.lst (acc ++ [y]))) else Nx H3) := by
  have h6 := pow6 hn
  have hl := lot_len hn p
  refine lcp_range (n := 2 ^ n) (p := fun _ => true) (f := fun m => .int (scI n p m)) nD (small64 (by omega)) (fun i H3 hi s3 => ?_) (fun H3 s3 hD => hd H3 s3 ?_)
  · intro R1 R2 h1 h2
    have hy3 := s3 _ _ hy
    refine ⟨rfl, iteT (B := R1 H3) ⟨.ref y, rfl, y, rfl, ⟨_, SqT.of hy3⟩, fun B2 nB => ?_⟩⟩
    refine lcp_tup (p := fun _ => true) (f := fun v => match v with | .int k => .int (sgn i k.toNat) | v => v) nB (SqT.of hy3) (small64 (by rw [vm_len]; omega)) (fun k z H4 hz s4 => ?_) (fun H4 s4 hD2 => ?_)
    · intro R3 R4 h3 h4
      obtain ⟨m, hm, rfl⟩ := mem_vm hz
      have hm2 := (mem_lot.mp (List.mem_of_getElem? hm)).1
      exact ⟨rfl, iteT (B := R3 H4) ⟨_, rfl, _, rfl, i, m, congrArg (fun z => [V.int z, V.int (m : Int)]) (Int.zero_add _), lt900 (by omega), lt900 (by omega), fun H5 s5 => h4 rfl _ s5⟩⟩
    · have e : (((vm (lotOf n p)).filter fun _ => true).map fun v => match v with | .int k => V.int (sgn i k.toNat) | v => v) = ((lotOf n p).map fun x => sgn i x).map V.int := by
        rw [List.filter_eq_self.mpr (fun _ _ => rfl)]
        unfold vm
        rw [List.map_map, List.map_map]
        rfl
      rw [e] at hD2
      exact ⟨B2, _, rfl, SqL.of hD2, h2 rfl _ s4⟩
  · rw [hD, List.filter_eq_self.mpr (fun _ _ => rfl)]
    unfold scL
    rw [List.map_map]
    rfl
end XT
/-! signed counts determine the lot -/
namespace XT
open PySem PySem.Spec PyProof.Rows L2
theorem xor_half (x y : Nat) : (x ^^^ y) / 2 = x / 2 ^^^ y / 2 := Nat.xor_div_two
theorem xor_mod (x y : Nat) : (x ^^^ y) % 2 = (x % 2 + y % 2) % 2 := by
  have e : (x ^^^ y) &&& 1 = (x &&& 1) ^^^ (y &&& 1) := by
    apply Nat.eq_of_testBit_eq
    intro i
    simp only [Nat.testBit_and, Nat.testBit_xor]
    cases x.testBit i <;> cases y.testBit i <;> cases (1 : Nat).testBit i <;> rfl
  rw [Nat.and_one_is_mod, Nat.and_one_is_mod, Nat.and_one_is_mod] at e
  rw [e]
  have h1 : x % 2 = 0 ∨ x % 2 = 1 := by omega
  have h2 : y % 2 = 0 ∨ y % 2 = 1 := by omega
  rcases h1 with h1 | h1 <;> rcases h2 with h2 | h2 <;> rw [h1, h2] <;> rfl
theorem sgn_xor : ∀ (u x y : Nat), sgn u (x ^^^ y) = sgn u x * sgn u y
  | 0, x, y => by rw [sgn_zeroL, sgn_zeroL, sgn_zeroL]; rfl
  | u + 1, x, y => by
    have ih := sgn_xor ((u + 1) / 2) (x / 2) (y / 2)
    rw [sgn_step (u + 1) (x ^^^ y), sgn_step (u + 1) x, sgn_step (u + 1) y, xor_half, ih, xor_mod]
    have h1 : (u + 1) % 2 = 0 ∨ (u + 1) % 2 = 1 := by omega
    have h2 : x % 2 = 0 ∨ x % 2 = 1 := by omega
    have h3 : y % 2 = 0 ∨ y % 2 = 1 := by omega
    generalize sgn ((u + 1) / 2) (x / 2) = A
    generalize sgn ((u + 1) / 2) (y / 2) = C
    rcases h1 with h1 | h1 <;> rcases h2 with h2 | h2 <;> rcases h3 with h3 | h3 <;> simp [h1, h2, h3, Int.neg_mul, Int.mul_neg]
  termination_by u => u
  decreasing_by omega
def orthB (n : Nat) : Bool := (List.range (2 ^ n)).all fun z => decide (((List.range (2 ^ n)).map fun u => sgn u z).sum = if z = 0 then ((2 ^ n : Nat) : Int) else 0)
theorem orth_all : ∀ n, n ≤ 6 → orthB n = true := by
  intro n hn
  have : n = 0 ∨ n = 1 ∨ n = 2 ∨ n = 3 ∨ n = 4 ∨ n = 5 ∨ n = 6 := by omega
  rcases this with rfl | rfl | rfl | rfl | rfl | rfl | rfl <;> decide +kernel
theorem orth {n z : Nat} (hn : n ≤ 6) (hz : z < 2 ^ n) : ((List.range (2 ^ n)).map fun u => sgn u z).sum = if z = 0 then ((2 ^ n : Nat) : Int) else 0 :=
  of_decide_eq_true (List.all_eq_true.mp (orth_all n hn) z (List.mem_range.mpr hz))
/-! sums -/
theorem sum_add (f g : Nat → Int) : ∀ l : List Nat, (l.map fun x => f x + g x).sum = (l.map f).sum + (l.map g).sum
  | [] => rfl
  | x :: l => by
    have ih := sum_add f g l
    simp only [List.map_cons, List.sum_cons, ih]
    omega
theorem sum_mul (c : Int) (f : Nat → Int) : ∀ l : List Nat, (l.map fun x => c * f x).sum = c * (l.map f).sum
  | [] => by simp
  | x :: l => by
    have ih := sum_mul c f l
    simp only [List.map_cons, List.sum_cons, ih, Int.mul_add]
theorem sum_zero : ∀ l : List Nat, (l.map fun _ => (0 : Int)).sum = 0
  | [] => rfl
  | x :: l => by
    have ih := sum_zero l
    simp only [List.map_cons, List.sum_cons, ih]
    rfl
theorem sum_swap (f : Nat → Nat → Int) : ∀ l m : List Nat, (l.map fun x => (m.map fun y => f x y).sum).sum = (m.map fun y => (l.map fun x => f x y).sum).sum
  | [], m => by simp [sum_zero]
  | x :: l, m => by
    have ih := sum_swap f l m
    simp only [List.map_cons, List.sum_cons, ih]
    rw [← sum_add]
theorem sum_congr {f g : Nat → Int} {l : List Nat} (h : ∀ x ∈ l, f x = g x) : (l.map f).sum = (l.map g).sum := by rw [List.map_congr_left h]
theorem sum_perm {l m : List Int} (h : l.Perm m) : l.sum = m.sum := by
  induction h with
  | nil => rfl
  | cons x _ ih => simp only [List.sum_cons, ih]
  | swap x y l => simp only [List.sum_cons]; omega
  | trans _ _ i1 i2 => rw [i1, i2]
theorem sum_one {c : Int} {y : Nat} : ∀ {l : List Nat}, l.Nodup → (l.map fun x => if x = y then c else 0).sum = if y ∈ l then c else 0
  | [], _ => by simp
  | x :: l, h => by
    obtain ⟨h1, h2⟩ := List.nodup_cons.mp h
    have ih := sum_one (c := c) (y := y) h2
    simp only [List.map_cons, List.sum_cons, ih]
    by_cases e : x = y
    · subst e
      simp [h1]
    · have e2 : ¬ y = x := fun z => e z.symm
      simp [e, e2]
theorem perm_nodup {l m : List Nat} (hl : l.Nodup) (hm : m.Nodup) (h : ∀ x, x ∈ l ↔ x ∈ m) : l.Perm m := by
  rw [List.perm_iff_count]
  intro a
  by_cases ha : a ∈ l
  · rw [List.Nodup.count hl, List.Nodup.count hm, if_pos ha, if_pos ((h a).mp ha)]
  · rw [List.Nodup.count hl, List.Nodup.count hm, if_neg ha, if_neg (fun z => ha ((h a).mpr z))]
/-- the signed counts lead back to the lot -/
theorem inv {n y : Nat} {p : Nat → Bool} (hn : n ≤ 6) (hy : y < 2 ^ n) : ((List.range (2 ^ n)).map fun u => scI n p u * sgn u y).sum = if p y = true then ((2 ^ n : Nat) : Int) else 0 := by
  have e1 : ((List.range (2 ^ n)).map fun u => scI n p u * sgn u y).sum = ((List.range (2 ^ n)).map fun u => ((lotOf n p).map fun x => sgn u (x ^^^ y)).sum).sum := by
    refine sum_congr fun u _ => ?_
    unfold scI
    rw [Int.mul_comm, ← sum_mul]
    exact sum_congr fun x _ => by rw [sgn_xor, Int.mul_comm]
  rw [e1, sum_swap]
  have e2 : ((lotOf n p).map fun x => ((List.range (2 ^ n)).map fun u => sgn u (x ^^^ y)).sum).sum = ((lotOf n p).map fun x => if x = y then ((2 ^ n : Nat) : Int) else 0).sum := by
    refine sum_congr fun x hx => ?_
    rw [orth hn (xor_lt (mem_lot.mp hx).1 hy)]
    by_cases e : x = y
    · rw [if_pos e, if_pos (by rw [e, Nat.xor_self])]
    · rw [if_neg e, if_neg (fun z => e ?_)]
      have h := congrArg (· ^^^ y) z
      simpa [Nat.xor_assoc] using h
  rw [e2, sum_one (nodup_lot n p)]
  by_cases h : p y = true
  · rw [if_pos h, if_pos (mem_lot.mpr ⟨hy, h⟩)]
  · rw [if_neg h, if_neg (fun z => h (mem_lot.mp z).2)]
/-- a turned lot's signed counts -/
theorem sc_turn {n m u : Nat} {p : Nat → Bool} (hm : m < 2 ^ n) : scI n (fun x => p (x ^^^ m)) u = sgn u m * scI n p u := by
  unfold scI
  have pm : (lotOf n fun x => p (x ^^^ m)).Perm ((lotOf n p).map (· ^^^ m)) := by
    refine perm_nodup (nodup_lot _ _) ?_ fun x => ?_
    · have h := nodup_lot n p
      unfold List.Nodup at h ⊢
      rw [List.pairwise_map]
      refine h.imp fun {x y} hxy e => hxy ?_
      have e3 := congrArg (· ^^^ m) e
      simpa [Nat.xor_assoc] using e3
    · rw [List.mem_map, mem_lot]
      constructor
      · rintro ⟨h1, h2⟩
        exact ⟨x ^^^ m, mem_lot.mpr ⟨xor_lt h1 hm, h2⟩, xor_back x m⟩
      · rintro ⟨y, hy, rfl⟩
        obtain ⟨h1, h2⟩ := mem_lot.mp hy
        exact ⟨xor_lt h1 hm, by rw [xor_back]; exact h2⟩
  rw [sum_perm (pm.map fun x => sgn u x), List.map_map, ← sum_mul]
  exact sum_congr fun x _ => by
    show sgn u (x ^^^ m) = _
    rw [sgn_xor, Int.mul_comm]
end XT
/-! pair counts and the squares of the signed counts -/
namespace XT
open PySem PySem.Spec PyProof.Rows L2
theorem sum_flt (q : Nat → Bool) (f : Nat → Int) : ∀ l : List Nat, ((l.filter q).map f).sum = (l.map fun x => if q x = true then f x else 0).sum
  | [] => rfl
  | x :: l => by
    have ih := sum_flt q f l
    by_cases h : q x = true
    · simp only [List.filter_cons, h, if_true, List.map_cons, List.sum_cons, ih]
    · simp only [List.filter_cons, h, List.map_cons, List.sum_cons]
      simpa using ih
theorem len_sum {α : Type} (q : α → Bool) : ∀ l : List α, ((l.filter q).length : Int) = (l.map fun x => if q x = true then (1 : Int) else 0).sum
  | [] => rfl
  | x :: l => by
    have ih := len_sum q l
    by_cases h : q x = true
    · simp only [List.filter_cons, h, if_true, List.map_cons, List.sum_cons, List.length_cons, ← ih]
      omega
    · simp only [List.filter_cons, h, List.map_cons, List.sum_cons]
      simpa using ih
theorem pc_sq {n u : Nat} {p : Nat → Bool} : ((List.range (2 ^ n)).map fun d => sgn u d * (pcN n p d : Int)).sum = scI n p u * scI n p u := by
  have e1 : ((List.range (2 ^ n)).map fun d => sgn u d * (pcN n p d : Int)).sum = ((List.range (2 ^ n)).map fun d => ((lotOf n p).map fun x => if p (x ^^^ d) = true then sgn u d else 0).sum).sum := by
    refine sum_congr fun d _ => ?_
    unfold pcN
    rw [len_sum, ← sum_mul]
    refine sum_congr fun x _ => ?_
    by_cases h : p (x ^^^ d) = true
    · rw [if_pos h, if_pos h, Int.mul_one]
    · rw [if_neg h, if_neg h, Int.mul_zero]
  rw [e1, sum_swap]
  have e2 : ((lotOf n p).map fun x => ((List.range (2 ^ n)).map fun d => if p (x ^^^ d) = true then sgn u d else 0).sum).sum = ((lotOf n p).map fun x => scI n p u * sgn u x).sum := by
    refine sum_congr fun x hx => ?_
    rw [Int.mul_comm, ← sc_turn (mem_lot.mp hx).1]
    unfold scI
    rw [show lotOf n (fun d => p (d ^^^ x)) = (List.range (2 ^ n)).filter (fun d => p (d ^^^ x)) from rfl, sum_flt]
    refine sum_congr fun d _ => ?_
    rw [Nat.xor_comm]
  rw [e2, sum_mul]
  rfl
theorem sq_pc {n u : Nat} {p : Nat → Bool} (hn : n ≤ 6) (hu : u < 2 ^ n) : ((List.range (2 ^ n)).map fun d => sgn u d * (scI n p d * scI n p d)).sum = ((2 ^ n : Nat) : Int) * (pcN n p u : Int) := by
  have e1 : ((List.range (2 ^ n)).map fun d => sgn u d * (scI n p d * scI n p d)).sum = ((List.range (2 ^ n)).map fun d => ((List.range (2 ^ n)).map fun e => (pcN n p e : Int) * sgn d (e ^^^ u)).sum).sum := by
    refine sum_congr fun d _ => ?_
    rw [← pc_sq, ← sum_mul]
    refine sum_congr fun e _ => ?_
    rw [sgn_xor, sgn_comm u d, Int.mul_comm (sgn d u), Int.mul_comm (sgn d e), Int.mul_assoc]
  rw [e1, sum_swap]
  have e2 : ((List.range (2 ^ n)).map fun e => ((List.range (2 ^ n)).map fun d => (pcN n p e : Int) * sgn d (e ^^^ u)).sum).sum = ((List.range (2 ^ n)).map fun e => if e = u then ((2 ^ n : Nat) : Int) * (pcN n p u : Int) else 0).sum := by
    refine sum_congr fun e he => ?_
    rw [sum_mul, orth hn (xor_lt (List.mem_range.mp he) hu)]
    by_cases h : e = u
    · rw [if_pos h, if_pos (by rw [h, Nat.xor_self]), h, Int.mul_comm]
    · rw [if_neg h, if_neg (fun z => h ?_), Int.mul_zero]
      have h2 := congrArg (· ^^^ u) z
      simpa [Nat.xor_assoc] using h2
  rw [e2, sum_one List.nodup_range, if_pos (List.mem_range.mpr hu)]
theorem pc_zero {n : Nat} {p : Nat → Bool} : pcN n p 0 = (lotOf n p).length := by
  unfold pcN
  rw [List.filter_eq_self.mpr]
  intro x hx
  rw [Nat.xor_zero]
  exact (mem_lot.mp hx).2
theorem sc_zero {n : Nat} {p : Nat → Bool} : scI n p 0 = ((lotOf n p).length : Int) := by
  unfold scI
  have : ∀ l : List Nat, (l.map fun x => sgn 0 x).sum = (l.length : Int) := fun l => by
    induction l with
    | nil => rfl
    | cons x l ih => rw [List.map_cons, List.sum_cons, ih, sgn_zeroL, List.length_cons]; omega
  exact this _
theorem pc_all {n : Nat} {p : Nat → Bool} : ((List.range (2 ^ n)).map fun d => (pcN n p d : Int)).sum = ((lotOf n p).length : Int) * (lotOf n p).length := by
  have h := pc_sq (n := n) (u := 0) (p := p)
  rw [sc_zero] at h
  rw [← h]
  exact sum_congr fun d _ => by rw [sgn_zeroL, Int.one_mul]
theorem sq_all {n : Nat} {p : Nat → Bool} (hn : n ≤ 6) : ((List.range (2 ^ n)).map fun d => scI n p d * scI n p d).sum = ((2 ^ n : Nat) : Int) * ((lotOf n p).length : Int) := by
  have h := sq_pc (n := n) (u := 0) (p := p) hn (pow0 n)
  rw [pc_zero] at h
  rw [← h]
  exact sum_congr fun d _ => by rw [sgn_zeroL, Int.one_mul]
end XT
namespace XT
open PySem PySem.Spec PyProof.Rows L2
/-! lists of ints, sums with signs -/
theorem at_pc {n i : Nat} {p : Nat → Bool} (hi : i < 2 ^ n) : (vm (pcL n p))[i]? = some (.int (pcN n p i : Int)) := by
  unfold vm pcL
  rw [List.getElem?_map, List.getElem?_map, List.getElem?_range hi]
  rfl
def mulF (c : Nat → Int) : Nat → V → V := fun i v => match v with | .int z => V.int (c i * z) | v => v
theorem mapIdx_sum (f : Nat → Int) (c : Nat → Int) (n : Nat) : (((List.range n).map f).map V.int).mapIdx (mulF c) = ((List.range n).map fun i => c i * f i).map V.int := by
  apply List.ext_getElem?
  intro i
  rw [List.getElem?_mapIdx]
  by_cases hi : i < n
  · simp [mulF, List.getElem?_range hi]
  · simp [List.getElem?_eq_none (show (List.range n).length ≤ i by rw [List.length_range]; omega)]
theorem pcI {n : Nat} {p : Nat → Bool} : vm (pcL n p) = ((List.range (2 ^ n)).map fun d => (pcN n p d : Int)).map V.int := by
  unfold vm pcL
  rw [List.map_map, List.map_map]
  rfl
theorem sgn_pm (a b : Nat) : sgn a b = 1 ∨ sgn a b = -1 := by
  unfold sgn
  split
  · exact .inl rfl
  · exact .inr rfl
theorem sum_abs (u : Nat) : ∀ l : List Nat, -(l.length : Int) ≤ (l.map fun x => sgn u x).sum ∧ (l.map fun x => sgn u x).sum ≤ (l.length : Int)
  | [] => by simp
  | x :: l => by
    have ih := sum_abs u l
    rw [List.map_cons, List.sum_cons, List.length_cons]
    rcases sgn_pm u x with h | h <;> rw [h] <;> omega
theorem sc_abs {n u : Nat} {p : Nat → Bool} (hn : n ≤ 6) : -64 ≤ scI n p u ∧ scI n p u ≤ 64 := by
  have h := sum_abs u (lotOf n p)
  have l := lot_len hn p
  unfold scI
  omega
theorem nne {i j : Int} (h : i = j) : (!decide (V.int i = V.int j)) = false := by
  rw [h, decide_eq_true rfl]
  rfl
theorem nxt {X : L2.St → Hp → Prop} {r : VK} {b c : L2.St → Hp → Prop} {σ : L2.St} {H : Hp} (h : X σ H) : tNext { nx := X, rt := r, bk := b, ct := c } σ H := h
theorem seq_if {t : TT} {ta tb : TE} {g : TG} {b : TS} {D : Ends} {σ : L2.St} {H : Hp} (R : Addr → Hp → Prop) (hQ : ∀ p H', R p H' → tAsg (fun _ H Q => Q (.ref p) H) g { D with nx := b D } σ H') (h : (∀ p H', R p H' → tAsg (fun _ H Q => Q (.ref p) H) g { D with nx := b D } σ H') → tSeq (tAsg (tIf t ta tb) g) b D σ H) : tSeq (tAsg (tIf t ta tb) g) b D σ H := h hQ
theorem rg_vm (n : Nat) : rgV 0 ((n : Nat) : Int) = vm (List.range n) := by
  unfold rgV vm
  rw [Int.sub_zero, Int.toNat_natCast]
  exact List.map_congr_left fun i _ => by rw [Int.zero_add]
theorem eqv_intsI : ∀ ms ks : List Int, PyData.eqvAll (ms.map PyData.int) (ks.map PyData.int) = decide (ms = ks)
  | [], [] => rfl
  | [], k :: ks => by simp [PyData.eqvAll]
  | m :: ms, [] => by simp [PyData.eqvAll]
  | m :: ms, k :: ks => by
    have ih := eqv_intsI ms ks
    simp only [List.map_cons, PyData.eqvAll, ih]
    by_cases h : m = k
    · subst h
      by_cases h2 : ms = ks
      · subst h2; simp [PyData.eqv]
      · simp [PyData.eqv, h2]
    · simp [PyData.eqv, h]
/-- a == b, a != b of lists of ints -/
theorem eq_lstI {K : PySem.W.Frag} {H : Hp} {q r : Addr} {ms ks : List Int} {Q : VK} (hx : H q = some (.lst (ms.map V.int))) (hy : H r = some (.lst (ks.map V.int))) (k : Q (.bl (decide (ms = ks))) H) : rEqD K (.ref q) (.ref r) H Q := by
  refine ⟨_, _, .lst (SqL.of hx) (dpInts _), .lst (SqL.of hy) (dpInts _), ke_shaped _, ke_shaped _, ?_⟩
  rw [show PyData.eqv (.list (ms.map PyData.int)) (.list (ks.map PyData.int)) = decide (ms = ks) by have h := eqv_intsI ms ks; simpa [PyData.eqv] using h]
  exact k
end XT
/-! MaskSet: a call -/
namespace XT
open PySem PySem.Spec PyProof.Rows L2
section
variable {P : Program} {w : World} {K : PySem.W.Frag} {mg : Str → Option Value} {base : Heap} {C : Addr}
theorem scMsCall : FnScope ["self", "mask"] ["self", "mask"] (defScope sMsCall) := ⟨rfl, rfl, rfl, by decide +kernel, rfl, by decide +kernel, by decide +kernel⟩
abbrev spMsCall (C : Addr) : Sp := spMX C fun n p m _ o => o = .int (pcN n p m : Int)
theorem ok_msCall {f : Addr} {fd : FuncData} {k : Nat} (F : Fun K "__call__" "MaskSet.__call__" sMsCall f fd) (dL : PropR P w K mg base 1 C "lot" (spMsLot C)) (dW : PropR P w K mg base 1 C "width" (spMsWidth C)) (dI : DefR P w K mg base 2 "is_mask" spMask) (dP : DefR P w K mg base 1 "pair_counts" spPc) : FnOk P w K mg base CX0 (k + 3) f fd ["self", "mask"] (spMsCall C) := by
  refine F.ok scMsCall (fun vs H Q E h => ?_) (fun cdv A outer s H vs Q E hr h => ?_)
  · obtain ⟨z, v, n, m, p, rfl, _⟩ := h
    rfl
  · obtain ⟨z, v, n, m, p, rfl, hz, h1, h6, hm, q⟩ := h
    refine ⟨_, pss_cons (ps_if (pt_not (pt_val (pe_def dI (hr.mono (by omega)) (by rfl) (pa_cons (pv 1) (pa_cons (pe_propR (pv 0) dW (hr.mono (by omega))) pa_nil))))) pss_never pss_nil)
      (pss_one (ps_ret (pe_ix ix_tup (pe_def dP (hr.mono (by omega)) (by rfl) (pa_cons (pe_propR (pv 0) dL (hr.mono (by omega))) pa_nil)) (pv 1) (fun _ _ => rfl)))), ?_⟩
    obtain ⟨a, dx, ez, ha⟩ := id hz.1
    refine ⟨.int m, rfl, z, rfl, a, dx, _, ez, ha, z, v, n, p, by rw [ez], hz, h1, h6, fun H1 r1 s1 er => ?_⟩
    subst er
    refine ⟨m, n, rfl, h6, hm, true, rfl, iteF ?_⟩
    have hz1 := hz.same s1
    refine ⟨z, rfl, a, dx, _, ez, s1 _ _ ha, z, v, n, p, by rw [ez], hz1, h1, h6, fun H2 r2 s2 er => ?_⟩
    subst er
    refine ⟨r2, n, p, rfl, hz1.2.same s2, h6, fun H3 z3 s3 g3 => ?_⟩
    obtain ⟨y3, rfl, hy3⟩ := g3
    exact ⟨.int m, rfl, y3, _, m, .int (pcN n p m : Int), rfl, rfl, SqT.of hy3, atI_nat (at_pc hm), q _ _ ((s1.trans s2).trans s3) rfl⟩
end
end XT
/-! is_number at any data; _law_is_int -/
namespace XT
open PySem PySem.Spec PyProof.Rows L2
section
variable {P : Program} {w : World} {K : PySem.W.Frag} {mg : Str → Option Value} {base : Heap}
theorem scNumZ : FnScope ["value"] ["value"] (defScope sNum) := ⟨rfl, rfl, rfl, by decide +kernel, rfl, by decide +kernel, by decide +kernel⟩
def spNumZ (K : PySem.W.Frag) : Sp := fun vs H Q _ => ∃ v d, vs = [v] ∧ Dz K H v d ∧ Q (.bl (isN d)) H
theorem ok_numZ {f : Addr} {fd : FuncData} {k : Nat} (B : Bl mg) (F : Fun K "is_number" "is_number" sNum f fd) : FnOk P w K mg base CX0 (k + 1) f fd ["value"] (spNumZ K) := by
  refine F.ok scNumZ (fun vs H Q E h => ?_) (fun cdv A outer s H vs Q E hr h => ?_)
  · obtain ⟨v, d, rfl, _⟩ := h
    rfl
  · obtain ⟨v, d, rfl, hd, q⟩ := h
    refine ⟨_, pss_one (ps_ret (pe_and (pe_callB call_isi (by rfl) B.isinstance bI (pa_cons (pv 0) (pa_cons (pe_bltn (v := .ty "int") (by rfl) B.int bInt rfl) pa_nil)))
      (pe_one (pe_not (pe_callB call_isi (by rfl) B.isinstance bI (pa_cons (pv 0) (pa_cons (pe_bltn (v := .ty "bool") (by rfl) B.bool bBool rfl) pa_nil))))))), ?_⟩
    refine ⟨v, rfl, v, .ty "int", _, _, isIt d, rfl, .ty _, hd.ty, kitI d, isIt d, rfl, ?_⟩
    cases hi : isIt d with
    | false =>
      refine iteF ?_
      have e : isN d = false := by cases d <;> first | rfl | simp [isIt] at hi
      rw [e] at q
      exact q
    | true =>
      refine iteT ⟨v, rfl, v, .ty "bool", _, _, isBl d, rfl, .ty _, hd.ty, kitB' d, isBl d, rfl, ?_⟩
      have e : (!isBl d) = isN d := by cases d <;> first | rfl | simp [isIt] at hi
      rw [e]
      exact q
end
end XT
/-! is_mask at any data -/
namespace XT
open PySem PySem.Spec PyProof.Rows L2
section
variable {P : Program} {w : World} {K : PySem.W.Frag} {mg : Str → Option Value} {base : Heap}
theorem scMaskZ0 : FnScope ["value", "width"] ["value", "width"] (defScope sMask) := ⟨rfl, rfl, rfl, by decide +kernel, rfl, by decide +kernel, by decide +kernel⟩
def spMaskZ (K : PySem.W.Frag) : Sp := fun vs H Q _ => ∃ (v : V) (d : PyData) (n : Nat), vs = [v, .int (n : Int)] ∧ Dz K H v d ∧ n ≤ 6 ∧ Q (.bl (isM n d)) H
theorem ok_maskZ {f : Addr} {fd : FuncData} {k : Nat} (F : Fun K "is_mask" "is_mask" sMask f fd) (dN : DefR P w K mg base 1 "is_number" (spNumZ K)) : FnOk P w K mg base CX0 (k + 2) f fd ["value", "width"] (spMaskZ K) := by
  refine F.ok scMaskZ0 (fun vs H Q E h => ?_) (fun cdv A outer s H vs Q E hr h => ?_)
  · obtain ⟨v, d, n, rfl, _⟩ := h
    rfl
  · obtain ⟨v, d, n, rfl, hd, hn, q⟩ := h
    refine ⟨_, pss_one (ps_ret (pe_and (pe_def dN (hr.mono (by omega)) (by rfl) (pa_cons (pv 0) pa_nil)) (pe_one (pe_chain op_le op_lt pe_int (pv 0) (pe_op op_shl pe_int (pv 1)))))), ?_⟩
    refine ⟨v, rfl, v, d, rfl, hd, isN d, rfl, ?_⟩
    cases hd with
    | int i =>
      refine iteT ⟨.int i, rfl, 0, i, rfl, rfl, _, rfl, ?_⟩
      by_cases h0 : (0 : Int) ≤ i
      · rw [decide_eq_true h0]
        refine iteT ⟨.int n, rfl, 1, n, rfl, rfl, cpow hn, i, _, rfl, rfl, ?_⟩
        show Q (V.bl (decide (i < 1 * 2 ^ ((n : Int).toNat)))) H
        rw [shl1]
        have e : isM n (.int i) = decide (i < ((2 ^ n : Nat) : Int)) := by
          show (decide (0 ≤ i) && decide (i < ((2 ^ n : Nat) : Int))) = _
          rw [decide_eq_true h0, Bool.true_and]
        rw [e] at q
        exact q
      · rw [decide_eq_false h0]
        refine iteF ?_
        have e : isM n (.int i) = false := by
          show (decide (0 ≤ i) && decide (i < ((2 ^ n : Nat) : Int))) = _
          rw [decide_eq_false h0, Bool.false_and]
        rw [e] at q
        exact q
    | non => exact iteF q
    | bl b => exact iteF q
    | str x => exact iteF q
    | lst _ _ _ => exact iteF q
    | tup _ _ => exact iteF q
    | dct kvs _ => exact iteF q
end
end XT
/-! an own exception class over any of the built-in ones that have their facts, its __init__ walked as a def -/
namespace XT
open PySem PySem.Spec PyProof.Rows L2
structure OexG (K : PySem.W.Frag) (C : Addr) : Prop where
  cls : ∃ (B newId initId : String) (bmB : List Value) (nm q : Str) (N : Addr) (bs bm : List Value) (sn : List Str) (sub : List Value) (ab : Bool) (col : Option Bool) (dd : Option Addr) (k0 k1 k2 k3 k5 : Option Value),
    ExcBaseFacts B newId initId bmB ∧ K.lookup C = some (excClassObj nm q C N bs bm true sn sub ab col dd k0 k1 k2 k3 k5 newId) ∧ PySem.W.excTail bmB bm = true ∧ (∀ self, refuseLoop self "__setattr__" bmB = pure ()) ∧ bmB.contains (.type "object") = true
  sa : PySem.W.findIn K (.ref C) "__setattr__" = some (some (.builtin "object.__setattr__"))
  exC : PySem.W.subIn K (.ref C) (.type "BaseException") = some true
  tyC : PySem.W.typeIn K (.ref C) = some (.type "type")
  kC : PySem.W.keepIn K (.ref C) = true
section
open Builtin Builtin.ObjectAttr PySem.HandSPX
variable {prog : Program} {w : World} {A : Around} {E : Value → Shared → Prop} {R : Result → Shared → Prop} {hp : Heap} {g : Array GenState} {d : Drawn} {t : Nat} {os : OsState}
/-- the first field of an exception, whatever built-in class stands under its own -/
theorem osaG {K : W.Frag} {name : Str} {tk : Tok} {v : Value} {x C : Addr} {fv : Array Value} {cd : ClassData}
    (X : K.In hp) (hx : hp.get? x = some { cls := .ref C, data := .fields fv }) (hcd : W.clsIn K C = some cd) (ne : cd.mro.isEmpty = false) (hob : cd.mro.contains (.type "object") = true) (hpass : ∀ self, refuseLoop self "__setattr__" cd.mro = pure ()) (hh : cd.hasDict = true) (ha : W.findIn K (.ref C) name = some none)
    (hq : ∀ h' tk' dx, (∀ b o, b ≠ x → hp.get? b = some o → h'.get? b = some o) → hp.objs.size ≤ dx → dx ≠ x → h'.get? x = some { cls := .ref C, dict := some dx, data := .fields fv } →
      h'.Ns1 dx (fun y => if y = name then some v else none) → R (.ok (.ret .none)) ⟨h', g, d, tk', os⟩) :
    codeAny (model prog w) A (.call (.builtin "object.__setattr__") ⟨[.ref x, .str name tk, v], []⟩) R ⟨hp, g, d, t, os⟩ := by
  have I : W.InstAt hp x { cls := .ref C, data := .fields fv } C none := ⟨hx, rfl, rfl, trivial⟩
  have SF := F.store_object
  have hxs : x ≠ hp.objs.size := Nat.ne_of_lt (Heap.lt_size hx)
  have sub : W.Looks (model prog w) hp (isInstance (.ref x) (.type "object")) true := I.type.andThen (W.looks_mroIn X (by unfold W.mroIn; rw [hcd, Option.bind_some, if_neg (by rw [ne]; decide), hob]))
  refine codeAny_call_builtin SF.slot.plain SF.entry (@W.check_slot (model prog w) _ _ ⟨hp, g, d, t, os⟩ "object.__setattr__" "object" "__setattr__" (.ref x) [.str name tk, v] [] _ SF.kind SF.split sub (SF.args (.ref x) (.str name tk) v) ?_)
  have hmr : W.Looks (model prog w) hp (mroOf (.ref C)) cd.mro := (W.looks_clsIn X hcd).andThen .now
  have L3 : W.Looks (model prog w) hp (storeTaker? none) none := .now
  have hcls : W.Looks (model prog w) hp (classData C) cd := W.looks_clsIn X hcd
  rw [W.osa_eq, refuse_eq]
  refine wpAny_bind (wpAny_bind (I.type.at (wpAny_bind (hmr.at ?_))))
  rw [hpass]
  refine wpAny_pure (wpAny_bind (I.type.at (wpAny_bind ((W.looks_findIn X ha).at (wpAny_bind (L3.at ?_))))))
  show wpAny _ _ (storeInOwnDict (.ref x) (.ref C) (.str name tk) name v false) _ _ _
  obtain ⟨nm, bs, mro, ns, qn, hd, sn, sb, ab, col, del⟩ := cd
  dsimp only at hh
  subst hh
  unfold storeInOwnDict ownDictForStores
  repeat (first | with_reducible refine store_in_new ?_ ?_ | with_reducible refine wpAny_loadPart_at hx ?_ | with_reducible refine hcls.at ?_ | wp_step)
  · exact ⟨_, #[], _, (Heap.get?_update_ne _ _ _ _ hxs.symm).trans (Heap.get?_push_at rfl rfl), rfl, fun e he => absurd he (by simp), fun _ => rfl⟩
  · intro h' tk' hn' hs
    have hx₁ : (hp.push { cls := .type "dict", data := .dict #[] }).get? x = some { cls := .ref C, data := .fields fv } := Heap.get?_push_of_some _ hx
    refine hq h' tk' hp.objs.size (fun b o hb ho => ?_) (Nat.le_refl _) hxs.symm ?_ hn'
    · exact (hs.2 b (Nat.ne_of_lt (Heap.lt_size ho))).trans ((Heap.get?_update_ne _ _ _ _ hb).trans (Heap.get?_push_of_some _ ho))
    · exact (hs.2 x hxs).trans (Heap.get?_update_self _ hx₁ rfl)
end
section
variable {X : Cx} {pins : List (Addr × Obj)} {σ : L2.St} {H : Hp} {s : Shared} {a C dx : Addr} {f : Str} {y : V} {u : Value} {fs : List (Str × V)} {Q : Unit → Shared → Prop} {E : Value → Shared → Prop} {A : Around}
theorem ostG (T : OexG X.K C) (I : Inv X pins σ H s) (e : H a = some (exo a C none)) (hno : PySem.W.findIn X.K (.ref C) f = some none) (ry : RelV y u)
    (h : ∀ dx s', H dx = none → dx ≠ a → Inv X pins σ (upd (upd H dx (exd dx [(f, y)])) a (exo a C (some dx))) s' → Q () s') : wpAny (model X.prog X.w) A (setAttr (.ref a) f u) Q E s := by
  obtain ⟨Bn, newId, initId, bmB, nm, q, N, bs, bm, sn, sub, ab, col, dd, k0, k1, k2, k3, k5, FB, hC, hbm, hpass, hob⟩ := T.cls
  have hcl : PySem.W.clsIn X.K C = some { name := nm, bases := bs, mro := .ref C :: bm, ns := N, qualname := q, hasDict := true, slotNames := sn, subclasses := sub, abstract := ab, collection := col, hasDel := false } := by unfold PySem.W.clsIn; rw [hC] <;> rfl
  obtain ⟨t1, ho⟩ := exo_at I.hok e
  obtain ⟨hp, g, d, t, os⟩ := s
  have hT : PySem.W.excTail bmB (.ref C :: bm) = true := hbm
  refine PySem.W.set_plain I.kIn (ox := { cls := .ref C, dict := none, data := .fields #[.ref t1, .none, .none, .none, .bool false, .none] }) (od := none) ⟨ho, rfl, rfl, trivial⟩ T.sa ?_
  refine osaG I.kIn ho hcl rfl ((PySem.W.excTail_contains "object" _ hT).trans hob) (fun self => PySem.W.excTail_pass self (hpass self) _ hT) rfl hno (fun h' tk' dx k dn dne hx hn => ?_)
  have hnd : H dx = none := I.hok.fresh dn
  have nd : ∀ {b : Addr} {o : Obj}, hp.get? b = some o → b ≠ dx := fun {b o} q => Nat.ne_of_lt (Nat.lt_of_lt_of_le (Heap.lt_size q) dn)
  have na : ∀ {b : Addr}, H b = none → b ≠ a := fun {b} n z => by
    rw [z, e] at n
    cases n
  have Un1 : Un X.fs [] H (upd (upd H dx (exd dx [(f, y)])) a (exo a C (some dx))) hp h' := {
    keep := fun b o q n _ _ => k b o (na n) q
    slot := fun b o q n _ _ => ⟨o.slots, k b o (na n) q⟩
    free := fun b o q n _ => by rw [upd_ne (na n), upd_ne (nd q)]; exact n
    there := fun b o q _ => by
      by_cases hb : b = a
      · exact ⟨_, by rw [hb]; exact hx⟩
      · exact ⟨o, k b o hb q⟩
    tups := fun b xs q => by rw [upd_ne (at_ne e q exo_tup), upd_ne (ne_of_none q hnd)]; exact q
    frzs := fun b o v q => by rw [upd_ne (at_ne e q exo_frz), upd_ne (ne_of_none q hnd)]; exact q
    tbls := fun b ps q => ⟨#[], by rw [upd_ne (at_ne e q exo_tbl), upd_ne (ne_of_none q hnd), q]; simp⟩ }
  refine h dx _ hnd dne (I.un (t' := tk') Un1 fun b o q => ?_)
  by_cases hb : b = a
  · subst hb
    rw [upd_same] at q
    cases q
    exact exo_ok hx
  · rw [upd_ne hb] at q
    by_cases hd : b = dx
    · subst hd
      rw [upd_same] at q
      cases q
      exact exd_ok hn (relO_put (fs := []) ry fun g => True.intro)
    · rw [upd_ne hd] at q
      exact (I.hok b o q).stay (fun c v hc z => k c v (by
          rcases hc with hc | hc
          · rw [hc]
            exact hb
          · exact at_ne e hc exo_own) z)
        (fun c hc => by rw [upd_ne (at_ne e hc exo_own), upd_ne (ne_of_none hc hnd)]; exact hc) (fun c xs hc => by rw [upd_ne (at_ne e hc exo_tup), upd_ne (ne_of_none hc hnd)]; exact hc)
end
/-- self.f = e, the first field -/
def tOsG (K : PySem.W.Frag) (f : Str) (to te : TE) : TS := fun D σ H => te σ H fun y H1 => to σ H1 fun x H2 => ∃ a C : Addr, x = .ref a ∧ OexG K C ∧ PySem.W.findIn K (.ref C) f = some none ∧
  H2 a = some (exo a C none) ∧ ∀ dx, H2 dx = none → dx ≠ a → D.nx σ (upd (upd H2 dx (exd dx [(f, y)])) a (exo a C (some dx)))
section
variable {X : Cx} {o e : Expr} {es : List Expr} {to te : TE} {ta : TA} {f : Str} {p p' p1 p2 pos : Pos}
theorem ps_ostG (ho : PE X o to) (he : PE X e te) (hs : swapsWith e (some (.Attribute o f p')) pos.line X.env = pure false := by rfl) : PS X (.Assign [.Attribute o f p'] e pos) (tOsG X.K f to te) := by
  refine ⟨fun pins s σ H D I h => ?_⟩
  refine plainObj_wpAny_Assign_Attribute (thn (he.run pins s σ H _ I h) fun v s1 ⟨y, H1, I1, r1, q1⟩ => thn (ho.run pins s1 σ H1 _ I1 q1) fun u s2 ⟨x, H2, I2, r2, a, C, ex, T, hno, ea, q⟩ => ?_) hs
  subst ex
  obtain rfl : u = Value.ref a := r2
  exact ostG T I2 ea hno r1 fun dx s' n ne J => ⟨σ, _, J, q dx n ne⟩
theorem pmk_oexG {CX : CXT} {x : Str} {C fI : Addr} {k : Nat} {fd : FuncData} {ps : List Str} {sp : Sp} {ds : List Value} {dvs : List V} (T : OexG X.K C) (iC : PySem.W.findIn X.K (.ref C) "__init__" = some (some (.ref fI))) (tI : PySem.W.typeIn X.K (.ref fI) = some (.type "function"))
    (F1 : FnOk X.prog X.w X.K X.mg X.base CX k fI fd ps sp) (hr : Room (k + 1) X.A) (hb : Binds X.K fd ps ds) (hd : Vals dvs ds) (hx : Passes CX X (fun _ _ _ => False)) (hg : Gl X x) (hm : X.mg x = some (.ref C)) (ha : PA X (e :: es) ta)
    (hdb : (x == ("__debug__" : Str)) = false := by decide) (he : starEach (e :: es) X.env = (false, eval e X.env) :: starEach es X.env := by rfl) (hpl : (backTo pos (starEach es X.env)).any (·.1) = false := by rfl) :
    PMk X (.Call (.Name x p) (e :: es) [] pos) (tMkO C sp dvs ta) := by
  intro pins s σ H Q I h
  obtain ⟨Bn, newId, initId, bmB, nm, q, N, bs, bm, sn, sub, ab, col, dd, k0, k1, k2, k3, k5, FB, hC, hbm, hpass, hob⟩ := T.cls
  refine wpAny_Call_Name_kw (ld_glob I hg hm ?_ hdb)
  refine PySem.W.callWith_K (h₀ := X.base) I.ok.mod.kin T.kC (thn (ha.run pos pins s σ H _ I h) fun us s1 ⟨vs, H1, I1, r1, hz, q1⟩ => ⟨I1.kIn, ?_⟩) he hpl
  show wpAny _ _ (call (.ref C) us) _ _ _
  obtain ⟨hp, g, dr, tk, os⟩ := s1
  have hsz : hp.objs.size ≤ hp.objs.size + 1 := Nat.le_succ _
  have hn : H1 (hp.objs.size + 1) = none := I1.hok.fresh hsz
  have hq := q1 (hp.objs.size + 1) hn
  have kk : ∀ b o, hp.get? b = some o → ((hp.push (PySem.W.kdv_tup us)).push (PySem.HandSPX.excO C hp.objs.size)).get? b = some o := fun b o e => Heap.get?_push_of_some _ (Heap.get?_push_of_some _ e)
  have hget : ((hp.push (PySem.W.kdv_tup us)).push (PySem.HandSPX.excO C hp.objs.size)).get? (hp.objs.size + 1) = some (PySem.HandSPX.excO C hp.objs.size) := by heap_get
  have I2 : Inv X pins σ (upd H1 (hp.objs.size + 1) (exo (hp.objs.size + 1) C none)) ⟨(hp.push (PySem.W.kdv_tup us)).push (PySem.HandSPX.excO C hp.objs.size), g, dr, tk, os⟩ :=
    I1.laid (t' := tk) (a := hp.objs.size + 1) (o := exo (hp.objs.size + 1) C none) (h' := (hp.push (PySem.W.kdv_tup us)).push (PySem.HandSPX.excO C hp.objs.size)) kk hsz (exo_ok hget)
  have r2 : Vals (V.ref (hp.objs.size + 1) :: (vs ++ dvs)) (Value.ref (hp.objs.size + 1) :: (us ++ ds)) := .cons rfl (r1.append hd)
  have hl : (Value.ref (hp.objs.size + 1) :: us ++ ds).length = ps.length := by
    have e := r2.length
    rw [F1.len _ _ _ _ hq] at e
    exact e.symm
  have hus : us.length ≤ sizeLine := by
    rw [← Paired.length r1, sizeLine_eq]
    omega
  refine wpAny_call (PySem.HandSPX.call_own FB (fun Y => PySem.W.excTail_contains Y bm hbm) (I1.kIn _ _ hC) (PySem.W.looks_findIn I1.kIn iC) (fun self => PySem.W.bind_fn I1.kIn self tI) hus
    (codeAny_mono (F1.run _ X.stack _ _ ⟨Value.ref (hp.objs.size + 1) :: us, []⟩ (Value.ref (hp.objs.size + 1) :: (us ++ ds)) _ _ (fun _ _ _ => False) (hr.make C us []) (I2.env0.make C us []) (hb _ (Value.ref (hp.objs.size + 1) :: us) I2.kIn hl) r2 hq) fun r s' hq' => ?_))
  cases r with
  | error er => exact hx pins σ _ _ er s' I2 hq'
  | ok fl =>
    cases fl with
    | ret u =>
      obtain ⟨v, H2, os2, bare2, un2, hok2, rv, ev, d, fs, ea, ed, hd1, q2⟩ := hq'
      subst ev
      obtain ⟨h2, g2, d2, t2, os'⟩ := s'
      exact ⟨rv, mk_end (raises_own T.exC T.tyC) I1 hsz kk un2 hok2 os2 bare2 ea ed hd1 q2⟩
    | next => exact False.elim hq'
    | brk => exact False.elim hq'
    | cont => exact False.elim hq'
end
end XT
/-! own errors with one field, over any built-in class -/
namespace XT
open PySem PySem.Spec PyProof.Rows L2
def spInitG (C : Addr) (f : Str) : Sp := fun vs H Q _ => ∃ (a : Addr) (y : V), vs = [.ref a, y] ∧ H a = some (exo a C none) ∧ ∀ dx, H dx = none → dx ≠ a → Q .non (upd (upd H dx (exd dx [(f, y)])) a (exo a C (some dx)))
structure ErrG (P : Program) (w : World) (K : PySem.W.Frag) (mg : Str → Option Value) (base : Heap) (x f : Str) (C : Addr) : Prop where
  T : OexG K C
  no : PySem.W.findIn K (.ref C) f = some none
  ini : ∃ (fI : Addr) (fd : FuncData) (ps : List Str), PySem.W.findIn K (.ref C) "__init__" = some (some (.ref fI)) ∧ PySem.W.typeIn K (.ref fI) = some (.type "function") ∧ FnOk P w K mg base CX0 1 fI fd ps (spInitG C f) ∧ Binds K fd ps []
  hm : mg x = some (.ref C)
section
variable {X : Cx} {C : Addr} {x f : Str} {e : Expr} {ta : TA} {p pos : Pos}
theorem pmk_errG (R : ErrG X.prog X.w X.K X.mg X.base x f C) (hr : Room 2 X.A) (hg : Gl X x) (ha : PA X [e] ta)
    (hdb : (x == ("__debug__" : Str)) = false := by decide) (he : starEach [e] X.env = (false, eval e X.env) :: starEach [] X.env := by rfl) (hpl : (backTo pos (starEach [] X.env)).any (·.1) = false := by rfl) :
    PMk X (.Call (.Name x p) [e] [] pos) (tMkO C (spInitG C f) [] ta) := by
  obtain ⟨fI, fd, ps, hi, ht, F, hb⟩ := R.ini
  exact pmk_oexG (CX := CX0) (k := 1) (dvs := []) (ds := []) R.T hi ht F hr hb .nil pass0 hg R.hm ha hdb he hpl
theorem mkoG_in {H1 : Hp} {Q : XK} {y : V} (h : ∀ H' d, Same H1 H' → H' d = some (.xd [(f, y)]) → Q (.ref C) (some d) H') :
    [y].length ≤ 1000 ∧ ∀ a, H1 a = none → spInitG C f (.ref a :: ([y] ++ [])) (upd H1 a (exo a C none))
      (fun v H2 => v = .non ∧ ∃ (d : Addr) (fs : List (Str × V)), H2 a = some (exo a C (some d)) ∧ H2 d = some (exd d fs) ∧ H1 d = none ∧ Q (.ref C) (some d) (upd (del H2 a) d (.xd fs))) (fun _ _ _ => False) := by
  refine ⟨by simp, fun a n => ⟨a, y, rfl, upd_same, fun dx nd ne => ⟨rfl, dx, [(f, y)], upd_same, ?_, ?_, ?_⟩⟩⟩
  · exact (upd_ne ne).trans upd_same
  · rw [upd_ne ne] at nd
    exact nd
  · rw [upd_ne ne] at nd
    exact h _ dx (same_xd n nd ne) upd_same
end
/-- a caught error with a field -/
structure CauG (K : PySem.W.Frag) (mg : Str → Option Value) (x f : Str) (C : Addr) : Prop where
  is : IsC K C
  xf : XfC K C
  no : PySem.W.findIn K (.ref C) f = some none
  hm : mg x = some (.ref C)
  exm : PySem.W.exmOne K (.ref C) (.ref C) = some true
theorem bLE : bootBuiltins "LookupError" = some (.type "LookupError") := by decide +kernel
theorem bVE : bootBuiltins "ValueError" = some (.type "ValueError") := by decide +kernel
end XT
/-! o.f as one of several targets; str of an own class -/
namespace XT
open PySem PySem.Spec PyProof.Rows L2
def gAtt (K : PySem.W.Frag) (ta : TE) (f : Str) : TG := fun v σ H Q => ta σ H fun x H1 => ∃ a C dx fs, x = .ref a ∧ H1 a = some (.ins C dx fs) ∧ Cls K C ∧ NoAttr K C f ∧ fs.length < 1000 ∧ Q σ (upd H1 a (.ins C dx (putF f v fs)))
section
variable {X : Cx} {o : Expr} {f : Str} {ta : TE} {pos : Pos}
theorem pg_att (ho : PE X o ta) : PG X (.Attribute o f pos) (gAtt X.K ta f) := by
  refine ⟨fun pins s σ H v u Q I r h => ?_⟩
  show wpAny _ _ (assign (.Attribute o f pos) X.env u) _ _ _
  unfold assign
  refine wpAny_bind (wpAny_holding (thn (ho.run pins s σ H _ I h) fun ov s1 ⟨x, H1, I1, r1, a, C, dx, fs, ex, ea, c, n, l, q⟩ => ?_))
  subst ex
  obtain rfl : ov = Value.ref a := r1
  refine wpAny_bind (wpAny_standAt (wpAny_bind (wpAny_holding (setattr_ok I1 ea c n l r fun s3 I3 => ?_))))
  exact wpAny_release ⟨σ, _, I3, q⟩
end
/-- str(a) -/
def rOwnStr (C : Addr) (sp : Sp) : List V → Hp → VK → Prop := fun xs H Q => ∃ x, xs = [x] ∧ (∃ fs, InsAt H C x fs) ∧ sp [x] H (fun v H' => ∃ y : Str, v = .str y ∧ Q (.str y) H') E0
section
variable {X : Cx} {pins : List (Addr × Obj)} {σ : L2.St} {H : Hp} {s : Shared} {j : Nat} {f C : Addr} {sp : Sp} {us : List Value} {vs : List V} {Q : VK}
theorem run_met2A (F : Met X.prog X.w X.K X.mg X.base j f sp) (hr : Room (j + 2) X.A) (I : Inv X pins σ H s) (r : Vals vs us) (q : sp vs H Q E0) : wpAny (model X.prog X.w) X.A.in1.in1 (call (.ref f) us) (EP X pins σ Q) X.xe s := by
  refine wpAny_call (codeAny_mono (F X.A.in1.in1 X.stack s H us vs Q E0 hr.in1.in1 I.env0.in1.in1 r q) fun r s2 hq => ?_)
  match r, hq with
  | .ok (.ret v), hq => exact I.after hq
  | .ok .next, hq => exact False.elim hq
  | .ok .brk, hq => exact False.elim hq
  | .ok .cont, hq => exact False.elim hq
  | .error e, hq => exact pass0 pins σ H s e s2 I hq
theorem cr_ownStr (F : Met X.prog X.w X.K X.mg X.base j f sp) (hr : Room (j + 2) X.A) (h : Has X.K C "__str__" f) : CallR X (.type "str") (rOwnStr C sp) := by
  intro pins s σ H xs us Q I r ⟨x, exs, ⟨fs, a, dx, ex, ha⟩, q⟩
  subst exs ex
  rw [Vals.ref1 r]
  obtain ⟨od, J⟩ := inst_at I ha
  refine PySem.W.kso_call (by have := hr.un; show X.A.units + 1 + 1 < cLine; omega) I.kIn J h.at_ h.fn (wpAny_mono (run_met2A (vs := [.ref a]) F hr I (.cons rfl .nil) q) (fun u s' z => ?_) fun _ _ z => z)
  obtain ⟨v, H', I', rv, y, ev, q'⟩ := z
  subst ev
  obtain ⟨t, rfl⟩ := rv
  exact ⟨.str y, H', I', ⟨_, rfl⟩, q'⟩
theorem cr_strR (D : OwnR X.prog X.w X.K X.mg X.base j C "__str__" sp) (hr : Room (j + 2) X.A) : CallR X (.type "str") (rOwnStr C sp) := by
  obtain ⟨f, h, F⟩ := D
  exact cr_ownStr F hr h
end
end XT
/-! zip of a list and a tuple -/
namespace XT
open PySem PySem.Spec PyProof.Rows L2
/-- a list and a tuple side by side -/
def ItzLT (K : PySem.W.Frag) (a b : Addr) : It :=
  ⟨fun i H => ∃ (xs ys : List V) (x y : V), SqL K H a xs ∧ SqT K H b ys ∧ xs[i]? = some x ∧ ys[i]? = some y,
    fun i H v H' => ∃ T x y, v = .ref T ∧ H T = none ∧ H' = upd H T (.tup [x, y]) ∧ (∀ xs, SqL K H a xs → xs[i]? = some x) ∧ ∀ ys, SqT K H b ys → ys[i]? = some y,
    fun i H => ∃ xs ys : List V, SqL K H a xs ∧ SqT K H b ys ∧ i ≤ xs.length ∧ i ≤ ys.length ∧ (i = xs.length ∨ i = ys.length)⟩
theorem turn_zipLT {P : Program} {w : World} {K : PySem.W.Frag} {elts : List Expr} {kk : Nat} {tpos : Pos} {a b z TI TO i1 i2 : Addr} (na : a ≠ i1) (nb : b ≠ i2) (S : ZipSep2 z TI TO i1 i2 [i1, a] [i2, b]) :
    Turn P w K (.Tuple elts kk tpos) (ItzLT K a b) [z, TI, TO, i1, i2] z (fun i h => IsZip h z TI TO .none ∧ IsTupOf2 h TI (.ref i1) (.ref i2) ∧ (∃ a1 a2, IsTupOf2 h TO a1 a2) ∧ h.IsListIter i1 a i ∧ h.IsTupleIter i2 b i) where
  mem := by simp
  obj := fun i h st c hc => by
    obtain ⟨hz, hTI, ⟨x, y, hTO⟩, ⟨o1, e1, _, d1⟩, ⟨o2, e2, _, d2⟩⟩ := st
    have e' : c = z ∨ c = TI ∨ c = TO ∨ c = i1 ∨ c = i2 := by simpa using hc
    rcases e' with q | q | q | q | q
    · rw [q]; exact ⟨_, hz, fun v q => nomatch q⟩
    · rw [q]; exact ⟨_, hTI, fun v q => nomatch q⟩
    · rw [q]; exact ⟨_, hTO, fun v q => nomatch q⟩
    · rw [q]; exact ⟨o1, e1, fun v q => by rw [d1] at q; cases q⟩
    · rw [q]; exact ⟨o2, e2, fun v q => by rw [d2] at q; cases q⟩
  keep := fun i h h' st k => by
    obtain ⟨hz, hTI, ⟨x, y, hTO⟩, h1, h2⟩ := st
    exact ⟨k z (by simp) _ hz, k TI (by simp) _ hTI, ⟨x, y, k TO (by simp) _ hTO⟩, h1.at fun o q => k i1 (by simp) o q, h2.at fun o q => k i2 (by simp) o q⟩
  item := by
    intro X hP hw hK hc i pins s σ H E I hf st hg
    subst hP hw hK
    obtain ⟨hz, hTI, ⟨x0, y0, hTO⟩, h1, h2⟩ := st
    obtain ⟨xs, ys, x, y, hqx, hqy, hx, hy⟩ := hg
    obtain ⟨its, rv, p, _⟩ := I.list hqx
    obtain ⟨its2, rv2, p2, _⟩ := I.tuple hqy
    obtain ⟨u, hu, ru⟩ := rv.get hx
    obtain ⟨u2, hu2, ru2⟩ := rv2.get hy
    have hzl : z < s.heap.objs.size := Heap.lt_size hz
    have hA : X.A.in1.handled = none := I.ok.hd hc
    have l1 : i < its.toArray.size := by
      have := (List.getElem?_eq_some_iff.mp hu).1
      simpa using this
    have l2 : i < its2.toArray.size := by
      have := (List.getElem?_eq_some_iff.mp hu2).1
      simpa using this
    refine wpAny_pyNext_zipD2_item S (Draws.list hA i1 a na its.toArray) (Draws.tuple hA i2 b nb its2.toArray) hz hTI hTO ⟨h1, p.isList⟩ ⟨h2, p2⟩ l1 l2 fun v1 v2 h' tk q1 q2 z' TO' h1' h2' hT hsz hk => ?_
    have hT : h'.get? s.heap.objs.size = some { cls := .type "tuple", data := .seq #[u, u2] } := by
      have e1 : v1 = u := by
        have q1 : its.toArray[i]? = some v1 := q1
        simp [hu] at q1
        exact q1.symm
      have e2 : v2 = u2 := by
        have q2 : its2.toArray[i]? = some v2 := q2
        simp [hu2] at q2
        exact q2.symm
      rw [← e1, ← e2]
      exact hT
    refine ⟨_, rfl, wpAny_letOwnedTupleGo_zip (s := { s with heap := h', toks := tk }) z' fun h'' z'' sb => ?_⟩
    have hT2 : h''.get? s.heap.objs.size = some { cls := .type "tuple", data := .seq #[u, u2] } := (sb.2 _ (Nat.ne_of_gt hzl)).trans hT
    have new : ObjOk X.prog X.w (upd H s.heap.objs.size (.tup [x, y])) h'' s.heap.objs.size (.tup [x, y]) :=
      ⟨by show 2 ≤ sizeLine; decide, [u, u2], .cons ru (.cons ru2 .nil), ⟨_, hT2, rfl, _, rfl⟩⟩
    have I1 : Inv X pins σ (upd H s.heap.objs.size (.tup [x, y])) { s with heap := h'', toks := tk } :=
      I.turnedNew (t' := tk) (ch := [z, TI, TO, i1, i2]) (fun c o hb q => (sb.2 c (fun q' => hb (by simp [q']))).trans (hk c o (fun q' => hb (by simp [q'])) (fun q' => hb (by simp [q'])) (fun q' => hb (by simp [q'])) (fun q' => hb (by simp [q'])) q)) hf (Nat.le_refl _) new
    refine ⟨.ref s.heap.objs.size, _, I1, rfl, ⟨_, x, y, rfl, I.hok.fresh (Nat.le_refl _), rfl, fun l hl => by rw [I.list_inj hl hqx]; exact hx, fun l hl => by rw [I.tuple_inj hl hqy]; exact hy⟩, ⟨z'', ?_, ⟨v1, v2, ?_⟩, ?_, ?_⟩, fun c hcm => ?_⟩
    · exact (sb.2 _ S.TIz).trans (hk _ _ S.TIz S.TITO S.TIi1 S.TIi2 hTI)
    · exact (sb.2 _ S.TOz).trans TO'
    · exact h1'.1.at fun o q => (sb.2 _ S.zi1.symm).trans q
    · exact h2'.1.at fun o q => (sb.2 _ S.zi2.symm).trans q
    · have hlt : c < s.heap.objs.size := by
        have e' : c = z ∨ c = TI ∨ c = TO ∨ c = i1 ∨ c = i2 := by simpa using hcm
        rcases e' with q | q | q | q | q
        · rw [q]; exact hzl
        · rw [q]; exact Heap.lt_size hTI
        · rw [q]; exact Heap.lt_size hTO
        · rw [q]; obtain ⟨_, e1, _⟩ := h1; exact Heap.lt_size e1
        · rw [q]; obtain ⟨_, e2, _⟩ := h2; exact Heap.lt_size e2
      rw [upd_ne (Nat.ne_of_lt hlt)]
      exact (hf c hcm).1
  done := by
    intro X hP hw hK hc i pins s σ H E I hf st hg
    subst hP hw hK
    obtain ⟨hz, hTI, ⟨x0, y0, hTO⟩, h1, h2⟩ := st
    obtain ⟨xs, ys, hqx, hqy, le1, le2, hend⟩ := hg
    obtain ⟨its, rv, p, _⟩ := I.list hqx
    obtain ⟨its2, rv2, p2, _⟩ := I.tuple hqy
    have l1 := rv.length
    have l2 := rv2.length
    have hA : X.A.in1.handled = none := I.ok.hd hc
    exact wpAny_pyNext_zipD2_end S (Draws.list hA i1 a na its.toArray) (Draws.tuple hA i2 b nb its2.toArray) hz hTI hTO ⟨h1, p.isList⟩ ⟨h2, p2⟩ (by simp; omega) (by simp; omega) (by simp; omega) fun h' tk hk => ⟨rfl, I.turnedL (t' := tk) (ch := [z, TI, TO, i1, i2]) (fun c o hb q =>
      hk c o (fun q' => hb (by simp [q'])) (fun q' => hb (by simp [q'])) (fun q' => hb (by simp [q'])) (fun q' => hb (by simp [q'])) q) hf⟩
  self := fun A i s Q E st h => wpAny_pyIter_zip st.1 h
def iZipLT (K : PySem.W.Frag) (ta : TA) : TI := fun σ H R => ta σ H fun vs H1 => ∃ a b xs ys, vs = [.ref a, .ref b] ∧ SqL K H1 a xs ∧ SqT K H1 b ys ∧ R (ItzLT K a b) H1
theorem pi_zipLT {X : Cx} {e e2 : Expr} {ta : TA} {p pos tpos : Pos} {elts : List Expr} {kk : Nat} (hg : Gl X "zip") (hm : X.mg "zip" = none) (ha : PA X [e, e2] ta)
    (hs : starEach [e, e2] X.env = (false, eval e X.env) :: starEach [e2] X.env := by rfl) (hpl : (backTo pos (starEach [e2] X.env)).any (·.1) = false := by rfl) :
    PI X (.Tuple elts kk tpos) (.Call (.Name "zip" p) [e, e2] [] pos) (iZipLT X.K ta) := by
  refine ⟨fun pins s σ H R I h => ?_⟩
  refine Call_ (ld_blt I hg hm PyProof.Rows.boot_zip (PyProof.Rows.callWith_type1 (thn (ha.run pos pins s σ H _ I h) fun us s1 ⟨vs, H1, I1, r1, q1⟩ => ?_) hs hpl))
  obtain ⟨a, b, xs, ys, ex, hqx, hqy, q1⟩ := q1
  subst ex
  cases r1 with
  | cons r rr =>
    cases rr with
    | cons r' rr =>
      cases rr
      cases r
      cases r'
      obtain ⟨its, rv, p1, _⟩ := I1.list hqx
      obtain ⟨its2, rv2, p2, _⟩ := I1.tuple hqy
      have la : a < s1.heap.objs.size := p1.lt
      have lb : b < s1.heap.objs.size := by
        obtain ⟨o, e, _⟩ := p2
        exact Heap.lt_size e
      have fresh5 : ∀ c, c ∈ [s1.heap.objs.size + 4, s1.heap.objs.size + 2, s1.heap.objs.size + 3, s1.heap.objs.size, s1.heap.objs.size + 1] → FpOk X pins H1 c := fun c hcm => by
        have e' : c = s1.heap.objs.size + 4 ∨ c = s1.heap.objs.size + 2 ∨ c = s1.heap.objs.size + 3 ∨ c = s1.heap.objs.size ∨ c = s1.heap.objs.size + 1 := by simpa using hcm
        have hle : s1.heap.objs.size ≤ c := by
          rcases e' with z | z | z | z | z
          · rw [z]; exact Nat.le_add_right _ _
          · rw [z]; exact Nat.le_add_right _ _
          · rw [z]; exact Nat.le_add_right _ _
          · rw [z]; exact Nat.le_refl _
          · rw [z]; exact Nat.le_add_right _ _
        exact I1.fpOk hle (I1.hok.fresh hle)
      refine zip_begins2 (begins_list a its.toArray) (begins_tuple b its2.toArray) p1.isList p2 fun h' hz hTI hTO h1 h2 hsz hk => wpAny_pyIter_zip hz ?_
      have I2 : Inv X pins σ H1 { s1 with heap := h' } := I1.kept (t' := s1.toks) hk
      exact ⟨s1.heap.objs.size + 4, [s1.heap.objs.size + 4, s1.heap.objs.size + 2, s1.heap.objs.size + 3, s1.heap.objs.size, s1.heap.objs.size + 1], _, _, H1, rfl, I2, turn_zipLT (Nat.ne_of_lt la) (Nat.ne_of_lt (Nat.lt_succ_of_lt lb)) (zip_sep2 (fp1 := [a]) (fp2 := [b]) (fun c hc => by rw [List.mem_singleton.mp hc]; exact la) (fun c hc => by rw [List.mem_singleton.mp hc]; exact lb)), ⟨hz, hTI, ⟨_, _, hTO⟩, ⟨_, h1, rfl, rfl⟩, ⟨_, h2, rfl, rfl⟩⟩, fresh5, q1⟩
theorem lc_zipLT {K : PySem.W.Frag} {a b : Addr} {xs ys : List V} {g : TG} {tt : TT} {te : TE} {vs : List Nat} {σ : L2.St} {H1 : Hp} {D : Addr} {Qd : Hp → Prop} (hl : xs.length = ys.length) (Pv : Nat → Hp → Prop) (h0 : Pv 0 (upd H1 D (.lst []))) (hq : ∀ i H, Pv i H → SqL K H a xs ∧ SqT K H b ys)
    (hs : ∀ i x y T H, xs[i]? = some x → ys[i]? = some y → Pv i H → H T = none → g (.ref T) (wipe σ vs) (upd H T (.tup [x, y])) fun σ2 H2 => wipe σ2 vs = wipe σ vs ∧ tt σ2 H2 fun c H3 =>
      if c = true then te σ2 H3 fun y H4 => ∃ acc, H4 D = some (.lst acc) ∧ acc.length < sizeLine ∧ Pv (i + 1) (upd H4 D (.lst (acc ++ [y]))) else Pv (i + 1) H3) (hd : ∀ H, Pv xs.length H → Qd H) :
    ∃ W : Nat → Nat → Hp → Prop, (∃ m, W 0 m (upd H1 D (.lst []))) ∧ ∀ i m H, W i m H →
      ((ItzLT K a b).stop i H ∧ Qd H) ∨ ((ItzLT K a b).go i H ∧ ∃ Nx : Hp → Prop, (∀ H', Nx H' → ∃ m', m' < m ∧ W (i + 1) m' H') ∧ ∀ x H', (ItzLT K a b).yld i H x H' → g x (wipe σ vs) H' fun σ2 H2 => wipe σ2 vs = wipe σ vs ∧ tt σ2 H2 fun c H3 =>
        if c = true then te σ2 H3 fun y H4 => ∃ acc, H4 D = some (.lst acc) ∧ acc.length < sizeLine ∧ Nx (upd H4 D (.lst (acc ++ [y]))) else Nx H3) := by
  refine ⟨fun i m H => m = xs.length - i ∧ i ≤ xs.length ∧ Pv i H, ⟨xs.length, rfl, Nat.zero_le _, h0⟩, ?_⟩
  rintro i m H ⟨rfl, hi, p⟩
  obtain ⟨qx, qy⟩ := hq i H p
  rcases Nat.lt_or_ge i xs.length with lt | ge
  · have hx : xs[i]? = some xs[i] := List.getElem?_eq_getElem lt
    have hy : ys[i]? = some (ys[i]'(by omega)) := List.getElem?_eq_getElem (by omega)
    refine .inr ⟨⟨xs, ys, _, _, qx, qy, hx, hy⟩, Pv (i + 1), fun H' p' => ⟨xs.length - (i + 1), by omega, rfl, lt, p'⟩, fun v H' z => ?_⟩
    obtain ⟨T, x', y', rfl, hT, rfl, f1, f2⟩ := z
    exact hs i x' y' T H (f1 xs qx) (f2 ys qy) p hT
  · have e : i = xs.length := by omega
    subst e
    exact .inl ⟨⟨xs, ys, qx, qy, Nat.le_refl _, by omega, Or.inl rfl⟩, hd H p⟩
/-- turns that only lay new things, whose values are given one by one -/
theorem lcn_zipLT {K : PySem.W.Frag} {a b : Addr} {xs ys : List V} {g : TG} {tt : TT} {te : TE} {vs : List Nat} {σ : L2.St} {H1 : Hp} {D : Addr} {Qd : Hp → Prop} (f : Nat → V) (hl : xs.length = ys.length) (nD : H1 D = none) (hx : SqL K H1 a xs) (hy : SqT K H1 b ys) (hz : xs.length < sizeLine)
    (ht : ∀ i x y T H, xs[i]? = some x → ys[i]? = some y → Same H1 H → H T = none → ∀ (R1 : Hp → Prop) (R2 : V → Hp → Prop), (∀ H4, Same H H4 → R2 (f i) H4) → g (.ref T) (wipe σ vs) (upd H T (.tup [x, y])) fun σ2 H2 => wipe σ2 vs = wipe σ vs ∧ tt σ2 H2 fun b H3 => if b = true then te σ2 H3 R2 else R1 H3)
    (hd : ∀ H, Same H1 H → H D = some (.lst ((List.range xs.length).map f)) → Qd H) :
    ∃ W : Nat → Nat → Hp → Prop, (∃ m, W 0 m (upd H1 D (.lst []))) ∧ ∀ i m H, W i m H →
      ((ItzLT K a b).stop i H ∧ Qd H) ∨ ((ItzLT K a b).go i H ∧ ∃ Nx : Hp → Prop, (∀ H', Nx H' → ∃ m', m' < m ∧ W (i + 1) m' H') ∧ ∀ x H', (ItzLT K a b).yld i H x H' → g x (wipe σ vs) H' fun σ2 H2 => wipe σ2 vs = wipe σ vs ∧ tt σ2 H2 fun c H3 =>
        if c = true then te σ2 H3 fun y H4 => ∃ acc, H4 D = some (.lst acc) ∧ acc.length < sizeLine ∧ Nx (upd H4 D (.lst (acc ++ [y]))) else Nx H3) := by
  refine lc_zipLT hl (fun i H => Same H1 H ∧ H D = some (.lst ((List.range i).map f))) ⟨same_new nD, upd_same⟩ (fun i H h => ⟨h.1.seq hx, Same.sqT h.1 hy⟩) (fun i x y T H hxi hyi h nT => ?_) (fun H h => hd H h.1 h.2)
  have hi : i < xs.length := (List.getElem?_eq_some_iff.mp hxi).1
  refine ht i x y T H hxi hyi h.1 nT _ _ fun H4 s4 => ⟨_, s4 _ _ h.2, by rw [List.length_map, List.length_range]; omega, fun c o e => ?_, ?_⟩
  · rw [upd_ne (ne_of_none e nD)]
    exact s4 _ _ (h.1 _ _ e)
  · rw [upd_same, List.range_succ, List.map_append]
    rfl
end XT
/-! zip of two texts, sign by sign -/
namespace XT
open PySem PySem.Spec PyProof.Rows L2
/-- two texts side by side -/
def ItzS (x y : Str) : It :=
  ⟨fun i _ => i < x.cps.size ∧ i < y.cps.size,
    fun i H v H' => ∃ T c d, v = .ref T ∧ H T = none ∧ H' = upd H T (.tup [.str ⟨#[c]⟩, .str ⟨#[d]⟩]) ∧ x.cps[i]? = some c ∧ y.cps[i]? = some d,
    fun i _ => i ≤ x.cps.size ∧ i ≤ y.cps.size ∧ (i = x.cps.size ∨ i = y.cps.size)⟩
theorem turn_zipS {P : Program} {w : World} {K : PySem.W.Frag} {elts : List Expr} {kk : Nat} {tpos : Pos} {x y : Str} {tx ty : Tok} {z TI TO i1 i2 : Addr} (S : ZipSep2 z TI TO i1 i2 [i1] [i2]) :
    Turn P w K (.Tuple elts kk tpos) (ItzS x y) [z, TI, TO, i1, i2] z (fun i h => IsZip h z TI TO .none ∧ IsTupOf2 h TI (.ref i1) (.ref i2) ∧ (∃ a1 a2, IsTupOf2 h TO a1 a2) ∧ h.IsStrIter i1 (strIterType x) x tx i ∧ h.IsStrIter i2 (strIterType y) y ty i) where
  mem := by simp
  obj := fun i h st c hc => by
    obtain ⟨hz, hTI, ⟨x, y, hTO⟩, ⟨o1, e1, _, d1⟩, ⟨o2, e2, _, d2⟩⟩ := st
    have e' : c = z ∨ c = TI ∨ c = TO ∨ c = i1 ∨ c = i2 := by simpa using hc
    rcases e' with q | q | q | q | q
    · rw [q]; exact ⟨_, hz, fun v q => nomatch q⟩
    · rw [q]; exact ⟨_, hTI, fun v q => nomatch q⟩
    · rw [q]; exact ⟨_, hTO, fun v q => nomatch q⟩
    · rw [q]; exact ⟨o1, e1, fun v q => by rw [d1] at q; cases q⟩
    · rw [q]; exact ⟨o2, e2, fun v q => by rw [d2] at q; cases q⟩
  keep := fun i h h' st k => by
    obtain ⟨hz, hTI, ⟨x, y, hTO⟩, ⟨o1, e1, r1⟩, ⟨o2, e2, r2⟩⟩ := st
    exact ⟨k z (by simp) _ hz, k TI (by simp) _ hTI, ⟨x, y, k TO (by simp) _ hTO⟩, ⟨o1, k i1 (by simp) _ e1, r1⟩, ⟨o2, k i2 (by simp) _ e2, r2⟩⟩
  item := by
    intro X hP hw hK hc i pins s σ H E I hf st hg
    subst hP hw hK
    obtain ⟨hz, hTI, ⟨x0, y0, hTO⟩, h1, h2⟩ := st
    have hzl : z < s.heap.objs.size := Heap.lt_size hz
    have hA : X.A.in1.handled = none := I.ok.hd hc
    refine wpAny_pyNext_zipD2_item S (Draws.text hA i1 x tx) (Draws.text hA i2 y ty) hz hTI hTO h1 h2 hg.1 hg.2 fun u1 u2 h' tk p1 p2 z' TO' h1' h2' hT hsz hk => ?_
    obtain ⟨c, t1, hc1, rfl⟩ := p1
    obtain ⟨d, t2, hd1, rfl⟩ := p2
    refine ⟨_, rfl, wpAny_letOwnedTupleGo_zip (s := { s with heap := h', toks := tk }) z' fun h'' z'' sb => ?_⟩
    have hT2 : h''.get? s.heap.objs.size = some { cls := .type "tuple", data := .seq #[.str ⟨#[c]⟩ t1, .str ⟨#[d]⟩ t2] } := (sb.2 _ (Nat.ne_of_gt hzl)).trans hT
    have new : ObjOk X.prog X.w (upd H s.heap.objs.size (.tup [.str ⟨#[c]⟩, .str ⟨#[d]⟩])) h'' s.heap.objs.size (.tup [.str ⟨#[c]⟩, .str ⟨#[d]⟩]) :=
      ⟨by show 2 ≤ sizeLine; decide, [.str ⟨#[c]⟩ t1, .str ⟨#[d]⟩ t2], .cons ⟨t1, rfl⟩ (.cons ⟨t2, rfl⟩ .nil), ⟨_, hT2, rfl, _, rfl⟩⟩
    have I1 : Inv X pins σ (upd H s.heap.objs.size (.tup [.str ⟨#[c]⟩, .str ⟨#[d]⟩])) { s with heap := h'', toks := tk } :=
      I.turnedNew (t' := tk) (ch := [z, TI, TO, i1, i2]) (fun c o hb q => (sb.2 c (fun q' => hb (by simp [q']))).trans (hk c o (fun q' => hb (by simp [q'])) (fun q' => hb (by simp [q'])) (fun q' => hb (by simp [q'])) (fun q' => hb (by simp [q'])) q)) hf (Nat.le_refl _) new
    refine ⟨.ref s.heap.objs.size, _, I1, rfl, ⟨_, c, d, rfl, I.hok.fresh (Nat.le_refl _), rfl, hc1, hd1⟩, ⟨z'', ?_, ⟨.str ⟨#[c]⟩ t1, .str ⟨#[d]⟩ t2, ?_⟩, ?_, ?_⟩, fun c hcm => ?_⟩
    · exact (sb.2 _ S.TIz).trans (hk _ _ S.TIz S.TITO S.TIi1 S.TIi2 hTI)
    · exact (sb.2 _ S.TOz).trans TO'
    · obtain ⟨o, e, r⟩ := h1'
      exact ⟨o, (sb.2 _ S.zi1.symm).trans e, r⟩
    · obtain ⟨o, e, r⟩ := h2'
      exact ⟨o, (sb.2 _ S.zi2.symm).trans e, r⟩
    · have hlt : c < s.heap.objs.size := by
        have e' : c = z ∨ c = TI ∨ c = TO ∨ c = i1 ∨ c = i2 := by simpa using hcm
        rcases e' with q | q | q | q | q
        · rw [q]; exact hzl
        · rw [q]; exact Heap.lt_size hTI
        · rw [q]; exact Heap.lt_size hTO
        · rw [q]; obtain ⟨_, e1, _⟩ := h1; exact Heap.lt_size e1
        · rw [q]; obtain ⟨_, e2, _⟩ := h2; exact Heap.lt_size e2
      rw [upd_ne (Nat.ne_of_lt hlt)]
      exact (hf c hcm).1
  done := by
    intro X hP hw hK hc i pins s σ H E I hf st hg
    subst hP hw hK
    obtain ⟨hz, hTI, ⟨x0, y0, hTO⟩, h1, h2⟩ := st
    have hA : X.A.in1.handled = none := I.ok.hd hc
    exact wpAny_pyNext_zipD2_end S (Draws.text hA i1 x tx) (Draws.text hA i2 y ty) hz hTI hTO h1 h2 hg.1 hg.2.1 hg.2.2 fun h' tk hk => ⟨rfl, I.turnedL (t' := tk) (ch := [z, TI, TO, i1, i2]) (fun c o hb q =>
      hk c o (fun q' => hb (by simp [q'])) (fun q' => hb (by simp [q'])) (fun q' => hb (by simp [q'])) (fun q' => hb (by simp [q'])) q) hf⟩
  self := fun A i s Q E st h => wpAny_pyIter_zip st.1 h

def iZipS (ta : TA) : TI := fun σ H R => ta σ H fun vs H1 => ∃ x y : Str, vs = [.str x, .str y] ∧ R (ItzS x y) H1
theorem pi_zipS {X : Cx} {e e2 : Expr} {ta : TA} {p pos tpos : Pos} {elts : List Expr} {kk : Nat} (hg : Gl X "zip") (hm : X.mg "zip" = none) (ha : PA X [e, e2] ta)
    (hs : starEach [e, e2] X.env = (false, eval e X.env) :: starEach [e2] X.env := by rfl) (hpl : (backTo pos (starEach [e2] X.env)).any (·.1) = false := by rfl) :
    PI X (.Tuple elts kk tpos) (.Call (.Name "zip" p) [e, e2] [] pos) (iZipS ta) := by
  refine ⟨fun pins s σ H R I h => ?_⟩
  refine Call_ (ld_blt I hg hm PyProof.Rows.boot_zip (PyProof.Rows.callWith_type1 (thn (ha.run pos pins s σ H _ I h) fun us s1 ⟨vs, H1, I1, r1, q1⟩ => ?_) hs hpl))
  obtain ⟨x, y, ex, q1⟩ := q1
  subst ex
  cases r1 with
  | cons r rr =>
    cases rr with
    | cons r' rr =>
      cases rr
      obtain ⟨tx, rfl⟩ := r
      obtain ⟨ty, rfl⟩ := r'
      have fresh5 : ∀ c, c ∈ [s1.heap.objs.size + 4, s1.heap.objs.size + 2, s1.heap.objs.size + 3, s1.heap.objs.size, s1.heap.objs.size + 1] → FpOk X pins H1 c := fun c hcm => by
        have e' : c = s1.heap.objs.size + 4 ∨ c = s1.heap.objs.size + 2 ∨ c = s1.heap.objs.size + 3 ∨ c = s1.heap.objs.size ∨ c = s1.heap.objs.size + 1 := by simpa using hcm
        have hle : s1.heap.objs.size ≤ c := by
          rcases e' with z | z | z | z | z
          · rw [z]; exact Nat.le_add_right _ _
          · rw [z]; exact Nat.le_add_right _ _
          · rw [z]; exact Nat.le_add_right _ _
          · rw [z]; exact Nat.le_refl _
          · rw [z]; exact Nat.le_add_right _ _
        exact I1.fpOk hle (I1.hok.fresh hle)
      refine zip_begins2 (begins_text x tx) (begins_text y ty) trivial trivial fun h' hz hTI hTO h1 h2 hsz hk => wpAny_pyIter_zip hz ?_
      have I2 : Inv X pins σ H1 { s1 with heap := h' } := I1.kept (t' := s1.toks) hk
      exact ⟨s1.heap.objs.size + 4, [s1.heap.objs.size + 4, s1.heap.objs.size + 2, s1.heap.objs.size + 3, s1.heap.objs.size, s1.heap.objs.size + 1], _, _, H1, rfl, I2, turn_zipS (zip_sep2 (fp1 := []) (fp2 := []) (fun b hb => nomatch hb) (fun b hb => nomatch hb)), ⟨hz, hTI, ⟨_, _, hTO⟩, ⟨_, h1, rfl, rfl⟩, ⟨_, h2, rfl, rfl⟩⟩, fresh5, q1⟩
/-- a comprehension over zip of two texts of one length -/
theorem lc_zipS {x y : Str} {g : TG} {tt : TT} {te : TE} {vs : List Nat} {σ : L2.St} {H1 : Hp} {D : Addr} {Qd : Hp → Prop} (hl : x.cps.size = y.cps.size) (Pv : Nat → Hp → Prop) (h0 : Pv 0 (upd H1 D (.lst [])))
    (hs : ∀ i c d T H, x.cps[i]? = some c → y.cps[i]? = some d → Pv i H → H T = none → g (.ref T) (wipe σ vs) (upd H T (.tup [.str ⟨#[c]⟩, .str ⟨#[d]⟩])) fun σ2 H2 => wipe σ2 vs = wipe σ vs ∧ tt σ2 H2 fun b H3 =>
      if b = true then te σ2 H3 fun y H4 => ∃ acc, H4 D = some (.lst acc) ∧ acc.length < sizeLine ∧ Pv (i + 1) (upd H4 D (.lst (acc ++ [y]))) else Pv (i + 1) H3) (hd : ∀ H, Pv x.cps.size H → Qd H) :
    ∃ W : Nat → Nat → Hp → Prop, (∃ m, W 0 m (upd H1 D (.lst []))) ∧ ∀ i m H, W i m H →
      ((ItzS x y).stop i H ∧ Qd H) ∨ ((ItzS x y).go i H ∧ ∃ Nx : Hp → Prop, (∀ H', Nx H' → ∃ m', m' < m ∧ W (i + 1) m' H') ∧ ∀ z H', (ItzS x y).yld i H z H' → g z (wipe σ vs) H' fun σ2 H2 => wipe σ2 vs = wipe σ vs ∧ tt σ2 H2 fun b H3 =>
        if b = true then te σ2 H3 fun y H4 => ∃ acc, H4 D = some (.lst acc) ∧ acc.length < sizeLine ∧ Nx (upd H4 D (.lst (acc ++ [y]))) else Nx H3) := by
  refine ⟨fun i m H => m = x.cps.size - i ∧ i ≤ x.cps.size ∧ Pv i H, ⟨x.cps.size, rfl, Nat.zero_le _, h0⟩, ?_⟩
  rintro i m H ⟨rfl, hi, p⟩
  rcases Nat.lt_or_ge i x.cps.size with lt | ge
  · refine .inr ⟨⟨lt, by omega⟩, Pv (i + 1), fun H' p' => ⟨x.cps.size - (i + 1), by omega, rfl, lt, p'⟩, fun v H' z => ?_⟩
    obtain ⟨T, c, d, rfl, hT, rfl, f1, f2⟩ := z
    exact hs i c d T H f1 f2 p hT
  · have e : i = x.cps.size := by omega
    subst e
    exact .inl ⟨⟨Nat.le_refl _, by omega, .inl rfl⟩, hd H p⟩
/-- turns that only lay new things -/
theorem lcp_zipS {x y : Str} {g : TG} {tt : TT} {te : TE} {vs : List Nat} {σ : L2.St} {H1 : Hp} {D : Addr} {Qd : Hp → Prop} (p : Nat × Nat → Bool) (f : Nat × Nat → V) (hl : x.cps.size = y.cps.size) (nD : H1 D = none) (hz : x.cps.size < sizeLine)
    (ht : ∀ (i c d : Nat) (T : Addr) H, x.cps[i]? = some c → y.cps[i]? = some d → Same H1 H → H T = none → ∀ (R1 : Hp → Prop) (R2 : V → Hp → Prop), (p (c, d) = false → ∀ H3, Same H H3 → R1 H3) → (p (c, d) = true → ∀ H4, Same H H4 → R2 (f (c, d)) H4) →
      g (.ref T) (wipe σ vs) (upd H T (.tup [.str ⟨#[c]⟩, .str ⟨#[d]⟩])) fun σ2 H2 => wipe σ2 vs = wipe σ vs ∧ tt σ2 H2 fun b H3 => if b = true then te σ2 H3 R2 else R1 H3)
    (hd : ∀ H, Same H1 H → H D = some (.lst (((x.cps.toList.zip y.cps.toList).filter p).map f)) → Qd H) :
    ∃ W : Nat → Nat → Hp → Prop, (∃ m, W 0 m (upd H1 D (.lst []))) ∧ ∀ i m H, W i m H →
      ((ItzS x y).stop i H ∧ Qd H) ∨ ((ItzS x y).go i H ∧ ∃ Nx : Hp → Prop, (∀ H', Nx H' → ∃ m', m' < m ∧ W (i + 1) m' H') ∧ ∀ z H', (ItzS x y).yld i H z H' → g z (wipe σ vs) H' fun σ2 H2 => wipe σ2 vs = wipe σ vs ∧ tt σ2 H2 fun b H3 =>
        if b = true then te σ2 H3 fun y H4 => ∃ acc, H4 D = some (.lst acc) ∧ acc.length < sizeLine ∧ Nx (upd H4 D (.lst (acc ++ [y]))) else Nx H3) := by
  have hxl : (x.cps.toList.zip y.cps.toList).length = x.cps.size := by rw [List.length_zip, Array.length_toList, Array.length_toList]; omega
  refine lc_zipS hl (fun i H => PvP H1 D ((((x.cps.toList.zip y.cps.toList).take i).filter p).map f) H) ⟨same_new nD, upd_same⟩ (fun i c d T H hc hd' h nT => ?_) (fun H h => ?_)
  · have hi : i < x.cps.size := (Array.getElem?_eq_some_iff.mp hc).1
    have hx : (x.cps.toList.zip y.cps.toList)[i]? = some (c, d) := by
      rw [List.getElem?_zip_eq_some]
      exact ⟨by rw [Array.getElem?_toList]; exact hc, by rw [Array.getElem?_toList]; exact hd'⟩
    obtain ⟨sm, hD⟩ := h
    have cT := same_new (o := .tup [.str ⟨#[c]⟩, .str ⟨#[d]⟩]) nT
    refine ht i c d T H hc hd' sm nT _ _ (fun hk H3 s3 => ?_) (fun hk H4 s4 => ?_)
    · refine ⟨sm.trans s3, ?_⟩
      rw [take_one f p hx, hk, s3 _ _ hD]
      simp
    · refine ⟨_, s4 _ _ hD, Nat.lt_of_le_of_lt (flt_len f p _ i) (Nat.lt_trans hi hz), fun b o e => ?_, ?_⟩
      · rw [upd_ne (ne_of_none e nD)]
        exact s4 _ _ (sm _ _ e)
      · rw [upd_same, take_one f p hx, hk]
        rfl
  · have h2 := h.2
    rw [← hxl, List.take_length] at h2
    exact hd H h.1 h2
end XT
/-! the binary digits of a mask, filled to a width -/
namespace XT
open PySem PySem.Spec PyProof.Rows L2
/-- the last n binary digits of m, the highest first -/
def bitsL : Nat → Nat → List Nat
  | 0, _ => []
  | n + 1, m => bitsL n (m / 2) ++ [48 + m % 2]
theorem bitsL_len : ∀ n m : Nat, (bitsL n m).length = n
  | 0, _ => rfl
  | n + 1, m => by
    show (bitsL n (m / 2) ++ [48 + m % 2]).length = n + 1
    rw [List.length_append, bitsL_len n (m / 2)]
    rfl
theorem bitsL_zero : ∀ n : Nat, bitsL n 0 = List.replicate n 48
  | 0 => rfl
  | n + 1 => by
    show bitsL n (0 / 2) ++ [48 + 0 % 2] = _
    rw [Nat.zero_div, bitsL_zero n, List.replicate_succ']
theorem bitsL_at : ∀ (n m i : Nat), i < n → (bitsL n m)[i]? = some (48 + m / 2 ^ (n - 1 - i) % 2)
  | 0, _, i, h => absurd h (by omega)
  | n + 1, m, i, h => by
    show (bitsL n (m / 2) ++ [48 + m % 2])[i]? = _
    rcases Nat.lt_or_ge i n with h1 | h1
    · rw [List.getElem?_append_left (by rw [bitsL_len]; exact h1), bitsL_at n (m / 2) i h1]
      rw [show n + 1 - 1 - i = (n - 1 - i) + 1 by omega, Nat.pow_succ, Nat.mul_comm, Nat.div_div_eq_div_mul]
    · have e : i = n := by omega
      subst e
      rw [List.getElem?_append_right (by rw [bitsL_len]; exact Nat.le_refl _), bitsL_len, Nat.sub_self]
      rw [show i + 1 - 1 - i = 0 by omega, Nat.pow_zero, Nat.div_one]
      rfl
theorem dchar {k : Nat} (h : k < 2) : (Nat.digitChar k).toNat = 48 + k := by
  match k, h with
  | 0, _ => rfl
  | 1, _ => rfl
theorem binL_lt {m : Nat} (h : m < 2) : binL m = [48 + m] := by
  unfold binL
  rw [Nat.toDigits_of_lt_base h, List.map_cons, List.map_nil, dchar h]
theorem binL_ge {m : Nat} (h : 2 ≤ m) : binL m = binL (m / 2) ++ [48 + m % 2] := by
  unfold binL
  rw [Nat.toDigits_of_base_le (by decide) h, List.map_append, List.map_cons, List.map_nil, dchar (Nat.mod_lt m (by decide))]
theorem fill_bits : ∀ (n m : Nat), 1 ≤ n → m < 2 ^ n → List.replicate (n - (binL m).length) 48 ++ binL m = bitsL n m
  | 0, _, h, _ => absurd h (by omega)
  | 1, m, _, h => by
    rw [binL_lt (by simpa using h)]
    show List.replicate 0 48 ++ [48 + m] = [] ++ [48 + m % 2]
    rw [Nat.mod_eq_of_lt (by simpa using h)]
    rfl
  | n + 2, m, _, h => by
    show _ = bitsL (n + 1) (m / 2) ++ [48 + m % 2]
    rcases Nat.lt_or_ge m 2 with h1 | h1
    · rw [binL_lt h1, Nat.div_eq_of_lt h1, bitsL_zero, Nat.mod_eq_of_lt h1]
      rfl
    · have ih := fill_bits (n + 1) (m / 2) (by omega) (by rw [Nat.pow_succ] at h; omega)
      rw [binL_ge h1, List.length_append, List.length_singleton, ← List.append_assoc, show n + 2 - ((binL (m / 2)).length + 1) = n + 1 - (binL (m / 2)).length by omega, ih]
theorem binL_01 (m : Nat) : ∀ c ∈ binL m, c = 48 ∨ c = 49 := by
  induction m using Nat.strongRecOn with
  | _ m ih =>
    rcases Nat.lt_or_ge m 2 with h1 | h1
    · rw [binL_lt h1]
      intro c hc
      rw [List.mem_singleton.mp hc]
      omega
    · rw [binL_ge h1]
      intro c hc
      rcases List.mem_append.mp hc with hc | hc
      · exact ih (m / 2) (by omega) c hc
      · rw [List.mem_singleton.mp hc]
        omega
/-- the digits of a mask, as many as the width -/
def digW (m n : Nat) : Str := Txt.zfill (binS m) (n : Int)
theorem digW_bits {m n : Nat} (h1 : 1 ≤ n) (h : m < 2 ^ n) : (digW m n).cps.toList = bitsL n m := by
  have hl := binS_len m
  rw [← fill_bits n m h1 h]
  unfold digW Txt.zfill
  by_cases hn : (n : Int) ≤ ((binS m).length : Int)
  · rw [if_pos hn, show n - (binL m).length = 0 by omega]
    show (binL m).toArray.toList = _
    rw [List.toList_toArray]
    rfl
  · rw [if_neg hn]
    have e : zfilled (binS m) ((n : Int).toNat - (binS m).length) = Builtin.Str.padded (binS m) ((n : Int).toNat - (binS m).length) 0 48 := by
      unfold zfilled
      cases hb : (binS m).cps[0]? with
      | none => rfl
      | some c =>
        have hc : c = 48 ∨ c = 49 := binL_01 m c (by
          have := Array.mem_of_getElem? hb
          exact Array.mem_toList_iff.mpr this |> fun z => by simpa [binS] using z)
        rcases hc with rfl | rfl <;> rfl
    rw [e, Int.toNat_natCast, hl]
    show (Array.replicate (n - (binL m).length) 48 ++ (binS m).cps ++ Array.replicate 0 48).toList = _
    simp [binS]
theorem cpowW {n : Nat} (h : n ≤ 60) : CPow 1 (n : Int) := ⟨by omega, by omega, by decide⟩
end XT
/-! the signs of patterns -/
namespace XT
open PySem PySem.Spec PyProof.Rows L2
def sgn3 (c : Nat) : Bool := decide (c ∈ [48, 49, 63])
/-- a pattern of one to forty signs -/
def okP : PyData → Bool
  | .str x => decide (1 ≤ x.length) && decide (x.length ≤ 40) && x.cps.toList.all sgn3
  | _ => false
theorem sgn3_in (c : Nat) : decide (c ∈ (Str.ofString "01?").cps.toList) = sgn3 c := by
  rw [show (Str.ofString "01?").cps.toList = [48, 49, 63] by decide +kernel]
  rfl
abbrev rSg3 : R2 := fun x y H Q => ∃ (c : Nat) (z : Str), x = .str ⟨#[c]⟩ ∧ y = .str z ∧ Q (.bl (decide (c ∈ z.cps.toList))) H
end XT
/-! texts walked; a star in a target -/
namespace XT
open PySem PySem.Spec PyProof.Rows L2
section
variable {K : PySem.W.Frag} {g : TG} {tt : TT} {te : TE} {vs : List Nat} {σ : L2.St} {H1 : Hp} {D : Addr} {Qd : Hp → Prop} {x : Str}
theorem cps_at {x : Str} {i : Nat} (h : i < x.cps.size) : ∃ c, x.cps[i]? = some c ∧ x.cps.toList[i]? = some c := ⟨x.cps[i], Array.getElem?_eq_getElem h, by rw [Array.getElem?_toList]; exact Array.getElem?_eq_getElem h⟩
theorem lc_str (Pv : Nat → Hp → Prop) (h0 : Pv 0 (upd H1 D (.lst [])))
    (hs : ∀ i c H, x.cps.toList[i]? = some c → Pv i H → g (.str ⟨#[c]⟩) (wipe σ vs) H fun σ2 H2 => wipe σ2 vs = wipe σ vs ∧ tt σ2 H2 fun b H3 =>
      if b = true then te σ2 H3 fun y H4 => ∃ acc, H4 D = some (.lst acc) ∧ acc.length < sizeLine ∧ Pv (i + 1) (upd H4 D (.lst (acc ++ [y]))) else Pv (i + 1) H3) (hd : ∀ H, Pv x.cps.size H → Qd H) :
    ∃ W : Nat → Nat → Hp → Prop, (∃ m, W 0 m (upd H1 D (.lst []))) ∧ ∀ i m H, W i m H →
      ((Its x).stop i H ∧ Qd H) ∨ ((Its x).go i H ∧ ∃ Nx : Hp → Prop, (∀ H', Nx H' → ∃ m', m' < m ∧ W (i + 1) m' H') ∧ ∀ v H', (Its x).yld i H v H' → g v (wipe σ vs) H' fun σ2 H2 => wipe σ2 vs = wipe σ vs ∧ tt σ2 H2 fun b H3 =>
        if b = true then te σ2 H3 fun y H4 => ∃ acc, H4 D = some (.lst acc) ∧ acc.length < sizeLine ∧ Nx (upd H4 D (.lst (acc ++ [y]))) else Nx H3) := by
  refine ⟨fun i m H => m = x.cps.size - i ∧ i ≤ x.cps.size ∧ Pv i H, ⟨x.cps.size, by simp, Nat.zero_le _, h0⟩, ?_⟩
  rintro i m H ⟨em, hi, p⟩
  rcases Nat.lt_or_ge i x.cps.size with lt | ge
  · refine .inr ⟨lt, Pv (i + 1), fun H' p' => ⟨x.cps.size - (i + 1), by omega, rfl, lt, p'⟩, fun v H' y => ?_⟩
    obtain ⟨eH, c, hc, ev⟩ := y
    rw [eH, ev]
    exact hs i c H (by rw [Array.getElem?_toList]; exact hc) p
  · have e : i = x.cps.size := Nat.le_antisymm hi ge
    rw [e] at p
    exact .inl ⟨ge, hd H p⟩
theorem lcp_str (p : Nat → Bool) (f : Nat → V) (nD : H1 D = none) (hz : x.cps.size < sizeLine) (ht : ∀ (i c : Nat) H, x.cps.toList[i]? = some c → Same H1 H → TurnP g tt te vs σ (.str ⟨#[c]⟩) (f c) (p c) H)
    (hd : ∀ H, Same H1 H → H D = some (.lst ((x.cps.toList.filter p).map f)) → Qd H) :
    ∃ W : Nat → Nat → Hp → Prop, (∃ m, W 0 m (upd H1 D (.lst []))) ∧ ∀ i m H, W i m H →
      ((Its x).stop i H ∧ Qd H) ∨ ((Its x).go i H ∧ ∃ Nx : Hp → Prop, (∀ H', Nx H' → ∃ m', m' < m ∧ W (i + 1) m' H') ∧ ∀ v H', (Its x).yld i H v H' → g v (wipe σ vs) H' fun σ2 H2 => wipe σ2 vs = wipe σ vs ∧ tt σ2 H2 fun b H3 =>
        if b = true then te σ2 H3 fun y H4 => ∃ acc, H4 D = some (.lst acc) ∧ acc.length < sizeLine ∧ Nx (upd H4 D (.lst (acc ++ [y]))) else Nx H3) := by
  refine lc_str (fun i H => PvP H1 D (((x.cps.toList.take i).filter p).map f) H) ⟨same_new nD, upd_same⟩ (fun i c H hc h => ?_) (fun H h => ?_)
  · have hi : i < x.cps.toList.length := (List.getElem?_eq_some_iff.mp hc).1
    rw [Array.length_toList] at hi
    exact pvp_turn nD h (Nat.lt_of_le_of_lt (flt_len f p _ i) (Nat.lt_trans hi hz)) (ht i c H hc h.1) _ (take_one f p hc)
  · have h2 := h.2
    rw [List.take_of_length_le (by rw [Array.length_toList]; exact Nat.le_refl _)] at h2
    exact hd H h.1 h2
end
/-! a, *b = a list -/
section
open PySem.W
variable {prog : Program} {w : World} {A : Around} {E : Value → Shared → Prop} {s : Shared}
theorem unpack_head {l : Addr} {x : Value} {xs : List Value} {Q : List Value → Shared → Prop} (hl : s.heap.IsList l (x :: xs).toArray) (hh : A.handled = none) (hz : xs.length ≤ 10000)
    (h : ∀ (h' : Heap) (tk : Nat), (∀ b o, s.heap.get? b = some o → h'.get? b = some o) → Q [x, .ref h'.objs.size] { s with heap := h'.push (listOf xs.toArray 0), toks := tk }) : wpAny (model prog w) A (unpackItems (.ref l) 2 (some 1)) Q E s := by
  obtain ⟨o, ho, _⟩ := id hl
  have big : l < s.heap.objs.size := Heap.lt_size ho
  have ne : l ≠ s.heap.objs.size := Nat.ne_of_lt big
  unfold unpackItems notIterableAtAll
  refine wpAny_bind (wpAny_bind (wpAny_specialOf hl.typeIs slot_list_iter.lookup (wpAny_pure ?_)))
  rw [if_neg (by decide)]
  refine wpAny_bind (wpAny_holding (wpAny_pyIter_list hl (wpAny_bind (wpAny_holding (kun_draw ne 1 0 _ _ ⟨_, Heap.get?_push_size _ rfl, rfl, rfl⟩ (hl.push _) (by simp) fun h1 it1 sb1 => ?_)))))
  have hl1 : h1.IsList l (x :: xs).toArray := (hl.push _).extBut sb1.extBut ne
  rw [Nat.zero_add] at it1
  obtain ⟨oi, hoi, _⟩ := id it1
  obtain ⟨ol, hol, _⟩ := id hl1
  show wpAny _ _ (if ([x] : List Value).length < 1 then _ else _) _ _ _
  rw [if_neg (by simp)]
  refine wpAny_bind (wpAny_holding (kun_collect (s := { s with heap := h1 }) (T := "list_iterator") (.inr (.inr (.inl rfl))) (Walks.list (A := A.in1) hh s.heap.objs.size l ne _) (fun j u st => st.1.typeIs) (k := 1) (by simp) ⟨it1, hl1⟩ (Heap.lt_size hoi) (Heap.lt_size hol) (fun h2 tk hk => ?_) (by rw [sizeLine_eq]; simp; omega)))
  show wpAny _ _ (if xs.length < 0 then _ else _) _ _ _
  rw [if_neg (by simp)]
  show wpAny _ _ (newList (xs.take (xs.length - 0)) >>= fun d => pure ([x] ++ [d] ++ xs.drop (xs.length - 0))) _ _ _
  rw [Nat.sub_zero, List.take_length, List.drop_length]
  refine wpAny_bind (wpAny_newList (wpAny_pure (h h2 tk fun b o e => ?_)) (by rw [sizeLine_eq]; omega))
  have nb : b ≠ s.heap.objs.size := Nat.ne_of_lt (Heap.lt_size e)
  exact hk b o nb (sb1.extBut b o nb (Heap.get?_push_of_some _ e))
end
theorem pgs_star {X : Cx} {e : Expr} {es : List Expr} {t : TG} {u : TGs} {p : Pos} (h1 : PG X e t) (h2 : PGs X es u) (hs : (assignEach (.Starred e p :: es) X.env).map (·.2) = assign e X.env :: (assignEach es X.env).map (·.2) := by rfl) : PGs X (.Starred e p :: es) (gCons t u) := by
  refine ⟨fun pins s σ H vs us Q I r h => ?_⟩
  obtain ⟨v, vr, e1, h⟩ := h
  subst e1
  cases r with
  | cons r rr =>
    rw [hs]
    exact assignInOrder_cons (thn (h1.run pins s σ H _ _ _ I r h) fun _ s1 ⟨σ1, H1, I1, q1⟩ => h2.run pins s1 σ1 H1 _ _ Q I1 rr q1)
def gStar (K : PySem.W.Frag) (t : TGs) : TG := fun v σ H Q => ∃ a x xs, v = .ref a ∧ SqL K H a (x :: xs) ∧ xs.length ≤ 10000 ∧ ∀ p, H p = none → t [x, .ref p] σ (upd H p (.lst xs)) Q
theorem pg_star {X : Cx} {es : List Expr} {k : Nat} {t : TGs} {pos : Pos} (hc : X.calm = true) (h : PGs X es t) (hn : (assignEach es X.env).length = 2 := by rfl) (hst : (assignEach es X.env).findIdx? (·.1) = some 1 := by rfl) : PG X (.Tuple es k pos) (gStar X.K t) := by
  refine ⟨fun pins s σ H v u Q I r hw => ?_⟩
  obtain ⟨a, x, xs, e1, hq, hl, hw⟩ := hw
  subst e1
  cases r
  obtain ⟨its, rv, pl, hz⟩ := I.list hq
  cases rv with
  | @cons _ _ x' xs' r1 r2 =>
  rw [PyProof.Rows.assign_Tuple]
  refine wpAny_bind (wpAny_standAt ?_)
  unfold unpack
  rw [hn, hst]
  refine wpAny_bind (wpAny_holding (unpack_head pl.isList (I.ok.hd hc) (by rw [← r2.length]; exact hl) fun h' tk hx => ?_))
  have I1 : Inv X pins σ H { s with heap := h', toks := tk } := I.kept (t' := tk) hx
  have hf : H h'.objs.size = none := I1.hok.fresh (Nat.le_refl _)
  have I2 : Inv X pins σ (upd H h'.objs.size (.lst xs)) { s with heap := h'.push (PySem.W.listOf xs'.toArray 0), toks := tk } := I1.laid (t' := tk) (fun b u e => Heap.get?_push_of_some _ e) (Nat.le_refl _) ⟨by rw [sizeLine_eq]; omega, xs', 0, r2, Heap.get?_push_size _ rfl⟩
  exact h.run pins _ σ _ [x, .ref h'.objs.size] _ Q I2 (.cons r1 (.cons rfl .nil)) (hw _ hf)
end XT
/-! values that avoid the stream -/
namespace XT
open PySem PySem.Spec PyProof.Rows L2
theorem Same.free {H H' : Hp} {b : Addr} (s : Same H H') (e : H' b = none) : H b = none := by
  cases h : H b with
  | none => rfl
  | some o => rw [s b o h] at e; cases e
theorem Dv.keepN {K : PySem.W.Frag} {S : Sm} {Nw : Addr → Prop} {H H' : Hp} {t : Int} {v : V} {d : PyData} (h : Dv K Nw H v d) (hN : ∀ b, Nw b → Nof S b) (k : Keep S H H') (st : Strm S H t) : Dv K Nw H' v d := h.map (fun _ _ q => k.sqT st q) (fun b _ n q => k.sqL (hN b n).1 (hN b n).2 q) (fun _ _ q => k.ko st q (fun _ z => nomatch z)) (fun _ q => q)
theorem DvAll.keepN {K : PySem.W.Frag} {S : Sm} {Nw : Addr → Prop} {H H' : Hp} {t : Int} {v : List V} {d : List PyData} (h : DvAll K Nw H v d) (hN : ∀ b, Nw b → Nof S b) (k : Keep S H H') (st : Strm S H t) : DvAll K Nw H' v d := h.map (fun _ _ q => k.sqT st q) (fun b _ n q => k.sqL (hN b n).1 (hN b n).2 q) (fun _ _ q => k.ko st q (fun _ z => nomatch z)) (fun _ q => q)
/-- the predicate holds of what is new, and not of the stream's lists -/
structure NwOk (S : Sm) (H : Hp) (Nw : Addr → Prop) : Prop where
  n : ∀ b, Nw b → Nof S b
  f : ∀ b, H b = none → Nw b
theorem NwOk.same {S : Sm} {H H' : Hp} {Nw : Addr → Prop} (h : NwOk S H Nw) (s : Same H H') : NwOk S H' Nw := ⟨h.n, fun b e => h.f b (Same.free s e)⟩
theorem NwOk.keep {S : Sm} {H H' : Hp} {t : Int} {Nw : Addr → Prop} (h : NwOk S H Nw) (k : Keep S H H') (st : Strm S H' t) : NwOk S H' Nw := ⟨h.n, fun b e => h.f b (k.free st e)⟩
theorem nw_all {S : Sm} {H : Hp} {t : Int} (st : Strm S H t) : NwOk S H (Nof S) := ⟨fun _ h => h, fun b e => ⟨(strm_ne st e).1, (strm_ne st e).2.1⟩⟩
end XT
/-! a comprehension that draws data -/
namespace XT
open PySem PySem.Spec PyProof.Rows L2
section
variable {K : PySem.W.Frag} {g : TG} {tt : TT} {te : TE} {vs : List Nat} {σ : L2.St} {H1 : Hp} {D : Addr} {Qd : Hp → Prop} {S : Sm} {t0 : Int} {G : PyData → Prop} {d : Nat}
abbrev Nod (S : Sm) (D : Addr) : Addr → Prop := fun b => Nof S b ∧ b ≠ D
def TurnZ (K : PySem.W.Frag) (S : Sm) (D : Addr) (G : PyData → Prop) (d : Nat) (g : TG) (tt : TT) (te : TE) (vs : List Nat) (σ : L2.St) (x : V) (H : Hp) (t : Int) : Prop :=
  ∀ (R1 : Hp → Prop) (R2 : V → Hp → Prop), (∀ v e H4 t4, Step S H t H4 t4 d → Dv K (Nod S D) H4 v e → G e → R2 v H4) →
    g x (wipe σ vs) H fun σ2 H2 => wipe σ2 vs = wipe σ vs ∧ tt σ2 H2 fun b H3 => if b = true then te σ2 H3 R2 else R1 H3
def PvZ (K : PySem.W.Frag) (S : Sm) (G : PyData → Prop) (d : Nat) (H1 : Hp) (t0 : Int) (D : Addr) (i : Nat) (H : Hp) : Prop := ∃ (vs : List V) (ds : List PyData) (t : Int), Step S H1 t0 H t (d * i) ∧ H D = some (.lst vs) ∧ DvAll K (Nod S D) H vs ds ∧ (∀ e ∈ ds, G e) ∧ ds.length = i
theorem nod_ok {S : Sm} {H : Hp} {t : Int} {D : Addr} {o : HO} (st : Strm S H t) (hD : H D = some o) : NwOk S H (Nod S D) := ⟨fun _ h => h.1, fun b e => ⟨(nw_all st).f b e, fun z => by rw [z, hD] at e; cases e⟩⟩
theorem pvz_turn {i : Nat} {x : V} {H : Hp} (st0 : Strm S H1 t0) (nD : H1 D = none) (hi : i ≤ 1000) (h : PvZ K S G d H1 t0 D i H) (ht : ∀ t, Step S H1 t0 H t (d * i) → NwOk S H (Nod S D) → TurnZ K S D G d g tt te vs σ x H t) :
    g x (wipe σ vs) H fun σ2 H2 => wipe σ2 vs = wipe σ vs ∧ tt σ2 H2 fun b H3 =>
      if b = true then te σ2 H3 fun y H4 => ∃ acc, H4 D = some (.lst acc) ∧ acc.length < sizeLine ∧ PvZ K S G d H1 t0 D (i + 1) (upd H4 D (.lst (acc ++ [y]))) else PvZ K S G d H1 t0 D (i + 1) H3 := by
  obtain ⟨us, ds, t, stp, hD, hk, hg, hl⟩ := h
  have ok := nod_ok stp.st hD
  refine ht t stp ok _ _ (fun v e H4 t4 s4 hv he => ?_)
  have hD4 := s4.keep.mine st0 nD hD
  have hul := hk.len
  refine ⟨_, hD4, small64 (by omega), us ++ [v], ds ++ [e], t4, ?_, upd_same, ?_, ?_, by rw [List.length_append, hl]; rfl⟩
  · have z := stp.trans s4
    have nDs : D ≠ S.s := fun e => by obtain ⟨_, h⟩ := st0; rw [e, h.hs] at nD; cases nD
    have nDp : D ≠ S.p := fun e => by obtain ⟨_, h⟩ := st0; rw [e, h.hp] at nD; cases nD
    have nDq : D ≠ S.q := fun e => by obtain ⟨_, h⟩ := st0; rw [e, h.hq] at nD; cases nD
    refine ⟨fun b o n1 n2 e => ?_, strm_upd z.st nDs nDp nDq, z.lo, by have := z.hi; rw [Nat.mul_succ]; exact this⟩
    rw [upd_ne (ne_of_none e nD)]
    exact z.keep b o n1 n2 e
  · have a1 := (hk.keepN ok.n s4.keep stp.st).app (.cons hv .nil)
    exact DvAll.put hD4 (fun b hb => hb.2) a1
  · intro f hf
    rcases List.mem_append.mp hf with hf | hf
    · exact hg f hf
    · rw [List.mem_singleton.mp hf]; exact he
theorem lcz_range {n : Nat} (st0 : Strm S H1 t0) (nD : H1 D = none) (hn : n ≤ 1000) (ht : ∀ (i : Nat) H t, i < n → Step S H1 t0 H t (d * i) → NwOk S H (Nod S D) → TurnZ K S D G d g tt te vs σ (.int (0 + (i : Int))) H t) (hd : ∀ H, PvZ K S G d H1 t0 D n H → Qd H) :
    ∃ W : Nat → Nat → Hp → Prop, (∃ m, W 0 m (upd H1 D (.lst []))) ∧ ∀ i m H, W i m H →
      ((Itr 0 n).stop i H ∧ Qd H) ∨ ((Itr 0 n).go i H ∧ ∃ Nx : Hp → Prop, (∀ H', Nx H' → ∃ m', m' < m ∧ W (i + 1) m' H') ∧ ∀ x H', (Itr 0 n).yld i H x H' → g x (wipe σ vs) H' fun σ2 H2 => wipe σ2 vs = wipe σ vs ∧ tt σ2 H2 fun b H3 =>
        if b = true then te σ2 H3 fun y H4 => ∃ acc, H4 D = some (.lst acc) ∧ acc.length < sizeLine ∧ Nx (upd H4 D (.lst (acc ++ [y]))) else Nx H3) :=
  lc_range (lo := 0) (n := n) (fun i H => PvZ K S G d H1 t0 D i H) ⟨[], [], t0, ((Step.refl st0).same (same_new nD)).mono (Nat.zero_le _), upd_same, .nil, by simp, rfl⟩ (fun i H hi h => pvz_turn st0 nD (by omega) h fun t s o => ht i H t hi s o) hd
end
end XT
/-! patterns: their signs -/
namespace XT
open PySem PySem.Spec PyProof.Rows L2
/-- a pattern of n signs -/
def OkW (n : Nat) (x : Str) : Prop := x.length = n ∧ ∀ c ∈ x.cps.toList, sgn3 c = true
def chsL : List Str := ["01?", "010101?", "01????", "01???"]
theorem chs_ok : ∀ x ∈ chsL, (∀ c ∈ x.cps.toList, sgn3 c = true) ∧ 0 < x.length ∧ x.length ≤ 1000 := by
  have h : chsL.all (fun x => x.cps.toList.all sgn3 && (decide (0 < x.length) && decide (x.length ≤ 1000))) = true := by decide +kernel
  intro x hx
  have := List.all_eq_true.mp h x hx
  rw [Bool.and_eq_true, Bool.and_eq_true, decide_eq_true_iff, decide_eq_true_iff] at this
  exact ⟨fun c hc => List.all_eq_true.mp this.1 c hc, this.2.1, this.2.2⟩
theorem cut_take (y : Str) (k : Nat) : (cutS y none (some (k : Int))).cps.toList = y.cps.toList.take k := by
  have hl : y.cps.toList.length = y.length := by rw [Array.length_toList]; rfl
  show ((y.cps.toList.drop (HT.sIx y.length 0 none)).take (HT.sIx y.length y.length (some (k : Int)) - HT.sIx y.length 0 none)).toArray.toList = _
  rw [HT.sIx_none, HT.sIx_nat, List.drop_zero, Nat.sub_zero, List.toList_toArray]
  rcases Nat.le_total k y.length with h | h
  · rw [Nat.min_eq_left h]
  · rw [Nat.min_eq_right h, List.take_of_length_le (by omega), List.take_of_length_le (by omega)]
theorem cut_drop (y : Str) (k : Nat) : (cutS y (some (k : Int)) none).cps.toList = y.cps.toList.drop k := by
  have hl : y.cps.toList.length = y.length := by rw [Array.length_toList]; rfl
  show ((y.cps.toList.drop (HT.sIx y.length 0 (some (k : Int)))).take (HT.sIx y.length y.length none - HT.sIx y.length 0 (some (k : Int)))).toArray.toList = _
  rw [HT.sIx_none, HT.sIx_nat, List.toList_toArray]
  rcases Nat.le_total k y.length with h | h
  · rw [Nat.min_eq_left h, List.take_of_length_le (by rw [List.length_drop]; omega)]
  · rw [Nat.min_eq_right h, List.drop_eq_nil_of_le (by omega), List.drop_eq_nil_of_le (by omega), List.take_nil]
theorem str_app_list (x y : Str) : (x ++ y).cps.toList = x.cps.toList ++ y.cps.toList := by
  show (x.cps ++ y.cps).toList = _
  simp
/-- one sign is exchanged -/
theorem okW_put {n k : Nat} {y e : Str} (h : OkW n y) (hk : k < n) (he : OkW 1 e) : OkW n (cutS y none (some (k : Int)) ++ e ++ cutS y (some ((k : Int) + 1)) none) := by
  have hl : y.cps.toList.length = n := by rw [Array.length_toList]; exact h.1
  have el : e.cps.toList.length = 1 := by rw [Array.length_toList]; exact he.1
  have e1 : (cutS y none (some (k : Int)) ++ e ++ cutS y (some ((k : Int) + 1)) none).cps.toList = y.cps.toList.take k ++ e.cps.toList ++ y.cps.toList.drop (k + 1) := by
    rw [str_app_list, str_app_list, cut_take, show (k : Int) + 1 = ((k + 1 : Nat) : Int) by omega, cut_drop]
  refine ⟨?_, fun c hc => ?_⟩
  · have : (cutS y none (some (k : Int)) ++ e ++ cutS y (some ((k : Int) + 1)) none).cps.toList.length = n := by
      rw [e1, List.length_append, List.length_append, List.length_take, List.length_drop, el, hl]
      omega
    rw [Array.length_toList] at this
    exact this
  · rw [e1] at hc
    rcases List.mem_append.mp hc with hc | hc
    · rcases List.mem_append.mp hc with hc | hc
      · exact h.2 c (List.mem_of_mem_take hc)
      · exact he.2 c hc
    · exact h.2 c (List.mem_of_mem_drop hc)
/-- signs one after the other -/
theorem okW_join : ∀ cs : List Nat, (∀ c ∈ cs, sgn3 c = true) → OkW cs.length (Str.join Str.empty (cs.map fun c => (⟨#[c]⟩ : Str)))
  | [], _ => ⟨rfl, fun c hc => absurd hc (by show ¬ c ∈ ([] : List Nat); simp)⟩
  | [a], h => ⟨rfl, fun c hc => by rw [List.mem_singleton.mp (show c ∈ [a] from hc)]; exact h a (by simp)⟩
  | a :: b :: r, h => by
    have ih := okW_join (b :: r) fun c hc => h c (List.mem_cons_of_mem a hc)
    have e : Str.join Str.empty ((a :: b :: r).map fun c => (⟨#[c]⟩ : Str)) = (⟨#[a]⟩ : Str) ++ Str.empty ++ Str.join Str.empty ((b :: r).map fun c => (⟨#[c]⟩ : Str)) := rfl
    rw [e]
    refine ⟨?_, fun c hc => ?_⟩
    · rw [str_app_len, str_app_len, ih.1]
      show 1 + 0 + _ = _
      rw [List.length_cons (a := a)]
      omega
    · rw [str_app_list, str_app_list] at hc
      rcases List.mem_append.mp hc with hc | hc
      · rcases List.mem_append.mp hc with hc | hc
        · rw [List.mem_singleton.mp (show c ∈ [a] from hc)]
          exact h a (by simp)
        · exact absurd hc (by show ¬ c ∈ ([] : List Nat); simp)
      · exact ih.2 c hc
theorem step_put {S : Sm} {H H1 : Hp} {t t1 : Int} {k : Nat} {F : Addr} {o : HO} (s : Step S H t H1 t1 k) (st : Strm S H t) (n : H F = none) : Step S H t (upd H1 F o) t1 k := by
  obtain ⟨n1, n2, n3⟩ := strm_ne st n
  refine ⟨fun b o' h1 h2 e => ?_, strm_upd s.st n1 n2 n3, s.lo, s.hi⟩
  rw [upd_ne (ne_of_none e n)]
  exact s.keep b o' h1 h2 e
theorem dv_signs {K : PySem.W.Frag} {N : Addr → Prop} {H : Hp} : ∀ {vs : List V} {ds : List PyData}, DvAll K N H vs ds → (∀ e ∈ ds, ∃ c : Nat, e = .str ⟨#[c]⟩ ∧ sgn3 c = true) → ∃ cs : List Nat, vs = (cs.map fun c => (⟨#[c]⟩ : Str)).map V.str ∧ (∀ c ∈ cs, sgn3 c = true) ∧ cs.length = ds.length
  | _, _, .nil, _ => ⟨[], rfl, by simp, rfl⟩
  | _, _, .cons (d := d) h a, g => by
    obtain ⟨cs, e, hc, hl⟩ := dv_signs a fun e he => g e (List.mem_cons_of_mem _ he)
    obtain ⟨c, rfl, h1⟩ := g d List.mem_cons_self
    cases h
    refine ⟨c :: cs, by rw [e]; rfl, fun x hx => ?_, by rw [List.length_cons, List.length_cons, hl]⟩
    rcases List.mem_cons.mp hx with rfl | hx
    · exact h1
    · exact hc x hx
theorem sum_ones : ∀ cs : List Nat, ((cs.map fun c => (⟨#[c]⟩ : Str)).map (·.length)).sum = cs.length
  | [] => rfl
  | c :: cs => by
    rw [List.map_cons, List.map_cons, List.sum_cons, sum_ones cs, List.length_cons]
    show 1 + _ = _
    omega
end XT
/-! wide lots -/
namespace XT
open PySem PySem.Spec PyProof.Rows L2
/-- a pattern allows the digits, sign by sign -/
def fitL (ds ps : List Nat) : Bool := (ds.zip ps).all fun q => decide (q.2 = q.1) || decide (q.2 = 63)
/-- a wide lot at T: the patterns, of n signs each -/
structure WideT (H : Hp) (T : Addr) (ws : List Str) (n : Nat) : Prop where
  h : H T = some (.tup (ws.map V.str))
  l1 : 1 ≤ ws.length
  l6 : ws.length ≤ 6
  n1 : 1 ≤ n
  n40 : n ≤ 40
  ok : ∀ x ∈ ws, OkW n x
theorem WideT.same {H H' : Hp} {T : Addr} {ws : List Str} {n : Nat} (h : WideT H T ws n) (e : Same H H') : WideT H' T ws n := ⟨e _ _ h.h, h.l1, h.l6, h.n1, h.n40, h.ok⟩
theorem WideT.step {S : Sm} {H H' : Hp} {t t' : Int} {k : Nat} {T : Addr} {ws : List Str} {n : Nat} (h : WideT H T ws n) (st : Strm S H t) (s : Step S H t H' t' k) : WideT H' T ws n := ⟨s.keep.tup st h.h, h.l1, h.l6, h.n1, h.n40, h.ok⟩
theorem WideT.hd {H : Hp} {T : Addr} {ws : List Str} {n : Nat} (h : WideT H T ws n) : ∃ x, ws[0]? = some x ∧ x.length = n ∧ x ∈ ws := ⟨ws[0]'h.l1, List.getElem?_eq_getElem h.l1, (h.ok _ (List.getElem_mem _)).1, List.getElem_mem _⟩
/-- as many patterns as may be -/
structure WideG (H : Hp) (T : Addr) (ws : List Str) (n : Nat) : Prop where
  h : H T = some (.tup (ws.map V.str))
  l1 : 1 ≤ ws.length
  n1 : 1 ≤ n
  n40 : n ≤ 40
  ok : ∀ x ∈ ws, OkW n x
theorem WideT.g {H : Hp} {T : Addr} {ws : List Str} {n : Nat} (h : WideT H T ws n) : WideG H T ws n := ⟨h.h, h.l1, h.n1, h.n40, h.ok⟩
theorem WideG.same {H H' : Hp} {T : Addr} {ws : List Str} {n : Nat} (h : WideG H T ws n) (e : Same H H') : WideG H' T ws n := ⟨e _ _ h.h, h.l1, h.n1, h.n40, h.ok⟩
theorem WideG.hd {H : Hp} {T : Addr} {ws : List Str} {n : Nat} (h : WideG H T ws n) : ∃ x, ws[0]? = some x ∧ x.length = n ∧ x ∈ ws := ⟨ws[0]'h.l1, List.getElem?_eq_getElem h.l1, (h.ok _ (List.getElem_mem _)).1, List.getElem_mem _⟩
/-- the mask is one of the wide lot's -/
def hasM (n : Nat) (ws : List Str) (m : Nat) : Bool := ws.any fun x => fitL (bitsL n m) x.cps.toList
def hasW (n : Nat) (ws : List Str) (d : PyData) : Bool := isM n d && hasM n ws (iv d).toNat
theorem str1_eq {c d : Nat} : ((⟨#[c]⟩ : Str) == ⟨#[d]⟩) = decide (c = d) := by
  by_cases h : c = d
  · rw [h, decide_eq_true rfl]
    exact beq_self_eq_true _
  · rw [decide_eq_false h]
    refine beq_eq_false_iff_ne.mpr fun e => h ?_
    have := congrArg (fun s : Str => s.cps.toList) e
    simpa using this
theorem in_sign {c d : Nat} : inV (.str ⟨#[d]⟩) [.str ⟨#[c]⟩, .str "?"] = (decide (d = c) || decide (d = 63)) := by
  have e : (Str.ofString "?") = ⟨#[63]⟩ := by decide +kernel
  show ((⟨#[c]⟩ : Str) == ⟨#[d]⟩ || ((Str.ofString "?" == (⟨#[d]⟩ : Str)) || false)) = _
  rw [e, str1_eq, str1_eq, Bool.or_false]
  congr 1
  · exact decide_eq_decide.mpr ⟨Eq.symm, Eq.symm⟩
  · exact decide_eq_decide.mpr ⟨Eq.symm, Eq.symm⟩
theorem bAny : bootBuiltins "any" = some (.builtin "any") := by decide +kernel
theorem digW_len {m n : Nat} (h1 : 1 ≤ n) (h : m < 2 ^ n) : (digW m n).cps.size = n := by rw [← Array.length_toList, digW_bits h1 h, bitsL_len]
end XT
/-! wide lots as data; statements by Ev -/
namespace XT
open PySem PySem.Spec PyProof.Rows L2
def tS (ss : List Str) : PyData := .tuple (ss.map PyData.str)
theorem gs {x : Str} (h : TxOk x) (l : x.length ≤ 41) : Gd (10 ^ 39 + 2) 412 0 (.str x) := gd_str h l
theorem gStrs : ∀ ss : List Str, (∀ x ∈ ss, TxOk x ∧ x.length ≤ 41) → GdAll (10 ^ 39 + 2) (414 * ss.length) 0 (ss.map PyData.str)
  | [], _ => GdAll.nil
  | x :: ss, h => (GdAll.cons (gs (h x List.mem_cons_self).1 (h x List.mem_cons_self).2) (gStrs ss fun y hy => h y (List.mem_cons_of_mem x hy))).mono (Nat.le_refl _) (by rw [List.length_cons]; omega) (Nat.le_refl _)
theorem dz_strs {K : PySem.W.Frag} {H : Hp} : ∀ ss : List Str, DzAll K H (ss.map V.str) (ss.map PyData.str)
  | [] => .nil
  | x :: ss => .cons (.str x) (dz_strs ss)
theorem WideT.dz {K : PySem.W.Frag} {H : Hp} {T : Addr} {ws : List Str} {n : Nat} (h : WideT H T ws n) : Dz K H (.ref T) (tS ws) := .tup (SqT.of h.h) (dz_strs ws)
theorem okW_tx {n : Nat} {x : Str} (h : OkW n x) (hn : n ≤ 41) : TxOk x ∧ x.length ≤ 41 := ⟨fun c hc => by
    have h := h.2 c hc
    unfold sgn3 at h
    have h := of_decide_eq_true h
    simp only [List.mem_cons, List.not_mem_nil, or_false] at h
    rcases h with rfl | rfl | rfl <;> decide, by have := h.1; omega⟩
theorem WideT.gd {H : Hp} {T : Addr} {ws : List Str} {n : Nat} (h : WideT H T ws n) : Gd (10 ^ 39 + 2) 2500 1 (tS ws) := (gStrs ws fun x hx => okW_tx (h.ok x hx) (by have := h.n40; omega)).tuple.mono (Nat.le_refl _) (by have := h.l6; omega) (Nat.le_refl _)
section
variable {R R' : RV} {ta tb : TE} {σ : L2.St} {H : Hp} {u : TS} {D : Ends}
theorem par_ev {i j : Nat} (hR : Sty R) (a : Ev R ta σ H) (b : Ev R' tb σ H) (q : ∀ H2 x y, Same H H2 → R H2 x → R' H2 y → u D ((σ.set i (some x)).set j (some y)) H2) : tSeq (tPar i j (tCons ta (tCons tb tNil))) u D σ H :=
  a H (Same.refl _) _ fun H2 x s2 gx => b H2 s2 _ fun H3 y s3 gy => ⟨x, y, rfl, q H3 x y (s2.trans s3) (hR _ _ _ s3 gx) gy⟩
theorem ev_and2 {b c : Bool} (h : Ev (isB b) ta σ H) (k : b = true → Ev (isB c) tb σ H) : Ev (isB (b && c)) (tAndV ta tb) σ H := fun H1 s1 Q q => h H1 s1 _ fun H2 z s2 e => by
  refine ⟨b, e, ?_⟩
  cases b with
  | true => exact iteT (k rfl H2 (s1.trans s2) _ fun H3 z3 s3 e3 => q _ _ (s2.trans s3) e3)
  | false => exact iteF (q _ _ s2 rfl)
end
end XT
/-! expressions that draw, and that change what they own -/
namespace XT
open PySem PySem.Spec PyProof.Rows L2
abbrev Ow := Addr → Prop
abbrev HpP := Hp → Prop
/-- all but the owned cells stays -/
def KeepX (X : Ow) (H H' : Hp) : Prop := ∀ b o, ¬ X b → H b = some o → H' b = some o
theorem KeepX.refl (X : Ow) (H : Hp) : KeepX X H H := fun _ _ _ h => h
theorem KeepX.trans {X : Ow} {H H1 H2 : Hp} (a : KeepX X H H1) (b : KeepX X H1 H2) : KeepX X H H2 := fun c o n h => b c o n (a c o n h)
theorem KeepX.of {X : Ow} {H H' : Hp} (a : Same H H') : KeepX X H H' := fun c o _ h => a c o h
theorem KeepX.mono {X Y : Ow} {H H' : Hp} (a : KeepX X H H') (h : ∀ b, X b → Y b) : KeepX Y H H' := fun c o n e => a c o (fun z => n (h c z)) e
/-- what is owned and what is a tuple stays -/
def Sim (X : Ow) (H H' : Hp) : Prop := ∀ b o, H b = some o → (X b ∨ ∃ xs, o = .tup xs) → H' b = some o
theorem Sim.of {X : Ow} {H H' : Hp} (a : Same H H') : Sim X H H' := fun b o e _ => a b o e
theorem Sim.put {X : Ow} {H : Hp} {D : Addr} {xs : List V} {o : HO} (h : H D = some (.lst xs)) (n : ¬ X D) : Sim X H (upd H D o) := fun b o' e c => by
  have : b ≠ D := fun z => by
    subst z
    rcases c with c | ⟨ys, rfl⟩
    · exact n c
    · rw [h] at e; cases e
  rw [upd_ne this]
  exact e
/-- true by what is owned and by tuples alone -/
def StyW (X : Ow) (W : HpP) : Prop := ∀ H H', Sim X H H' → W H → W H'
/-- what changes: a list, an instance -/
def MutO (o : HO) : Prop := (∃ xs, o = .lst xs) ∨ ∃ C dx fs, o = .ins C dx fs
def noW : HpP := fun _ => True
def noX : Ow := fun _ => False
theorem sty_no (X : Ow) : StyW X noW := fun _ _ _ _ => trivial
theorem StyW.and {X : Ow} {W V : HpP} (a : StyW X W) (b : StyW X V) : StyW X (fun H => W H ∧ V H) := fun H H' s h => ⟨a H H' s h.1, b H H' s h.2⟩
def XS (S : Sm) (X : Ow) : Ow := fun b => b = S.s ∨ b = S.p ∨ b = S.q ∨ X b
/-- a stream that has been drawn from so often at most, and what else is owned -/
structure Wld (S : Sm) (X : Ow) (W : HpP) (B : Int) (H : Hp) : Prop where
  t : ∃ t, Strm S H t ∧ t ≤ B
  w : W H
  o : ∀ b, X b → b ≠ S.s ∧ b ≠ S.p ∧ b ≠ S.q ∧ ∃ o, H b = some o ∧ MutO o
section
variable {S : Sm} {X : Ow} {W W1 W2 W3 : HpP} {B B1 B2 B3 : Int} {H H' : Hp}
theorem Wld.own (h : Wld S X W B H) {b : Addr} (c : XS S X b) : ∃ o, H b = some o ∧ MutO o := by
  obtain ⟨⟨t, ⟨big, st⟩, _⟩, _, o⟩ := h
  rcases c with rfl | rfl | rfl | c
  · exact ⟨_, st.hs, .inl ⟨_, rfl⟩⟩
  · exact ⟨_, st.hp, .inl ⟨_, rfl⟩⟩
  · exact ⟨_, st.hq, .inl ⟨_, rfl⟩⟩
  · exact (o b c).2.2.2
theorem Wld.new (h : Wld S X W B H) {b : Addr} (e : H b = none) : ¬ XS S X b := fun c => by
  obtain ⟨o, e2, _⟩ := h.own c
  rw [e] at e2; cases e2
/-- what never changes is not owned -/
theorem Wld.nown (h : Wld S X W B H) {b : Addr} {o : HO} (e : H b = some o) (n : ¬ MutO o) : ¬ XS S X b := fun c => by
  obtain ⟨o', e2, m⟩ := h.own c
  rw [e] at e2; cases e2; exact n m
theorem Wld.fix (h : Wld S X W B H) (k : KeepX (XS S X) H H') {b : Addr} {o : HO} (e : H b = some o) (n : ¬ MutO o) : H' b = some o := k b _ (h.nown e n) e
theorem nm_tup {xs : List V} : ¬ MutO (.tup xs) := fun h => by rcases h with ⟨_, e⟩ | ⟨_, _, _, e⟩ <;> cases e
theorem Wld.ntup (h : Wld S X W B H) {b : Addr} {xs : List V} (e : H b = some (.tup xs)) : ¬ XS S X b := h.nown e nm_tup
theorem Wld.tup (h : Wld S X W B H) (k : KeepX (XS S X) H H') {b : Addr} {xs : List V} (e : H b = some (.tup xs)) : H' b = some (.tup xs) := k b _ (h.ntup e) e
theorem Wld.mono (h : Wld S X W B H) (b : B ≤ B1) : Wld S X W B1 H := ⟨let ⟨t, st, l⟩ := h.t; ⟨t, st, Int.le_trans l b⟩, h.w, h.o⟩
theorem Wld.imp (h : Wld S X W B H) (i : W H → W1 H) : Wld S X W1 B H := ⟨h.t, i h.w, h.o⟩
theorem Wld.sim (sw : StyW X W) (h : Wld S X W B H) (s : Sim (XS S X) H H') : Wld S X W B H' := by
  obtain ⟨⟨t, ⟨big, st⟩, l⟩, w, o⟩ := h
  refine ⟨⟨t, ⟨big, s _ _ st.hs (.inl (.inl rfl)), s _ _ st.hp (.inl (.inr (.inl rfl))), s _ _ st.hq (.inl (.inr (.inr (.inl rfl)))), st.sp, st.sq, st.pq, st.ne, st.t0⟩, l⟩, sw H H' (fun b o' e c => s b o' e (c.imp (fun z => .inr (.inr (.inr z))) id)) w, fun b c => ?_⟩
  obtain ⟨n1, n2, n3, o', e, nt⟩ := o b c
  exact ⟨n1, n2, n3, o', s _ _ e (.inl (.inr (.inr (.inr c)))), nt⟩
theorem Wld.same (sw : StyW X W) (h : Wld S X W B H) (s : Same H H') : Wld S X W B H' := h.sim sw (Sim.of s)
theorem Wld.step (sw : StyW X W) (h : Wld S X W B H) {t t' : Int} {k : Nat} (st : Strm S H t) (l : t ≤ B) (s : Step S H t H' t' k) : Wld S X W (B + k) H' ∧ KeepX (XS S X) H H' := by
  refine ⟨⟨⟨t', s.st, by have := s.hi; omega⟩, sw H H' (fun b o e c => ?_) h.w, fun b c => ?_⟩, fun b o n e => s.keep b o (fun z => n (.inl z)) (fun z => n (.inr (.inl z))) e⟩
  · rcases c with c | ⟨xs, rfl⟩
    · obtain ⟨n1, n2, _⟩ := h.o b c
      exact s.keep b o n1 n2 e
    · exact s.keep.tup st e
  · obtain ⟨n1, n2, n3, o', e, nt⟩ := h.o b c
    exact ⟨n1, n2, n3, o', s.keep b o' n1 n2 e, nt⟩
/-- what is true of a value stays true while only owned cells change -/
def StyK (S : Sm) (X : Ow) (R : RV) : Prop := ∀ (W : HpP) (B : Int) (H H' : Hp) (z : V), Wld S X W B H → KeepX (XS S X) H H' → R H z → R H' z
theorem sk_v (v : V) : StyK S X (isV v) := fun _ _ _ _ _ _ _ h => h
theorem LotAt.kx {v : V} {n : Nat} {p : Nat → Bool} (h : LotAt H v n p) (w : Wld S X W B H) (k : KeepX (XS S X) H H') : LotAt H' v n p := by
  obtain ⟨a, b, e, h1, h2⟩ := h
  exact ⟨a, b, e, w.tup k h1, w.tup k h2⟩
theorem TupAt.kx {v : V} {ms : List Nat} (h : TupAt H v ms) (w : Wld S X W B H) (k : KeepX (XS S X) H H') : TupAt H' v ms := by
  obtain ⟨a, e, h1⟩ := h
  exact ⟨a, e, w.tup k h1⟩
theorem WideT.kx {T : Addr} {ws : List Str} {n : Nat} (h : WideT H T ws n) (w : Wld S X W B H) (k : KeepX (XS S X) H H') : WideT H' T ws n := ⟨w.tup k h.h, h.l1, h.l6, h.n1, h.n40, h.ok⟩
theorem sk_lot (n : Nat) (p : Nat → Bool) : StyK S X (isLot n p) := fun _ _ _ _ _ w k h => h.kx w k
theorem sk_tup (ms : List Nat) : StyK S X (isTup ms) := fun _ _ _ _ _ w k h => h.kx w k
theorem sk_ex {α : Type} {P : α → RV} (h : ∀ a, StyK S X (P a)) : StyK S X (fun H z => ∃ a, P a H z) := fun W B H H' z w k ⟨a, q⟩ => ⟨a, h a W B H H' z w k q⟩
theorem sk_pure (p : V → Prop) : StyK S X (fun _ z => p z) := fun _ _ _ _ _ _ _ h => h
/-- from H on, in the world W B, the expression gives a value of which R is true, in the world W' B' -/
def EvD (S : Sm) (X : Ow) (W : HpP) (B : Int) (W' : HpP) (B' : Int) (R : RV) (t : TE) (σ : L2.St) (H : Hp) : Prop :=
  ∀ H', KeepX (XS S X) H H' → Wld S X W B H' → ∀ Q : VK, (∀ H2 z, KeepX (XS S X) H' H2 → Wld S X W' B' H2 → R H2 z → Q z H2) → t σ H' Q
def EvDT (S : Sm) (X : Ow) (W : HpP) (B : Int) (W' : HpP) (B' : Int) (b : Bool) (t : TT) (σ : L2.St) (H : Hp) : Prop :=
  ∀ H', KeepX (XS S X) H H' → Wld S X W B H' → ∀ Q : Bool → Hp → Prop, (∀ H2, KeepX (XS S X) H' H2 → Wld S X W' B' H2 → Q b H2) → t σ H' Q
def EvDA (S : Sm) (X : Ow) (W : HpP) (B : Int) (W' : HpP) (B' : Int) (Rs : List RV) (t : TA) (σ : L2.St) (H : Hp) : Prop :=
  ∀ H', KeepX (XS S X) H H' → Wld S X W B H' → ∀ Q : List V → Hp → Prop, (∀ H2 vs, KeepX (XS S X) H' H2 → Wld S X W' B' H2 → AllV Rs H2 vs → Q vs H2) → t σ H' Q
variable {R Ra Rb Rc : RV} {Rs : List RV} {t ta tb : TE} {ts : TA} {σ : L2.St}
theorem EvD.kx (h : EvD S X W B W1 B1 R t σ H) (k : KeepX (XS S X) H H') : EvD S X W B W1 B1 R t σ H' := fun H2 s w Q q => h H2 (k.trans s) w Q q
theorem EvD.mono {R' : RV} (h : EvD S X W B W1 B1 R t σ H) (i : ∀ H z, R H z → R' H z) : EvD S X W B W1 B1 R' t σ H := fun H2 s w Q q => h H2 s w Q fun H3 z s3 w3 g => q H3 z s3 w3 (i _ _ g)
theorem EvD.mono2 {R' : RV} (h : EvD S X W B W1 B1 R t σ H) (i : ∀ H z, Wld S X W1 B1 H → R H z → R' H z) : EvD S X W B W1 B1 R' t σ H := fun H2 s w Q q => h H2 s w Q fun H3 z s3 w3 g => q H3 z s3 w3 (i _ _ w3 g)
theorem EvD.late (h : EvD S X W B W1 B1 R t σ H) (b : B1 ≤ B2) : EvD S X W B W1 B2 R t σ H := fun H2 s w Q q => h H2 s w Q fun H3 z s3 w3 g => q H3 z s3 (w3.mono b) g
theorem ed_pure (sw : StyW X W) (f : ∀ H', KeepX (XS S X) H H' → Wld S X W B H' → Ev R t σ H') : EvD S X W B W B R t σ H := fun H1 s w Q q => f H1 s w H1 (Same.refl _) _ fun H2 z s2 g => q H2 z (KeepX.of s2) (w.same sw s2) g
theorem ed_var {i : Nat} {z : V} (hs : StyK S X R) (w0 : Wld S X W3 B3 H) (e : σ[i]? = some (some z)) (h : R H z) : EvD S X W B W B R (tVar i) σ H := fun H2 s w Q q => ⟨z, e, q _ _ (KeepX.refl _ _) w (hs _ _ _ _ _ w0 s h)⟩
theorem ed_varV {i : Nat} {v : V} (e : σ[i]? = some (some v)) : EvD S X W B W B (isV v) (tVar i) σ H := fun H2 s w Q q => ⟨v, e, q _ _ (KeepX.refl _ _) w rfl⟩
theorem ed_c (v : V) : EvD S X W B W B (isV v) (tC v) σ H := fun H2 s w Q q => q _ _ (KeepX.refl _ _) w rfl
theorem ed_op {r : R2} (sw : StyW X W2) (ha : StyK S X Ra) (a : EvD S X W B W1 B1 Ra ta σ H) (b : EvD S X W1 B1 W2 B2 Rb tb σ H) (f : OpF Ra Rb r Rc) : EvD S X W B W2 B2 Rc (tOp r ta tb) σ H := fun H1 s1 w1 Q q =>
  a H1 s1 w1 _ fun H2 x s2 w2 gx => b H2 (s1.trans s2) w2 _ fun H3 y s3 w3 gy => f H3 x y (ha _ _ _ _ _ w2 s3 gx) gy _ fun H4 z s4 gz => q H4 z ((s2.trans s3).trans (KeepX.of s4)) (w3.same sw s4) gz
theorem ed_opW {r : R2} (sw : StyW X W2) (ha : StyK S X Ra) (a : EvD S X W B W1 B1 Ra ta σ H) (b : EvD S X W1 B1 W2 B2 Rb tb σ H) (f : ∀ H x y, Wld S X W2 B2 H → Ra H x → Rb H y → ∀ Q : VK, (∀ H2 z, Same H H2 → Rc H2 z → Q z H2) → r x y H Q) : EvD S X W B W2 B2 Rc (tOp r ta tb) σ H := fun H1 s1 w1 Q q =>
  a H1 s1 w1 _ fun H2 x s2 w2 gx => b H2 (s1.trans s2) w2 _ fun H3 y s3 w3 gy => f H3 x y w3 (ha _ _ _ _ _ w2 s3 gx) gy _ fun H4 z s4 gz => q H4 z ((s2.trans s3).trans (KeepX.of s4)) (w3.same sw s4) gz
theorem ed_test {b : Bool} (h : EvD S X W B W1 B1 (isB b) t σ H) : EvDT S X W B W1 B1 b (tTest t) σ H := fun H1 s1 w1 Q q => h H1 s1 w1 _ fun H2 z s2 w2 e => ⟨b, e, q _ s2 w2⟩
theorem ed_b {b : Bool} (h : EvD S X W B W1 B1 (isB b) t σ H) : EvDT S X W B W1 B1 b (tB t) σ H := fun H1 s1 w1 Q q => h H1 s1 w1 _ fun H2 z s2 w2 e => ⟨b, e, q _ s2 w2⟩
theorem ed_not {b : Bool} {t : TT} (h : EvDT S X W B W1 B1 b t σ H) : EvDT S X W B W1 B1 (!b) (tNot t) σ H := fun H1 s1 w1 Q q => h H1 s1 w1 _ fun H2 s2 w2 => q _ s2 w2
theorem ed_tpure {b : Bool} {t : TT} (sw : StyW X W) (f : ∀ H', KeepX (XS S X) H H' → Wld S X W B H' → EvT b t σ H') : EvDT S X W B W B b t σ H := fun H1 s w Q q => f H1 s w H1 (Same.refl _) _ fun H2 s2 => q H2 (KeepX.of s2) (w.same sw s2)
theorem ed_or {b c : Bool} {t u : TT} (h : EvDT S X W B W1 B1 b t σ H) (k : b = false → EvDT S X W1 B1 W2 B2 c u σ H) (k2 : b = true → ∀ H, Wld S X W1 B1 H → Wld S X W2 B2 H) : EvDT S X W B W2 B2 (b || c) (tOr t u) σ H := fun H1 s1 w1 Q q => h H1 s1 w1 _ fun H2 s2 w2 => by
  cases b with
  | true => exact iteT (q _ s2 (k2 rfl _ w2))
  | false => exact iteF (k rfl H2 (s1.trans s2) w2 _ fun H3 s3 w3 => q _ (s2.trans s3) w3)
theorem ed_and {b c : Bool} {t u : TT} (h : EvDT S X W B W1 B1 b t σ H) (k : b = true → EvDT S X W1 B1 W2 B2 c u σ H) (k2 : b = false → ∀ H, Wld S X W1 B1 H → Wld S X W2 B2 H) : EvDT S X W B W2 B2 (b && c) (tAnd t u) σ H := fun H1 s1 w1 Q q => h H1 s1 w1 _ fun H2 s2 w2 => by
  cases b with
  | true => exact iteT (k rfl H2 (s1.trans s2) w2 _ fun H3 s3 w3 => q _ (s2.trans s3) w3)
  | false => exact iteF (q _ s2 (k2 rfl _ w2))
theorem ed_ifE {b : Bool} {c : TT} (h : EvDT S X W B W1 B1 b c σ H) (k1 : b = true → EvD S X W1 B1 W2 B2 R ta σ H) (k2 : b = false → EvD S X W1 B1 W2 B2 R tb σ H) : EvD S X W B W2 B2 R (tIf c ta tb) σ H := fun H1 s1 w1 Q q => h H1 s1 w1 _ fun H2 s2 w2 => by
  cases b with
  | true => exact iteT (k1 rfl H2 (s1.trans s2) w2 _ fun H3 z s3 w3 g => q _ _ (s2.trans s3) w3 g)
  | false => exact iteF (k2 rfl H2 (s1.trans s2) w2 _ fun H3 z s3 w3 g => q _ _ (s2.trans s3) w3 g)
theorem eda_nil : EvDA S X W B W B [] tNil σ H := fun H1 s1 w Q q => q _ _ (KeepX.refl _ _) w trivial
theorem eda_cons (hs : StyK S X R) (a : EvD S X W B W1 B1 R t σ H) (b : EvDA S X W1 B1 W2 B2 Rs ts σ H) : EvDA S X W B W2 B2 (R :: Rs) (tCons t ts) σ H := fun H1 s1 w1 Q q =>
  a H1 s1 w1 _ fun H2 x s2 w2 gx => b H2 (s1.trans s2) w2 _ fun H3 vs s3 w3 gv => q _ _ (s2.trans s3) w3 ⟨hs _ _ _ _ _ w2 s3 gx, gv⟩
/-! statements -/
theorem asg_ed {g : TG} {u : TS} {D : Ends} (h : EvD S X W B W1 B1 R t σ H) (w : Wld S X W B H) (q : ∀ H2 z, KeepX (XS S X) H H2 → Wld S X W1 B1 H2 → R H2 z → g z σ H2 (u D)) : tSeq (tAsg t g) u D σ H := h H (KeepX.refl _ _) w _ fun H2 z s2 w2 gz => q H2 z s2 w2 gz
theorem ret_ed {D : Ends} (h : EvD S X W B W1 B1 R t σ H) (w : Wld S X W B H) (q : ∀ H2 z, KeepX (XS S X) H H2 → Wld S X W1 B1 H2 → R H2 z → D.rt z H2) : tRet t D σ H := h H (KeepX.refl _ _) w _ fun H2 z s2 w2 gz => q H2 z s2 w2 gz
theorem ifs_ed {b : Bool} {t : TT} {u v rest : TS} {D : Ends} (h : EvDT S X W B W1 B1 b t σ H) (w : Wld S X W B H) (q1 : b = true → ∀ H2, KeepX (XS S X) H H2 → Wld S X W1 B1 H2 → u { D with nx := rest D } σ H2) (q2 : b = false → ∀ H2, KeepX (XS S X) H H2 → Wld S X W1 B1 H2 → v { D with nx := rest D } σ H2) : tSeq (tIfS t u v) rest D σ H := h H (KeepX.refl _ _) w _ fun H2 s2 w2 => by
  cases b with
  | true => exact iteT (q1 rfl H2 s2 w2)
  | false => exact iteF (q2 rfl H2 s2 w2)
theorem if_ed {b : Bool} {t : TT} {u v : TS} {D : Ends} (h : EvDT S X W B W1 B1 b t σ H) (w : Wld S X W B H) (q1 : b = true → ∀ H2, KeepX (XS S X) H H2 → Wld S X W1 B1 H2 → u D σ H2) (q2 : b = false → ∀ H2, KeepX (XS S X) H H2 → Wld S X W1 B1 H2 → v D σ H2) : tIfS t u v D σ H := h H (KeepX.refl _ _) w _ fun H2 s2 w2 => by
  cases b with
  | true => exact iteT (q1 rfl H2 s2 w2)
  | false => exact iteF (q2 rfl H2 s2 w2)
theorem par_ed {i j : Nat} {u : TS} {D : Ends} (ha : StyK S X Ra) (a : EvD S X W B W1 B1 Ra ta σ H) (b : EvD S X W1 B1 W2 B2 Rb tb σ H) (w : Wld S X W B H) (q : ∀ H2 x y, KeepX (XS S X) H H2 → Wld S X W2 B2 H2 → Ra H2 x → Rb H2 y → u D ((σ.set i (some x)).set j (some y)) H2) : tSeq (tPar i j (tCons ta (tCons tb tNil))) u D σ H :=
  a H (KeepX.refl _ _) w _ fun H2 x s2 w2 gx => b H2 s2 w2 _ fun H3 y s3 w3 gy => ⟨x, y, rfl, q H3 x y (s2.trans s3) w3 (ha _ _ _ _ _ w2 s3 gx) gy⟩
end
end XT
/-! boards: states, edits and their outcomes -/
namespace XT
open PySem PySem.Spec PyProof.Rows L2
inductive Ed
  | add (d : PyData) | drop (d : PyData) | turn (d : PyData) | flip
def Ed.nm : Ed → Str
  | .add _ => "add" | .drop _ => "drop" | .turn _ => "turn" | .flip => "flip"
def Ed.args : Ed → List PyData
  | .add d => [d] | .drop d => [d] | .turn d => [d] | .flip => []
def mN (d : PyData) : Nat := (iv d).toNat
def Ed.key : Ed → Str × Option Nat
  | .add d => ("add", some (mN d)) | .drop d => ("drop", some (mN d)) | .turn d => ("turn", some (mN d)) | .flip => ("flip", none)
/-- what comes of it: other masks, or an error by its number among the sixteen and its field -/
inductive Oc
  | ok (p : Nat → Bool) | er (j : Nat) (d : PyData)
def ocE (n : Nat) (p : Nat → Bool) : Ed → Oc
  | .flip => .ok fun m => !p m
  | .turn d => if isM n d = true then .ok fun m => p (m ^^^ mN d) else .er 14 d
  | .add d => if isM n d = true then (if p (mN d) = true then .er 8 d else .ok fun m => p m || decide (m = mN d)) else .er 14 d
  | .drop d => if isM n d = true then (if p (mN d) = true then .ok fun m => p m && !decide (m = mN d) else .er 5 d) else .er 14 d
/-- a tuple of the name and the arguments, laid -/
def EdZ (K : PySem.W.Frag) (H : Hp) (z : V) (e : Ed) : Prop := ∃ q vs, z = .ref q ∧ H q = some (.tup (.str e.nm :: vs)) ∧ DzAll K H vs e.args
theorem EdZ.same {K : PySem.W.Frag} {H H' : Hp} {z : V} {e : Ed} (h : EdZ K H z e) (s : Same H H') : EdZ K H' z e := by
  obtain ⟨q, vs, ez, hq, a⟩ := h
  exact ⟨q, vs, ez, s _ _ hq, DzAll.same s a⟩
/-- an edit that was done -/
def keyT (e : Str × Option Nat) : List V := .str e.1 :: (match e.2 with | some m => [.int (m : Int)] | none => [])
abbrev isEd (e : Str × Option Nat) : RV := fun H z => ∃ q, z = .ref q ∧ H q = some (.tup (keyT e))
theorem isM_mN {n : Nat} {d : PyData} (h : isM n d = true) : d = .int (mN d : Nat) ∧ mN d < 2 ^ n := by
  obtain ⟨a, rfl, ha⟩ := isM_int h
  have : mN (.int (a : Int)) = a := by
    show (a : Int).toNat = a
    exact Int.toNat_natCast a
  rw [this]
  exact ⟨rfl, ha⟩
theorem ocE_no {n : Nat} {p p' : Nat → Bool} {d : PyData} (h : ¬ isM n d = true) {e : Ed} (he : e = .add d ∨ e = .drop d ∨ e = .turn d := by simp) : ocE n p e ≠ .ok p' := by
  rcases he with rfl | rfl | rfl
  · show (if isM n d = true then (if p (mN d) = true then Oc.er 8 d else .ok fun m => p m || decide (m = mN d)) else .er 14 d) ≠ _
    rw [if_neg h]
    exact fun z => by cases z
  · show (if isM n d = true then (if p (mN d) = true then Oc.ok fun m => p m && !decide (m = mN d) else .er 5 d) else .er 14 d) ≠ _
    rw [if_neg h]
    exact fun z => by cases z
  · show (if isM n d = true then Oc.ok fun m => p (m ^^^ mN d) else .er 14 d) ≠ _
    rw [if_neg h]
    exact fun z => by cases z
theorem ocE_key {K : PySem.W.Frag} {H : Hp} {z : V} {n : Nat} {p p' : Nat → Bool} {e : Ed} (h : EdZ K H z e) (o : ocE n p e = .ok p') : isEd e.key H z := by
  obtain ⟨q, vs, ez, hq, a⟩ := h
  have one : ∀ {d : PyData}, isM n d = true → DzAll K H vs [d] → vs = [.int (mN d : Nat)] := fun {d} hm a => by
    have e1 := (isM_mN hm).1
    generalize mN d = m at *
    subst e1
    cases a with
    | cons a b =>
      cases a
      cases b
      rfl
  cases e with
  | flip =>
    cases a
    exact ⟨q, ez, hq⟩
  | turn d =>
    by_cases hm : isM n d = true
    · rw [one hm a] at hq
      exact ⟨q, ez, hq⟩
    · exact absurd o (ocE_no hm)
  | add d =>
    by_cases hm : isM n d = true
    · rw [one hm a] at hq
      exact ⟨q, ez, hq⟩
    · exact absurd o (ocE_no hm)
  | drop d =>
    by_cases hm : isM n d = true
    · rw [one hm a] at hq
      exact ⟨q, ez, hq⟩
    · exact absurd o (ocE_no hm)
/-- a board: width, earlier lots, current one, edits, mark, busy, log -/
structure Bd where
  n : Nat
  qs : List (Nat → Bool)
  p : Nat → Bool
  es : List (Str × Option Nat)
  mr : Option Nat
  bz : Bool
  lg : Option (List (Str × Nat))
def mkV : Option Nat → V
  | none => .non
  | some m => .int (m : Int)
abbrev isRow (r : Str × Nat) : RV := fun H z => ∃ q, z = .ref q ∧ H q = some (.tup [.str r.1, .int (r.2 : Int)])
def bdL (R : Addr) : Option (List (Str × Nat)) → List (Str × V)
  | none => []
  | some _ => [("rows", .ref R)]
abbrev bdF (T D R : Addr) (b : Bd) : List (Str × V) := ("lots", .ref T) :: ("done", .ref D) :: ("marked", mkV b.mr) :: ("busy", .bl b.bz) :: bdL R b.lg
theorem bdL_len (R : Addr) (l : Option (List (Str × Nat))) : (bdL R l).length ≤ 1 := by
  cases l <;> simp [bdL]
/-- what the board's tuples hold -/
structure BdT (H : Hp) (T D R : Addr) (b : Bd) (vs : List V) (v : V) (us ws : List V) : Prop where
  hT : H T = some (.tup (vs ++ [v]))
  hq : AllV (b.qs.map (isLot b.n)) H vs
  hp : LotAt H v b.n b.p
  hD : H D = some (.tup us)
  he : AllV (b.es.map isEd) H us
  hR : ∀ l, b.lg = some l → H R = some (.tup ws) ∧ AllV (l.map isRow) H ws
  len : b.es.length = b.qs.length
  n1 : 1 ≤ b.n
  n6 : b.n ≤ 6
  l60 : b.es.length ≤ 60
def BdAt (C : Addr) (H : Hp) (a : Addr) (b : Bd) : Prop := ∃ (dx T D R : Addr) (vs : List V) (v : V) (us ws : List V), H a = some (.ins C dx (bdF T D R b)) ∧ BdT H T D R b vs v us ws
/-- tuples stay -/
def Tups (H H' : Hp) : Prop := ∀ b xs, H b = some (.tup xs) → H' b = some (.tup xs)
theorem Tups.of {H H' : Hp} (s : Same H H') : Tups H H' := fun b xs e => s _ _ e
theorem Tups.trans {H H1 H2 : Hp} (a : Tups H H1) (b : Tups H1 H2) : Tups H H2 := fun c xs e => b c xs (a c xs e)
theorem Tups.put {H : Hp} {a : Addr} {o o' : HO} (h : H a = some o) (n : ∀ xs, o ≠ .tup xs) : Tups H (upd H a o') := fun b xs e => by
  have : b ≠ a := fun z => by
    subst z
    rw [h] at e
    exact n xs (Option.some.inj e)
  rw [upd_ne this]
  exact e
theorem LotAt.tu {H H' : Hp} {v : V} {n : Nat} {p : Nat → Bool} (h : LotAt H v n p) (t : Tups H H') : LotAt H' v n p := by
  obtain ⟨a, b, e, h1, h2⟩ := h
  exact ⟨a, b, e, t _ _ h1, t _ _ h2⟩
theorem allV_tu {H H' : Hp} (t : Tups H H') : ∀ {Rs : List RV} {vs : List V}, (∀ R ∈ Rs, ∀ z, R H z → R H' z) → AllV Rs H vs → AllV Rs H' vs
  | [], [], _, h => h
  | R :: Rs, v :: vs, hs, h => ⟨hs R List.mem_cons_self _ h.1, allV_tu t (fun R' h' => hs R' (List.mem_cons_of_mem _ h')) h.2⟩
theorem lots_tu {H H' : Hp} (t : Tups H H') {n : Nat} {qs : List (Nat → Bool)} {vs : List V} (h : AllV (qs.map (isLot n)) H vs) : AllV (qs.map (isLot n)) H' vs := allV_tu t (fun R hR z g => by
  obtain ⟨q, _, rfl⟩ := List.mem_map.mp hR
  exact LotAt.tu g t) h
theorem eds_tu {H H' : Hp} (t : Tups H H') {es : List (Str × Option Nat)} {vs : List V} (h : AllV (es.map isEd) H vs) : AllV (es.map isEd) H' vs := allV_tu t (fun R hR z g => by
  obtain ⟨q, _, rfl⟩ := List.mem_map.mp hR
  obtain ⟨a, ez, ha⟩ := g
  exact ⟨a, ez, t _ _ ha⟩) h
theorem rows_tu {H H' : Hp} (t : Tups H H') {es : List (Str × Nat)} {vs : List V} (h : AllV (es.map isRow) H vs) : AllV (es.map isRow) H' vs := allV_tu t (fun R hR z g => by
  obtain ⟨q, _, rfl⟩ := List.mem_map.mp hR
  obtain ⟨a, ez, ha⟩ := g
  exact ⟨a, ez, t _ _ ha⟩) h
theorem BdT.tu {H H' : Hp} {T D R : Addr} {b : Bd} {vs us ws : List V} {v : V} (h : BdT H T D R b vs v us ws) (t : Tups H H') : BdT H' T D R b vs v us ws :=
  ⟨t _ _ h.hT, lots_tu t h.hq, h.hp.tu t, t _ _ h.hD, eds_tu t h.he, fun l e => let ⟨a, c⟩ := h.hR l e; ⟨t _ _ a, rows_tu t c⟩, h.len, h.n1, h.n6, h.l60⟩
theorem BdAt.tu {C : Addr} {H H' : Hp} {a : Addr} {b : Bd} (h : BdAt C H a b) (t : Tups H H') (e : ∀ o, H a = some o → H' a = some o) : BdAt C H' a b := by
  obtain ⟨dx, T, D, R, vs, v, us, ws, ha, ht⟩ := h
  exact ⟨dx, T, D, R, vs, v, us, ws, e _ ha, ht.tu t⟩
theorem BdAt.same {C : Addr} {H H' : Hp} {a : Addr} {b : Bd} (h : BdAt C H a b) (s : Same H H') : BdAt C H' a b := h.tu (Tups.of s) fun o e => s _ _ e
/-- a world that holds a board at a, which is owned -/
theorem sty_bd {X : Ow} {C a : Addr} {b : Bd} (ha : X a) : StyW X (fun H => BdAt C H a b) := fun H H' s h => h.tu (fun c xs e => s c _ e (.inr ⟨xs, rfl⟩)) fun o e => s _ _ e (.inl ha)
/-- the errors -/
def fldN (j : Nat) : Str := if j = 13 ∨ j = 14 ∨ j = 15 then "value" else if j = 5 ∨ j = 8 then "mask" else if j = 0 ∨ j = 3 ∨ j = 7 ∨ j = 9 then "index" else if j = 12 then "limit" else "error"
def hasF (j : Nat) : Bool := decide (j ∈ [0, 2, 3, 5, 7, 8, 9, 12, 13, 14, 15])
def ErOk (K : PySem.W.Frag) (j : Nat) (d : PyData) (H : Hp) (od : Option Addr) : Prop :=
  if hasF j = true then ∃ dd v, od = some dd ∧ H dd = some (.xd [(fldN j, v)]) ∧ Dz K H v d
  else if j = 11 then ∃ dd x y, od = some dd ∧ H dd = some (.xd [("other", .int y), ("one", .int x)]) ∧ d = .tuple [.int x, .int y]
  else od = none ∧ d = .none
def ErP (K : PySem.W.Frag) (ec : Nat → Addr) (E : XK) (j : Nat) (d : PyData) (H : Hp) : Prop := ∀ H' od, Same H H' → ErOk K j d H' od → E (.ref (ec j)) od H'
theorem ErP.same {K : PySem.W.Frag} {ec : Nat → Addr} {E : XK} {j : Nat} {d : PyData} {H H' : Hp} (h : ErP K ec E j d H) (s : Same H H') : ErP K ec E j d H' := fun H2 od s2 g => h H2 od (s.trans s2) g
theorem bd_look {m : Str} {T D R : Addr} {b : Bd} (h : (m == ("lots" : Str) || (m == ("done" : Str) || (m == ("marked" : Str) || (m == ("busy" : Str) || m == ("rows" : Str))))) = false := by decide) : (bdF T D R b).lookup m = none := by
  rw [Bool.or_eq_false_iff, Bool.or_eq_false_iff, Bool.or_eq_false_iff, Bool.or_eq_false_iff] at h
  obtain ⟨h1, h2, h3, h4, h5⟩ := h
  rw [List.lookup_cons, h1, List.lookup_cons, h2, List.lookup_cons, h3, List.lookup_cons, h4]
  cases b.lg with
  | none => rfl
  | some l =>
    show List.lookup m [("rows", _)] = none
    rw [List.lookup_cons, h5]
    rfl
theorem at_last {xs : List V} {v : V} : atI (xs ++ [v]) (-1) = some v := by
  unfold atI ixN
  rw [if_neg (by decide), if_pos (by rw [List.length_append]; show -((xs.length + 1 : Nat) : Int) ≤ -1; omega)]
  have : ((-1 : Int) + ((xs ++ [v]).length : Nat)).toNat = xs.length := by
    rw [List.length_append]
    show ((-1 : Int) + ((xs.length + 1 : Nat) : Int)).toNat = _
    omega
  rw [this]
  show (xs ++ [v])[xs.length]? = some v
  rw [List.getElem?_append_right (Nat.le_refl _), Nat.sub_self]
  rfl
/-- facts of a board's class -/
structure BdC (K : PySem.W.Frag) (C : Addr) : Prop where
  cl : Cls K C
  nl : NoAttr K C "lots"
  nd : NoAttr K C "done"
  nm : NoAttr K C "marked"
  nb : NoAttr K C "busy"
  mo : ∃ u, Con K C "MOST_EDITS" (.int 60) u
abbrev isBd (C : Addr) (b : Bd) : RV := fun H z => ∃ a, z = .ref a ∧ BdAt C H a b
theorem sty_bd0 (C : Addr) (b : Bd) : Sty (isBd C b) := fun _ _ _ s ⟨a, e, h⟩ => ⟨a, e, h.same s⟩
abbrev isLots (b : Bd) : RV := fun H z => ∃ T vs v, z = .ref T ∧ H T = some (.tup (vs ++ [v])) ∧ AllV (b.qs.map (isLot b.n)) H vs ∧ LotAt H v b.n b.p
abbrev isDone (es : List (Str × Option Nat)) : RV := fun H z => ∃ D us, z = .ref D ∧ H D = some (.tup us) ∧ AllV (es.map isEd) H us
theorem sty_lots (b : Bd) : Sty (isLots b) := fun _ _ _ s ⟨T, vs, v, e, h, a, l⟩ => ⟨T, vs, v, e, s _ _ h, lots_tu (Tups.of s) a, l.same s⟩
theorem sty_done (es : List (Str × Option Nat)) : Sty (isDone es) := fun _ _ _ s ⟨D, us, e, h, a⟩ => ⟨D, us, e, s _ _ h, eds_tu (Tups.of s) a⟩
section
variable {K : PySem.W.Frag} {C : Addr} {b : Bd} {t : TE} {σ : L2.St} {H : Hp}
theorem ev_bd {i a : Nat} (h : BdAt C H a b) (e : σ[i]? = some (some (.ref a))) : Ev (isBd C b) (tVar i) σ H := ev_var (sty_bd0 C b) e ⟨a, rfl, h⟩
theorem ev_lots (T : BdC K C) (a : Ev (isBd C b) t σ H) : Ev (isLots b) (tFld K t "lots") σ H := fun H1 s1 Q q =>
  a H1 s1 _ fun H2 x s2 ⟨a, ex, dx, T', D, R, vs, v, us, ws, ha, ht⟩ => ⟨a, C, dx, _, .ref T', ex, ha, T.cl, T.nl, rfl, q _ _ s2 ⟨T', vs, v, rfl, ht.hT, ht.hq, ht.hp⟩⟩
theorem ev_done (T : BdC K C) (a : Ev (isBd C b) t σ H) : Ev (isDone b.es) (tFld K t "done") σ H := fun H1 s1 Q q =>
  a H1 s1 _ fun H2 x s2 ⟨a, ex, dx, T', D, R, vs, v, us, ws, ha, ht⟩ => ⟨a, C, dx, _, .ref D, ex, ha, T.cl, T.nd, rfl, q _ _ s2 ⟨D, us, rfl, ht.hD, ht.he⟩⟩
theorem ev_marked (T : BdC K C) (a : Ev (isBd C b) t σ H) : Ev (isV (mkV b.mr)) (tFld K t "marked") σ H := fun H1 s1 Q q =>
  a H1 s1 _ fun H2 x s2 ⟨a, ex, dx, T', D, R, vs, v, us, ws, ha, ht⟩ => ⟨a, C, dx, _, mkV b.mr, ex, ha, T.cl, T.nm, rfl, q _ _ s2 rfl⟩
theorem ev_busy (T : BdC K C) (a : Ev (isBd C b) t σ H) : Ev (isB b.bz) (tFld K t "busy") σ H := fun H1 s1 Q q =>
  a H1 s1 _ fun H2 x s2 ⟨a, ex, dx, T', D, R, vs, v, us, ws, ha, ht⟩ => ⟨a, C, dx, _, .bl b.bz, ex, ha, T.cl, T.nb, rfl, q _ _ s2 rfl⟩
theorem ev_most (T : BdC K C) (a : Ev (isBd C b) t σ H) : Ev (isV (.int 60)) (tCon K t "MOST_EDITS") σ H := fun H1 s1 Q q =>
  a H1 s1 _ fun H2 x s2 ⟨a, ex, dx, T', D, R, vs, v, us, ws, ha, ht⟩ => by
    obtain ⟨u, c⟩ := T.mo
    exact ⟨a, C, dx, _, .int 60, u, ex, ha, T.cl, c, bd_look, q _ _ s2 rfl⟩
theorem of_ixLast : OpF (isLots b) (isV (.int (-1))) (rIxT K) (isLot b.n b.p) := fun H x y ⟨T, vs, v, ex, hT, _, hv⟩ ey Q q => ⟨T, _, -1, v, ex, ey, SqT.of hT, at_last, q _ _ (Same.refl _) hv⟩
theorem allV_len' {Rs : List RV} {H : Hp} {vs : List V} (h : AllV Rs H vs) : vs.length = Rs.length := allV_len h
theorem ev_lenDone {es : List (Str × Option Nat)} (a : Ev (isDone es) t σ H) : Ev (isV (.int (es.length : Int))) (tCB (fun xs H Q => ∃ p ys, xs = [.ref p] ∧ (SqL K H p ys ∨ SqT K H p ys) ∧ Q (.int ys.length) H) (tCons t tNil)) σ H := fun H1 s1 Q q =>
  a H1 s1 _ fun H2 x s2 ⟨D, us, ex, hD, he⟩ => ⟨D, us, by rw [ex], .inr (SqT.of hD), q _ _ s2 (by rw [allV_len he, List.length_map])⟩
/-- a property, a method without arguments -/
def spB1 (C : Addr) (F : Bd → RV) : Sp := fun vs H Q _ => ∃ a b, vs = [.ref a] ∧ BdAt C H a b ∧ ∀ H' r, Same H H' → F b H' r → Q r H'
theorem ev_bprop {F : Bd → RV} (a : Ev (isBd C b) t σ H) : Ev (F b) (tProp C (spB1 C F) [] E0 t) σ H := fun H1 s1 Q q =>
  a H1 s1 _ fun H2 x s2 ⟨a, ex, h⟩ => by
    obtain ⟨dx, T', D, R, vs, v, us, ws, ha, ht⟩ := id h
    exact ⟨a, dx, _, ex, ha, a, b, rfl, h, fun H3 r s3 g => q _ _ (s2.trans s3) g⟩
end
/-- what an edit makes of the board -/
def stB (b : Bd) (e : Ed) (p' : Nat → Bool) : Bd := { b with qs := b.qs ++ [b.p], p := p', es := b.es ++ [e.key] }
/-- with a log (not endless), or without -/
def LgP (b : Bd) (lgd : Bool) : Prop := b.lg.isSome = lgd ∧ ∀ l, b.lg = some l → l.length < 1000000
theorem LgP.no {b : Bd} (h : b.lg.isSome = false) : LgP b false := ⟨h, fun l e => by rw [e] at h; cases h⟩
def finS (nm : Str) (b : Bd) : Bd := { b with lg := b.lg.map (· ++ [(nm, b.es.length)]) }
theorem finS_no {nm : Str} {b : Bd} (h : b.lg = none) : finS nm b = b := by
  unfold finS
  cases b
  dsimp only at h
  subst h
  rfl
abbrev Oce := Nat → (Nat → Bool) → Ed → Oc
/-- what is promised of an edit: any call of its own -/
def EdP (K : PySem.W.Frag) (C : Addr) (ec : Nat → Addr) (oc : Oce) (Q : VK) (E : XK) (H : Hp) (a : Addr) (b : Bd) (e : Ed) : Prop :=
  (b.bz = true → ErP K ec E 4 .none H) ∧ (b.bz = false → 60 ≤ b.es.length → ErP K ec E 10 .none H) ∧
  (b.bz = false → b.es.length < 60 → (∀ j d, oc b.n b.p e = .er j d → ErP K ec E j d H) ∧ ∀ p', oc b.n b.p e = .ok p' → ∀ H', KeepX (fun c => c = a) H H' → BdAt C H' a (finS e.nm (stB b e p')) → Q (.int ((b.es.length + 1 : Nat) : Int)) H')
end XT
/-! boards: what comes of an edit or of undo -/
namespace XT
open PySem PySem.Spec PyProof.Rows L2
def unB (b : Bd) : Bd := { b with qs := b.qs.dropLast, p := b.qs.getLast?.getD b.p, es := b.es.dropLast }
def UnP (K : PySem.W.Frag) (C : Addr) (ec : Nat → Addr) (Q : VK) (E : XK) (H : Hp) (a : Addr) (b : Bd) : Prop :=
  (b.bz = true → ErP K ec E 4 .none H) ∧ (b.bz = false → b.es = [] → ErP K ec E 6 .none H) ∧ (b.bz = false → b.es ≠ [] → ∀ H', KeepX (fun c => c = a) H H' → BdAt C H' a (finS "undo" (unB b)) → Q (.int ((b.es.length - 1 : Nat) : Int)) H')
inductive Ro
  | ok (b : Bd) (v : Nat) | er (j : Nat) (d : PyData)
def ocR (b : Bd) (e : Ed) : Oc → Ro
  | .ok p' => .ok (finS e.nm (stB b e p')) (b.es.length + 1)
  | .er j d => .er j d
def runE (oc : Oce) (b : Bd) (e : Ed) : Ro := if b.bz = true then .er 4 .none else if 60 ≤ b.es.length then .er 10 .none else ocR b e (oc b.n b.p e)
def runU (b : Bd) : Ro := if b.bz = true then .er 4 .none else if b.es.isEmpty = true then .er 6 .none else .ok (finS "undo" (unB b)) (b.es.length - 1)
def runO (oc : Oce) (b : Bd) : Option Ed → Ro
  | some e => runE oc b e
  | none => runU b
def nmO : Option Ed → Str
  | some e => e.nm
  | none => "undo"
def argsO : Option Ed → List PyData
  | some e => e.args
  | none => []
/-- a law's edit: a tuple of the name and the arguments -/
def EdO (K : PySem.W.Frag) (H : Hp) (z : V) (o : Option Ed) : Prop := ∃ q vs, z = .ref q ∧ H q = some (.tup (.str (nmO o) :: vs)) ∧ DzAll K H vs (argsO o)
theorem EdO.same {K : PySem.W.Frag} {H H' : Hp} {z : V} {o : Option Ed} (h : EdO K H z o) (s : Same H H') : EdO K H' z o := by
  obtain ⟨q, vs, ez, hq, a⟩ := h
  exact ⟨q, vs, ez, s _ _ hq, DzAll.same s a⟩
theorem sty_edO {K : PySem.W.Frag} (o : Option Ed) : Sty (fun H z => EdO K H z o) := fun _ _ _ s h => h.same s
theorem of_ixE0 {K : PySem.W.Frag} {o : Option Ed} : OpF (fun H z => EdO K H z o) (isV (.int 0)) (rIxT K) (isV (.str (nmO o))) := fun H x y ⟨q, vs, ex, hq, _⟩ ey Q q' => ⟨q, _, 0, _, ex, ey, SqT.of hq, atI_nat (j := 0) rfl, q' _ _ (Same.refl _) rfl⟩
theorem of_ixE1 {K : PySem.W.Frag} {o : Option Ed} {d : PyData} (h : argsO o = [d]) : OpF (fun H z => EdO K H z o) (isV (.int 1)) (rIxT K) (isD K d) := fun H x y ⟨q, vs, ex, hq, a⟩ ey Q q' => by
  rw [h] at a
  cases a with
  | cons a1 a2 =>
    cases a2
    exact ⟨q, _, 1, _, ex, ey, SqT.of hq, atI_nat (j := 1) rfl, q' _ _ (Same.refl _) a1⟩
section
variable {K : PySem.W.Frag} {C : Addr} {ec : Nat → Addr} {oc : Oce} {Q : VK} {E : XK} {H : Hp} {a : Addr} {b : Bd}
theorem edP_of {e : Ed} (q : ∀ b' v, runO oc b (some e) = .ok b' v → ∀ H', KeepX (fun c => c = a) H H' → BdAt C H' a b' → Q (.int (v : Int)) H') (qe : ∀ j d, runO oc b (some e) = .er j d → ErP K ec E j d H) : EdP K C ec oc Q E H a b e := by
  refine ⟨fun hb => qe _ _ ?_, fun hb l => qe _ _ ?_, fun hb l => ⟨fun j d o => qe _ _ ?_, fun p' o H' k h => q _ _ ?_ H' k h⟩⟩
  · show runE oc b e = _
    unfold runE
    rw [if_pos hb]
  · show runE oc b e = _
    unfold runE
    rw [if_neg (by rw [hb]; decide), if_pos l]
  · show runE oc b e = _
    unfold runE
    rw [if_neg (by rw [hb]; decide), if_neg (by omega), o]
    rfl
  · show runE oc b e = _
    unfold runE
    rw [if_neg (by rw [hb]; decide), if_neg (by omega), o]
    rfl
theorem unP_of (q : ∀ b' v, runO oc b none = .ok b' v → ∀ H', KeepX (fun c => c = a) H H' → BdAt C H' a b' → Q (.int (v : Int)) H') (qe : ∀ j d, runO oc b none = .er j d → ErP K ec E j d H) : UnP K C ec Q E H a b := by
  refine ⟨fun hb => qe _ _ ?_, fun hb l => qe _ _ ?_, fun hb l H' k h => q _ _ ?_ H' k h⟩
  · show runU b = _
    unfold runU
    rw [if_pos hb]
  · show runU b = _
    unfold runU
    rw [if_neg (by rw [hb]; decide), if_pos (by rw [l]; rfl)]
  · show runU b = _
    unfold runU
    rw [if_neg (by rw [hb]; decide), if_neg (by rw [List.isEmpty_iff]; exact l)]
end
end XT
/-! set(t), t[a:b], t + u of tuples; a comprehension over a tuple, with draws -/
namespace XT
open PySem PySem.Spec PyProof.Rows L2
section
variable {P : Program} {w : World} {A : Around} {E : Value → Shared → Prop} {s : Shared}
theorem set_tupI {l : Addr} {items : Array Value} (ns : List Int) {Q : Value → Shared → Prop} (hh : A.handled = none) (hl : s.heap.IsTuple l items) (hit : IntsAre items.toList ns) (hb : ns.length + 1 < scanBound)
    (h : ∀ (hp : Heap) (tk c : Nat), SetR w hp s.heap.objs.size (fun j => decide (j ∈ ns)) c → c ≤ ns.length → (∀ b o, s.heap.get? b = some o → hp.get? b = some o) → Q (.ref s.heap.objs.size) { s with heap := hp, toks := tk }) :
    wpAny (model P w) A (call (.type "set") [.ref l]) Q E s := by
  have hz : items.size = ns.length := by
    have e := IntsAre.length hit
    rwa [Array.length_toList] at e
  obtain ⟨mc, mt, m0⟩ := F.called_set.mro
  have m1 := F.called_set.made
  have m2 := F.called_set.sub
  have m3 := F.called_set.notType
  have m4 := F.called_set.canCreate
  have m5 := F.typeCall_set_1 (.ref l)
  refine wpAny_call (codeAny_of_tree ?_)
  show wpAny _ _ (callAny (.type "set") _) _ _ _
  refine wpAny_pure ⟨Code.quiet_builtin _ (by decide +kernel), codeAny_builtin F.entry_type_call ?_⟩
  rw [Around.under_plain (weight_type_call_type "set" [.ref l] []) rfl]
  repeat (any_goals (first | assumption | wp_step))
  refine codeAny_mono (code_set_led1 (.ref l) (E := E) (Q₁ := fun v s1 => v = .ref s.heap.objs.size ∧ s1 = withS w s) ⟨rfl, rfl⟩) fun r s1 hr => ?_
  match r, hr with
  | .error e, hr => exact hr
  | .ok .next, hr => exact hr.elim
  | .ok .brk, hr => exact hr.elim
  | .ok .cont, hr => exact hr.elim
  | .ok (.ret v), hr =>
    obtain ⟨rfl, rfl⟩ := hr
    have g0 : (s.heap.push (newS w)).get? s.heap.objs.size = some (newS w) := Heap.get?_push_size _ rfl
    have g1 : Shared.TypeIs (withS w s) (.ref s.heap.objs.size) "set" := ⟨_, g0, rfl⟩
    have g2 := F.called_set.init.lookup
    have g3 := F.called_set.init.bind (.ref s.heap.objs.size)
    repeat (any_goals (first | assumption | wp_step))
    refine codeAny_mono (codeAny_call_builtin (R := wants (afterS w s ns) E) F.called_set.init.plain F.entry_set_init (check_set_init_1 g1 ?_)) fun r2 s2 hr2 => ?_
    · obtain ⟨ol, hol, hcl, nl, hdl⟩ := hl
      obtain ⟨oc, od, odt, osl⟩ := ol
      simp only at hcl hdl
      subst hcl hdl
      have hol1 : (s.heap.push (newS w)).get? l = some { cls := .type "tuple", dict := od, data := .seq items nl, slots := osl } := Heap.get?_push_of_some _ hol
      have n1 := F.sub_tuple_set
      have n2 := F.sub_tuple_frozenset
      have n3 : (Value.type "tuple" == Value.type "dict") = false := by decide
      have hl1 : (s.heap.push (newS w)).IsTuple l items := ⟨_, hol1, rfl, nl, rfl⟩
      have lS : l < s.heap.objs.size := Heap.lt_size hol
      have z1 : (s.heap.push (newS w)).objs.size = s.heap.objs.size + 1 := Heap.size_push ..
      unfold Builtin.«set.__init__» noKeywords Builtin.Frozenset.updateFrom
      generalize hPI : pyIter = PI
      wp_walk
      subst hPI
      refine wpAny_pyIter_tuple hl1 (wpAny_bind (wpAny_runValue ?_))
      refine set_update_ints ((Walks.tuple (by simp [hh]) _ l (by rw [z1]; exact Nat.ne_of_lt (Nat.lt_succ_of_lt lS)) items).toS) s.heap.objs.size (by rw [z1]; simp only [List.mem_cons, List.not_mem_nil, or_false, not_or]; exact ⟨Nat.ne_of_lt (Nat.lt_succ_self _), Nat.ne_of_gt lS⟩) ns hz hb (items_at hit hz) (items.size - 0) 0 _ (by omega) (Nat.zero_le _)
        ⟨⟨_, Heap.get?_push_size _ rfl, rfl, rfl⟩, hl1.push _⟩ ⟨0, Nat.le_refl 0, setR_new_at (Heap.get?_push_of_some _ g0)⟩ ?_
      intro s3 c hm hc hS
      obtain ⟨h3, ge, dr, tk, os⟩ := s3
      obtain rfl : ge = s.gens := hm.gens
      obtain rfl : dr = s.drawn := hm.drawn
      obtain rfl : os = s.os := hm.os
      show wpAny _ _ _ _ _ _
      refine wpAny_pure ?_
      show wpAny _ _ (ret Value.none) _ _ _
      rw [hz] at hc
      refine wpAny_pure ⟨rfl, h3, tk, c, rfl, hS, hc, fun b o e => ?_⟩
      have b0 : b < s.heap.objs.size := Heap.lt_size e
      exact hm.heap b o (by rw [z1]; simp only [List.mem_cons, List.not_mem_nil, or_false, not_or]; exact ⟨Nat.ne_of_lt b0, Nat.ne_of_lt (Nat.lt_succ_of_lt b0)⟩) (Heap.get?_push_of_some _ (Heap.get?_push_of_some _ e))
    · match r2, hr2 with
      | .error e, hr2 => exact hr2
      | .ok .next, hr2 => exact hr2.elim
      | .ok .brk, hr2 => exact hr2.elim
      | .ok .cont, hr2 => exact hr2.elim
      | .ok (.ret v), hr2 =>
        obtain ⟨rfl, hp, tk, c, rfl, hS, hc, hk⟩ := hr2
        repeat (any_goals (first | assumption | wp_step))
        exact h _ _ _ hS hc hk
end
section
variable {X : Cx}
/-- set(t) -/
def rSetT (K : PySem.W.Frag) (w : World) : List V → Hp → VK → Prop := fun vs H Q => ∃ (a : Addr) (ns : List Int), vs = [V.ref a] ∧ SqT K H a (ns.map V.int) ∧ ns.length ≤ 1000 ∧ ∀ (p : Addr) (c : Nat), H p = none → Q (.ref p) (upd H p (SetO w p (fun j => decide (j ∈ ns)) c))
theorem cr_setT (hc : X.calm = true) : CallR X (.type "set") (rSetT X.K X.w) := by
  intro pins s σ H vs us Q I r h
  obtain ⟨a, ns, rfl, hs, hn, q⟩ := h
  obtain ⟨its, rv, hl, hz⟩ := I.tuple hs
  rw [Vals.ref1 r]
  refine set_tupI ns (I.ok.hd hc) hl (by simpa using rv.ints) (by unfold scanBound; omega) fun hp tk c hS hcn hk => ?_
  exact ⟨.ref _, _, I.laid (t' := tk) hk (Nat.le_refl _) (setO_new hS), rfl, q _ c (I.hok.fresh (Nat.le_refl _))⟩
end
/-- [m for m in t if draw ..]: some of the masks, in their order -/
theorem lcd_tup {K : PySem.W.Frag} {a : Addr} {g : TG} {tt : TT} {te : TE} {vs : List Nat} {σ : L2.St} {H1 : Hp} {D : Addr} {Qd : Hp → Prop} {S : Sm} {t0 : Int} {ms : List Nat} {d : Nat} (st0 : Strm S H1 t0) (nD : H1 D = none) (hA : H1 a = some (.tup (vm ms))) (hn : ms.length ≤ 1000)
    (ht : ∀ (i : Nat) (m : Nat) H t, ms[i]? = some m → Step S H1 t0 H t (d * i) → ∀ (R1 : Hp → Prop) (R2 : V → Hp → Prop), (∀ H3 t3, Step S H t H3 t3 d → R1 H3) → (∀ H4 t4, Step S H t H4 t4 d → R2 (.int (m : Int)) H4) →
      g (.int (m : Int)) (wipe σ vs) H fun σ2 H2 => wipe σ2 vs = wipe σ vs ∧ tt σ2 H2 fun b H3 => if b = true then te σ2 H3 R2 else R1 H3)
    (hd : ∀ H ks t, Step S H1 t0 H t (d * ms.length) → H D = some (.lst (vm ks)) → ks.Sublist ms → Qd H) :
    ∃ W : Nat → Nat → Hp → Prop, (∃ m, W 0 m (upd H1 D (.lst []))) ∧ ∀ i m H, W i m H →
      ((Itt K a).stop i H ∧ Qd H) ∨ ((Itt K a).go i H ∧ ∃ Nx : Hp → Prop, (∀ H', Nx H' → ∃ m', m' < m ∧ W (i + 1) m' H') ∧ ∀ x H', (Itt K a).yld i H x H' → g x (wipe σ vs) H' fun σ2 H2 => wipe σ2 vs = wipe σ vs ∧ tt σ2 H2 fun b H3 =>
        if b = true then te σ2 H3 fun y H4 => ∃ acc, H4 D = some (.lst acc) ∧ acc.length < sizeLine ∧ Nx (upd H4 D (.lst (acc ++ [y]))) else Nx H3) := by
  refine lc_tup (xs := vm ms) (fun i H => ∃ (ks : List Nat) (t : Int), Step S H1 t0 H t (d * i) ∧ H D = some (.lst (vm ks)) ∧ ks.Sublist (ms.take i)) ⟨[], t0, ((Step.refl st0).same (same_new nD)).mono (Nat.zero_le _), upd_same, by simp⟩ (fun i H _ h => ?_) (fun i x H hx h => ?_) (fun H h => ?_)
  · obtain ⟨_, _, s, _⟩ := h
    exact SqT.of (s.keep.tup st0 hA)
  · obtain ⟨m, hm, rfl⟩ := mem_vm hx
    have hi : i < ms.length := (List.getElem?_eq_some_iff.mp hm).1
    obtain ⟨ks, t, stp, hD, hk⟩ := h
    have hkl : ks.length ≤ i := by
      have h1 := hk.length_le
      rw [List.length_take] at h1
      omega
    refine ht i m H t hm stp _ _ (fun H3 t3 s3 => ?_) (fun H4 t4 s4 => ?_)
    · refine ⟨ks, t3, (stp.trans s3).mono (by rw [Nat.mul_succ]; exact Nat.le_refl _), s3.keep.mine st0 nD hD, ?_⟩
      rw [List.take_add_one]
      exact hk.trans (List.sublist_append_left _ _)
    · have hD4 := s4.keep.mine st0 nD hD
      obtain ⟨nDs, nDp, nDq⟩ := strm_ne st0 nD
      have z := stp.trans s4
      refine ⟨_, hD4, small64 (by rw [vm_len]; omega), ks ++ [m], t4, ⟨fun b o n1 n2 e => ?_, strm_upd z.st nDs nDp nDq, z.lo, by have := z.hi; rw [Nat.mul_succ]; exact this⟩, ?_, ?_⟩
      · rw [upd_ne (ne_of_none e nD)]
        exact z.keep b o n1 n2 e
      · rw [upd_same]; unfold vm; rw [List.map_append]; rfl
      · rw [List.take_add_one, hm]
        exact hk.append (List.Sublist.refl _)
  · rw [vm_len] at h
    obtain ⟨ks, t, s, hD, hk⟩ := h
    rw [List.take_length] at hk
    exact hd H ks t s hD hk
/-- some masks of a lot, in their order, are a lot -/
theorem sub_lot {n : Nat} {p : Nat → Bool} {ks : List Nat} (h : ks.Sublist (lotOf n p)) : vm ks = vm (lotOf n fun m => decide (m ∈ ks)) := by
  have r := lot_rising n p
  have r2 : (ks.map fun (m : Nat) => (m : Int)).Pairwise (· < ·) := r.sublist (h.map _)
  rw [vm_ints ks]
  refine rising_lot r2 fun k => ?_
  rw [List.mem_map]
  constructor
  · rintro ⟨m, hm, rfl⟩
    exact ⟨m, rfl, (mem_lot.mp (h.subset hm)).1, decide_eq_true hm⟩
  · rintro ⟨m, rfl, _, hm⟩
    exact ⟨m, of_decide_eq_true hm, rfl⟩
/-- sorted(set(ns)) of masks -/
theorem sort_set {n : Nat} {ks : List Nat} {ns : List Int} (asc : ns.Pairwise (· < ·)) (hk : ∀ k ∈ ks, k < 2 ^ n) (hm : ∀ k : Int, k ∈ ns ↔ decide (k ∈ ks.map fun (m : Nat) => (m : Int)) = true) : ns.map V.int = vm (lotOf n fun m => decide (m ∈ ks)) := by
  refine rising_lot asc fun z => ?_
  rw [hm z, decide_eq_true_iff, List.mem_map]
  constructor
  · rintro ⟨m, h1, h2⟩
    exact ⟨m, h2.symm, hk m h1, decide_eq_true h1⟩
  · rintro ⟨m, h1, h2, h3⟩
    exact ⟨m, of_decide_eq_true h3, h1.symm⟩
end XT
/-! cuts and sums of tuples that are laid -/
namespace XT
open PySem PySem.Spec PyProof.Rows L2
section
variable {X : Cx}
def rSlV : V → Option Int → Option Int → Hp → VK → Prop := fun x lo hi H Q => ∃ a xs, x = .ref a ∧ H a = some (.tup xs) ∧ ∀ H' p, Same H H' → H' p = some (.tup (cutV xs lo hi)) → Q (.ref p) H'
theorem sl_tupV : SlR X rSlV := by
  intro pins s σ H x v vl vu lo hi sl Q I rx hs pl pu h
  obtain ⟨a, xs, rfl, hx, q⟩ := h
  exact sl_tupA pins s σ H _ v vl vu lo hi sl Q I rx hs pl pu ⟨a, xs, rfl, SqT.of hx, fun hw => q H a (Same.refl H) (by rw [cutV_whole hw]; exact hx), fun _ p np => q _ p (same_new np) upd_same⟩
def rCatV : R2 := fun x y H Q => ∃ a b xs ys, x = .ref a ∧ y = .ref b ∧ H a = some (.tup xs) ∧ H b = some (.tup ys) ∧ xs.length + ys.length ≤ sizeLine ∧ ∀ H' p, Same H H' → H' p = some (.tup (xs ++ ys)) → Q (.ref p) H'
theorem op_catV : OpR X (binaryOp .Add) rCatV := by
  intro pins s σ H x y v u Q I rx ry h
  obtain ⟨a, b, xs, ys, rfl, rfl, ha, hb, hz, q⟩ := h
  exact op_catA pins s σ H _ _ v u Q I rx ry ⟨a, b, xs, ys, rfl, rfl, SqT.of ha, SqT.of hb, hz, fun e => q H b (Same.refl H) (by rw [e]; exact hb), fun _ e => q H a (Same.refl H) (by rw [e, List.append_nil]; exact ha), fun _ _ p np => q _ p (same_new np) upd_same⟩
end
theorem cut_vm (ms : List Nat) (lo hi : Option Int) : ∃ ks : List Nat, cutV (vm ms) lo hi = vm ks ∧ ks.Sublist ms := by
  refine ⟨(ms.drop (HT.sIx (vm ms).length 0 lo)).take (HT.sIx (vm ms).length (vm ms).length hi - HT.sIx (vm ms).length 0 lo), ?_, (List.take_sublist _ _).trans (List.drop_sublist _ _)⟩
  unfold cutV vm
  rw [← List.map_drop, ← List.map_take]
end XT
/-! more comprehensions as values -/
namespace XT
open PySem PySem.Spec PyProof.Rows L2
/-- [te for x in range(n)], of any kind -/
theorem ev_lcRG {i N : Nat} {Rs : List RV} {ta te : TE} {σ : L2.St} {H : Hp} (hl : Rs.length = N) (hN : N ≤ 1000) (hL : ∀ S ∈ Rs, StyL S) (hS : StyA Rs) (hw : ∀ z : V, wipe ((wipe σ [i]).set i (some z)) [i] = wipe σ [i])
    (a : Ev (isV (.int (N : Int))) ta σ H) (b : ∀ (j : Nat) (R : RV) (H1 : Hp), Rs[j]? = some R → Same H H1 → Ev R te ((wipe σ [i]).set i (some (.int (j : Int)))) H1) : Ev (isLst Rs) (tLc (iRng1 (tCons ta tNil)) (gName i) tYes te [i]) σ H := fun H1 s1 Q q =>
  a H1 s1 _ fun H2 x s2 ex => by
    refine ⟨(N : Int), by rw [ex], by omega, by omega, fun D nD => lcg_range (n := N) (G := fun j y H => ∀ S, Rs[j]? = some S → S H y) ⟨fun {j y H H'} h e S hs => hS S (List.mem_of_getElem? hs) _ _ _ e (h S hs), fun {j y H D xs ys} h e S hs => hL S (List.mem_of_getElem? hs) _ _ _ _ _ e (h S hs)⟩ nD hN (fun j Hc hj sc => ?_) (fun H3 hpv => ?_)⟩
    · intro R1 R2 h2
      have hj2 : j < Rs.length := by omega
      rw [Int.zero_add]
      refine ⟨hw _, ?_⟩
      exact iteT (B := R1 Hc) (b j _ Hc (List.getElem?_eq_getElem hj2) ((s1.trans s2).trans sc) Hc (Same.refl _) _ fun H4 o s4 go => h2 _ _ s4 fun S hs => by
        cases hs.symm.trans (List.getElem?_eq_getElem hj2)
        exact go)
    · obtain ⟨s3, ys, hD, hyl, hys⟩ := hpv
      exact q _ _ (s2.trans s3) ⟨D, ys, rfl, hD, allV_of (by rw [hyl, hl]) fun j R v hRj hv => hys j v hv R hRj⟩
/-- [te for x in xs if ..], none -/
theorem ev_lcLN {K : PySem.W.Frag} {i : Nat} {Rs : List RV} {t te : TE} {tt : TT} {σ : L2.St} {H : Hp} (hN : Rs.length ≤ 1000) (hR : StyA Rs) (a : Ev (isLst Rs) t σ H) (hw : ∀ z : V, wipe ((wipe σ [i]).set i (some z)) [i] = wipe σ [i])
    (b : ∀ (j : Nat) (R : RV) (z : V) (H1 : Hp), Rs[j]? = some R → R H1 z → Same H H1 → EvT false tt ((wipe σ [i]).set i (some z)) H1) : Ev (isLsN []) (tLc (iList K t) (gName i) tt te [i]) σ H := fun H1 s1 Q q =>
  a H1 s1 _ fun H2 x s2 ⟨L, vs, ex, hLv, gv⟩ => by
    have hvl : vs.length = Rs.length := allV_len gv
    refine ⟨L, ex, ⟨_, SqL.of hLv⟩, fun D nD => ?_⟩
    refine lc_list (xs := vs) (fun j H => PvP H2 D [] H) ⟨same_new nD, upd_same⟩ (fun j Hc _ h => SqL.of (h.1 _ _ hLv)) (fun j z Hc hz h => ?_) (fun H4 h => q _ _ (s2.trans h.1) ⟨D, rfl, h.2⟩)
    have hj : j < Rs.length := by rw [← hvl]; exact (List.getElem?_eq_some_iff.mp hz).1
    obtain ⟨z', hz', gz⟩ := allV_at gv (List.getElem?_eq_getElem hj)
    cases hz.symm.trans hz'
    refine ⟨hw _, ?_⟩
    refine b j _ z Hc (List.getElem?_eq_getElem hj) (hR _ (List.getElem_mem hj) _ _ _ h.1 gz) ((s1.trans s2).trans h.1) Hc (Same.refl _) _ fun H4 s4 => iteF ⟨h.1.trans s4, s4 _ _ h.2⟩
/-- xs[i] -/
theorem of_ixLs {K : PySem.W.Frag} {Rs : List RV} {j : Nat} {R : RV} (h : Rs[j]? = some R) : OpF (isLst Rs) (isV (.int (j : Int))) (rIxL K) R := fun H x y ⟨L, vs, ex, hL, al⟩ ey Q q => by
  subst ex ey
  obtain ⟨v, hv, gv⟩ := allV_at al h
  exact ⟨L, vs, j, v, rfl, rfl, SqL.of hL, atI_nat hv, q _ _ (Same.refl _) gv⟩
end XT
/-! comprehensions whose values are given one by one -/
namespace XT
open PySem PySem.Spec PyProof.Rows L2
section
variable {K : PySem.W.Frag} {a : Addr} {g : TG} {tt : TT} {te : TE} {vs : List Nat} {σ : L2.St} {H1 : Hp} {D : Addr} {Qd : Hp → Prop}
theorem lcq_list {xs : List V} (ys : List V) (hl : ys.length = xs.length) (nD : H1 D = none) (hA : SqL K H1 a xs) (hz : xs.length < sizeLine) (ht : ∀ (i : Nat) x y H, xs[i]? = some x → ys[i]? = some y → Same H1 H → TurnP g tt te vs σ x y true H)
    (hd : ∀ H, Same H1 H → H D = some (.lst ys) → Qd H) :
    ∃ W : Nat → Nat → Hp → Prop, (∃ m, W 0 m (upd H1 D (.lst []))) ∧ ∀ i m H, W i m H →
      ((Itl K a).stop i H ∧ Qd H) ∨ ((Itl K a).go i H ∧ ∃ Nx : Hp → Prop, (∀ H', Nx H' → ∃ m', m' < m ∧ W (i + 1) m' H') ∧ ∀ x H', (Itl K a).yld i H x H' → g x (wipe σ vs) H' fun σ2 H2 => wipe σ2 vs = wipe σ vs ∧ tt σ2 H2 fun b H3 =>
        if b = true then te σ2 H3 fun y H4 => ∃ acc, H4 D = some (.lst acc) ∧ acc.length < sizeLine ∧ Nx (upd H4 D (.lst (acc ++ [y]))) else Nx H3) := by
  refine lc_list (xs := xs) (fun i H => PvP H1 D (ys.take i) H) ⟨same_new nD, upd_same⟩ (fun i H _ h => h.1.seq hA) (fun i x H hx h => ?_) (fun H h => ?_)
  · have hi : i < xs.length := (List.getElem?_eq_some_iff.mp hx).1
    have hy : ys[i]? = some (ys[i]'(by omega)) := List.getElem?_eq_getElem _
    exact pvp_turn nD h (by rw [List.length_take]; omega) (ht i x _ H hx hy h.1) _ (by rw [List.take_add_one, hy]; rfl)
  · have h2 := h.2
    rw [← hl, List.take_length] at h2
    exact hd H h.1 h2
theorem lcq_tup {xs : List V} (ys : List V) (hl : ys.length = xs.length) (nD : H1 D = none) (hA : SqT K H1 a xs) (hz : xs.length < sizeLine) (ht : ∀ (i : Nat) x y H, xs[i]? = some x → ys[i]? = some y → Same H1 H → TurnP g tt te vs σ x y true H)
    (hd : ∀ H, Same H1 H → H D = some (.lst ys) → Qd H) :
    ∃ W : Nat → Nat → Hp → Prop, (∃ m, W 0 m (upd H1 D (.lst []))) ∧ ∀ i m H, W i m H →
      ((Itt K a).stop i H ∧ Qd H) ∨ ((Itt K a).go i H ∧ ∃ Nx : Hp → Prop, (∀ H', Nx H' → ∃ m', m' < m ∧ W (i + 1) m' H') ∧ ∀ x H', (Itt K a).yld i H x H' → g x (wipe σ vs) H' fun σ2 H2 => wipe σ2 vs = wipe σ vs ∧ tt σ2 H2 fun b H3 =>
        if b = true then te σ2 H3 fun y H4 => ∃ acc, H4 D = some (.lst acc) ∧ acc.length < sizeLine ∧ Nx (upd H4 D (.lst (acc ++ [y]))) else Nx H3) := by
  refine lc_tup (xs := xs) (fun i H => PvP H1 D (ys.take i) H) ⟨same_new nD, upd_same⟩ (fun i H _ h => Same.sqT h.1 hA) (fun i x H hx h => ?_) (fun H h => ?_)
  · have hi : i < xs.length := (List.getElem?_eq_some_iff.mp hx).1
    have hy : ys[i]? = some (ys[i]'(by omega)) := List.getElem?_eq_getElem _
    exact pvp_turn nD h (by rw [List.length_take]; omega) (ht i x _ H hx hy h.1) _ (by rw [List.take_add_one, hy]; rfl)
  · have h2 := h.2
    rw [← hl, List.take_length] at h2
    exact hd H h.1 h2
theorem cutV_takeN (xs : List V) (k : Nat) : cutV xs none (some (k : Int)) = xs.take k := by
  unfold cutV
  rw [HT.sIx_none, HT.sIx_nat, List.drop_zero, Nat.sub_zero]
  rcases Nat.le_total k xs.length with h | h
  · rw [Nat.min_eq_left h]
  · rw [Nat.min_eq_right h, List.take_of_length_le (Nat.le_refl _), List.take_of_length_le h]
theorem cutV_dropN (xs : List V) (k : Nat) : cutV xs (some (k : Int)) none = xs.drop k := by
  unfold cutV
  rw [HT.sIx_none, HT.sIx_nat]
  rcases Nat.le_total k xs.length with h | h
  · rw [Nat.min_eq_left h]
    exact List.take_of_length_le (by rw [List.length_drop]; exact Nat.le_refl _)
  · rw [Nat.min_eq_right h, List.drop_eq_nil_of_le (Nat.le_refl _), List.drop_eq_nil_of_le h, List.take_nil]
end
end XT
/-! a comprehension that filters a tuple; a list of any things beside [] -/
namespace XT
open PySem PySem.Spec PyProof.Rows L2
abbrev isTV (xs : List V) : RV := fun H z => ∃ T, z = .ref T ∧ H T = some (.tup xs)
abbrev isLV (xs : List V) : RV := fun H z => ∃ D, z = .ref D ∧ H D = some (.lst xs)
theorem sty_tv (xs : List V) : Sty (isTV xs) := fun _ _ _ e ⟨T, ez, h⟩ => ⟨T, ez, e _ _ h⟩
theorem sty_lV (xs : List V) : Sty (isLV xs) := fun _ _ _ e ⟨T, ez, h⟩ => ⟨T, ez, e _ _ h⟩
section
variable {K : PySem.W.Frag} {t : TE} {tt : TT} {σ : L2.St} {H : Hp} {xs : List V}
theorem ev_lcTF {i : Nat} (p : V → Bool) (hN : xs.length ≤ 1000) (a : Ev (isTV xs) t σ H) (hw : ∀ z : V, wipe ((wipe σ [i]).set i (some z)) [i] = wipe σ [i]) (he : ∀ z : V, ((wipe σ [i]).set i (some z))[i]? = some (some z))
    (b : ∀ z ∈ xs, ∀ H1, Same H H1 → EvT (p z) tt ((wipe σ [i]).set i (some z)) H1) : Ev (isLV (xs.filter p)) (tLc (iTup K t) (gName i) tt (tVar i) [i]) σ H := fun H1 s1 Q q =>
  a H1 s1 _ fun H2 x s2 ⟨T, ex, hT⟩ => by
    subst ex
    refine ⟨T, rfl, ⟨_, SqT.of hT⟩, fun D nD => lcp_tup (p := p) (f := id) nD (SqT.of hT) (small64 hN) (fun j z Hc hz sc => ?_) (fun H3 s3 hD => ?_)⟩
    · intro R1 R2 h1 h2
      refine ⟨hw _, b z (List.mem_of_getElem? hz) Hc ((s1.trans s2).trans sc) Hc (Same.refl _) _ fun H4 s4 => ?_⟩
      cases hq : p z with
      | true => exact iteT ⟨_, he _, h2 hq _ s4⟩
      | false => exact iteF (h1 hq _ s4)
    · exact q _ _ (s2.trans s3) ⟨D, rfl, by rw [hD, List.map_id]⟩
theorem ev_lcTM {i : Nat} {te : TE} (f : V → V) (hN : xs.length ≤ 1000) (a : Ev (isTV xs) t σ H) (hw : ∀ z : V, wipe ((wipe σ [i]).set i (some z)) [i] = wipe σ [i])
    (b : ∀ z ∈ xs, ∀ H1, Same H H1 → Ev (isV (f z)) te ((wipe σ [i]).set i (some z)) H1) : Ev (isLV (xs.map f)) (tLc (iTup K t) (gName i) tYes te [i]) σ H := fun H1 s1 Q q =>
  a H1 s1 _ fun H2 x s2 ⟨T, ex, hT⟩ => by
    subst ex
    refine ⟨T, rfl, ⟨_, SqT.of hT⟩, fun D nD => lcp_tup (p := fun _ => true) (f := f) nD (SqT.of hT) (small64 hN) (fun j z Hc hz sc => ?_) (fun H3 s3 hD => ?_)⟩
    · intro R1 R2 h1 h2
      refine ⟨hw _, iteT (B := R1 Hc) (b z (List.mem_of_getElem? hz) Hc ((s1.trans s2).trans sc) Hc (Same.refl _) _ fun H4 y s4 ey => ?_)⟩
      rw [ey]
      exact h2 rfl _ s4
    · exact q _ _ (s2.trans s3) ⟨D, rfl, by rw [hD, List.filter_eq_self.mpr (fun _ _ => rfl)]⟩
theorem ev_tupLV (a : Ev (isLV xs) t σ H) : Ev (isTV xs) (tCB (rTupO K) (tCons t tNil)) σ H := fun H1 s1 Q q =>
  a H1 s1 _ fun H2 x s2 ⟨D, ex, hD⟩ => ⟨D, xs, by rw [ex], .inl ⟨SqL.of hD, fun U nU => q _ _ (s2.trans (same_new nU)) ⟨U, rfl, upd_same⟩⟩⟩
theorem ev_nil : Ev (isLV []) (tLst tNil) σ H := fun H1 s1 Q q => ⟨sz (n := 0) (by decide), fun L nL => q _ _ (same_new nL) ⟨L, rfl, upd_same⟩⟩
theorem of_eqEL : OpF (isLV xs) (isLV []) (rEqEL K) (isB xs.isEmpty) := fun H x y ⟨D, ex, hD⟩ ⟨E, ey, hE⟩ Q q => ⟨D, E, xs, ex, ey, SqL.of hD, SqL.of hE, q _ _ (Same.refl _) rfl⟩
theorem of_neEL : OpF (isLV xs) (isLV []) (rNeEL K) (isB (!xs.isEmpty)) := fun H x y ⟨D, ex, hD⟩ ⟨E, ey, hE⟩ Q q => ⟨D, E, xs, ex, ey, SqL.of hD, SqL.of hE, q _ _ (Same.refl _) rfl⟩
/-- t[:k], t + u -/
theorem ev_cutK {k : Nat} (a : Ev (isTV xs) t σ H) : Ev (isTV (xs.take k)) (tSl rSlV t tNoPart (tPart (tC (.int (k : Int))))) σ H := fun H1 s1 Q q =>
  a H1 s1 _ fun H2 x s2 ⟨T, ex, hT⟩ => ⟨(k : Int), rfl, T, _, ex, hT, fun H3 p s3 hp => q _ _ (s2.trans s3) ⟨p, rfl, by rw [hp, cutV_takeN]⟩⟩
theorem of_catT {ys : List V} (hl : xs.length + ys.length ≤ 1000) : OpF (isTV xs) (isTV ys) rCatV (isTV (xs ++ ys)) := fun H x y ⟨T, ex, hT⟩ ⟨U, ey, hU⟩ Q q => ⟨T, U, _, _, ex, ey, hT, hU, sz hl, fun H' p s h => q _ _ s ⟨p, rfl, h⟩⟩
end
end XT
/-! list.count at flat values -/
namespace XT
open PySem PySem.Spec PyProof.Rows L2
section
variable {X : Cx}
theorem count_eqU {x : V} : ∀ {xs : List V} {us : List Value}, Vals xs us → xs.all flatV = true → us.countP (eqU x) = xs.countP fun y => eqV y x
  | [], _, h, _ => by
    cases h
    rfl
  | y :: xs, _, h, f => by
    cases h with
    | cons r t =>
      rw [List.all_cons, Bool.and_eq_true] at f
      rw [List.countP_cons, List.countP_cons, count_eqU t f.2, eqU_of r f.1]
def rCntF (K : PySem.W.Frag) : V → List V → Hp → VK → Prop := fun x xs H Q => ∃ (p : Addr) (ys : List V) (y : V), x = .ref p ∧ xs = [y] ∧ SqL K H p ys ∧ flatV y = true ∧ ys.all flatV = true ∧ Q (.int (ys.countP (fun z => eqV z y) : Nat)) H
theorem mt_lcountF : MtR X "list.count" (rCntF X.K) := by
  intro pins s σ H x xs v us Q I rx rxs h
  obtain ⟨p, ys, y, rfl, rfl, hs, fy, fys, q⟩ := h
  cases rx
  obtain ⟨u, rfl, ru⟩ := rxs.one
  obtain ⟨its, rv, ⟨⟨cls, dd, data, sl⟩, n, ho, hc, hdn, hd⟩, hlen⟩ := I.list hs
  simp only at hc hd
  subst hc hd
  refine call_meets PySem.F.slot_list_count ⟨_, ho, rfl⟩ PySem.F.entry_list_count (PySem.F.args_list_count_2 _ _)
    (SeqAt.list_countAt p its.toArray n dd sl u (eqU y)) ⟨ho, fun u' hu' => mem_eqAt ru fy rv fys u' (by simpa using hu'), ?_⟩
  have ec : its.toArray.toList.countP (eqU y) = ys.countP fun z => eqV z y := count_eqU rv fys
  refine ⟨.int (ys.countP (fun z => eqV z y) : Nat), H, I.tok _, ⟨s.toks, ?_⟩, q⟩
  show Value.int ((its.toArray.toList.countP (eqU y) : Nat) : Int) s.toks = Value.int ((ys.countP (fun z => eqV z y) : Nat) : Int) s.toks
  rw [ec]
end
end XT
/-! isinstance of a caught error by Ev; lists of given values -/
namespace XT
open PySem PySem.Spec PyProof.Rows L2
/-- a class that is the j-th of the sixteen, and no other -/
abbrev NmI (K : PySem.W.Frag) (mg : Str → Option Value) (D : Addr) (x : Str) (b : Bool) : Prop := ∃ c : Addr, mg x = some (.ref c) ∧ PySem.W.kitOne K (.ref D) (.ref c) = some b
theorem kit_self {K : PySem.W.Frag} {D : Addr} {b : Bool} (h : b = true := by rfl) : PySem.W.kitOne K (.ref D) (.ref D) = some b := by
  subst h
  unfold PySem.W.kitOne
  rw [if_pos (by simp)]
section
variable {K : PySem.W.Frag} {D a dd : Addr} {cls : Value} {d : Option Addr} {fs : List (Str × V)} {c : Addr} {b : Bool} {σ : L2.St} {H : Hp}
theorem ev_isi (h0 : σ[0]? = some (some (.ref a))) (ec : cls = .ref D) (ed : d = some dd) (hd : H dd = some (.xd fs)) (hk : PySem.W.kitOne K (.ref D) (.ref c) = some b) : Ev (isB b) (tCB (rIsD K D a cls d) (tCons (tVar 0) (tCons (tC (.ref c)) tNil))) σ H := fun H1 s1 Q q =>
  ⟨_, h0, .ref c, .ref c, b, dd, fs, rfl, .own _, ec, ed, s1 _ _ hd, hk, q _ _ (Same.refl _) rfl⟩
theorem ev_isy {T : String} (h0 : σ[0]? = some (some (.ref a))) (ec : cls = .ref D) (ed : d = some dd) (hd : H dd = some (.xd fs)) (hk : PySem.W.kitOne K (.ref D) (.type T) = some b) : Ev (isB b) (tCB (rIsD K D a cls d) (tCons (tVar 0) (tCons (tC (.ty T)) tNil))) σ H := fun H1 s1 Q q =>
  ⟨_, h0, .ty T, .type T, b, dd, fs, rfl, .ty _, ec, ed, s1 _ _ hd, hk, q _ _ (Same.refl _) rfl⟩
end
def tStrs : List Str → TA
  | [] => tNil
  | x :: xs => tCons (tC (.str x)) (tStrs xs)
abbrev isStrs (xs : List Str) : List RV := xs.map fun x => isV (.str x)
theorem styA_v : ∀ vs : List V, StyA (vs.map isV) := fun vs => styA_map (fun v => sty_v v) vs
theorem eva_strs {σ : L2.St} {H : Hp} : ∀ xs : List Str, EvA ((xs.map V.str).map isV) (tStrs xs) σ H
  | [] => eva_nil
  | x :: xs => eva_cons (sty_v _) (ev_c _) (eva_strs xs)
/-- a list of given values -/
abbrev isLv (vs : List V) : RV := fun H z => ∃ L, z = .ref L ∧ H L = some (.lst vs)
theorem allV_v : ∀ {vs us : List V} {H : Hp}, AllV (vs.map isV) H us → us = vs
  | [], [], _, _ => rfl
  | v :: vs, u :: us, _, h => by
    obtain ⟨e, h⟩ := h
    rw [allV_v h]
    exact congrArg (· :: vs) e
theorem ev_lv {vs : List V} {ta : TA} {σ : L2.St} {H : Hp} (hl : vs.length ≤ 1000) (a : EvA (vs.map isV) ta σ H) : Ev (isLv vs) (tLst ta) σ H := (ev_lst (styA_v vs) (by rw [List.length_map]; exact hl) a).mono fun H z ⟨L, us, e, hL, g⟩ => ⟨L, e, by rw [hL, allV_v g]⟩
theorem sty_lv (vs : List V) : Sty (isLv vs) := fun _ _ _ e ⟨L, ez, hL⟩ => ⟨L, ez, e _ _ hL⟩
theorem of_catv {vs us : List V} (hl : vs.length + us.length ≤ 1000) : OpF (isLv vs) (isLv us) rCat (isLv (vs ++ us)) := fun H x y ⟨L, ex, hL⟩ ⟨L', ey, hL'⟩ Q q =>
  ⟨L, L', vs, us, ex, ey, hL, hL', sz hl, fun p np => q _ _ (same_new np) ⟨p, rfl, upd_same⟩⟩
section
variable {K : PySem.W.Frag} {vs : List V} {t : TE} {σ : L2.St} {H : Hp}
theorem ev_cntT (f : vs.all flatV = true) (a : Ev (isLv vs) t σ H) : Ev (isV (.int ((vs.countP fun z => eqV z (.bl true)) : Nat))) (tBM K "list" (rCntF K) t (tCons (tC (.bl true)) tNil)) σ H := fun H1 s1 Q q =>
  a H1 s1 _ fun H2 x s2 ⟨L, ex, hL⟩ => by
    subst ex
    exact ⟨.inl ⟨rfl, _, SqL.of hL⟩, L, vs, .bl true, rfl, rfl, SqL.of hL, rfl, f, q _ _ s2 rfl⟩
theorem ev_idxT {j : Nat} {z : V} (f : vs.all flatV = true) (e : vs[j]? = some z) (ez : eqV z (.bl true) = true) (no : ∀ (m : Nat) (z' : V), m < j → vs[m]? = some z' → eqV z' (.bl true) = false) (a : Ev (isLv vs) t σ H) : Ev (isV (.int (j : Int))) (tBM K "list" (rIndex K) t (tCons (tC (.bl true)) tNil)) σ H := fun H1 s1 Q q =>
  a H1 s1 _ fun H2 x s2 ⟨L, ex, hL⟩ => by
    subst ex
    exact ⟨.inl ⟨rfl, _, SqL.of hL⟩, L, vs, .bl true, j, z, rfl, rfl, SqL.of hL, rfl, f, e, ez, no, q _ _ s2 rfl⟩
theorem of_neB3 {x y z : Bool} : OpF (isLv [.bl x, .bl y, .bl z]) (isLv [.bl x, .bl y, .bl z]) (rNeD K) (isB false) := fun H u v ⟨L, eu, hL⟩ ⟨L', ev, hL'⟩ Q q => by
  subst eu ev
  have all : DpAll K H [.bl x, .bl y, .bl z] [.bool x, .bool y, .bool z] := .cons (.bl x) (.cons (.bl y) (.cons (.bl z) .nil))
  refine ⟨.list [.bool x, .bool y, .bool z], .list [.bool x, .bool y, .bool z], .lst (SqL.of hL) all, .lst (SqL.of hL') all, by cases x <;> cases y <;> cases z <;> decide +kernel, by cases x <;> cases y <;> cases z <;> decide +kernel, q _ _ (Same.refl _) ?_⟩
  cases x <;> cases y <;> cases z <;> rfl
theorem ev_bool3 {x y z : Bool} : Ev (isLv [.bl x, .bl y, .bl z]) (tLst (tCons (tC (.bl x)) (tCons (tC (.bl y)) (tCons (tC (.bl z)) tNil)))) σ H := ev_lv (vs := [_, _, _]) (Nat.le_of_ble_eq_true rfl) (eva_cons (sty_v _) (ev_c _) (eva_cons (sty_v _) (ev_c _) (eva_cons (sty_v _) (ev_c _) eva_nil)))
theorem of_ixLv {vs : List V} {j : Nat} {v : V} (e : vs[j]? = some v) : OpF (isLv vs) (isV (.int (j : Int))) (rIxL K) (isV v) := fun H x y ⟨L, ex, hL⟩ ey Q q =>
  ⟨L, vs, j, v, ex, ey, SqL.of hL, atI_nat e, q _ _ (Same.refl _) rfl⟩
theorem of_ixB {vs us : List V} {c : Bool} : OpF (isLst [isLv vs, isLv us]) (isV (.int (if c = true then 1 else 0))) (rIxL K) (isLv (if c = true then us else vs)) := fun H x y ⟨L, ws, ex, hL, g⟩ ey Q q => by
  match ws, g with
  | [u1, u2], g =>
    cases c with
    | true => exact ⟨L, _, 1, u2, ex, ey, SqL.of hL, rfl, q _ _ (Same.refl _) g.2.1⟩
    | false => exact ⟨L, _, 0, u1, ex, ey, SqL.of hL, rfl, q _ _ (Same.refl _) g.1⟩
theorem ev_intB {c : Bool} (a : Ev (isB c) t σ H) : Ev (isV (.int (if c = true then 1 else 0))) (tCB (fun xs H Q => ∃ b, xs = [.bl b] ∧ Q (.int (if b = true then 1 else 0)) H) (tCons t tNil)) σ H := fun H1 s1 Q q =>
  a H1 s1 _ fun H2 x s2 ex => ⟨c, by rw [ex], q _ _ s2 rfl⟩
end
theorem kit_or {K : PySem.W.Frag} {t c : Value} {cs : List Value} {b b' : Bool} (h : PySem.W.kitOne K t c = some b) (r : PySem.W.kitAny K t cs = some b') : PySem.W.kitAny K t (c :: cs) = some (b || b') := by
  cases b with
  | true => exact L2.kitAny_cons h (fun z => nomatch z) (fun _ => rfl)
  | false => exact L2.kitAny_cons h (fun _ => r) (fun z => nomatch z)
theorem own_all : ∀ cs : List Addr, Paired ClsV (cs.map V.ref) (cs.map Value.ref)
  | [] => .nil
  | c :: cs => .cons (.own _) (own_all cs)
abbrev tRefs : List Addr → TA
  | [] => tNil
  | c :: cs => tCons (tC (.ref c)) (tRefs cs)
theorem eva_refs {σ : L2.St} {H : Hp} : ∀ cs : List Addr, EvA ((cs.map V.ref).map isV) (tRefs cs) σ H
  | [] => eva_nil
  | c :: cs => eva_cons (sty_v _) (ev_c _) (eva_refs cs)
/-- isinstance(e, (c1, c2, ..)) -/
theorem ev_isT {K : PySem.W.Frag} {D a dd : Addr} {cls : Value} {d : Option Addr} {fs : List (Str × V)} {cs : List Addr} {b : Bool} {σ : L2.St} {H : Hp} {ta : TA} (h0 : σ[0]? = some (some (.ref a))) (ec : cls = .ref D) (ed : d = some dd) (hd : H dd = some (.xd fs))
    (hl : cs.length ≤ 1000) (ht : EvA ((cs.map V.ref).map isV) ta σ H) (hk : PySem.W.kitAny K (.ref D) (cs.map Value.ref) = some b) : Ev (isB b) (tCB (rIsDT K D a cls d) (tCons (tVar 0) (tCons (tTup ta) tNil))) σ H := fun H1 s1 Q q =>
  ⟨_, h0, ht H1 s1 _ fun H2 vs s2 g => by
    have e := allV_v g
    subst e
    exact ⟨sz (by rw [List.length_map]; exact hl), fun T nT => ⟨T, cs.map V.ref, cs.map Value.ref, b, dd, fs, rfl, upd_same, own_all cs, ec, ed, ((s1.trans s2).trans (same_new nT)) _ _ hd, hk, q _ _ (s2.trans (same_new nT)) rfl⟩⟩⟩
end XT
/-! draws; comprehensions that draw -/
namespace XT
open PySem PySem.Spec PyProof.Rows L2
/-- a list of one's own: n values, of each of which G is true -/
def isLG (S : Sm) (X : Ow) (G : V → Prop) (n : Nat) : RV := fun H z => ∃ L vs, z = .ref L ∧ H L = some (.lst vs) ∧ vs.length = n ∧ (∀ v ∈ vs, G v) ∧ ¬ XS S X L
theorem sk_lg {S : Sm} {X : Ow} (G : V → Prop) (n : Nat) : StyK S X (isLG S X G n) := fun _ _ _ _ _ w k ⟨L, vs, ez, hL, hl, hG, nX⟩ => ⟨L, vs, ez, k L _ nX hL, hl, hG, nX⟩
section
variable {S : Sm} {X : Ow} {W W1 W2 W3 : HpP} {B B1 B2 B3 : Int} {H H' : Hp} {R Ra Rb Rc : RV} {t ta tb te : TE} {σ : L2.St}
theorem ed_draw {m : Nat} (sw : StyW X W2) (m0 : 0 < m) (m1 : m ≤ 1000) (hB : B2 < 100000000) (a : EvD S X W B W1 B1 (isV (.ref S.s)) ta σ H) (b : EvD S X W1 B1 W2 B2 (isV (.int (m : Int))) tb σ H) : EvD S X W B W2 (B2 + 1) (fun _ z => ∃ r : Nat, z = .int (r : Int) ∧ r < m) (tDf spDrawN (tCons ta (tCons tb tNil))) σ H := fun H1 s1 w1 Q q =>
  a H1 s1 w1 _ fun H2 x s2 w2 ex => b H2 (s1.trans s2) w2 _ fun H3 y s3 w3 ey => by
    obtain ⟨t, st, ht⟩ := w3.t
    refine ⟨S, t, m, by rw [ex, ey], st, m0, m1, by omega, fun H4 r t4 s4 hr => ?_⟩
    obtain ⟨w4, k4⟩ := w3.step sw st ht s4
    exact q _ _ ((s2.trans s3).trans k4) w4 ⟨r, rfl, hr⟩
/-- a comprehension over range(n), every turn of which may draw d times -/
theorem ed_lcR {i n d : Nat} {G : V → Prop} (sw : StyW X W1) (hn : n ≤ 1000) (hw : ∀ z : V, wipe ((wipe σ [i]).set i (some z)) [i] = wipe σ [i]) (a : EvD S X W B W1 B1 (isV (.int (n : Int))) ta σ H)
    (b : ∀ (j : Nat) (H1 : Hp) (B' : Int), j < n → B1 ≤ B' → B' ≤ B1 + d * j → KeepX (XS S X) H H1 → EvD S X W1 B' W1 (B' + d) (fun _ z => G z) te ((wipe σ [i]).set i (some (.int (j : Int)))) H1) :
    EvD S X W B W1 (B1 + d * n) (isLG S X G n) (tLc (iRng1 (tCons ta tNil)) (gName i) tYes te [i]) σ H := fun H1 s1 w1 Q q =>
  a H1 s1 w1 _ fun H2 x s2 w2 ex => by
    subst ex
    refine ⟨(n : Int), rfl, by omega, by omega, fun D nD => ?_⟩
    have nX := w2.new nD
    refine lc_range (lo := 0) (n := n) (fun j H' => ∃ acc : List V, KeepX (XS S X) H2 H' ∧ Wld S X W1 (B1 + d * j) H' ∧ H' D = some (.lst acc) ∧ acc.length = j ∧ ∀ v ∈ acc, G v) ⟨[], KeepX.of (same_new nD), (w2.same sw (same_new nD)).mono (by omega), upd_same, rfl, by simp⟩ (fun j H' hj h => ?_) (fun H' h => ?_)
    · obtain ⟨acc, k, w, hD, hl, hG⟩ := h
      refine ⟨hw _, ?_⟩
      dsimp only [tYes]
      rw [if_pos rfl, Int.zero_add]
      refine b j H' _ hj (by have := Int.mul_nonneg (Int.natCast_nonneg d) (Int.natCast_nonneg j); omega) (Int.le_refl _) ((s1.trans s2).trans k) H' (KeepX.refl _ _) w _ fun H3 y k3 w3 gy => ?_
      have hD3 := k3 D _ nX hD
      have k3' : KeepX (XS S X) H2 (upd H3 D (.lst (acc ++ [y]))) := fun c o n e => by
        rw [upd_ne (ne_of_none e nD)]
        exact k3 c o n (k c o n e)
      have e : B1 + (d : Int) * (j : Int) + d = B1 + d * ((j + 1 : Nat) : Int) := by
        rw [Int.natCast_add, Int.mul_add]
        omega
      rw [e] at w3
      refine ⟨acc, hD3, small64 (by omega), acc ++ [y], k3', w3.sim sw (Sim.put hD3 nX), upd_same, by rw [List.length_append, hl]; rfl, fun v hv => ?_⟩
      rcases List.mem_append.mp hv with hv | hv
      · exact hG v hv
      · rw [List.mem_singleton.mp hv]; exact gy
    · obtain ⟨acc, k, w, hD, hl, hG⟩ := h
      exact q _ _ (s2.trans k) w ⟨D, acc, rfl, hD, hl, hG, nX⟩
end
end XT
/-! text * int -/
namespace XT
open PySem PySem.Spec PyProof.Rows L2
theorem op_mul_str {X : Cx} : OpR X (binaryOp .Mult) (fun x y H Q => ∃ a n, x = .str a ∧ y = .int n ∧ MulOk a n ∧ Q (.str (Txt.mul a n)) H) := by
  intro pins s σ H x y v u Q I rx ry h
  obtain ⟨a, n, rfl, rfl, hok, q⟩ := h
  obtain ⟨t, rfl⟩ := rx
  obtain ⟨t', rfl⟩ := ry
  exact SB.mul hok fun t' k => ⟨.str (Txt.mul a n), H, I.tok _, ⟨_, rfl⟩, q⟩
end XT
/-! patterns that are drawn -/
namespace XT
open PySem PySem.Spec PyProof.Rows L2
theorem occ_in (s sub : Str) (hi limit : Nat) : ∀ (l : List Nat) (st : Array Nat × Nat), (∀ i ∈ st.fst.toList, i + sub.length ≤ hi) → ∀ i ∈ (forIn l st (StrLaws.occBody s sub hi limit)).run.fst.toList, i + sub.length ≤ hi
  | [], st, h => h
  | a :: l, st, h => by
    rw [List.forIn_cons]
    unfold StrLaws.occBody
    split
    · rename_i hc
      refine occ_in s sub hi limit l _ fun i hi' => ?_
      simp only [Array.toList_push, List.mem_append, List.mem_singleton] at hi'
      rcases hi' with h1 | rfl
      · exact h i h1
      · exact hc.1.2
    · exact occ_in s sub hi limit l _ h
theorem occ_first {x y : Str} {i : Nat} {rest : List Nat} (h : Builtin.Str.occurrences x y 0 x.length 1 = i :: rest) : i + y.length ≤ x.length := by
  rw [StrLaws.occ_eq] at h
  exact occ_in x y x.length 1 _ (#[], 0) (by simp) i (by rw [h]; exact List.mem_cons_self)
abbrev isPat (n : Nat) : RV := fun _ z => ∃ x, z = .str x ∧ OkW n x
/-- a tuple of lo to hi patterns of n signs -/
abbrev isTP (n lo hi : Nat) : RV := fun H z => ∃ (T : Addr) (ws : List Str), z = .ref T ∧ H T = some (.tup (ws.map V.str)) ∧ lo ≤ ws.length ∧ ws.length ≤ hi ∧ ∀ x ∈ ws, OkW n x
theorem sk_tp {S : Sm} {X : Ow} (n lo hi : Nat) : StyK S X (isTP n lo hi) := fun _ _ _ _ _ w k ⟨T, ws, ez, h, a, b, c⟩ => ⟨T, ws, ez, w.tup k h, a, b, c⟩
theorem sty_tp (n lo hi : Nat) : Sty (isTP n lo hi) := fun _ _ _ e ⟨T, ws, ez, h, a, b, c⟩ => ⟨T, ws, ez, e _ _ h, a, b, c⟩
theorem sk_pat {S : Sm} {X : Ow} (n : Nat) : StyK S X (isPat n) := fun _ _ _ _ _ _ _ h => h
theorem WideT.tp {H : Hp} {T : Addr} {ws : List Str} {n : Nat} (h : WideT H T ws n) {hi : Nat} (l : ws.length ≤ hi) : isTP n 1 hi H (.ref T) := ⟨T, ws, rfl, h.h, h.l1, l, h.ok⟩
section
variable {K : PySem.W.Frag} {S : Sm} {X : Ow} {W W1 W2 W3 : HpP} {B B1 B2 B3 : Int} {H H' : Hp} {R Ra Rb Rc : RV} {t ta tb te : TE} {σ : L2.St}
abbrev rAddStr : R2 := fun x y H Q => ∃ i j : Str, x = .str i ∧ y = .str j ∧ i.length + j.length ≤ sizeLine ∧ Q (.str (i ++ j)) H
/-- x[:k] + e + x[k + 1:] -/
theorem ed_put {i j k n : Nat} {y : Str} (ok : OkW n y) (hn : n ≤ 40) (hk : k < n) (hi : σ[i]? = some (some (.str y))) (hj : σ[j]? = some (some (.int (k : Int)))) (e : EvD S X W B W1 B1 (isPat 1) te σ H) :
    EvD S X W B W1 B1 (isPat n) (tOp rAddStr (tOp rAddStr (tSl rSlS (tVar i) tNoPart (tPart (tVar j))) te) (tSl rSlS (tVar i) (tPart (tOp (rI0 fun i j => .int (i + j)) (tVar j) (tC (.int 1)))) tNoPart)) σ H := fun H1 s1 w1 Q q => by
  have hy : y.length ≤ sizeLine := szl (m := 1000) (by have := ok.1; omega) (by decide)
  refine ⟨.str y, hi, .int (k : Int), hj, (k : Int), rfl, y, rfl, hy, e H1 s1 w1 _ fun H2 z s2 w2 ⟨x, ex, okx⟩ => ⟨_, x, rfl, ex, ?_, .str y, hi, .int (k : Int), hj, (k : Int), 1, rfl, rfl, (k : Int) + 1, rfl, y, rfl, hy, _, _, rfl, rfl, ?_, q H2 _ s2 w2 ⟨_, rfl, okW_put ok hk okx⟩⟩⟩
  · have e1 : (cutS y none (some (k : Int))).length = k := by
      show (cutS y none (some (k : Int))).cps.size = k
      have hl : y.cps.toList.length = n := by rw [Array.length_toList]; exact ok.1
      rw [← Array.length_toList, cut_take, List.length_take]
      omega
    have := okx.1
    exact szl (m := 1000) (by omega) (by decide)
  · have := (okW_put ok hk okx).1
    have e3 : (cutS y none (some (k : Int)) ++ x ++ cutS y (some ((k : Int) + 1)) none).length = (cutS y none (some (k : Int)) ++ x).length + (cutS y (some ((k : Int) + 1)) none).length := by
      show ((cutS y none (some (k : Int)) ++ x).cps ++ (cutS y (some ((k : Int) + 1)) none).cps).size = _
      rw [Array.size_append]
      rfl
    exact szl (m := 1000) (by omega) (by decide)
theorem put_len {n k : Nat} {y e : Str} (ok : OkW n y) (hk : k < n) (l : e.length = 1) : (cutS y none (some (k : Int)) ++ e ++ cutS y (some ((k : Int) + 1)) none).length = n ∧ (cutS y none (some (k : Int))).length + e.length ≤ n ∧ (cutS y none (some (k : Int)) ++ e).length + (cutS y (some ((k : Int) + 1)) none).length = n := by
  have hl : y.cps.toList.length = n := by rw [Array.length_toList]; exact ok.1
  have e1 : (cutS y none (some (k : Int))).length = k := by
    show (cutS y none (some (k : Int))).cps.size = k
    rw [← Array.length_toList, cut_take, List.length_take]
    omega
  have e2 : (cutS y (some ((k : Int) + 1)) none).length = n - (k + 1) := by
    show (cutS y (some ((k : Int) + 1)) none).cps.size = _
    rw [← Array.length_toList, show (k : Int) + 1 = ((k + 1 : Nat) : Int) by omega, cut_drop, List.length_drop]
    omega
  have e3 : (cutS y none (some (k : Int)) ++ e ++ cutS y (some ((k : Int) + 1)) none).length = (cutS y none (some (k : Int)) ++ e).length + (cutS y (some ((k : Int) + 1)) none).length := by
    show ((cutS y none (some (k : Int)) ++ e).cps ++ (cutS y (some ((k : Int) + 1)) none).cps).size = _
    rw [Array.size_append]
    rfl
  have e4 : (cutS y none (some (k : Int)) ++ e).length = (cutS y none (some (k : Int))).length + e.length := by
    show ((cutS y none (some (k : Int))).cps ++ e.cps).size = _
    rw [Array.size_append]
    rfl
  omega
theorem ev_putV {i j k n : Nat} {y e : Str} (ok : OkW n y) (hn : n ≤ 40) (hk : k < n) (l : e.length = 1) (hi : σ[i]? = some (some (.str y))) (hj : σ[j]? = some (some (.int (k : Int)))) (a : Ev (isV (.str e)) te σ H) :
    Ev (isV (.str (cutS y none (some (k : Int)) ++ e ++ cutS y (some ((k : Int) + 1)) none))) (tOp rAddStr (tOp rAddStr (tSl rSlS (tVar i) tNoPart (tPart (tVar j))) te) (tSl rSlS (tVar i) (tPart (tOp (rI0 fun i j => .int (i + j)) (tVar j) (tC (.int 1)))) tNoPart)) σ H := fun H1 s1 Q q => by
  have hy : y.length ≤ sizeLine := szl (m := 1000) (by have := ok.1; omega) (by decide)
  obtain ⟨l1, l2, l3⟩ := put_len ok hk l
  exact ⟨.str y, hi, .int (k : Int), hj, (k : Int), rfl, y, rfl, hy, a H1 s1 _ fun H2 z s2 ez => ⟨_, e, rfl, ez, szl (m := 1000) (by omega) (by decide), .str y, hi, .int (k : Int), hj, (k : Int), 1, rfl, rfl, (k : Int) + 1, rfl, y, rfl, hy, _, _, rfl, rfl, szl (m := 1000) (by omega) (by decide), q H2 _ s2 rfl⟩⟩
/-- t[i], a pattern of a tuple -/
theorem of_ixP {n lo hi k : Nat} (hk : k < lo) : OpF (isTP n lo hi) (isV (.int (k : Int))) (rIxT K) (isPat n) := fun H x y ⟨T, ws, ex, hT, l, _, ok⟩ ey Q q => by
  have hw : k < ws.length := by omega
  exact ⟨T, _, (k : Int), .str (ws[k]'hw), ex, ey, SqT.of hT, atI_nat (by rw [List.getElem?_map, List.getElem?_eq_getElem hw]; rfl), q _ _ (Same.refl _) ⟨_, rfl, ok _ (List.getElem_mem _)⟩⟩
theorem of_ixPv {n k : Nat} {ws : List Str} {T : Addr} {x : Str} (hx : ws[k]? = some x) : OpF (fun H z => z = .ref T ∧ H T = some (.tup (ws.map V.str))) (isV (.int (k : Int))) (rIxT K) (isV (.str x)) := fun H z y ⟨ez, hT⟩ ey Q q =>
  ⟨T, _, (k : Int), .str x, ez, ey, SqT.of hT, atI_nat (by rw [List.getElem?_map, hx]; rfl), q _ _ (Same.refl _) rfl⟩
theorem ev_lenP {n : Nat} (hn : n ≤ 40) (a : Ev (isPat n) t σ H) {r : List V → Hp → VK → Prop} (hr : ∀ (x : Str) H Q, x.length ≤ sizeLine → Q (.int (x.length : Nat)) H → r [.str x] H Q) : Ev (isV (.int (n : Int))) (tCB r (tCons t tNil)) σ H := fun H1 s1 Q q =>
  a H1 s1 _ fun H2 z s2 ⟨x, ez, ok⟩ => by
    subst ez
    refine hr x H2 _ (szl (m := 1000) (by have := ok.1; omega) (by decide)) (q _ _ s2 ?_)
    show V.int (x.length : Nat) = _
    rw [ok.1]
theorem ed_tupP {n : Nat} (sw : StyW X W1) (a : EvD S X W B W1 B1 (isPat n) t σ H) : EvD S X W B W1 B1 (isTP n 1 1) (tTup (tCons t tNil)) σ H := fun H1 s1 w1 Q q =>
  a H1 s1 w1 _ fun H2 z s2 w2 ⟨y, ez, ok⟩ => ⟨sz (n := 1) (by decide), fun U nU => q _ _ (s2.trans (KeepX.of (same_new nU))) (w2.same sw (same_new nU)) ⟨U, [y], rfl, by rw [upd_same, ez]; rfl, Nat.le_refl _, Nat.le_refl _, fun z hz => by rw [List.mem_singleton.mp hz]; exact ok⟩⟩
/-- a, b = e, f, where one is a cell -/
theorem asg2_ed {i j : Nat} {u : TS} {D : Ends} (ha : StyK S X Ra) (hb : ∀ H z p o, H p = none → Rb H z → Rb (upd H p o) z) (ha2 : ∀ H z p o, H p = none → Ra H z → Ra (upd H p o) z) (sw : StyW X W2) (a : EvD S X W B W1 B1 Ra ta σ H) (b : EvD S X W1 B1 W2 B2 Rb tb σ H) (w : Wld S X W B H)
    (q : ∀ H2 x y, KeepX (XS S X) H H2 → Wld S X W2 B2 H2 → Ra H2 x → Rb H2 y → u D ((σ.set i (some x)).set j (some y)) H2) : tSeq (tAsg (tTup (tCons ta (tCons tb tNil))) (gTup K 2 (gCons (gName i) (gCons (gName j) gNil)))) u D σ H :=
  a H (KeepX.refl _ _) w _ fun H2 x s2 w2 gx => b H2 s2 w2 _ fun H3 y s3 w3 gy => ⟨sz (n := 2) (by decide), fun T nT => ⟨T, _, rfl, SqT.of upd_same, rfl, _, _, rfl, _, _, rfl, rfl,
    q _ x y ((s2.trans s3).trans (KeepX.of (same_new nT))) (w3.same sw (same_new nT)) (ha2 _ _ _ _ nT (ha _ _ _ _ _ w2 s3 gx)) (hb _ _ _ _ nT gy)⟩⟩
end
end XT
/-! statements that draw; lists of one's own -/
namespace XT
open PySem PySem.Spec PyProof.Rows L2
section
variable {K : PySem.W.Frag} {S : Sm} {X : Ow} {W W1 W2 W3 : HpP} {B B1 B2 B3 : Int} {H H' : Hp} {R Ra Rb Rc : RV} {t ta tb tc te : TE} {σ : L2.St}
theorem KeepX.put {X : Ow} {L : Addr} {o : HO} (k : KeepX X H H') (n : H L = none) : KeepX X H (upd H' L o) := fun b o' c e => by
  rw [upd_ne (ne_of_none e n)]
  exact k b o' c e
theorem Wld.put {L : Addr} {xs : List V} {o : HO} (sw : StyW X W) (w : Wld S X W B H) (hL : H L = some (.lst xs)) (n : ¬ XS S X L) : Wld S X W B (upd H L o) := w.sim sw (Sim.put hL n)
/-- a new list of one's own -/
abbrev isNL (S : Sm) (X : Ow) (H0 : Hp) (xs : List V) : RV := fun H z => ∃ L, z = .ref L ∧ H L = some (.lst xs) ∧ H0 L = none ∧ ¬ XS S X L
theorem sk_nl (H0 : Hp) (xs : List V) : StyK S X (isNL S X H0 xs) := fun _ _ _ _ _ _ k ⟨L, ez, h, a, b⟩ => ⟨L, ez, k L _ b h, a, b⟩
theorem Wld.free (w : Wld S X W B H') (k : KeepX (XS S X) H H') {L : Addr} (e : H' L = none) : H L = none := by
  cases h : H L with
  | none => rfl
  | some o =>
    have := k L o (w.new e) h
    rw [e] at this
    cases this
theorem ed_nil (sw : StyW X W) : EvD S X W B W B (isNL S X H []) (tLst tNil) σ H := fun H1 k1 w1 Q q => ⟨sz (n := 0) (by decide), fun L nL => q _ _ (KeepX.of (same_new nL)) (w1.same sw (same_new nL)) ⟨L, rfl, upd_same, w1.free k1 nL, w1.new nL⟩⟩
theorem par3_ed {i j l : Nat} {u : TS} {D : Ends} (ha : StyK S X Ra) (hb : StyK S X Rb) (a : EvD S X W B W1 B1 Ra ta σ H) (b : EvD S X W1 B1 W2 B2 Rb tb σ H) (c : EvD S X W2 B2 W3 B3 Rc tc σ H) (w : Wld S X W B H)
    (q : ∀ H2 x y z, KeepX (XS S X) H H2 → Wld S X W3 B3 H2 → Ra H2 x → Rb H2 y → Rc H2 z → u D (((σ.set i (some x)).set j (some y)).set l (some z)) H2) : tSeq (tPar3 i j l (tCons ta (tCons tb (tCons tc tNil)))) u D σ H :=
  a H (KeepX.refl _ _) w _ fun H2 x s2 w2 gx => b H2 s2 w2 _ fun H3 y s3 w3 gy => c H3 (s2.trans s3) w3 _ fun H4 z s4 w4 gz => ⟨x, y, z, rfl, q H4 x y z ((s2.trans s3).trans s4) w4 (ha _ _ _ _ _ w3 s4 (ha _ _ _ _ _ w2 s3 gx)) (hb _ _ _ _ _ w3 s4 gy) gz⟩
theorem app_ed {i : Nat} {L : Addr} {xs : List V} {D : Ends} (hi : σ[i]? = some (some (.ref L))) (nX : ¬ XS S X L) (hL : H L = some (.lst xs)) (hz : xs.length < 1000) (a : EvD S X W B W1 B1 R te σ H) (w : Wld S X W B H)
    (q : ∀ H2 z, KeepX (XS S X) H H2 → Wld S X W1 B1 H2 → R H2 z → H2 L = some (.lst xs) → D.nx σ (upd H2 L (.lst (xs ++ [z])))) : tDrop (tBM K "list" rAppend (tVar i) (tCons te tNil)) D σ H :=
  ⟨.ref L, hi, .inl ⟨rfl, _, SqL.of hL⟩, a H (KeepX.refl _ _) w _ fun H2 z k2 w2 g => ⟨L, xs, z, rfl, rfl, k2 L _ nX hL, small64 (by omega), q H2 z k2 w2 g (k2 L _ nX hL)⟩⟩
theorem apps_ed {i : Nat} {L : Addr} {xs : List V} {D : Ends} {rest : TS} (hi : σ[i]? = some (some (.ref L))) (nX : ¬ XS S X L) (hL : H L = some (.lst xs)) (hz : xs.length < 1000) (a : EvD S X W B W1 B1 R te σ H) (w : Wld S X W B H)
    (q : ∀ H2 z, KeepX (XS S X) H H2 → Wld S X W1 B1 H2 → R H2 z → H2 L = some (.lst xs) → rest D σ (upd H2 L (.lst (xs ++ [z])))) : tSeq (tDrop (tBM K "list" rAppend (tVar i) (tCons te tNil))) rest D σ H := app_ed (D := { D with nx := rest D }) hi nX hL hz a w q
/-- for x in e -/
theorem for_edL {D : Ends} {g : TG} {tb : TS} (a : EvD S X W B W1 B1 R te σ H) (w : Wld S X W B H) (q : ∀ H2 z, KeepX (XS S X) H H2 → Wld S X W1 B1 H2 → R H2 z → tFor (iList K (tC z)) g tb D σ H2) : tFor (iList K te) g tb D σ H := a H (KeepX.refl _ _) w _ fun H2 z k2 w2 g2 => q H2 z k2 w2 g2
theorem fors_edL {D : Ends} {g : TG} {tb rest : TS} (a : EvD S X W B W1 B1 R te σ H) (w : Wld S X W B H) (q : ∀ H2 z, KeepX (XS S X) H H2 → Wld S X W1 B1 H2 → R H2 z → tFor (iList K (tC z)) g tb { D with nx := rest D } σ H2) : tSeq (tFor (iList K te) g tb) rest D σ H := a H (KeepX.refl _ _) w _ fun H2 z k2 w2 g2 => q H2 z k2 w2 g2
/-- a, b = e, f, one of them a cell; nothing is drawn -/
theorem asg2_ev {i j : Nat} {u : TS} {D : Ends} (ha : Sty Ra) (hb : Sty Rb) (a : Ev Ra ta σ H) (b : Ev Rb tb σ H)
    (q : ∀ H2 x y, Same H H2 → Ra H2 x → Rb H2 y → u D ((σ.set i (some x)).set j (some y)) H2) : tSeq (tAsg (tTup (tCons ta (tCons tb tNil))) (gTup K 2 (gCons (gName i) (gCons (gName j) gNil)))) u D σ H :=
  a H (Same.refl _) _ fun H2 x s2 gx => b H2 s2 _ fun H3 y s3 gy => ⟨sz (n := 2) (by decide), fun T nT => ⟨T, _, rfl, SqT.of upd_same, rfl, _, _, rfl, _, _, rfl, rfl,
    q _ x y ((s2.trans s3).trans (same_new nT)) (ha _ _ _ (same_new nT) (ha _ _ _ s3 gx)) (hb _ _ _ (same_new nT) gy)⟩⟩
/-- [i for i in range(n) if t] -/
theorem ev_lcRF {i n : Nat} {tt : TT} (p : Nat → Bool) (hn : n ≤ 1000) (hw : ∀ z : V, wipe ((wipe σ [i]).set i (some z)) [i] = wipe σ [i]) (he : ∀ z : V, ((wipe σ [i]).set i (some z))[i]? = some (some z)) (a : Ev (isV (.int (n : Int))) ta σ H)
    (b : ∀ (j : Nat) (H1 : Hp), j < n → Same H H1 → EvT (p j) tt ((wipe σ [i]).set i (some (.int (j : Int)))) H1) : Ev (isLV (((List.range n).filter p).map fun (m : Nat) => V.int (m : Int))) (tLc (iRng1 (tCons ta tNil)) (gName i) tt (tVar i) [i]) σ H := fun H1 s1 Q q =>
  a H1 s1 _ fun H2 x s2 ex => by
    subst ex
    refine ⟨(n : Int), rfl, by omega, by omega, fun D nD => ?_⟩
    refine lcp_range (n := n) (p := p) (f := fun (m : Nat) => .int (m : Int)) nD (small64 hn) (fun j H3 hj s3 => ?_) (fun H3 s3 hD => q _ _ (s2.trans s3) ⟨D, rfl, hD⟩)
    intro R1 R2 r1 r2
    rw [Int.zero_add]
    refine ⟨hw _, b j H3 hj ((s1.trans s2).trans s3) H3 (Same.refl _) _ fun H4 s4 => ?_⟩
    cases hp : p j with
    | true => exact iteT ⟨_, he _, r2 hp _ s4⟩
    | false => exact iteF (r1 hp _ s4)
theorem ifs_no0 {b : Bool} {t : TT} {rest : TS} {D : Ends} (h : EvT b t σ H) (e : b = false) (q : ∀ H2, Same H H2 → rest D σ H2) : tSeq (tIfS t tNever tNext) rest D σ H := if_no h e q
/-- (a,), (a, b) of given values -/
theorem ev_tv1 {x : V} (a : Ev (isV x) ta σ H) : Ev (isTV [x]) (tTup (tCons ta tNil)) σ H := fun H1 s1 Q q => a H1 s1 _ fun H2 u s2 eu => ⟨sz (n := 1) (by decide), fun T nT => q _ _ (s2.trans (same_new nT)) ⟨T, rfl, by rw [upd_same, eu]⟩⟩
theorem ev_tv2 {x y : V} (a : Ev (isV x) ta σ H) (b : Ev (isV y) tb σ H) : Ev (isTV [x, y]) (tTup (tCons ta (tCons tb tNil))) σ H := fun H1 s1 Q q => a H1 s1 _ fun H2 u s2 eu => b H2 (s1.trans s2) _ fun H3 v s3 ev => ⟨sz (n := 2) (by decide), fun T nT => q _ _ ((s2.trans s3).trans (same_new nT)) ⟨T, rfl, by rw [upd_same, eu, ev]⟩⟩
theorem ifs_ev {b : Bool} {t : TT} {u rest : TS} {D : Ends} (h : EvT b t σ H) (q1 : b = true → ∀ H2, Same H H2 → u { D with nx := rest D } σ H2) (q2 : b = false → ∀ H2, Same H H2 → rest D σ H2) : tSeq (tIfS t u tNext) rest D σ H := h H (Same.refl _) _ fun H2 s2 => by
  cases b with
  | true => exact iteT (q1 rfl H2 s2)
  | false => exact iteF (q2 rfl H2 s2)
theorem if_ev {b : Bool} {t : TT} {u : TS} {D : Ends} (h : EvT b t σ H) (q1 : b = true → ∀ H2, Same H H2 → u D σ H2) (q2 : b = false → ∀ H2, Same H H2 → D.nx σ H2) : tIfS t u tNext D σ H := h H (Same.refl _) _ fun H2 s2 => by
  cases b with
  | true => exact iteT (q1 rfl H2 s2)
  | false => exact iteF (q2 rfl H2 s2)
/-- a list display -/
abbrev isLO (S : Sm) (X : Ow) (Rs : List RV) : RV := fun H z => ∃ L vs, z = .ref L ∧ H L = some (.lst vs) ∧ AllV Rs H vs ∧ ¬ XS S X L
theorem ed_lst {Rs : List RV} {ta : TA} (sw : StyW X W1) (hs : StyA Rs) (hl : Rs.length ≤ 1000) (a : EvDA S X W B W1 B1 Rs ta σ H) : EvD S X W B W1 B1 (isLO S X Rs) (tLst ta) σ H := fun H1 k1 w1 Q q =>
  a H1 k1 w1 _ fun H2 vs k2 w2 gv => ⟨by rw [allV_len gv]; exact sz hl, fun L nL => q _ _ (k2.trans (KeepX.of (same_new nL))) (w2.same sw (same_new nL)) ⟨L, vs, rfl, upd_same, allV_same hs (same_new nL) gv, w2.new nL⟩⟩
theorem allV_kx : ∀ {Rs : List RV} {H H' : Hp} {vs : List V}, (∀ R ∈ Rs, StyK S X R) → Wld S X W B H → KeepX (XS S X) H H' → AllV Rs H vs → AllV Rs H' vs
  | [], _, _, [], _, _, _, h => h
  | R :: Rs, _, _, v :: vs, hs, w, e, h => ⟨hs R List.mem_cons_self _ _ _ _ _ w e h.1, allV_kx (fun R' h' => hs R' (List.mem_cons_of_mem _ h')) w e h.2⟩
/-- ''.join of signs that are drawn -/
theorem ed_joinP {n : Nat} {r : V → List V → Hp → VK → Prop} (hn : n ≤ 1000) (a : EvD S X W B W1 B1 (isLG S X (fun z => ∃ c : Nat, z = .str ⟨#[c]⟩ ∧ sgn3 c = true) n) te σ H)
    (hr : ∀ (cs : List Nat) p H Q, H p = some (.lst ((cs.map fun c => (⟨#[c]⟩ : Str)).map V.str)) → cs.length ≤ 1000 → Q (.str (Str.join Str.empty (cs.map fun c => (⟨#[c]⟩ : Str)))) H → r (.str "") [.ref p] H Q) : EvD S X W B W1 B1 (isPat n) (tM1 r (tC (.str "")) te) σ H := fun H1 s1 w1 Q q => by
  refine ⟨⟨_, rfl⟩, a H1 s1 w1 _ fun H2 z s2 w2 ⟨L, vs, ez, hL, hl, hG, nX⟩ => ?_⟩
  obtain ⟨cs, e, hc⟩ : ∃ cs : List Nat, vs = (cs.map fun c => (⟨#[c]⟩ : Str)).map V.str ∧ ∀ c ∈ cs, sgn3 c = true := by
    clear hL hl
    induction vs with
    | nil => exact ⟨[], rfl, by simp⟩
    | cons v vs ih =>
      obtain ⟨cs, e, hc⟩ := ih fun v hv => hG v (List.mem_cons_of_mem _ hv)
      obtain ⟨c, ec, h1⟩ := hG v List.mem_cons_self
      refine ⟨c :: cs, by rw [e, ec]; rfl, fun x hx => ?_⟩
      rcases List.mem_cons.mp hx with rfl | hx
      · exact h1
      · exact hc x hx
  subst e ez
  rw [List.length_map, List.length_map] at hl
  have ok := okW_join cs hc
  rw [hl] at ok
  exact hr cs L H2 _ hL (by omega) (q _ _ s2 w2 ⟨_, rfl, ok⟩)
/-- a + b, texts -/
theorem of_addS {a b : Str} (h : a.length + b.length ≤ 1000) : OpF (isV (.str a)) (isV (.str b)) rAddStr (isV (.str (a ++ b))) := fun H x y ex ey Q q => ⟨a, b, ex, ey, szl (m := 1000) h (by decide), q _ _ (Same.refl _) rfl⟩
theorem of_addP {n m : Nat} (h : n + m ≤ 1000) : OpF (isPat n) (isPat m) rAddStr (isPat (n + m)) := fun H x y ⟨a, ex, ha⟩ ⟨b, ey, hb⟩ Q q => by
  refine ⟨a, b, ex, ey, szl (m := 1000) (by have := ha.1; have := hb.1; omega) (by decide), q _ _ (Same.refl _) ⟨_, rfl, ?_, fun c hc => ?_⟩⟩
  · show (a.cps ++ b.cps).size = _
    rw [Array.size_append]
    have h1 : a.cps.size = n := ha.1
    have h2 : b.cps.size = m := hb.1
    rw [h1, h2]
  · rw [str_app_list] at hc
    rcases List.mem_append.mp hc with hc | hc
    · exact ha.2 c hc
    · exact hb.2 c hc
end
end XT
/-! masks that differ in one bit -/
namespace XT
open PySem PySem.Spec PyProof.Rows L2
def pw2 : List Nat := [1, 2, 4, 8, 16, 32]
def nearQ (x y : Nat) : Bool := decide (x < y) && decide (x ^^^ y ∈ pw2)
def nearR (ms : List Nat) : List Nat → Option (Nat × Nat)
  | [] => none
  | x :: xs => match ms.find? (nearQ x) with
    | some y => some (x, y)
    | none => nearR ms xs
/-- the first pair of masks of a lot that differ in one bit -/
def nearP (n : Nat) (p : Nat → Bool) : Option (Nat × Nat) := nearR (lotOf n p) (lotOf n p)
def nearD : Option (Nat × Nat) → PyData
  | none => .none
  | some (x, y) => .tuple [.int (x : Int), .int (y : Int)]
theorem nearR_hit {ms xs : List Nat} {x y : Nat} (h : ms.find? (nearQ x) = some y) : nearR ms (x :: xs) = some (x, y) := by
  unfold nearR
  rw [h]
theorem nearR_miss {ms xs : List Nat} {x : Nat} (h : ms.find? (nearQ x) = none) : nearR ms (x :: xs) = nearR ms xs := by
  show (match ms.find? (nearQ x) with
    | some y => some (x, y)
    | none => nearR ms xs) = _
  rw [h]
theorem nearR_mem {ms : List Nat} : ∀ {xs : List Nat} {x y : Nat}, nearR ms xs = some (x, y) → x ∈ xs ∧ y ∈ ms ∧ nearQ x y = true
  | [], _, _, h => by cases h
  | z :: xs, x, y, h => by
    cases hf : ms.find? (nearQ z) with
    | some u =>
      rw [nearR_hit hf] at h
      cases h
      exact ⟨List.mem_cons_self, List.mem_of_find?_eq_some hf, List.find?_some hf⟩
    | none =>
      rw [nearR_miss hf] at h
      obtain ⟨a, b⟩ := nearR_mem h
      exact ⟨List.mem_cons_of_mem _ a, b⟩
theorem if_ev2 {σ : L2.St} {H : Hp} {b : Bool} {t : TT} {u v : TS} {D : Ends} (h : EvT b t σ H) (q1 : b = true → ∀ H2, Same H H2 → u D σ H2) (q2 : b = false → ∀ H2, Same H H2 → v D σ H2) : tIfS t u v D σ H := h H (Same.refl _) _ fun H2 s2 => by
  cases b with
  | true => exact iteT (q1 rfl H2 s2)
  | false => exact iteF (q2 rfl H2 s2)
theorem asg1_ev {R : RV} {t : TE} {g : TG} {D : Ends} {σ : L2.St} {H : Hp} (h : Ev R t σ H) (q : ∀ H2 z, Same H H2 → R H2 z → g z σ H2 D.nx) : tAsg t g D σ H := h H (Same.refl _) _ fun H2 z s2 gz => q H2 z s2 gz
theorem ev_ifE {R : RV} {b : Bool} {c : TT} {ta tb : TE} {σ : L2.St} {H : Hp} (h : EvT b c σ H) (k1 : b = true → Ev R ta σ H) (k2 : b = false → Ev R tb σ H) : Ev R (tIf c ta tb) σ H := fun H1 s1 Q q => h H1 s1 _ fun H2 s2 => by
  cases b with
  | true => exact iteT (k1 rfl H2 (s1.trans s2) _ fun H3 z s3 g => q _ _ (s2.trans s3) g)
  | false => exact iteF (k2 rfl H2 (s1.trans s2) _ fun H3 z s3 g => q _ _ (s2.trans s3) g)
theorem ev_notN {R : RV} {t : TE} {σ : L2.St} {H : Hp} {b : Bool} (a : Ev R t σ H) (f : ∀ H z, R H z → (!decide (z = V.non)) = b) : Ev (isB b) (tOp (fun x y H Q => y = V.non ∧ Q (.bl (!decide (x = .non))) H) t (tC .non)) σ H := fun H1 s1 Q q =>
  a H1 s1 _ fun H2 x s2 gx => ⟨rfl, q _ _ s2 (congrArg V.bl (f _ _ gx))⟩
theorem ev_isN {R : RV} {t : TE} {σ : L2.St} {H : Hp} {b : Bool} (a : Ev R t σ H) (f : ∀ H z, R H z → decide (z = V.non) = b) : Ev (isB b) (tOp (fun x y H Q => y = V.non ∧ Q (.bl (decide (x = .non))) H) t (tC .non)) σ H := fun H1 s1 Q q =>
  a H1 s1 _ fun H2 x s2 gx => ⟨rfl, q _ _ s2 (congrArg V.bl (f _ _ gx))⟩
theorem drop_hd {α : Type} {ms : List α} {i : Nat} {x : α} (h : ms[i]? = some x) : ms.drop i = x :: ms.drop (i + 1) := by
  obtain ⟨hi, e⟩ := List.getElem?_eq_some_iff.mp h
  rw [List.drop_eq_getElem_cons hi, e]
theorem of_inLv {K : PySem.W.Frag} {m : Nat} {ms : List Nat} : OpF (isV (.int (m : Int))) (isLv (vm ms)) (rIn K false) (isB (decide (m ∈ ms))) := fun H x y ex ⟨L, ey, hL⟩ Q q => by
  subst ex ey
  exact ⟨L, _, rfl, .inl (SqL.of hL), rfl, vm_flat _, q _ _ (Same.refl _) (congrArg V.bl (in_vm _ _))⟩
theorem of_ltN {a b : Nat} : OpF (isV (.int (a : Int))) (isV (.int (b : Int))) (rI0 fun i j => .bl (decide (i < j))) (isB (decide (a < b))) := fun H x y ex ey Q q => ⟨a, b, ex, ey, q _ _ (Same.refl _) (congrArg V.bl (decide_eq_decide.mpr ⟨fun h => by omega, fun h => by omega⟩))⟩
theorem ev_pw2 {σ : L2.St} {H : Hp} : Ev (isLv (vm pw2)) (tLst (tCons (tC (.int 1)) (tCons (tC (.int 2)) (tCons (tC (.int 4)) (tCons (tC (.int 8)) (tCons (tC (.int 16)) (tCons (tC (.int 32)) tNil))))))) σ H :=
  ev_lv (vs := vm pw2) (Nat.le_of_ble_eq_true rfl) (eva_cons (sty_v _) (ev_c _) (eva_cons (sty_v _) (ev_c _) (eva_cons (sty_v _) (ev_c _) (eva_cons (sty_v _) (ev_c _) (eva_cons (sty_v _) (ev_c _) (eva_cons (sty_v _) (ev_c _) eva_nil))))))
theorem ev_shl0 {n : Nat} {t : TE} {σ : L2.St} {H : Hp} (hn : n ≤ 60) (a : Ev (isV (.int (n : Int))) t σ H) : Ev (isV (.int ((2 ^ n : Nat) : Int))) (tOp (rI CPow fun i j => .int (i * 2 ^ j.toNat)) (tC (.int 1)) t) σ H :=
  ev_op (sty_v _) (ev_c _) a fun H x y ex ey Q q => ⟨1, (n : Int), ex, ey, ⟨by omega, by omega, by decide⟩, q _ _ (Same.refl _) (congrArg V.int (shl1 n))⟩
theorem of_nin2 {K : PySem.W.Frag} {m : Nat} {ms : List Nat} : OpF (isV (.int (m : Int))) (isTup ms) (rIn K true) (isB (!decide (m ∈ ms))) := fun H x y ex ⟨y', ey, hy⟩ Q q => by
  subst ex
  refine ⟨y', _, ey, .inr (SqT.of hy), rfl, vm_flat _, q _ _ (Same.refl _) ?_⟩
  show V.bl (!inV _ _) = _
  rw [in_vm]
def MrOk (b : Bd) : Prop := ∀ m, b.mr = some m → m < 2 ^ b.n
def kpv (n : Nat) (p : Nat → Bool) : Option Nat → V
  | none => .non
  | some m => .bl (decide (∀ x, x < 2 ^ n → p (x ^^^ m) = p x))
def mkD : Option Nat → PyData
  | none => .none
  | some m => .int (m : Int)
def kpD (n : Nat) (p : Nat → Bool) : Option Nat → PyData
  | none => .none
  | some m => .bool (decide (∀ x, x < 2 ^ n → p (x ^^^ m) = p x))
theorem dz_mk {K : PySem.W.Frag} {H : Hp} : ∀ o, Dz K H (mkV o) (mkD o)
  | none => .non
  | some m => .int (m : Int)
theorem dz_kp {K : PySem.W.Frag} {H : Hp} {n : Nat} {p : Nat → Bool} : ∀ o, Dz K H (kpv n p o) (kpD n p o)
  | none => .non
  | some m => .bl _
def isNn : PyData → Bool
  | .none => true
  | _ => false
theorem Dz.isNn {K : PySem.W.Frag} {H : Hp} {v : V} {d : PyData} (h : Dz K H v d) : decide (v = .non) = XT.isNn d := by
  cases h <;> rfl
/-- all but objects stays -/
def KeepI (H H' : Hp) : Prop := ∀ b o, H b = some o → (∀ C dx fs, o ≠ .ins C dx fs) → H' b = some o
theorem KeepI.of {a : Addr} {H H' : Hp} (k : KeepX (fun c => c = a) H H') {C dx : Addr} {fs : List (Str × V)} (h : H a = some (.ins C dx fs)) : KeepI H H' := fun b o e n => k b o (fun z => by
  subst z
  rw [h] at e
  exact n _ _ _ (Option.some.inj e).symm) e
theorem KeepI.sqL {K : PySem.W.Frag} {H H' : Hp} {a : Addr} {xs : List V} (k : KeepI H H') (h : SqL K H a xs) : SqL K H' a xs := by
  rcases h with (h | ⟨o, h⟩) | h
  · exact .inl (.inl (k _ _ h fun _ _ _ z => by cases z))
  · exact .inl (.inr ⟨o, k _ _ h fun _ _ _ z => by cases z⟩)
  · exact .inr h
theorem KeepI.sqT {K : PySem.W.Frag} {H H' : Hp} {a : Addr} {xs : List V} (k : KeepI H H') (h : SqT K H a xs) : SqT K H' a xs := by
  rcases h with (h | ⟨o, h⟩) | h
  · exact .inl (.inl (k _ _ h fun _ _ _ z => by cases z))
  · exact .inl (.inr ⟨o, k _ _ h fun _ _ _ z => by cases z⟩)
  · exact .inr h
mutual
theorem Dz.ki {K : PySem.W.Frag} {H H' : Hp} (e : KeepI H H') : ∀ {v : V} {d : PyData}, Dz K H v d → Dz K H' v d
  | _, _, .non => .non
  | _, _, .bl b => .bl b
  | _, _, .int i => .int i
  | _, _, .str x => .str x
  | _, _, .lst h n a => .lst (e.sqL h) n (DzAll.ki e a)
  | _, _, .tup h a => .tup (e.sqT h) (DzAll.ki e a)
  | _, _, .dct kvs h => .dct kvs (e _ _ h fun _ _ _ z => by cases z)
theorem DzAll.ki {K : PySem.W.Frag} {H H' : Hp} (e : KeepI H H') : ∀ {vs : List V} {ds : List PyData}, DzAll K H vs ds → DzAll K H' vs ds
  | _, _, .nil => .nil
  | _, _, .cons h a => .cons (Dz.ki e h) (DzAll.ki e a)
end
/-- the outcome of an edit of a board whose masks lie apart -/
def ocA (n : Nat) (p : Nat → Bool) (e : Ed) : Oc :=
  match ocE n p e with
  | .ok p' => if (nearP n p').isSome = true then .er 11 (nearD (nearP n p')) else .ok p'
  | .er j d => .er j d
/-- by whether masks must lie apart -/
def ocB (ap : Bool) : Oce := if ap = true then ocA else ocE
end XT
/-! an own error with two fields; the pair that is too near, bit by bit -/
namespace XT
open PySem PySem.Spec PyProof.Rows L2
theorem refs_of : ∀ l : List Value, PySem.W.excTail [.type "ValueError", .type "Exception", .type "BaseException", .type "object"] l = true → PySem.HandSPX.refsVE l = true := fun l => by
  induction l with
  | nil => intro h; rcases PySem.W.excTail_cases _ h with ⟨c, r, e, _⟩ | e <;> cases e
  | cons v r ih =>
    intro h
    rcases PySem.W.excTail_cases _ h with ⟨c, r', e, h'⟩ | e
    · cases e
      exact ih h'
    · rw [e]
      decide +kernel
def spInit2 (C : Addr) : Sp := fun vs H Q _ => ∃ (a : Addr) (y z : V), vs = [.ref a, y, z] ∧ H a = some (exo a C none) ∧ ∀ dx, H dx = none → dx ≠ a → Q .non (upd (upd (upd H dx (exd dx [("one", y)])) a (exo a C (some dx))) dx (exd dx [("other", z), ("one", y)]))
structure ErrG2 (P : Program) (w : World) (K : PySem.W.Frag) (mg : Str → Option Value) (base : Heap) (x : Str) (C : Addr) : Prop where
  T : OexG K C
  T2 : OexC K C
  no : PySem.W.findIn K (.ref C) "one" = some none
  no2 : PySem.W.findIn K (.ref C) "other" = some none
  ini : ∃ (fI : Addr) (fd : FuncData) (ps : List Str), PySem.W.findIn K (.ref C) "__init__" = some (some (.ref fI)) ∧ PySem.W.typeIn K (.ref fI) = some (.type "function") ∧ FnOk P w K mg base CX0 1 fI fd ps (spInit2 C) ∧ Binds K fd ps []
  hm : mg x = some (.ref C)
section
variable {X : Cx} {C : Addr} {x : Str} {e e2 : Expr} {ta : TA} {p pos : Pos}
theorem pmk_errG2 (R : ErrG2 X.prog X.w X.K X.mg X.base x C) (hr : Room 2 X.A) (hg : Gl X x) (ha : PA X [e, e2] ta)
    (hdb : (x == ("__debug__" : Str)) = false := by decide) (he : starEach [e, e2] X.env = (false, eval e X.env) :: starEach [e2] X.env := by rfl) (hpl : (backTo pos (starEach [e2] X.env)).any (·.1) = false := by rfl) :
    PMk X (.Call (.Name x p) [e, e2] [] pos) (tMkO C (spInit2 C) [] ta) := by
  obtain ⟨fI, fd, ps, hi, ht, F, hb⟩ := R.ini
  exact pmk_oexG (CX := CX0) (k := 1) (dvs := []) (ds := []) R.T hi ht F hr hb .nil pass0 hg R.hm ha hdb he hpl
theorem mkoG2_in {H1 : Hp} {Q : XK} {y z : V} (h : ∀ H' d, Same H1 H' → H' d = some (.xd [("other", z), ("one", y)]) → Q (.ref C) (some d) H') :
    [y, z].length ≤ 1000 ∧ ∀ a, H1 a = none → spInit2 C (.ref a :: ([y, z] ++ [])) (upd H1 a (exo a C none))
      (fun v H2 => v = .non ∧ ∃ (d : Addr) (fs : List (Str × V)), H2 a = some (exo a C (some d)) ∧ H2 d = some (exd d fs) ∧ H1 d = none ∧ Q (.ref C) (some d) (upd (del H2 a) d (.xd fs))) (fun _ _ _ => False) := by
  refine ⟨by simp, fun a n => ⟨a, y, z, rfl, upd_same, fun dx nd ne => ⟨rfl, dx, [("other", z), ("one", y)], ?_, upd_same, ?_, ?_⟩⟩⟩
  · rw [upd_ne (Ne.symm ne)]
    exact upd_same
  · rw [upd_ne ne] at nd
    exact nd
  · rw [upd_ne ne] at nd
    refine h _ dx (fun b o e => ?_) upd_same
    have h1 : b ≠ dx := ne_of_none e nd
    have h2 : b ≠ a := ne_of_none e n
    rw [upd_ne h1, del_ne h2, upd_ne h1, upd_ne h2, upd_ne h1, upd_ne h2]
    exact e
end
/-- the masks that differ from x in one bit and are greater, rising -/
def cands (n x : Nat) : List Nat := ((List.range n).map fun b => x ^^^ 2 ^ b).filter fun y => decide (x < y)
theorem cands_all : ((List.range 7).all fun n => (List.range (2 ^ n)).all fun x => decide ((List.range (2 ^ n)).filter (nearQ x) = cands n x)) = true := by decide +kernel
theorem cands_eq {n x : Nat} (hn : n ≤ 6) (hx : x < 2 ^ n) : (List.range (2 ^ n)).filter (nearQ x) = cands n x := of_decide_eq_true (List.all_eq_true.mp (List.all_eq_true.mp cands_all n (List.mem_range.mpr (by omega))) x (List.mem_range.mpr hx))
theorem find_filter {α : Type} (p q : α → Bool) : ∀ l : List α, (l.filter p).find? q = (l.filter q).find? p
  | [] => rfl
  | a :: l => by
    cases hp : p a <;> cases hq : q a <;> simp [List.filter_cons, hp, hq, find_filter p q l]
theorem find_cands {n x : Nat} {p : Nat → Bool} (hn : n ≤ 6) (hx : x < 2 ^ n) : (lotOf n p).find? (nearQ x) = (cands n x).find? p := by
  unfold lotOf
  rw [find_filter, cands_eq hn hx]
end XT
/-! errors: their __init__ -/
namespace XT
open PySem PySem.Spec PyProof.Rows L2
def sIOtherWidth : Stmt := match topS 4 with | .ClassDef _ _ _ b .. => b.getD 0 (topS 4) | _ => topS 4
def sINoMask : Stmt := match topS 8 with | .ClassDef _ _ _ b .. => b.getD 0 (topS 8) | _ => topS 8
section
variable {P : Program} {w : World} {K : PySem.W.Frag} {mg : Str → Option Value} {base : Heap}
theorem scINoMask : FnScope ["self", "value"] ["self", "value"] (defScope sINoMask) := ⟨rfl, rfl, rfl, by decide +kernel, rfl, by decide +kernel, by decide +kernel⟩
theorem ok_iNoMask {q : Str} {f C : Addr} {fd : FuncData} {k : Nat} (T : OexG K C) (no : PySem.W.findIn K (.ref C) "value" = some none) (F : Fun K "__init__" q sINoMask f fd) : FnOk P w K mg base CX0 (k + 1) f fd ["self", "value"] (spInitG C "value") := by
  refine F.ok scINoMask (fun vs H Q E h => ?_) (fun cdv A outer s H vs Q E hr h => ?_)
  · obtain ⟨a, y, rfl, _⟩ := h
    rfl
  · obtain ⟨a, y, rfl, ha, q⟩ := h
    refine ⟨_, pss_one (ps_ostG (pv 0) (pv 1)), ?_⟩
    exact ⟨y, rfl, .ref a, rfl, a, C, rfl, T, no, ha, q⟩
theorem scIOtherWidth : FnScope ["self", "index"] ["self", "index"] (defScope sIOtherWidth) := ⟨rfl, rfl, rfl, by decide +kernel, rfl, by decide +kernel, by decide +kernel⟩
theorem ok_iOtherWidth {q : Str} {f C : Addr} {fd : FuncData} {k : Nat} (T : OexG K C) (no : PySem.W.findIn K (.ref C) "index" = some none) (F : Fun K "__init__" q sIOtherWidth f fd) : FnOk P w K mg base CX0 (k + 1) f fd ["self", "index"] (spInitG C "index") := by
  refine F.ok scIOtherWidth (fun vs H Q E h => ?_) (fun cdv A outer s H vs Q E hr h => ?_)
  · obtain ⟨a, y, rfl, _⟩ := h
    rfl
  · obtain ⟨a, y, rfl, ha, q⟩ := h
    refine ⟨_, pss_one (ps_ostG (pv 0) (pv 1)), ?_⟩
    exact ⟨y, rfl, .ref a, rfl, a, C, rfl, T, no, ha, q⟩
end
end XT
/-! greatest_addend, at lots of one width -/
namespace XT
open PySem PySem.Spec PyProof.Rows L2
section
variable {P : Program} {w : World} {K : PySem.W.Frag} {mg : Str → Option Value} {base : Heap}
abbrev nGa : List Str := ["one", "other", "width", "mask", "x"]
theorem scGa : FnScope nGa ["one", "other"] (defScope sGreatestAddend) := ⟨rfl, rfl, rfl, by decide +kernel, rfl, by decide +kernel, by decide +kernel⟩
def outGa : Scope := match (defBody sGreatestAddend).getD 1 (.Pass ⟨0, 0, 0, 0⟩) with
  | .Return (some (.Tuple [_, .Call _ [.ListComp _ _ sc _] _ _] _ _)) _ => sc
  | _ => defScope sGreatestAddend
def spGa : Sp := fun vs H Q _ => ∃ (v u : V) (n : Nat) (p r : Nat → Bool), vs = [v, u] ∧ LotAt H v n p ∧ LotAt H u n r ∧ n ≤ 6 ∧ ∀ H' z, Same H H' → LotAt H' z n (gaB n p r) → Q z H'
abbrev teGa (K : PySem.W.Frag) : TE := tOp (rIn K false) (tOp rXor (tVar 4) (tVar 3)) (tOp (rIxT K) (tVar 1) (tC (.int 1)))
theorem ok_ga {f : Addr} {fd : FuncData} {k : Nat} (B : Bl mg) (F : Fun K "greatest_addend" "greatest_addend" sGreatestAddend f fd) (dW : DefR P w K mg base 1 "common_width" (spWidth K)) : FnOk P w K mg base CX0 (k + 2) f fd ["one", "other"] spGa := by
  refine F.ok scGa (fun vs H Q E h => ?_) (fun cdv A outer s H vs Q E hr h => ?_)
  · obtain ⟨v, u, n, p, r, rfl, _⟩ := h
    rfl
  · obtain ⟨v, u, n, p, r, rfl, hv, hu, hn, q⟩ := h
    refine ⟨_, pss_cons (ps_set (i := 2) scGa.nd rfl (by first | exact Or.inl rfl | exact Or.inr rfl) (pe_def dW (hr.mono (by omega)) (by rfl) (pa_cons (pe_tup (pa_cons (pv 0) (pa_cons (pv 1) pa_nil))) pa_nil)))
      (pss_one (ps_ret (pe_tup (pa_cons (pv 2) (pa_cons (pe_callTy call_tuple_of (by rfl) B.tuple bT (pa_cons
        (pe_lc (own := [("mask", 3)]) (g := gName 3) (te := tVar 3)
          (tt := tTest (tCB (rAll K) (tCons (tLc (iTup K (tOp (rIxT K) (tVar 0) (tC (.int 1)))) (gName 4) tYes (teGa K) [4]) tNil)))
          rfl scGa.nd (pi_range1 (by rfl) B.range (pa_cons (pe_op op_shl pe_int (pv 2)) pa_nil))
          (blkOk_by (own := [("mask", 3)]) (N := nGa) (sc := defScope sGreatestAddend) (by decide +kernel))
          (fun _ _ _ _ _ => pg_name (i := 3) scGa.nd rfl (Or.inr rfl))
          (fun _ _ _ _ _ => pts_one (pt_val (pe_callB (L2.cr_all rfl) (by rfl) B.all bAll (pa_cons
            (pe_lc (own := [("x", 4)]) (g := gName 4) (tt := tYes) (te := teGa K) rfl scGa.nd (pi_tup (pe_ix ix_tup (pv 0) pe_int (fun _ _ => rfl)))
              (blkOk_by (own := [("x", 4)]) (N := nGa) (sc := relS outGa (defScope sGreatestAddend)) (by decide +kernel))
              (fun _ _ _ _ _ => pg_name (i := 4) scGa.nd rfl (Or.inl rfl)) (fun _ _ _ _ _ => pts_nil) (fun _ _ _ _ _ => pe_cmpR op_in_seq (pe_op op_xor (pv 4) (pv 3)) (pe_ix ix_tup (pv 1) pe_int (fun _ _ => rfl)) (by rfl))) pa_nil))))
          (fun _ _ _ _ _ => pv 3)) pa_nil)) pa_nil))))), ?_⟩
    refine ⟨v, rfl, u, rfl, sz (n := 2) (by decide), fun T nT => ?_⟩
    have sT := same_new (o := .tup [v, u]) nT
    refine ⟨T, [(v, p), (u, r)], n, rfl, SqT.of upd_same, lots2 (hv.same sT) (hu.same sT) hn, fun H2 s2 => ?_⟩
    have hv2 := (hv.same sT).same s2
    have hu2 := (hu.same sT).same s2
    obtain ⟨x, y, rfl, hx, hy⟩ := hv2
    obtain ⟨x', y', rfl, hx', hy'⟩ := hu2
    have h6 := pow6 hn
    have hl := lot_len hn p
    refine ⟨.int n, rfl, .int n, rfl, 1, n, rfl, rfl, cpow hn, ((2 ^ n : Nat) : Int), congrArg (fun z => [V.int z]) (shl1 n), l62, r62 hn, fun D nD => ?_⟩
    refine lcp_range (n := 2 ^ n) (p := gaB n p r) (f := fun m => .int (m : Int)) nD (small64 (by omega)) (fun i H3 hi s3 => ?_) (fun H3 s3 hD => ?_)
    · intro R1 R2 h1 h2
      have hy3 := s3 _ _ hy
      refine ⟨rfl, .ref x, rfl, x, _, 1, .ref y, rfl, rfl, SqT.of (s3 _ _ hx), rfl, y, rfl, ⟨_, SqT.of hy3⟩, fun B2 nB => ?_⟩
      refine lc_tup (K := K) (xs := vm (lotOf n p)) (fun j H => PvP H3 B2 (((lotOf n p).take j).map fun m => V.bl (r (m ^^^ i))) H) ⟨same_new nB, upd_same⟩ (fun j H _ h => Same.sqT h.1 (SqT.of hy3)) (fun j v H4 hv h => ?_) (fun H4 h => ?_)
      · obtain ⟨m, hm, rfl⟩ := mem_vm hv
        have hm2 := (mem_lot.mp (List.mem_of_getElem? hm)).1
        refine pvp_turn (y := .bl (r (m ^^^ i))) (keep := true) nB h ?_ ?_ _ ?_
        · rw [List.length_map, List.length_take]
          exact small64 (Nat.le_trans (Nat.min_le_right _ _) (by omega))
        · intro R3 R4 h3 h4
          refine ⟨rfl, iteT (B := R3 H4) ⟨_, rfl, _, rfl, (m : Int), 0 + (i : Int), rfl, rfl, .ref x', rfl, x', _, 1, .ref y', rfl, rfl, SqT.of (h.1 _ _ (s3 _ _ hx')), rfl, y', _, rfl, .inr (SqT.of (h.1 _ _ (s3 _ _ hy'))), rfl, vm_flat _, ?_⟩⟩
          show R4 (.bl (inV (.int (Builtin.bitXor (m : Int) (0 + (i : Int)))) (vm (lotOf n r)))) H4
          rw [Int.zero_add, bx, in_lot (xor_lt hm2 hi)]
          exact h4 rfl _ (Same.refl _)
        · rw [List.take_add_one, hm, List.map_append]
          rfl
      · have hB := h.2
        rw [vm_len, List.take_length] at hB
        refine ⟨B2, (lotOf n p).map fun m => r (m ^^^ i), rfl, SqL.of ?_, _, rfl, ?_⟩
        · rw [hB, List.map_map]
          rfl
        · have e : ((lotOf n p).map fun m => r (m ^^^ i)).all id = gaB n p r i := by
            unfold gaB
            rw [List.all_map]
            rfl
          show if ((lotOf n p).map fun m => r (m ^^^ i)).all id = true then _ else _
          rw [e]
          refine ite2 (fun z => ?_) (fun z => ?_)
          · refine ⟨_, rfl, ?_⟩
            rw [Int.zero_add]
            exact h2 z _ h.1
          · exact h1 (by simpa using z) _ h.1
    · refine ⟨D, _, rfl, .inl ⟨SqL.of hD, fun L nL => ⟨sz (n := 2) (by decide), fun U nU => ?_⟩⟩⟩
      refine q _ _ ((((sT.trans s2).trans s3).trans (same_new nL)).trans (same_new nU)) ⟨U, L, rfl, upd_same, ?_⟩
      rw [upd_ne (ne_of_none upd_same nU), upd_same]
      rfl
end
end XT
namespace XT
open PySem PySem.Spec PyProof.Rows L2
section
variable {P : Program} {w : World} {K : PySem.W.Frag} {mg : Str → Option Value} {base : Heap}
theorem scOW : FnScope ["self", "index"] ["self", "index"] (defScope sOW) := ⟨rfl, rfl, rfl, by decide +kernel, rfl, by decide +kernel, by decide +kernel⟩
theorem ok_ow {q : Str} {f C : Addr} {fd : FuncData} {k : Nat} (T : OexC K C) (no : PySem.W.findIn K (.ref C) "index" = some none) (F : Fun K "__init__" q sOW f fd) : FnOk P w K mg base CX0 (k + 1) f fd ["self", "index"] (spInit K C "index") := by
  refine F.ok scOW (fun vs H Q E h => ?_) (fun cdv A outer s H vs Q E hr h => ?_)
  · obtain ⟨a, y, rfl, _⟩ := h
    rfl
  · obtain ⟨a, y, rfl, ha, q⟩ := h
    refine ⟨_, pss_one (ps_ost (pv 0) (pv 1)), ?_⟩
    exact ⟨y, rfl, .ref a, rfl, a, C, rfl, T, no, .inl ⟨ha, q⟩⟩
/-- the i-th lot is the first one of another width -/
def Odd (ls : List Lt) (n : Nat) (i : Nat) : Prop := (∃ l, ls[i]? = some l ∧ l.n ≠ n) ∧ ∀ j l, j < i → ls[j]? = some l → l.n = n
def spWd (K : PySem.W.Frag) (CN CW : Addr) : Sp := fun vs H Q E => ∃ (t : Addr) (ls : List Lt), vs = [.ref t] ∧ SqT K H t (ls.map (·.v)) ∧ (∀ l ∈ ls, LtAt H l) ∧ (ls = [] → E (.ref CN) none H) ∧
  ∀ l0 r, ls = l0 :: r → ((∀ l ∈ ls, l.n = l0.n) → ∀ H', Same H H' → Q (.int (l0.n : Int)) H') ∧ ∀ i, Odd ls l0.n i → ∀ H' d, Same H H' → H' d = some (.xd [("index", .int (i : Nat))]) → E (.ref CW) (some d) H'
theorem scWd : FnScope ["lots", "width", "index", "lot"] ["lots"] (defScope sWidth) := ⟨rfl, rfl, rfl, by decide +kernel, rfl, by decide +kernel, by decide +kernel⟩
theorem ok_wd {f CN CW : Addr} {fd : FuncData} {k : Nat} (B : Bl mg) (F : Fun K "common_width" "common_width" sWidth f fd) (RN : ErrN K mg "NoLots" CN) (R : ErrC P w K mg base "OtherWidth" "index" CW) : FnOk P w K mg base (L2.CX P w) (k + 3) f fd ["lots"] (spWd K CN CW) := by
  refine F.okX scWd (fun vs H Q E h => ?_) (fun cdv A outer s H vs Q E hr h => ?_)
  · obtain ⟨t, ls, rfl, _⟩ := h
    rfl
  · obtain ⟨t, ls, rfl, ht, hL, h0, h1⟩ := h
    obtain ⟨bmB, Bn, newId, initId, eF, eq⟩ := RN.ex
    refine ⟨_, pss_cons (ps_if (pt_cmpR op_eq (pe_callB call_len_seq (by rfl) B.len PySem.boot_len (pa_cons (pv 0) pa_nil)) pe_int (nomark _)) (pss_one (ps_raise rfl (takes_of rfl rfl rfl rfl) (pmk_none eF eq RN.hm RN.kC (raises_own RN.exC RN.tyC) (by rfl)))) pss_nil)
      (pss_cons (ps_set (i := 1) scWd.nd rfl (.inl rfl) (pe_ix ix_tup (pe_ix ix_tup (pv 0) pe_int (fun _ _ => rfl)) pe_int (fun _ _ => rfl)))
      (pss_cons (ps_for (passes_of rfl) rfl (pi_enumT (by rfl) B.enumerate (pa_cons (pv 0) pa_nil)) (pg_tup rfl (pgs_cons (pg_name (i := 2) scWd.nd rfl (.inl rfl)) (pgs_cons (pg_name (i := 3) scWd.nd rfl (.inl rfl)) pgs_nil)))
        (pss_one (ps_if (pt_cmpR op_ne (pe_ix ix_tup (pv 3) pe_int (fun _ _ => rfl)) (pv 1) (nomark _)) (pss_one (ps_raise rfl (takes_of rfl rfl rfl rfl) (pmk_err R (hr.mono (by omega)) (by rfl) (pa_cons (pv 2) pa_nil)))) pss_nil)))
      (pss_one (ps_ret (pv 1))))), ?_⟩
    refine ⟨.ref t, rfl, t, _, rfl, .inr ht, rfl, _, rfl, ?_⟩
    cases ls with
    | nil => exact iteT (h0 rfl)
    | cons l0 ls' =>
      have e0 : decide (V.int (((l0 :: ls').map (·.v)).length : Nat) = V.int 0) = false := by
        rw [decide_eq_false]
        intro z
        have z2 := V.int.inj z
        rw [List.map_cons, List.length_cons] at z2
        omega
      rw [e0]
      refine iteF ?_
      obtain ⟨hs, hi⟩ := h1 l0 ls' rfl
      obtain ⟨⟨x0, y0, e1, hx0, hy0⟩, hn0⟩ := hL l0 List.mem_cons_self
      refine ⟨.ref t, rfl, t, _, 0, l0.v, rfl, rfl, ht, atI_nat (j := 0) rfl, x0, _, 0, .int l0.n, e1, rfl, SqT.of hx0, rfl, ?_⟩
      refine ⟨.ref t, rfl, t, _, rfl, ht, for_enumT (K := K) (xs := (l0 :: ls').map (·.v)) (fun i σ H' => Same H H' ∧ (∃ a b, σ = [some (.ref t), some (.int (l0.n : Int)), a, b]) ∧ ∀ j l, j < i → (l0 :: ls')[j]? = some l → l.n = l0.n) ⟨Same.refl H, ⟨none, none, rfl⟩, fun j l z => absurd z (Nat.not_lt_zero _)⟩ (fun i σ H' _ h => Same.sqT h.1 ht) (fun i v σ H' T hv h nT => ?_) (fun σ H' h => ?_)⟩
      · obtain ⟨sm, ⟨a, b, rfl⟩, hj⟩ := h
        have sT := same_new (o := .tup [.int (i : Nat), v]) nT
        rw [List.getElem?_map] at hv
        obtain ⟨l, hl, rfl⟩ := Option.map_eq_some_iff.mp hv
        obtain ⟨⟨x, y, ev, hx, hy⟩, hn⟩ := hL l (List.mem_of_getElem? hl)
        refine ⟨T, _, rfl, SqT.of upd_same, rfl, _, _, rfl, _, _, rfl, rfl, ?_⟩
        refine ⟨l.v, rfl, x, _, 0, .int l.n, ev, rfl, SqT.of (sT _ _ (sm _ _ hx)), rfl, .int l0.n, rfl, rfl, _, rfl, ?_⟩
        by_cases hne : l.n = l0.n
        · rw [hne]
          refine iteNS rfl ?_
          refine ⟨sm.trans sT, ⟨_, _, rfl⟩, fun j l2 hlt e => ?_⟩
          rcases Nat.lt_succ_iff_lt_or_eq.mp hlt with z | z
          · exact hj j l2 z e
          · rw [z, hl] at e
            cases e
            exact hne
        · have e2 : (!decide (V.int (l.n : Int) = V.int (l0.n : Int))) = true := by
            rw [decide_eq_false (fun z => hne (by have := V.int.inj z; omega))]
            rfl
          rw [e2]
          exact iteT ⟨.int i, rfl, mko_in fun H2 d sm2 hd => hi i ⟨⟨l, hl, hne⟩, hj⟩ H2 d ((sm.trans sT).trans sm2) hd⟩
      · obtain ⟨sm, ⟨a, b, rfl⟩, hj⟩ := h
        refine ⟨.int l0.n, rfl, hs (fun l hl => ?_) H' sm⟩
        obtain ⟨j, hj1, hj2⟩ := List.getElem_of_mem hl
        exact hj j l (by rw [List.length_map]; exact hj1) (by rw [List.getElem?_eq_getElem hj1, hj2])
end
end XT
/-! operators of a set of masks where an error is raised: at what is no mask, at two widths -/
namespace XT
open PySem PySem.Spec PyProof.Rows L2
section
variable {P : Program} {w : World} {K : PySem.W.Frag} {mg : Str → Option Value} {base : Heap} {C CN CW CL : Addr}
/-- no mask of n bits: data, or a set -/
def NotM (K : PySem.W.Frag) (C : Addr) (H : Hp) (y : V) (n : Nat) : Prop := (∃ d, Dz K H y d ∧ isM n d = false) ∨ ∃ n' p', IsMs C H y n' p'
theorem NotM.same {H H' : Hp} {y : V} {n : Nat} (h : NotM K C H y n) (s : Same H H') : NotM K C H' y n := by
  rcases h with ⟨d, hd, e⟩ | ⟨n', p', v, h⟩
  · exact .inl ⟨d, hd.same s, e⟩
  · exact .inr ⟨n', p', v, h.same s⟩
theorem FnOk.or {CX : CXT} {k : Nat} {f : Addr} {fd : FuncData} {ps : List Str} {s1 s2 : Sp} (F1 : FnOk P w K mg base CX k f fd ps s1) (F2 : FnOk P w K mg base CX k f fd ps s2) : FnOk P w K mg base CX k f fd ps (fun vs H Q E => s1 vs H Q E ∨ s2 vs H Q E) :=
  ⟨fun vs H Q E h => h.elim (F1.len vs H Q E) (F2.len vs H Q E), fun A outer s H args us vs Q E hr he hb hv h => h.elim (F1.run A outer s H args us vs Q E hr he hb hv) (F2.run A outer s H args us vs Q E hr he hb hv)⟩
theorem pe_nev {Y : Cx} {e : Expr} : PE Y e (fun _ _ _ => False) := ⟨fun _ _ _ _ _ _ h => h.elim⟩
/-- is_number of a set -/
def spNumO (C : Addr) : Sp := fun vs H Q _ => ∃ y, vs = [y] ∧ (∃ fs, InsAt H C y fs) ∧ Q (.bl false) H
theorem ok_numO {f : Addr} {fd : FuncData} {k : Nat} (B : Bl mg) (ist : ∀ {H : Hp} {a dx : Addr} {fs : List (Str × V)}, H a = some (.ins C dx fs) → TyX K H (.ref a) (.ref C)) (hk : PySem.W.kitOne K (.ref C) (.type "int") = some false) (F : Fun K "is_number" "is_number" sNum f fd) : FnOk P w K mg base CX0 (k + 1) f fd ["value"] (spNumO C) := by
  refine F.ok scNumZ (fun vs H Q E h => ?_) (fun cdv A outer s H vs Q E hr h => ?_)
  · obtain ⟨y, rfl, _⟩ := h
    rfl
  · obtain ⟨y, rfl, ⟨fs, a, dx, rfl, ha⟩, q⟩ := h
    refine ⟨_, pss_one (ps_ret (pe_and (pe_callB call_isi (by rfl) B.isinstance bI (pa_cons (pv 0) (pa_cons (pe_bltn (v := .ty "int") (by rfl) B.int bInt rfl) pa_nil)))
      (pe_one (pe_not (pe_callB call_isi (by rfl) B.isinstance bI (pa_cons (pv 0) (pa_cons (pe_bltn (v := .ty "bool") (by rfl) B.bool bBool rfl) pa_nil))))))), ?_⟩
    exact ⟨.ref a, rfl, .ref a, .ty "int", _, _, false, rfl, .ty _, ist ha, hk, false, rfl, iteF q⟩
/-- is_mask of what is none -/
def spNoM (K : PySem.W.Frag) (C : Addr) : Sp := fun vs H Q _ => ∃ (y : V) (n : Nat), vs = [y, .int (n : Int)] ∧ NotM K C H y n ∧ n ≤ 6 ∧ ∀ H', Same H H' → Q (.bl false) H'
theorem scMkO : FnScope ["value", "width"] ["value", "width"] (defScope sMask) := ⟨rfl, rfl, rfl, by decide +kernel, rfl, by decide +kernel, by decide +kernel⟩
def spMskO (C : Addr) : Sp := fun vs H Q _ => ∃ (y : V) (n : Nat), vs = [y, .int (n : Int)] ∧ (∃ fs, InsAt H C y fs) ∧ Q (.bl false) H
theorem ok_mskO {f : Addr} {fd : FuncData} {k : Nat} (dN : DefR P w K mg base 1 "is_number" (spNumO C)) (F : Fun K "is_mask" "is_mask" sMask f fd) : FnOk P w K mg base CX0 (k + 2) f fd ["value", "width"] (spMskO C) := by
  refine F.ok scMkO (fun vs H Q E h => ?_) (fun cdv A outer s H vs Q E hr h => ?_)
  · obtain ⟨y, n, rfl, _⟩ := h
    rfl
  · obtain ⟨y, n, rfl, hi, q⟩ := h
    refine ⟨_, pss_one (ps_ret (pe_and (pe_def dN (hr.mono (by omega)) (by rfl) (pa_cons (pv 0) pa_nil)) (pe_one pe_nev))), ?_⟩
    exact ⟨y, rfl, y, rfl, hi, false, rfl, iteF q⟩
theorem noM_of {k : Nat} {x : Str} (D : DefR P w K mg base k x (fun vs H Q E => spMaskZ K vs H Q E ∨ spMskO C vs H Q E)) : DefR P w K mg base k x (spNoM K C) := by
  obtain ⟨f, F, h1, h2⟩ := D
  refine ⟨f, F.imp fun vs H Q E ⟨y, n, e, nm, hn, q⟩ => ?_, h1, h2⟩
  rcases nm with ⟨d, hd, em⟩ | ⟨n', p', v, hm⟩
  · exact .inl ⟨y, d, n, e, hd, hn, by rw [em]; exact q H (Same.refl _)⟩
  · exact .inr ⟨y, n, e, hm.ins, q H (Same.refl _)⟩
/-- NoMask(y) is raised -/
def NmE (E : XK) (CN : Addr) (y : V) (H : Hp) : Prop := ∀ H' dd, Same H H' → H' dd = some (.xd [("value", y)]) → E (.ref CN) (some dd) H'
theorem NmE.same {E : XK} {y : V} {H H' : Hp} (h : NmE E CN y H) (s : Same H H') : NmE E CN y H' := fun H2 dd s2 e => h H2 dd (s.trans s2) e
def spTuz (K : PySem.W.Frag) (C CN : Addr) : Sp := fun vs H _ E => ∃ v y n p, vs = [v, y] ∧ LotAt H v n p ∧ n ≤ 6 ∧ NotM K C H y n ∧ NmE E CN y H
theorem ok_tuz {f : Addr} {fd : FuncData} {k : Nat} (R : ErrG P w K mg base "NoMask" "value" CN) (dM : DefR P w K mg base 2 "is_mask" (spNoM K C)) (F : Fun K "turned" "turned" sTurned f fd) : FnOk P w K mg base (L2.CX P w) (k + 3) f fd ["lot", "mask"] (spTuz K C CN) := by
  refine F.okX scTurned (fun vs H Q E h => ?_) (fun cdv A outer s H vs Q E hr h => ?_)
  · obtain ⟨v, y, n, p, rfl, _⟩ := h
    rfl
  · obtain ⟨v, y, n, p, rfl, ⟨a, b, rfl, ha, hb⟩, hn, nm, qe⟩ := h
    refine ⟨_, pss_cons (ps_asg (pv 0) (pg_tup rfl (pgs_cons (pg_name (i := 2) scTurned.nd rfl (.inl rfl)) (pgs_cons (pg_name (i := 3) scTurned.nd rfl (.inl rfl)) pgs_nil))))
      (pss_cons (ps_if (pt_not (pt_val (pe_def dM (hr.mono (by omega)) (by rfl) (pa_cons (pv 1) (pa_cons (pv 2) pa_nil))))) (pss_one (ps_raise rfl (takes_of rfl rfl rfl rfl) (pmk_errG R (hr.mono (by omega)) (by rfl) (pa_cons (pv 1) pa_nil)))) pss_nil) pss_never), ?_⟩
    refine ⟨.ref a, rfl, a, _, rfl, SqT.of ha, rfl, _, _, rfl, _, _, rfl, rfl, ?_⟩
    exact ⟨y, rfl, .int n, rfl, y, n, rfl, nm, hn, fun H1 s1 => ⟨false, rfl, iteT ⟨y, rfl, mkoG_in fun H2 dd sm hdd => qe H2 dd (s1.trans sm) hdd⟩⟩⟩
/-- a ^ y -/
def spXoz (K : PySem.W.Frag) (C CN : Addr) : Sp := fun vs H _ E => ∃ z v y n p, vs = [z, y] ∧ MsAt C H z v n p ∧ 1 ≤ n ∧ n ≤ 6 ∧ NotM K C H y n ∧ NmE E CN y H
theorem ok_xoz {f : Addr} {fd : FuncData} {k : Nat} (F : Fun K "__xor__" "MaskSet.__xor__" sMsXor f fd) (dL : PropR P w K mg base 1 C "lot" (spMsLot C)) (dT : DefX P w K mg base 3 "turned" (spTuz K C CN)) (dM : MakeR P w K mg base 6 C "MaskSet" (spMi C)) : FnOk P w K mg base (L2.CX P w) (k + 8) f fd ["self", "other"] (spXoz K C CN) := by
  refine F.okX scMsXor (fun vs H Q E h => ?_) (fun cdv A outer s H vs Q E hr h => ?_)
  · obtain ⟨z, v, y, n, p, rfl, _⟩ := h
    rfl
  · obtain ⟨z, v, y, n, p, rfl, hz, h1, h6, nm, qe⟩ := h
    refine ⟨_, pss_one (ps_ret (pe_mkR dM (hr.mono (by omega)) (by rfl) (pa_cons (pe_defX dT (hr.mono (by omega)) (by rfl) (takes_of rfl rfl rfl rfl) (pa_cons (pe_propR (pv 0) dL (hr.mono (by omega))) (pa_cons (pv 1) pa_nil))) pa_nil))), ?_⟩
    obtain ⟨a, dx, ez, ha⟩ := hz.1
    refine ⟨z, rfl, a, dx, _, ez, ha, z, v, n, p, by rw [ez], hz, h1, h6, fun H1 r s1 er => ?_⟩
    subst er
    exact ⟨y, rfl, r, y, n, p, rfl, hz.2.same s1, h6, nm.same s1, qe.same s1⟩
/-- a(y) -/
theorem ok_caz {f : Addr} {fd : FuncData} {k : Nat} (R : ErrG P w K mg base "NoMask" "value" CN) (F : Fun K "__call__" "MaskSet.__call__" sMsCall f fd) (dW : PropR P w K mg base 1 C "width" (spMsWidth C)) (dI : DefR P w K mg base 2 "is_mask" (spNoM K C)) : FnOk P w K mg base (L2.CX P w) (k + 3) f fd ["self", "mask"] (spXoz K C CN) := by
  refine F.okX scMsCall (fun vs H Q E h => ?_) (fun cdv A outer s H vs Q E hr h => ?_)
  · obtain ⟨z, v, y, n, p, rfl, _⟩ := h
    rfl
  · obtain ⟨z, v, y, n, p, rfl, hz, h1, h6, nm, qe⟩ := h
    refine ⟨_, pss_cons (ps_if (pt_not (pt_val (pe_def dI (hr.mono (by omega)) (by rfl) (pa_cons (pv 1) (pa_cons (pe_propR (pv 0) dW (hr.mono (by omega))) pa_nil))))) (pss_one (ps_raise rfl (takes_of rfl rfl rfl rfl) (pmk_errG R (hr.mono (by omega)) (by rfl) (pa_cons (pv 1) pa_nil)))) pss_nil) pss_never, ?_⟩
    obtain ⟨a, dx, ez, ha⟩ := id hz.1
    refine ⟨y, rfl, z, rfl, a, dx, _, ez, ha, z, v, n, p, by rw [ez], hz, h1, h6, fun H1 r1 s1 er => ?_⟩
    subst er
    exact ⟨y, n, rfl, nm.same s1, h6, fun H2 s2 => ⟨false, rfl, iteT ⟨y, rfl, mkoG_in fun H3 dd sm hdd => qe H3 dd ((s1.trans s2).trans sm) hdd⟩⟩⟩
/-- OtherWidth(1) is raised -/
def OwE (E : XK) (CW : Addr) (H : Hp) : Prop := ∀ H' d, Same H H' → H' d = some (.xd [("index", .int 1)]) → E (.ref CW) (some d) H'
theorem OwE.same {E : XK} {H H' : Hp} (h : OwE E CW H) (s : Same H H') : OwE E CW H' := fun H2 dd s2 e => h H2 dd (s.trans s2) e
/-- two lots of two widths -/
def Two (H : Hp) (v u : V) : Prop := ∃ n p n' p', LotAt H v n p ∧ LotAt H u n' p' ∧ 1 ≤ n ∧ n ≤ 6 ∧ 1 ≤ n' ∧ n' ≤ 6 ∧ n ≠ n'
theorem Two.same {H H' : Hp} {v u : V} (h : Two H v u) (s : Same H H') : Two H' v u := by
  obtain ⟨n, p, n', p', h1, h2, r⟩ := h
  exact ⟨n, p, n', p', h1.same s, h2.same s, r⟩
def spWdz (K : PySem.W.Frag) (CW : Addr) : Sp := fun vs H _ E => ∃ (t : Addr) (v u : V), vs = [.ref t] ∧ SqT K H t [v, u] ∧ Two H v u ∧ OwE E CW H
theorem wdz_of {k : Nat} {x : Str} (D : DefX P w K mg base k x (spWd K CL CW)) : DefX P w K mg base k x (spWdz K CW) := by
  obtain ⟨f, fd, ps, F, h⟩ := D
  refine ⟨f, fd, ps, F.imp fun vs H Q E ⟨t, v, u, e, ht, ⟨n, p, n', p', h1, h2, n1, n6, m1, m6, ne⟩, qe⟩ => ?_, h⟩
  refine ⟨t, [⟨v, n, p⟩, ⟨u, n', p'⟩], e, ht, fun l hl => ?_, fun z => (by cases z), fun l0 r el => ⟨fun hall => ?_, fun i hi H' d s' hd => ?_⟩⟩
  · rcases List.mem_cons.mp hl with rfl | hl
    · exact ⟨h1, n1, n6⟩
    · rw [List.mem_singleton.mp hl]
      exact ⟨h2, m1, m6⟩
  · obtain ⟨rfl, rfl⟩ := List.cons.inj el
    exact absurd (hall ⟨u, n', p'⟩ (by simp)).symm ne
  · obtain ⟨rfl, rfl⟩ := List.cons.inj el
    have ei : i = 1 := by
      obtain ⟨⟨l, hl, hne⟩, hlt⟩ := hi
      match i, hl with
      | 0, hl => cases hl; exact absurd rfl hne
      | 1, _ => rfl
      | i + 2, hl => cases hl
    subst ei
    exact qe H' d s' hd
def spPrz (CW : Addr) : Sp := fun vs H _ E => ∃ (v u : V), vs = [v, u] ∧ Two H v u ∧ OwE E CW H
theorem ok_lez {f : Addr} {fd : FuncData} {k : Nat} (F : Fun K "left_over" "left_over" sLeft f fd) (dW : DefX P w K mg base 3 "common_width" (spWdz K CW)) : FnOk P w K mg base (L2.CX P w) (k + 4) f fd ["one", "other"] (spPrz CW) := by
  refine F.okX scLeft (fun vs H Q E h => ?_) (fun cdv A outer s H vs Q E hr h => ?_)
  · obtain ⟨v, u, rfl, _⟩ := h
    rfl
  · obtain ⟨v, u, rfl, tw, qe⟩ := h
    refine ⟨_, pss_cons (ps_set (i := 2) scLeft.nd rfl (by first | exact Or.inl rfl | exact Or.inr rfl) (pe_defX dW (hr.mono (by omega)) (by rfl) (takes_of rfl rfl rfl rfl) (pa_cons (pe_tup (pa_cons (pv 0) (pa_cons (pv 1) pa_nil))) pa_nil))) pss_never, ?_⟩
    refine ⟨v, rfl, u, rfl, sz (n := 2) (by decide), fun T nT => ?_⟩
    have sT := same_new (o := .tup [v, u]) nT
    exact ⟨T, v, u, rfl, SqT.of upd_same, tw.same sT, qe.same sT⟩
theorem ok_gaz {f : Addr} {fd : FuncData} {k : Nat} (F : Fun K "greatest_addend" "greatest_addend" sGreatestAddend f fd) (dW : DefX P w K mg base 3 "common_width" (spWdz K CW)) : FnOk P w K mg base (L2.CX P w) (k + 4) f fd ["one", "other"] (spPrz CW) := by
  refine F.okX scGa (fun vs H Q E h => ?_) (fun cdv A outer s H vs Q E hr h => ?_)
  · obtain ⟨v, u, rfl, _⟩ := h
    rfl
  · obtain ⟨v, u, rfl, tw, qe⟩ := h
    refine ⟨_, pss_cons (ps_set (i := 2) scGa.nd rfl (by first | exact Or.inl rfl | exact Or.inr rfl) (pe_defX dW (hr.mono (by omega)) (by rfl) (takes_of rfl rfl rfl rfl) (pa_cons (pe_tup (pa_cons (pv 0) (pa_cons (pv 1) pa_nil))) pa_nil))) pss_never, ?_⟩
    refine ⟨v, rfl, u, rfl, sz (n := 2) (by decide), fun T nT => ?_⟩
    have sT := same_new (o := .tup [v, u]) nT
    exact ⟨T, v, u, rfl, SqT.of upd_same, tw.same sT, qe.same sT⟩
def spPrT (K : PySem.W.Frag) (CW : Addr) : Sp := fun vs H _ E => ∃ (t : Addr) (v u : V), vs = [.ref t] ∧ SqT K H t [v, u] ∧ Two H v u ∧ OwE E CW H
theorem prz_of {k : Nat} {f : Addr} (h : FnR P w K mg base (L2.CX P w) k f (fun vs H Q E => vs.length ≤ 1000 ∧ ∀ p, H p = none → spPrT K CW [V.ref p] (upd H p (.tup vs)) Q E)) : FnR P w K mg base (L2.CX P w) k f (spPrz CW) :=
  h.imp fun vs H Q E ⟨v, u, e, tw, qe⟩ => by
    subst e
    refine ⟨(show (2 : Nat) ≤ 1000 by decide), fun p np => ?_⟩
    have sp := same_new (o := .tup [v, u]) np
    exact ⟨p, v, u, rfl, SqT.of upd_same, tw.same sp, qe.same sp⟩
theorem ok_unz {f : Addr} {fd : FuncData} {k : Nat} (F : Fun K "united" "united" sUnited f fd) (dW : DefX P w K mg base 3 "common_width" (spWdz K CW)) : FnR P w K mg base (L2.CX P w) (k + 4) f (spPrz CW) := by
  refine prz_of (K := K) (star_okX F scUnited (fun _ _ _ _ _ _ rest => by cases rest <;> rfl) fun cdv A outer s H vs Q E hr h => ?_)
  obtain ⟨t, v, u, rfl, ht, tw, qe⟩ := h
  exact ⟨_, pss_cons (ps_set (i := 1) scUnited.nd rfl (by first | exact Or.inl rfl | exact Or.inr rfl) (pe_defX dW (hr.mono (by omega)) (by rfl) (takes_of rfl rfl rfl rfl) (pa_cons (pv 0) pa_nil))) pss_never, .ref t, rfl, t, v, u, rfl, ht, tw, qe⟩
theorem ok_shz {f : Addr} {fd : FuncData} {k : Nat} (F : Fun K "shared" "shared" sShared f fd) (dW : DefX P w K mg base 3 "common_width" (spWdz K CW)) : FnR P w K mg base (L2.CX P w) (k + 4) f (spPrz CW) := by
  refine prz_of (K := K) (star_okX F scShared (fun _ _ _ _ _ _ rest => by cases rest <;> rfl) fun cdv A outer s H vs Q E hr h => ?_)
  obtain ⟨t, v, u, rfl, ht, tw, qe⟩ := h
  exact ⟨_, pss_cons (ps_set (i := 1) scShared.nd rfl (by first | exact Or.inl rfl | exact Or.inr rfl) (pe_defX dW (hr.mono (by omega)) (by rfl) (takes_of rfl rfl rfl rfl) (pa_cons (pv 0) pa_nil))) pss_never, .ref t, rfl, t, v, u, rfl, ht, tw, qe⟩
theorem ok_suz {f : Addr} {fd : FuncData} {k : Nat} (F : Fun K "sum_of" "sum_of" sSumOf f fd) (dW : DefX P w K mg base 3 "common_width" (spWdz K CW)) : FnR P w K mg base (L2.CX P w) (k + 4) f (spPrz CW) := by
  refine prz_of (K := K) (star_okX F scSu (fun _ _ _ _ _ _ rest => by cases rest <;> rfl) fun cdv A outer s H vs Q E hr h => ?_)
  obtain ⟨t, v, u, rfl, ht, tw, qe⟩ := h
  exact ⟨_, pss_cons (ps_set (i := 1) scSu.nd rfl (by first | exact Or.inl rfl | exact Or.inr rfl) (pe_defX dW (hr.mono (by omega)) (by rfl) (takes_of rfl rfl rfl rfl) (pa_cons (pv 0) pa_nil))) pss_never, .ref t, rfl, t, v, u, rfl, ht, tw, qe⟩
end
end XT
/-! isinstance of a caught error, with fields or without -/
namespace XT
open PySem PySem.Spec PyProof.Rows L2
structure IsX (K : PySem.W.Frag) (D : Addr) : Prop where
  c : IsC K D
  hd : PySem.W.hasDictIn K D = true
/-- the error's dict, if there is one -/
def DtOk (d : Option Addr) (H : Hp) : Prop := d = none ∨ ∃ dd fs, d = some dd ∧ H dd = some (.xd fs)
theorem DtOk.same {d : Option Addr} {H H' : Hp} (h : DtOk d H) (s : Same H H') : DtOk d H' := h.imp id fun ⟨dd, fs, e, x⟩ => ⟨dd, fs, e, s _ _ x⟩
section
variable {X : Cx} {a D : Addr} {oe : Obj} {cls : Value} {d : Option Addr} {pn : List (Addr × Obj)}
theorem inst_none {pins : List (Addr × Obj)} {σ : L2.St} {H : Hp} {s : Shared} (I : Inv (X.suite a ((a, oe) :: pn)) pins σ H s) (hz : Zc (.ref D) none oe) (hf : ∃ vs, oe.data = .fields vs) : PySem.W.InstAt s.heap a oe D none := by
  obtain ⟨hget, _⟩ := I.pin (a, oe) (List.mem_append.mpr (.inl List.mem_cons_self))
  obtain ⟨vs, hv⟩ := hf
  obtain ⟨oc, od, oda, osl⟩ := oe
  obtain ⟨h1, h2⟩ := hz
  dsimp only at h1 h2 hv
  subst h1 h2 hv
  exact ⟨hget, rfl, rfl, trivial⟩
def rIsX (K : PySem.W.Frag) (D a : Addr) (cls : Value) (d : Option Addr) : List V → Hp → VK → Prop := fun xs H Q => ∃ (c : V) (cv : Value) (b : Bool), xs = [.ref a, c] ∧ ClsV c cv ∧ cls = .ref D ∧ DtOk d H ∧ PySem.W.kitOne K (.ref D) cv = some b ∧ Q (.bl b) H
theorem call_isX (C : IsX X.K D) (hz : Zc cls d oe) (hf : ∃ vs, oe.data = .fields vs) : CallR (X.suite a ((a, oe) :: pn)) (.builtin "isinstance") (rIsX X.K D a cls d) := by
  intro pins s σ H xs us Q I r h
  obtain ⟨c, cv, b, rfl, kc, ec, dt, e, q⟩ := h
  rcases dt with rfl | ⟨dd, fs, ed, hd⟩
  · obtain ⟨u1, u2, rfl, r1, r2⟩ := vals2 r
    cases (show u1 = Value.ref a from r1)
    have e2 := kc.eq r2
    subst e2 ec
    exact PySem.W.kia_one (PySem.W.handS_kitx_exc C.c.ga C.c.gg C.c.sb C.hd C.c.ha C.c.hn C.c.ht C.c.hm) I.kIn (inst_none I hz hf) e (fun z => nomatch z) fun tk => ⟨.bl b, H, I.tok tk, rfl, q⟩
  · exact call_isD C.c hz hf pins s σ H _ us Q I r ⟨c, cv, b, dd, fs, rfl, kc, ec, ed, hd, e, q⟩
def rIsXT (K : PySem.W.Frag) (D a : Addr) (cls : Value) (d : Option Addr) : List V → Hp → VK → Prop := fun xs H Q => ∃ (tp : Addr) (cs : List V) (ws : List Value) (b : Bool), xs = [.ref a, .ref tp] ∧ H tp = some (.tup cs) ∧ Paired ClsV cs ws ∧ cls = .ref D ∧ DtOk d H ∧ PySem.W.kitAny K (.ref D) ws = some b ∧ Q (.bl b) H
theorem call_isXT (C : IsX X.K D) (hz : Zc cls d oe) (hf : ∃ vs, oe.data = .fields vs) : CallR (X.suite a ((a, oe) :: pn)) (.builtin "isinstance") (rIsXT X.K D a cls d) := by
  intro pins s σ H xs us Q I r h
  obtain ⟨tp, cs, ws, b, rfl, hT, kc, ec, dt, e, q⟩ := h
  rcases dt with rfl | ⟨dd, fs, ed, hd⟩
  · obtain ⟨u1, u2, rfl, r1, r2⟩ := vals2 r
    cases (show u1 = Value.ref a from r1)
    cases (show u2 = Value.ref tp from r2)
    subst ec
    have hx : ObjOk X.prog X.w H s.heap tp (.tup cs) := I.hok tp _ hT
    obtain ⟨_, its, rv, o, h1, h2, n, h3⟩ := hx
    have e3 := ClsV.all kc rv
    subst e3
    obtain ⟨oc, od2, dt, sl⟩ := o
    simp only at h2 h3
    subst h2 h3
    exact PySem.W.kia_tup (PySem.W.handS_kitx_exc C.c.ga C.c.gg C.c.sb C.hd C.c.ha C.c.hn C.c.ht C.c.hm) I.kIn (inst_none I hz hf) h1 e (fun z => nomatch z) fun tk => ⟨.bl b, H, I.tok tk, rfl, q⟩
  · exact call_isDT C.c hz hf pins s σ H _ us Q I r ⟨tp, cs, ws, b, dd, fs, rfl, hT, kc, ec, ed, hd, e, q⟩
end
section
variable {K : PySem.W.Frag} {D a : Addr} {cls : Value} {d : Option Addr} {c : Addr} {b : Bool} {σ : L2.St} {H : Hp}
theorem ev_ix (h0 : σ[0]? = some (some (.ref a))) (ec : cls = .ref D) (dt : DtOk d H) (hk : PySem.W.kitOne K (.ref D) (.ref c) = some b) : Ev (isB b) (tCB (rIsX K D a cls d) (tCons (tVar 0) (tCons (tC (.ref c)) tNil))) σ H := fun H1 s1 Q q =>
  ⟨_, h0, .ref c, .ref c, b, rfl, .own _, ec, dt.same s1, hk, q _ _ (Same.refl _) rfl⟩
theorem ev_iy {T : String} (h0 : σ[0]? = some (some (.ref a))) (ec : cls = .ref D) (dt : DtOk d H) (hk : PySem.W.kitOne K (.ref D) (.type T) = some b) : Ev (isB b) (tCB (rIsX K D a cls d) (tCons (tVar 0) (tCons (tC (.ty T)) tNil))) σ H := fun H1 s1 Q q =>
  ⟨_, h0, .ty T, .type T, b, rfl, .ty _, ec, dt.same s1, hk, q _ _ (Same.refl _) rfl⟩
end
end XT
/-! _law_set_error at the handled error: OtherWidth or NoMask -/
namespace XT
open PySem PySem.Spec PyProof.Rows L2
/-- the class D is the j-th of the six, and no other -/
structure SeC (K : PySem.W.Frag) (mg : Str → Option Value) (D : Addr) (j : Nat) : Prop where
  k0 : NmI K mg D "BadLot" (decide (0 = j))
  k1 : NmI K mg D "BadWide" (decide (1 = j))
  k2 : NmI K mg D "TooWide" (decide (2 = j))
  k3 : NmI K mg D "OtherWidth" (decide (3 = j))
  k4 : NmI K mg D "NoMask" (decide (4 = j))
  k5 : NmI K mg D "NoIndex" (decide (5 = j))
  kT : NmI K mg D "TurnError" (decide (j < 4))
  kL : PySem.W.kitOne K (.ref D) (.type "LookupError") = some (decide (3 < j))
  mL : mg "LookupError" = none
abbrev flS (j : Nat) : List V := [.bl (decide (0 = j)), .bl (decide (1 = j)), .bl (decide (2 = j))] ++ [.bl (decide (3 = j)), .bl (decide (4 = j)), .bl (decide (5 = j))]
theorem flS_count {j : Nat} (h : j = 3 ∨ j = 4) : ((flS j).countP fun z => eqV z (.bl true)) = 1 := by
  rcases h with rfl | rfl <;> decide +kernel
theorem flS_flat (j : Nat) : (flS j).all flatV = true := rfl
theorem flS_at {j : Nat} (h : j = 3 ∨ j = 4) : (flS j)[j]? = some (.bl true) := by
  rcases h with rfl | rfl <;> rfl
theorem flS_no {j m : Nat} {z : V} (h : j = 3 ∨ j = 4) (hm : m < j) (hz : (flS j)[m]? = some z) : eqV z (.bl true) = false := by
  have : ∀ (k : Fin 6) (m : Fin 6), m.val < k.val → ((flS k.val)[m.val]?.map fun z => eqV z (.bl true)) = some false := by decide +kernel
  have e := this ⟨j, by omega⟩ ⟨m, by omega⟩ hm
  rw [hz] at e
  exact Option.some.inj e
theorem of_neB2 {K : PySem.W.Frag} {x y : Bool} : OpF (isLv [.bl x, .bl y]) (isLv [.bl x, .bl y]) (rNeD K) (isB false) := fun H u v ⟨L, eu, hL⟩ ⟨L', ev, hL'⟩ Q q => by
  subst eu ev
  have all : DpAll K H [.bl x, .bl y] [.bool x, .bool y] := .cons (.bl x) (.cons (.bl y) .nil)
  refine ⟨.list [.bool x, .bool y], .list [.bool x, .bool y], .lst (SqL.of hL) all, .lst (SqL.of hL') all, by cases x <;> cases y <;> decide +kernel, by cases x <;> cases y <;> decide +kernel, q _ _ (Same.refl _) ?_⟩
  cases x <;> cases y <;> rfl
def nmS (j : Nat) : Str := if j = 3 then "width" else "mask"
def fdS (j : Nat) : Str := if j = 3 then "index" else "value"
def spSe (D : Addr) (j : Nat) (cls : Value) (d : Option Addr) : Hp → VK → Prop := fun H Q => ∃ (dd : Addr) (v : V), cls = .ref D ∧ d = some dd ∧ H dd = some (.xd [(fdS j, v)]) ∧ ∀ H' L, Same H H' → H' L = none → L ≠ sysModules → Q (.ref L) (upd H' L (.lst [.str (nmS j), v]))
abbrev nSe : List Str := ["_law_error", "_law_kinds", "_law_bases"]
theorem scSe : FnScope nSe ["_law_error"] (defScope sLSetError) := ⟨rfl, rfl, rfl, by decide +kernel, rfl, by decide +kernel, by decide +kernel⟩
theorem ev_xf54 {a C dd : Addr} {cls : Value} {d : Option Addr} {f : Str} {fs : List (Str × V)} {v : V} {i : Nat} {σ : L2.St} {H : Hp} (h0 : σ[i]? = some (some (.ref a))) (ec : cls = .ref C) (ed : d = some dd) (hd : H dd = some (.xd fs)) (l : fs.lookup f = some v) : Ev (isV v) (tXf a cls d C f (tVar i)) σ H := fun H1 s1 Q q => ⟨_, h0, rfl, ec, dd, fs, v, ed, s1 _ _ hd, l, q _ _ (Same.refl _) rfl⟩
theorem pe_se {X : Cx} {a : Addr} {oe : Obj} {cls : Value} {d : Option Addr} {pn : List (Addr × Obj)} {f D : Addr} {fd : FuncData} {e : Expr} {te : TE} {p pos : Pos} {j : Nat} (hj : j = 3 ∨ j = 4) (B : Bl X.mg) (C : IsX X.K D) (CX : XfC X.K D) (no : PySem.W.findIn X.K (.ref D) (fdS j) = some none) (N : SeC X.K X.mg D j) (hz : Zc cls d oe) (hf : ∃ vs, oe.data = .fields vs)
    (F : Fun X.K "_law_set_error" "_law_set_error" sLSetError f fd) (hg : Gl X "_law_set_error") (hm : X.mg "_law_set_error" = some (.ref f)) (hr : X.A.depth < recursionLimit) (hu : X.A.units + 96 < cLine) (he : PE (X.suite a ((a, oe) :: pn)) e te)
    (hst : starEach [e] X.env = (false, eval e X.env) :: starEach [] X.env := by rfl) :
    PE (X.suite a ((a, oe) :: pn)) (.Call (.Name "_law_set_error" p) [e] [] pos) (fun σ H Q => te σ H fun v H1 => v = .ref a ∧ spSe D j cls d H1 Q) := by
  refine pe_err F scSe (fun _ _ _ _ _ _ _ => rfl) hg hm hr (fun cdv outer s H Q h => ?_) he (by decide) hst
  obtain ⟨⟨c0, m0, k0⟩, ⟨c1, m1, k1⟩, ⟨c2, m2, k2⟩, ⟨c3, m3, k3⟩, ⟨c4, m4, k4⟩, ⟨c5, m5, k5⟩, ⟨cT, mT, kT⟩, kL, mL⟩ := N
  obtain ⟨dd, v, ec, ed, hd, q⟩ := h
  have un : ∀ (x : Str) (st : Stmt) (g : Addr) (c : Value) (o : List Env) (s : Shared), ((cxOf CX0 X.prog X.w X.K X.mg X.base nSe x (defScope st) g c X.A o s H E0).nox.suite a [(a, oe)]).A.units + 64 < cLine := fun _ _ _ _ _ _ => by
    show X.A.units + 3 + 64 < cLine
    omega
  have ev3 : ∀ {i1 i2 i3 : Addr} {b1 b2 b3 : Bool} {σ : L2.St} {H : Hp}, σ[0]? = some (some (.ref a)) → DtOk d H → PySem.W.kitOne X.K (.ref D) (.ref i1) = some b1 → PySem.W.kitOne X.K (.ref D) (.ref i2) = some b2 → PySem.W.kitOne X.K (.ref D) (.ref i3) = some b3 →
      Ev (isLv [.bl b1, .bl b2, .bl b3]) (tLst (tCons (tCB (rIsX X.K D a cls d) (tCons (tVar 0) (tCons (tC (.ref i1)) tNil))) (tCons (tCB (rIsX X.K D a cls d) (tCons (tVar 0) (tCons (tC (.ref i2)) tNil))) (tCons (tCB (rIsX X.K D a cls d) (tCons (tVar 0) (tCons (tC (.ref i3)) tNil))) tNil)))) σ H := fun h0 hd a1 a2 a3 =>
    ev_lv (vs := [_, _, _]) (Nat.le_of_ble_eq_true rfl) (eva_cons (sty_v _) (ev_ix h0 ec hd a1) (eva_cons (sty_v _) (ev_ix h0 ec hd a2) (eva_cons (sty_v _) (ev_ix h0 ec hd a3) eva_nil)))
  have dt : DtOk d H := .inr ⟨dd, _, ed, hd⟩
  rcases hj with rfl | rfl
  · refine ⟨_, pss_cons (ps_set (i := 1) scSe.nd rfl (by first | exact Or.inl rfl | exact Or.inr rfl) (pe_lst (pa_cons (pe_callB (call_isX C hz hf) (by rfl) B.isinstance bI (pa_cons (pv 0) (pa_cons (pe_glob (v := .ref c0) (by rfl) m0 rfl) pa_nil))) (pa_cons (pe_callB (call_isX C hz hf) (by rfl) B.isinstance bI (pa_cons (pv 0) (pa_cons (pe_glob (v := .ref c1) (by rfl) m1 rfl) pa_nil))) (pa_cons (pe_callB (call_isX C hz hf) (by rfl) B.isinstance bI (pa_cons (pv 0) (pa_cons (pe_glob (v := .ref c2) (by rfl) m2 rfl) pa_nil))) pa_nil)))))
      (pss_cons (ps_set (i := 1) scSe.nd rfl (by first | exact Or.inl rfl | exact Or.inr rfl) (pe_op op_cat (pv 1) (pe_lst (pa_cons (pe_callB (call_isX C hz hf) (by rfl) B.isinstance bI (pa_cons (pv 0) (pa_cons (pe_glob (v := .ref c3) (by rfl) m3 rfl) pa_nil))) (pa_cons (pe_callB (call_isX C hz hf) (by rfl) B.isinstance bI (pa_cons (pv 0) (pa_cons (pe_glob (v := .ref c4) (by rfl) m4 rfl) pa_nil))) (pa_cons (pe_callB (call_isX C hz hf) (by rfl) B.isinstance bI (pa_cons (pv 0) (pa_cons (pe_glob (v := .ref c5) (by rfl) m5 rfl) pa_nil))) pa_nil))))))
      (pss_cons (ps_set (i := 2) scSe.nd rfl (by first | exact Or.inl rfl | exact Or.inr rfl) (pe_lst (pa_cons (pe_callB (call_isX C hz hf) (by rfl) B.isinstance bI (pa_cons (pv 0) (pa_cons (pe_glob (v := .ref cT) (by rfl) mT rfl) pa_nil))) (pa_cons (pe_callB (call_isX C hz hf) (by rfl) B.isinstance bI (pa_cons (pv 0) (pa_cons (pe_bltn (v := .ty "LookupError") (by rfl) mL bLE rfl) pa_nil))) pa_nil))))
      (pss_cons (ps_if (PW.pt (pw_or (pt_cmpR op_ne (pe_bm PySem.F.plainAttrs_list PySem.F.slot_list_count PySem.F.type_list_count mt_lcountF (pv 1) (pa_cons pe_bl pa_nil)) pe_int (nomark _)) (pw_or1 (pt_cmpR (op_neD (un _ _ _ _ _ _)) (pv 2) (pe_lst (pa_cons (pe_cmpR op_lt (pe_bm PySem.F.plainAttrs_list PySem.F.slot_list_index PySem.F.type_list_index mt_index (pv 1) (pa_cons pe_bl pa_nil)) pe_int (nomark _)) (pa_cons (pe_cmpR op_gt (pe_bm PySem.F.plainAttrs_list PySem.F.slot_list_index PySem.F.type_list_index mt_index (pv 1) (pa_cons pe_bl pa_nil)) pe_int (nomark _)) pa_nil))) (nomark _))))) pss_never pss_nil)
      (pss_cons (ps_if (PW.pt (pw_or (pt_val (pe_ix ix_list (pv 1) pe_int (fun _ _ => rfl))) (pw_or1 (pt_val (pe_ix ix_list (pv 1) pe_int (fun _ _ => rfl)))))) pss_never pss_nil)
      (pss_cons (ps_if (PW.pt (pw_or (pt_val (pe_ix ix_list (pv 1) pe_int (fun _ _ => rfl))) (pw_or1 (pt_val (pe_ix ix_list (pv 1) pe_int (fun _ _ => rfl)))))) (pss_one (ps_ret (pe_ifExp (pt_val (pe_ix ix_list (pv 1) pe_int (fun _ _ => rfl))) pe_nev (pe_lstB (pa_cons pe_str (pa_cons (pe_xf CX no hz hf (pv 0)) pa_nil)))))) pss_nil) pss_never))))), ?_⟩
    refine asg_ev (ev3 rfl dt k0 k1 k2) fun H1 z1 s1 g1 => ?_
    refine asg_ev (ev_op (sty_lv _) (ev_var (sty_lv _) rfl g1) (ev3 rfl (dt.same s1) k3 k4 k5) (of_catv (Nat.le_of_ble_eq_true rfl))) fun H2 z2 s2 g2 => ?_
    have s12 := s1.trans s2
    refine asg_ev (ev_lv (vs := [.bl (decide (3 < 4)), .bl (decide (3 < 3))]) (Nat.le_of_ble_eq_true rfl) (eva_cons (sty_v _) (ev_ix rfl ec (dt.same s12) kT) (eva_cons (sty_v _) (ev_iy rfl ec (dt.same s12) kL) eva_nil))) fun H3 z3 s3 g3 => ?_
    obtain ⟨LF, rfl, hF⟩ := (sty_lv _ _ _ _ s3 (g2 : isLv (flS 3) H2 z2))
    obtain ⟨LB, rfl, hB⟩ := g3
    have s13 := s12.trans s3
    have ef : ∀ {H' : Hp}, Same H3 H' → Ev (isLv (flS 3)) (tVar 1) [some (.ref a), some (.ref LF), some (.ref LB)] H' := fun s => ev_var (sty_lv _) rfl ⟨LF, rfl, s _ _ hF⟩
    have ei : Ev (isV (.int ((3 : Nat) : Int))) (tBM X.K "list" (rIndex X.K) (tVar 1) (tCons (tC (.bl true)) tNil)) [some (.ref a), some (.ref LF), some (.ref LB)] H3 := ev_idxT (flS_flat 3) (flS_at (by decide)) rfl (fun m z' hm hz => flS_no (by decide) hm hz) (ef (Same.refl _))
    have ek : ∀ {H' : Hp} {m : Nat} {b : Bool}, Same H3 H' → (flS 3)[m]? = some (.bl b) → Ev (isB b) (tOp (rIxL X.K) (tVar 1) (tC (.int (m : Int)))) [some (.ref a), some (.ref LF), some (.ref LB)] H' := fun s e => ev_op (sty_lv _) (ef s) (ev_c _) (of_ixLv e)
    refine ifs_no (evt_or (evt_test (ev_op (sty_v _) (ev_cntT (flS_flat 3) (ef (Same.refl _))) (ev_c (.int 1)) of_neI)) (evt_test (ev_op (sty_lv _) (ev_var (sty_lv [.bl (decide (3 < 4)), .bl (decide (3 < 3))]) rfl ⟨LB, rfl, hB⟩) (ev_lv (vs := [.bl (decide (3 < 4)), .bl (decide (3 < 3))]) (Nat.le_of_ble_eq_true rfl) (eva_cons (sty_v _) (ev_op (sty_v _) ei (ev_c (.int 4)) (of_i _)) (eva_cons (sty_v _) (ev_op (sty_v _) ei (ev_c (.int 3)) (of_i _)) eva_nil))) of_neB2))) (by rw [flS_count (by decide)]; rfl) fun H4 s4 => ?_
    refine ifs_no (b := false) (evt_or (b := false) (c := false) (evt_b (ek s4 (m := 0) rfl)) (evt_b (ek s4 (m := 1) rfl))) rfl fun H5 s5 => ?_
    have s35 := s4.trans s5
    refine (evt_or (b := false) (c := true) (evt_b (ek s35 (m := 2) rfl)) (evt_b (ek s35 (m := 3) rfl))) _ (Same.refl _) _ fun H6 s6 => iteT ?_
    have s36 := s35.trans s6
    refine (evt_b (ek s36 (m := 2) (b := false) rfl)) _ (Same.refl _) _ fun H7 s7 => iteF ?_
    have s37 := s36.trans s7
    refine (ev_xf54 (i := 0) (v := v) rfl ec ed (s37 _ _ (s13 _ _ hd)) rfl) _ (Same.refl _) _ fun H8 z8 s8 e8 => ⟨sz (n := 2) (by decide), fun L nL bL => ?_⟩
    rw [e8]
    exact q H8 L (s13.trans (s37.trans s8)) nL bL
  · refine ⟨_, pss_cons (ps_set (i := 1) scSe.nd rfl (by first | exact Or.inl rfl | exact Or.inr rfl) (pe_lst (pa_cons (pe_callB (call_isX C hz hf) (by rfl) B.isinstance bI (pa_cons (pv 0) (pa_cons (pe_glob (v := .ref c0) (by rfl) m0 rfl) pa_nil))) (pa_cons (pe_callB (call_isX C hz hf) (by rfl) B.isinstance bI (pa_cons (pv 0) (pa_cons (pe_glob (v := .ref c1) (by rfl) m1 rfl) pa_nil))) (pa_cons (pe_callB (call_isX C hz hf) (by rfl) B.isinstance bI (pa_cons (pv 0) (pa_cons (pe_glob (v := .ref c2) (by rfl) m2 rfl) pa_nil))) pa_nil)))))
      (pss_cons (ps_set (i := 1) scSe.nd rfl (by first | exact Or.inl rfl | exact Or.inr rfl) (pe_op op_cat (pv 1) (pe_lst (pa_cons (pe_callB (call_isX C hz hf) (by rfl) B.isinstance bI (pa_cons (pv 0) (pa_cons (pe_glob (v := .ref c3) (by rfl) m3 rfl) pa_nil))) (pa_cons (pe_callB (call_isX C hz hf) (by rfl) B.isinstance bI (pa_cons (pv 0) (pa_cons (pe_glob (v := .ref c4) (by rfl) m4 rfl) pa_nil))) (pa_cons (pe_callB (call_isX C hz hf) (by rfl) B.isinstance bI (pa_cons (pv 0) (pa_cons (pe_glob (v := .ref c5) (by rfl) m5 rfl) pa_nil))) pa_nil))))))
      (pss_cons (ps_set (i := 2) scSe.nd rfl (by first | exact Or.inl rfl | exact Or.inr rfl) (pe_lst (pa_cons (pe_callB (call_isX C hz hf) (by rfl) B.isinstance bI (pa_cons (pv 0) (pa_cons (pe_glob (v := .ref cT) (by rfl) mT rfl) pa_nil))) (pa_cons (pe_callB (call_isX C hz hf) (by rfl) B.isinstance bI (pa_cons (pv 0) (pa_cons (pe_bltn (v := .ty "LookupError") (by rfl) mL bLE rfl) pa_nil))) pa_nil))))
      (pss_cons (ps_if (PW.pt (pw_or (pt_cmpR op_ne (pe_bm PySem.F.plainAttrs_list PySem.F.slot_list_count PySem.F.type_list_count mt_lcountF (pv 1) (pa_cons pe_bl pa_nil)) pe_int (nomark _)) (pw_or1 (pt_cmpR (op_neD (un _ _ _ _ _ _)) (pv 2) (pe_lst (pa_cons (pe_cmpR op_lt (pe_bm PySem.F.plainAttrs_list PySem.F.slot_list_index PySem.F.type_list_index mt_index (pv 1) (pa_cons pe_bl pa_nil)) pe_int (nomark _)) (pa_cons (pe_cmpR op_gt (pe_bm PySem.F.plainAttrs_list PySem.F.slot_list_index PySem.F.type_list_index mt_index (pv 1) (pa_cons pe_bl pa_nil)) pe_int (nomark _)) pa_nil))) (nomark _))))) pss_never pss_nil)
      (pss_cons (ps_if (PW.pt (pw_or (pt_val (pe_ix ix_list (pv 1) pe_int (fun _ _ => rfl))) (pw_or1 (pt_val (pe_ix ix_list (pv 1) pe_int (fun _ _ => rfl)))))) pss_never pss_nil)
      (pss_cons (ps_if (PW.pt (pw_or (pt_val (pe_ix ix_list (pv 1) pe_int (fun _ _ => rfl))) (pw_or1 (pt_val (pe_ix ix_list (pv 1) pe_int (fun _ _ => rfl)))))) pss_never pss_nil)
      (pss_one (ps_ret (pe_ifExp (pt_val (pe_ix ix_list (pv 1) pe_int (fun _ _ => rfl))) (pe_lstB (pa_cons pe_str (pa_cons (pe_xf CX no hz hf (pv 0)) pa_nil))) pe_nev)))))))), ?_⟩
    refine asg_ev (ev3 rfl dt k0 k1 k2) fun H1 z1 s1 g1 => ?_
    refine asg_ev (ev_op (sty_lv _) (ev_var (sty_lv _) rfl g1) (ev3 rfl (dt.same s1) k3 k4 k5) (of_catv (Nat.le_of_ble_eq_true rfl))) fun H2 z2 s2 g2 => ?_
    have s12 := s1.trans s2
    refine asg_ev (ev_lv (vs := [.bl (decide (4 < 4)), .bl (decide (3 < 4))]) (Nat.le_of_ble_eq_true rfl) (eva_cons (sty_v _) (ev_ix rfl ec (dt.same s12) kT) (eva_cons (sty_v _) (ev_iy rfl ec (dt.same s12) kL) eva_nil))) fun H3 z3 s3 g3 => ?_
    obtain ⟨LF, rfl, hF⟩ := (sty_lv _ _ _ _ s3 (g2 : isLv (flS 4) H2 z2))
    obtain ⟨LB, rfl, hB⟩ := g3
    have s13 := s12.trans s3
    have ef : ∀ {H' : Hp}, Same H3 H' → Ev (isLv (flS 4)) (tVar 1) [some (.ref a), some (.ref LF), some (.ref LB)] H' := fun s => ev_var (sty_lv _) rfl ⟨LF, rfl, s _ _ hF⟩
    have ei : Ev (isV (.int ((4 : Nat) : Int))) (tBM X.K "list" (rIndex X.K) (tVar 1) (tCons (tC (.bl true)) tNil)) [some (.ref a), some (.ref LF), some (.ref LB)] H3 := ev_idxT (flS_flat 4) (flS_at (by decide)) rfl (fun m z' hm hz => flS_no (by decide) hm hz) (ef (Same.refl _))
    have ek : ∀ {H' : Hp} {m : Nat} {b : Bool}, Same H3 H' → (flS 4)[m]? = some (.bl b) → Ev (isB b) (tOp (rIxL X.K) (tVar 1) (tC (.int (m : Int)))) [some (.ref a), some (.ref LF), some (.ref LB)] H' := fun s e => ev_op (sty_lv _) (ef s) (ev_c _) (of_ixLv e)
    refine ifs_no (evt_or (evt_test (ev_op (sty_v _) (ev_cntT (flS_flat 4) (ef (Same.refl _))) (ev_c (.int 1)) of_neI)) (evt_test (ev_op (sty_lv _) (ev_var (sty_lv [.bl (decide (4 < 4)), .bl (decide (3 < 4))]) rfl ⟨LB, rfl, hB⟩) (ev_lv (vs := [.bl (decide (4 < 4)), .bl (decide (3 < 4))]) (Nat.le_of_ble_eq_true rfl) (eva_cons (sty_v _) (ev_op (sty_v _) ei (ev_c (.int 4)) (of_i _)) (eva_cons (sty_v _) (ev_op (sty_v _) ei (ev_c (.int 3)) (of_i _)) eva_nil))) of_neB2))) (by rw [flS_count (by decide)]; rfl) fun H4 s4 => ?_
    refine ifs_no (b := false) (evt_or (b := false) (c := false) (evt_b (ek s4 (m := 0) rfl)) (evt_b (ek s4 (m := 1) rfl))) rfl fun H5 s5 => ?_
    have s35 := s4.trans s5
    refine ifs_no (b := false) (evt_or (b := false) (c := false) (evt_b (ek s35 (m := 2) rfl)) (evt_b (ek s35 (m := 3) rfl))) rfl fun H6 s6 => ?_
    have s36 := s35.trans s6
    refine (evt_b (ek s36 (m := 4) (b := true) rfl)) _ (Same.refl _) _ fun H7 s7 => iteT ?_
    have s37 := s36.trans s7
    refine (ev_xf54 (i := 0) (v := v) rfl ec ed (s37 _ _ (s13 _ _ hd)) rfl) _ (Same.refl _) _ fun H8 z8 s8 e8 => ⟨sz (n := 2) (by decide), fun L nL bL => ?_⟩
    rw [e8]
    exact q H8 L (s13.trans (s37.trans s8)) nL bL
end XT
/-! | & - + within addend of two sets of two widths -/
namespace XT
open PySem PySem.Spec PyProof.Rows L2
section
variable {P : Program} {w : World} {K : PySem.W.Frag} {mg : Str → Option Value} {base : Heap} {C CW : Addr}
/-- two sets of two widths -/
def spSz (C CW : Addr) : Sp := fun vs H _ E => ∃ z z' v v' n n' p p', vs = [z, z'] ∧ MsAt C H z v n p ∧ MsAt C H z' v' n' p' ∧ 1 ≤ n ∧ n ≤ 6 ∧ 1 ≤ n' ∧ n' ≤ 6 ∧ n ≠ n' ∧ OwE E CW H
theorem scZor : FnScope ["self", "other"] ["self", "other"] (defScope sMsOr) := ⟨rfl, rfl, rfl, by decide +kernel, rfl, by decide +kernel, by decide +kernel⟩
theorem ok_orz {f : Addr} {fd : FuncData} {k : Nat} (F : Fun K "__or__" "MaskSet.__or__" sMsOr f fd) (dL : PropR P w K mg base 1 C "lot" (spMsLot C)) (dT : DefS P w K mg base 4 "united" (spPrz CW)) (dM : MakeR P w K mg base 6 C "MaskSet" (spMi C)) : FnOk P w K mg base (L2.CX P w) (k + 8) f fd ["self", "other"] (spSz C CW) := by
  refine F.okX scZor (fun vs H Q E h => ?_) (fun cdv A outer s H vs Q E hr h => ?_)
  · obtain ⟨z, z', v, v', n, n', p, p', rfl, _⟩ := h
    rfl
  · obtain ⟨z, z', v, v', n, n', p, p', rfl, hz, hz', h1, h6, m1, m6, ne, qe⟩ := h
    refine ⟨_, pss_one (ps_ret (pe_mkR dM (hr.mono (by omega)) (by rfl) (pa_cons (pe_starX dT (hr.mono (by omega)) (by rfl) (takes_of rfl rfl rfl rfl) (pa_cons (pe_propR (pv 0) dL (hr.mono (by omega))) (pa_cons (pe_propR (pv 1) dL (hr.mono (by omega))) pa_nil))) pa_nil))), ?_⟩
    obtain ⟨a, dx, ez, ha⟩ := hz.1
    obtain ⟨a', dx', ez', ha'⟩ := hz'.1
    refine ⟨z, rfl, a, dx, _, ez, ha, z, v, n, p, by rw [ez], hz, h1, h6, fun H1 r1 s1 er => ?_⟩
    subst er
    refine ⟨z', rfl, a', dx', _, ez', s1 _ _ ha', z', v', n', p', by rw [ez'], hz'.same s1, m1, m6, fun H2 r2 s2 er => ?_⟩
    subst er
    have s12 := s1.trans s2
    exact ⟨_, _, rfl, ⟨n, p, n', p', hz.2.same s12, hz'.2.same s12, h1, h6, m1, m6, ne⟩, qe.same s12⟩
theorem scZan : FnScope ["self", "other"] ["self", "other"] (defScope sMsAnd) := ⟨rfl, rfl, rfl, by decide +kernel, rfl, by decide +kernel, by decide +kernel⟩
theorem ok_anz {f : Addr} {fd : FuncData} {k : Nat} (F : Fun K "__and__" "MaskSet.__and__" sMsAnd f fd) (dL : PropR P w K mg base 1 C "lot" (spMsLot C)) (dT : DefS P w K mg base 4 "shared" (spPrz CW)) (dM : MakeR P w K mg base 6 C "MaskSet" (spMi C)) : FnOk P w K mg base (L2.CX P w) (k + 8) f fd ["self", "other"] (spSz C CW) := by
  refine F.okX scZan (fun vs H Q E h => ?_) (fun cdv A outer s H vs Q E hr h => ?_)
  · obtain ⟨z, z', v, v', n, n', p, p', rfl, _⟩ := h
    rfl
  · obtain ⟨z, z', v, v', n, n', p, p', rfl, hz, hz', h1, h6, m1, m6, ne, qe⟩ := h
    refine ⟨_, pss_one (ps_ret (pe_mkR dM (hr.mono (by omega)) (by rfl) (pa_cons (pe_starX dT (hr.mono (by omega)) (by rfl) (takes_of rfl rfl rfl rfl) (pa_cons (pe_propR (pv 0) dL (hr.mono (by omega))) (pa_cons (pe_propR (pv 1) dL (hr.mono (by omega))) pa_nil))) pa_nil))), ?_⟩
    obtain ⟨a, dx, ez, ha⟩ := hz.1
    obtain ⟨a', dx', ez', ha'⟩ := hz'.1
    refine ⟨z, rfl, a, dx, _, ez, ha, z, v, n, p, by rw [ez], hz, h1, h6, fun H1 r1 s1 er => ?_⟩
    subst er
    refine ⟨z', rfl, a', dx', _, ez', s1 _ _ ha', z', v', n', p', by rw [ez'], hz'.same s1, m1, m6, fun H2 r2 s2 er => ?_⟩
    subst er
    have s12 := s1.trans s2
    exact ⟨_, _, rfl, ⟨n, p, n', p', hz.2.same s12, hz'.2.same s12, h1, h6, m1, m6, ne⟩, qe.same s12⟩
theorem scZsb : FnScope ["self", "other"] ["self", "other"] (defScope sMsSub) := ⟨rfl, rfl, rfl, by decide +kernel, rfl, by decide +kernel, by decide +kernel⟩
theorem ok_sbz {f : Addr} {fd : FuncData} {k : Nat} (F : Fun K "__sub__" "MaskSet.__sub__" sMsSub f fd) (dL : PropR P w K mg base 1 C "lot" (spMsLot C)) (dT : DefX P w K mg base 4 "left_over" (spPrz CW)) (dM : MakeR P w K mg base 6 C "MaskSet" (spMi C)) : FnOk P w K mg base (L2.CX P w) (k + 8) f fd ["self", "other"] (spSz C CW) := by
  refine F.okX scZsb (fun vs H Q E h => ?_) (fun cdv A outer s H vs Q E hr h => ?_)
  · obtain ⟨z, z', v, v', n, n', p, p', rfl, _⟩ := h
    rfl
  · obtain ⟨z, z', v, v', n, n', p, p', rfl, hz, hz', h1, h6, m1, m6, ne, qe⟩ := h
    refine ⟨_, pss_one (ps_ret (pe_mkR dM (hr.mono (by omega)) (by rfl) (pa_cons (pe_defX dT (hr.mono (by omega)) (by rfl) (takes_of rfl rfl rfl rfl) (pa_cons (pe_propR (pv 0) dL (hr.mono (by omega))) (pa_cons (pe_propR (pv 1) dL (hr.mono (by omega))) pa_nil))) pa_nil))), ?_⟩
    obtain ⟨a, dx, ez, ha⟩ := hz.1
    obtain ⟨a', dx', ez', ha'⟩ := hz'.1
    refine ⟨z, rfl, a, dx, _, ez, ha, z, v, n, p, by rw [ez], hz, h1, h6, fun H1 r1 s1 er => ?_⟩
    subst er
    refine ⟨z', rfl, a', dx', _, ez', s1 _ _ ha', z', v', n', p', by rw [ez'], hz'.same s1, m1, m6, fun H2 r2 s2 er => ?_⟩
    subst er
    have s12 := s1.trans s2
    exact ⟨_, _, rfl, ⟨n, p, n', p', hz.2.same s12, hz'.2.same s12, h1, h6, m1, m6, ne⟩, qe.same s12⟩
theorem scZad : FnScope ["self", "other"] ["self", "other"] (defScope sMsAdd) := ⟨rfl, rfl, rfl, by decide +kernel, rfl, by decide +kernel, by decide +kernel⟩
theorem ok_adz {f : Addr} {fd : FuncData} {k : Nat} (F : Fun K "__add__" "MaskSet.__add__" sMsAdd f fd) (dL : PropR P w K mg base 1 C "lot" (spMsLot C)) (dT : DefS P w K mg base 4 "sum_of" (spPrz CW)) (dM : MakeR P w K mg base 6 C "MaskSet" (spMi C)) : FnOk P w K mg base (L2.CX P w) (k + 8) f fd ["self", "other"] (spSz C CW) := by
  refine F.okX scZad (fun vs H Q E h => ?_) (fun cdv A outer s H vs Q E hr h => ?_)
  · obtain ⟨z, z', v, v', n, n', p, p', rfl, _⟩ := h
    rfl
  · obtain ⟨z, z', v, v', n, n', p, p', rfl, hz, hz', h1, h6, m1, m6, ne, qe⟩ := h
    refine ⟨_, pss_one (ps_ret (pe_mkR dM (hr.mono (by omega)) (by rfl) (pa_cons (pe_starX dT (hr.mono (by omega)) (by rfl) (takes_of rfl rfl rfl rfl) (pa_cons (pe_propR (pv 0) dL (hr.mono (by omega))) (pa_cons (pe_propR (pv 1) dL (hr.mono (by omega))) pa_nil))) pa_nil))), ?_⟩
    obtain ⟨a, dx, ez, ha⟩ := hz.1
    obtain ⟨a', dx', ez', ha'⟩ := hz'.1
    refine ⟨z, rfl, a, dx, _, ez, ha, z, v, n, p, by rw [ez], hz, h1, h6, fun H1 r1 s1 er => ?_⟩
    subst er
    refine ⟨z', rfl, a', dx', _, ez', s1 _ _ ha', z', v', n', p', by rw [ez'], hz'.same s1, m1, m6, fun H2 r2 s2 er => ?_⟩
    subst er
    have s12 := s1.trans s2
    exact ⟨_, _, rfl, ⟨n, p, n', p', hz.2.same s12, hz'.2.same s12, h1, h6, m1, m6, ne⟩, qe.same s12⟩
theorem scZae : FnScope ["self", "other"] ["self", "other"] (defScope sMsAddend) := ⟨rfl, rfl, rfl, by decide +kernel, rfl, by decide +kernel, by decide +kernel⟩
theorem ok_aez {f : Addr} {fd : FuncData} {k : Nat} (F : Fun K "addend" "MaskSet.addend" sMsAddend f fd) (dL : PropR P w K mg base 1 C "lot" (spMsLot C)) (dT : DefX P w K mg base 4 "greatest_addend" (spPrz CW)) (dM : MakeR P w K mg base 6 C "MaskSet" (spMi C)) : FnOk P w K mg base (L2.CX P w) (k + 8) f fd ["self", "other"] (spSz C CW) := by
  refine F.okX scZae (fun vs H Q E h => ?_) (fun cdv A outer s H vs Q E hr h => ?_)
  · obtain ⟨z, z', v, v', n, n', p, p', rfl, _⟩ := h
    rfl
  · obtain ⟨z, z', v, v', n, n', p, p', rfl, hz, hz', h1, h6, m1, m6, ne, qe⟩ := h
    refine ⟨_, pss_one (ps_ret (pe_mkR dM (hr.mono (by omega)) (by rfl) (pa_cons (pe_defX dT (hr.mono (by omega)) (by rfl) (takes_of rfl rfl rfl rfl) (pa_cons (pe_propR (pv 0) dL (hr.mono (by omega))) (pa_cons (pe_propR (pv 1) dL (hr.mono (by omega))) pa_nil))) pa_nil))), ?_⟩
    obtain ⟨a, dx, ez, ha⟩ := hz.1
    obtain ⟨a', dx', ez', ha'⟩ := hz'.1
    refine ⟨z, rfl, a, dx, _, ez, ha, z, v, n, p, by rw [ez], hz, h1, h6, fun H1 r1 s1 er => ?_⟩
    subst er
    refine ⟨z', rfl, a', dx', _, ez', s1 _ _ ha', z', v', n', p', by rw [ez'], hz'.same s1, m1, m6, fun H2 r2 s2 er => ?_⟩
    subst er
    have s12 := s1.trans s2
    exact ⟨_, _, rfl, ⟨n, p, n', p', hz.2.same s12, hz'.2.same s12, h1, h6, m1, m6, ne⟩, qe.same s12⟩
theorem scZwi : FnScope ["self", "other"] ["self", "other"] (defScope sMsWithin) := ⟨rfl, rfl, rfl, by decide +kernel, rfl, by decide +kernel, by decide +kernel⟩
theorem ok_wiz {f : Addr} {fd : FuncData} {k : Nat} (B : Bl mg) (F : Fun K "within" "MaskSet.within" sMsWithin f fd) (dL : PropR P w K mg base 1 C "lot" (spMsLot C)) (dT : DefX P w K mg base 4 "left_over" (spPrz CW)) : FnOk P w K mg base (L2.CX P w) (k + 8) f fd ["self", "other"] (spSz C CW) := by
  refine F.okX scZwi (fun vs H Q E h => ?_) (fun cdv A outer s H vs Q E hr h => ?_)
  · obtain ⟨z, z', v, v', n, n', p, p', rfl, _⟩ := h
    rfl
  · obtain ⟨z, z', v, v', n, n', p, p', rfl, hz, hz', h1, h6, m1, m6, ne, qe⟩ := h
    refine ⟨_, pss_one (ps_ret (pe_cmpR op_eq (pe_callB call_len_seq (by rfl) B.len PySem.boot_len (pa_cons (pe_ix ix_tup (pe_defX dT (hr.mono (by omega)) (by rfl) (takes_of rfl rfl rfl rfl) (pa_cons (pe_propR (pv 0) dL (hr.mono (by omega))) (pa_cons (pe_propR (pv 1) dL (hr.mono (by omega))) pa_nil))) pe_int (fun _ _ => rfl)) pa_nil)) pe_int (nomark _))), ?_⟩
    obtain ⟨a, dx, ez, ha⟩ := hz.1
    obtain ⟨a', dx', ez', ha'⟩ := hz'.1
    refine ⟨z, rfl, a, dx, _, ez, ha, z, v, n, p, by rw [ez], hz, h1, h6, fun H1 r1 s1 er => ?_⟩
    subst er
    refine ⟨z', rfl, a', dx', _, ez', s1 _ _ ha', z', v', n', p', by rw [ez'], hz'.same s1, m1, m6, fun H2 r2 s2 er => ?_⟩
    subst er
    have s12 := s1.trans s2
    exact ⟨_, _, rfl, ⟨n, p, n', p', hz.2.same s12, hz'.2.same s12, h1, h6, m1, m6, ne⟩, qe.same s12⟩
end
end XT
/-! MaskSet: within, addend -/
namespace XT
open PySem PySem.Spec PyProof.Rows L2
section
variable {P : Program} {w : World} {K : PySem.W.Frag} {mg : Str → Option Value} {base : Heap} {C : Addr}
theorem scMsWithin : FnScope ["self", "other"] ["self", "other"] (defScope sMsWithin) := ⟨rfl, rfl, rfl, by decide +kernel, rfl, by decide +kernel, by decide +kernel⟩
abbrev spMsWithin (C : Addr) : Sp := spM2 C fun n p r _ o => o = .bl (decide (lotOf n (fun m => p m && !r m) = []))
theorem ok_msWithin {f : Addr} {fd : FuncData} {k : Nat} (B : Bl mg) (dL : PropR P w K mg base 1 C "lot" (spMsLot C)) (dF : DefR P w K mg base 2 "left_over" spLeft) (F : Fun K "within" "MaskSet.within" sMsWithin f fd) : FnOk P w K mg base CX0 (k + 4) f fd ["self", "other"] (spMsWithin C) := by
  refine F.ok scMsWithin (fun vs H Q E h => ?_) (fun cdv A outer s H vs Q E hr h => ?_)
  · obtain ⟨z, z', v, v', n, p, r, rfl, _⟩ := h
    rfl
  · obtain ⟨z, z', v, v', n, p, r, rfl, hz, hz', h1, h6, q⟩ := h
    obtain ⟨a, dx, ez, ha⟩ := id hz.1
    obtain ⟨a', dx', ez', ha'⟩ := id hz'.1
    refine ⟨_, pss_one (ps_ret (pe_cmpR op_eq (pe_callB call_len_seq (by rfl) B.len PySem.boot_len (pa_cons (pe_ix ix_tup (pe_def dF (hr.mono (by omega)) (by rfl) (pa_cons (pe_propR (pv 0) dL (hr.mono (by omega))) (pa_cons (pe_propR (pv 1) dL (hr.mono (by omega))) pa_nil))) pe_int (fun _ _ => rfl)) pa_nil)) pe_int (nomark _))), ?_⟩
    refine ⟨z, rfl, a, dx, _, ez, ha, z, v, n, p, by rw [ez], hz, h1, h6, fun H1 r1 s1 er => ?_⟩
    subst er
    refine ⟨z', rfl, a', dx', _, ez', s1 _ _ ha', z', v', n, r, by rw [ez'], hz'.same s1, h1, h6, fun H2 r2 s2 er => ?_⟩
    subst er
    have s12 := s1.trans s2
    refine ⟨r1, r2, n, p, r, rfl, hz.2.same s12, hz'.2.same s12, h6, fun H3 z3 s3 g3 => ?_⟩
    obtain ⟨x3, y3, e3, hx3, hy3⟩ := g3
    refine ⟨x3, _, 1, .ref y3, e3, rfl, SqT.of hx3, rfl, y3, _, rfl, .inr (SqT.of hy3), rfl, q _ _ (s12.trans s3) (congrArg V.bl ?_)⟩
    rw [vm_len, Bool.eq_iff_iff, decide_eq_true_iff, decide_eq_true_iff, ← List.length_eq_zero_iff]
    constructor
    · intro e
      have := V.int.inj e
      omega
    · intro e
      rw [e]
      rfl
theorem scMsAddend : FnScope ["self", "other"] ["self", "other"] (defScope sMsAddend) := ⟨rfl, rfl, rfl, by decide +kernel, rfl, by decide +kernel, by decide +kernel⟩
abbrev spMsAddend (C : Addr) : Sp := spM2 C fun n p r H o => IsMs C H o n (gaB n p r)
theorem ok_msAddend {f : Addr} {fd : FuncData} {k : Nat} (dL : PropR P w K mg base 1 C "lot" (spMsLot C)) (dG : DefR P w K mg base 2 "greatest_addend" spGa) (dM : MakeR P w K mg base 6 C "MaskSet" (spMi C)) (F : Fun K "addend" "MaskSet.addend" sMsAddend f fd) : FnOk P w K mg base CX0 (k + 8) f fd ["self", "other"] (spMsAddend C) := by
  refine F.ok scMsAddend (fun vs H Q E h => ?_) (fun cdv A outer s H vs Q E hr h => ?_)
  · obtain ⟨z, z', v, v', n, p, r, rfl, _⟩ := h
    rfl
  · obtain ⟨z, z', v, v', n, p, r, rfl, hz, hz', h1, h6, q⟩ := h
    obtain ⟨a, dx, ez, ha⟩ := id hz.1
    obtain ⟨a', dx', ez', ha'⟩ := id hz'.1
    refine ⟨_, pss_one (ps_ret (pe_mkR dM (hr.mono (by omega)) (by rfl) (pa_cons (pe_def dG (hr.mono (by omega)) (by rfl) (pa_cons (pe_propR (pv 0) dL (hr.mono (by omega))) (pa_cons (pe_propR (pv 1) dL (hr.mono (by omega))) pa_nil))) pa_nil))), ?_⟩
    refine ⟨z, rfl, a, dx, _, ez, ha, z, v, n, p, by rw [ez], hz, h1, h6, fun H1 r1 s1 er => ?_⟩
    subst er
    refine ⟨z', rfl, a', dx', _, ez', s1 _ _ ha', z', v', n, r, by rw [ez'], hz'.same s1, h1, h6, fun H2 r2 s2 er => ?_⟩
    subst er
    have s12 := s1.trans s2
    exact ⟨r1, r2, n, p, r, rfl, hz.2.same s12, hz'.2.same s12, h6, fun H3 z3 s3 g3 => ms_make g3 h1 h6 fun H4 z4 s4 g4 => q _ _ ((s12.trans s3).trans s4) ⟨_, g4⟩⟩
end
end XT
/-! several clauses 'except x as n', one name -/
namespace XT
open PySem PySem.Spec PyProof.Rows L2
/-- the ends of a suite: the name goes -/
def goneD (i : Nat) (D : Ends) : Ends := { nx := fun σ' H' => D.nx (σ'.set i none) H', rt := D.rt, bk := fun σ' H' => D.bk (σ'.set i none) H', ct := fun σ' H' => D.ct (σ'.set i none) H' }
def wAsM (K : PySem.W.Frag) (i : Nat) (Wout : WX) (D : Ends) : List (Value × (Addr → Value → Option Addr → TS)) → WX
  | [] => Wout
  | (c, ts) :: r => fun cls d σ H => ∃ b, PySem.W.exmOne K cls c = some b ∧ (b = true → ∀ a, H a = none → ts a cls d (goneD i D) (σ.set i (some (.ref a))) H) ∧ (b = false → wAsM K i Wout D r cls d σ H)
inductive HdsAs (X : Cx) (n : Str) : List ExceptHandler → List (Value × (Addr → Value → Option Addr → TS)) → Prop
  | nil : HdsAs X n [] []
  | cons {x : Str} {c : Value} {ts : Addr → Value → Option Addr → TS} {b₀ : Stmt} {suite : List Stmt} {np pos' : Pos} {hds : List ExceptHandler} {l : List (Value × (Addr → Value → Option Addr → TS))} (hc : Names X x c)
      (hsu : ∀ (a : Addr) (oe : Obj) (cls : Value) (d : Option Addr) (pn : List (Addr × Obj)), Zc cls d oe → (∃ vs, oe.data = .fields vs) → PSs (X.suite a ((a, oe) :: pn)) (b₀ :: suite) (ts a cls d)) (r : HdsAs X n hds l) :
      HdsAs X n (.ExceptHandler (some (.Name x np)) (some n) (b₀ :: suite) pos' :: hds) ((c, ts) :: l)
theorem ps_try_asM {X : Cx} {n : Str} {i : Nat} {body : List Stmt} {h₀ : ExceptHandler} {hds : List ExceptHandler} {l : List (Value × (Addr → Value → Option Addr → TS))} {pos : Pos} {tb : WX → TS} {Wout : WX}
    (hs : X.stack = X.env :: X.outer) (hf : X.env.frame = some X.env.locals) (hN : X.N.Nodup) (hi : X.N[i]? = some n) (hln : X.env.kindOf n = some .local) (tk : Takes X Wout)
    (hb : ∀ (W : WX) (pn : List (Addr × Obj)) (xe : Value → Shared → Prop), Takes (X.tr pn xe) W → PassesOwn (model X.prog X.w) X.A X.env xe → PSs (X.tr pn xe) body (tb W))
    (hh : HdsAs X n (h₀ :: hds) l) : PS X (.Try body (h₀ :: hds) [] [] pos) (fun D σ H => tb (wAsM X.K i Wout D l) D σ H) := by
  refine ⟨fun pins s σ H D I h => ?_⟩
  have ok := I.ok
  have hfr : X.A.frames = some (X.env :: X.outer) := by rw [ok.frames, hs]
  have hloc : Loc X.env.scope n := .inl hln
  refine wpAny_Try_except ?_
  refine wpAny_mono ((hb (wAsM X.K i Wout D l) (X.pn ++ pins) (fun e s₁ => wpAny (model X.prog X.w) X.A (noteFrame e X.env) (fun _ s₂ => wpAny (model X.prog X.w) X.A (setFlight e none) (fun _ s₃ =>
    wpAny (model X.prog X.w) X.A (handleBy e X.env (h₀ :: hds)) (SP X pins D) X.xe s₃) X.xe s₂) X.xe s₁) (fun u s' xx => ?_) PassesOwn.looking).run [] s σ H D (I.toTry _) h) (fun f s1 hsp => ?_) (fun e s1 he => he)
  · obtain ⟨a, B, sI, pins', σ', H', cls, d, rfl, J', nb, up, sky, na, os, ag, w⟩ := xx
    have J : Inv X pins σ' H' sI := J'.ofTry ok
    have sky' : Sky B (X.env :: X.outer) a (Zc cls d) X.env.locals s'.heap := by rw [← hs]; exact sky
    show wpAny (model X.prog X.w) X.A (noteFrame (.ref a) X.env) _ _ _
    refine Sky.land Zc.steady hfr hf sky' fun h3 fl3 up3 => ?_
    have J3 : Inv X pins σ' H' { s' with heap := h3 } := J.landed nb fl3.1 (up.trans up3) os ag
    obtain ⟨oe3, vs3, he3, hz3, hd3⟩ := fl3.there
    have nfr : a ∉ frs (X.env :: X.outer) := fun hm => by
      obtain ⟨_, o', e', hnf⟩ := fl3.2.2.1.mem hm
      rw [he3] at e'; cases e'
      exact hnf _ hd3
    have nL : a ≠ X.env.locals := fun z => nfr (List.mem_filterMap.mpr ⟨X.env, List.mem_cons_self, by rw [hf, z]⟩)
    have nF : a ∉ X.fs := fun hm => by
      obtain ⟨e, he, q⟩ := List.mem_filterMap.mp hm
      exact nfr (List.mem_filterMap.mpr ⟨e, List.mem_cons_of_mem _ he, q⟩)
    have S3 := J3.suite he3 hd3 na nL nF
    have go : ∀ {hds' : List ExceptHandler} {l' : List (Value × (Addr → Value → Option Addr → TS))}, HdsAs X n hds' l' → wAsM X.K i Wout D l' cls d σ' H' →
        wpAny (model X.prog X.w) X.A (handleBy (.ref a) X.env hds') (SP X pins D) X.xe { s' with heap := h3 } := by
      intro hds' l' hk
      induction hk with
      | nil =>
        intro w
        refine wpAny_handleBy_nil ?_
        obtain ⟨k1, k2, k3, oe, vs, T, oT, ts', he, hz, hd, h1, hr⟩ := id fl3
        unfold PySem.passOn
        refine wpAny_bind (wpAny_field he hd h1 ?_)
        rw [if_neg (show ¬ ((Value.ref T == Value.none) = true) from by simp)]
        have fin : wpAny (model X.prog X.w) X.A (setFlight (.ref a) X.env.frame) (fun _ s4 => wpAny (model X.prog X.w) X.A (throw (.ref a) : Sem Flow) (SP X pins D) X.xe s4) X.xe { s' with heap := h3 } := by
          rw [hf]
          refine HandSPX.setFlight_upZ fl3 fun h4 hh4 up4 => wpAny_throw (tk _ _ ?_)
          exact ⟨a, B, sI, pins, σ', H', cls, d, rfl, J, nb, (up.trans up3).trans up4, .inr (.inr (by rw [hs]; exact hh4)), na, os, ag, w⟩
        first
          | exact wpAny_bind (wpAny_pure (wpAny_bind fin))
          | exact wpAny_bind fin
      | @cons x c ts b₀ suite np pos' hds2 l2 hc hsu r ih =>
        intro w
        obtain ⟨b, hb1, hyes, hno⟩ := w
        refine wpAny_handleBy_cons (codeAny_handlers_test ?_) (by intro q; cases q)
        have LT : PySem.W.Looks (model X.prog X.w) h3 (typeOf (.ref a)) cls := fun A Q E s k q => wpAny_typeOf_ref (k _ _ he3) (by rw [hz3.1]; exact q)
        have LM := PySem.W.exm_one (M := model X.prog X.w) (J3.kIn) LT hb1
        have test : ∀ {Q : Value → Shared → Prop} {E : Value → Shared → Prop}, Q c { s' with heap := h3 } → wpAny (model X.prog X.w) (X.A.mark (some (.ref a))) (eval (.Name x np) X.env) Q E { s' with heap := h3 } := fun {Q E} q => by
          obtain ⟨hg, hdbg, hm | ⟨hm, hv, hnn⟩⟩ := hc
          · exact ld_glob (X := X.suite a ((a, oe3) :: (X.pn ++ pins))) S3 hg hm q hdbg
          · exact ld_blt (X := X.suite a ((a, oe3) :: (X.pn ++ pins))) S3 hg hm hv q hnn hdbg
        refine test (LM.here ?_)
        cases b with
        | true =>
          refine codeAny_handlers_suite_as ?_
          refine HandSPX.lands_againZ fl3 fun h4 fl4 up4 => ?_
          have J4 : Inv X pins σ' H' { s' with heap := h4 } := J.landed nb fl4.1 ((up.trans up3).trans up4) os ag
          obtain ⟨oe4, vs4, he4, hz4, hd4⟩ := fl4.there
          have S4 := J4.suite he4 hd4 na nL nF
          refine store_ok (X := X.suite a ((a, oe4) :: (X.pn ++ pins))) (v := .ref a) S4 hN hi hloc rfl (fun s5 S5 => ?_) (.inr hln)
          refine wpAny_mono ((hsu a oe4 cls d (X.pn ++ pins) hz4 ⟨_, hd4⟩).run [] s5 _ H' _ S5 (hyes rfl a na)) (fun f s6 hsp => ?_) (fun _ _ z => False.elim z)
          have end_ : ∀ {σ6 : L2.St} {H6 : Hp} {Q : Shared → Prop}, Inv (X.suite a ((a, oe4) :: (X.pn ++ pins))) [] σ6 H6 s6 → (∀ s7, Inv X pins (σ6.set i none) H6 s7 → Q s7) →
              wpAny (model X.prog X.w) X.A (do bindName X.env n .none; unbindBehindTheSuite X.env n pos') (fun _ s7 => Q s7) X.xe s6 := fun {σ6 H6 Q} S6 hq => gone_ok (S6.unsuite ok) hN hi hln hq
          cases f with
          | next =>
            obtain ⟨σ6, H6, S6, q6⟩ := hsp
            exact end_ S6 fun s7 J7 => ⟨_, _, J7, q6⟩
          | brk =>
            obtain ⟨σ6, H6, S6, q6⟩ := hsp
            exact end_ S6 fun s7 J7 => ⟨_, _, J7, q6⟩
          | cont =>
            obtain ⟨σ6, H6, S6, q6⟩ := hsp
            exact end_ S6 fun s7 J7 => ⟨_, _, J7, q6⟩
          | ret u =>
            obtain ⟨v6, σ6, H6, S6, r6, q6⟩ := hsp
            exact end_ S6 fun s7 J7 => ⟨_, _, _, J7, r6, q6⟩
        | false =>
          show wpAny _ X.A (handleBy (.ref a) X.env hds2) _ _ _
          exact ih (hno rfl)
    exact go hh w
  · cases f with
    | next =>
      obtain ⟨σ', H', J', q⟩ := hsp
      exact wpAny_execs_nil ⟨σ', H', J'.ofTry ok, q⟩
    | brk =>
      obtain ⟨σ', H', J', q⟩ := hsp
      exact ⟨σ', H', J'.ofTry ok, q⟩
    | cont =>
      obtain ⟨σ', H', J', q⟩ := hsp
      exact ⟨σ', H', J'.ofTry ok, q⟩
    | ret u =>
      obtain ⟨v, σ', H', J', r, q⟩ := hsp
      exact ⟨v, σ', H', J'.ofTry ok, r, q⟩
end XT
/-! except (x, y, z) as n -/
namespace XT
open PySem PySem.Spec PyProof.Rows L2
theorem flZ_keeps {h h' B : Heap} {l : List Env} {a : Addr} {Z : Obj → Prop} (R : HandSPX.FlyingZ B l a Z h) (k : ∀ b o, h.get? b = some o → h'.get? b = some o) : HandSPX.FlyingZ B l a Z h' := by
  obtain ⟨f1, f2, f3, oe, vs, T, oT, ts, he, hz, hd, h1, hn, hne, hT, hdT, h3⟩ := R
  exact ⟨fun b o q => k b o (f1 b o q), f2, f3.of_keeps fun b o q _ => ⟨o, k b o q, rfl⟩, oe, vs, T, oT, ts, k _ _ he, hz, hd, h1, hn, hne, k _ _ hT, hdT, h3⟩
/-- what the clause's test does: nothing but a new tuple -/
def TestT (X : Cx) (t : Expr) (cs : List Value) : Prop := ∀ (a : Addr) (oe : Obj) (pn : List (Addr × Obj)) (cls : Value) (b : Bool) (σ : L2.St) (H : Hp) (s : Shared) (A' : Around) (Q : Bool → Shared → Prop) (E : Value → Shared → Prop),
  Inv (X.suite a ((a, oe) :: pn)) [] σ H s → PySem.W.Looks (model X.prog X.w) s.heap (typeOf (.ref a)) cls → PySem.W.exmAny X.K cls cs = some b → (∀ h', (∀ q o, s.heap.get? q = some o → h'.get? q = some o) → Q b { s with heap := h' }) →
  wpAny (model X.prog X.w) (X.A.mark (some (.ref a))) (eval t X.env) (fun c s1 => wpAny (model X.prog X.w) A' (excMatches (.ref a) c) Q E s1) E s
theorem name_s {X : Cx} {a : Addr} {oe : Obj} {pn : List (Addr × Obj)} {σ : L2.St} {H : Hp} {s : Shared} {x : Str} {c : Value} {np : Pos} {Q : Value → Shared → Prop} {E : Value → Shared → Prop} (hc : Names X x c) (I : Inv (X.suite a ((a, oe) :: pn)) [] σ H s) (q : Q c s) :
    wpAny (model X.prog X.w) (X.A.mark (some (.ref a))) (eval (.Name x np) X.env) Q E s := by
  obtain ⟨hg, hdbg, hm | ⟨hm, hv, hnn⟩⟩ := hc
  · exact ld_glob (X := X.suite a ((a, oe) :: pn)) I hg hm q hdbg
  · exact ld_blt (X := X.suite a ((a, oe) :: pn)) I hg hm hv q hnn hdbg
theorem test_2 {X : Cx} {x1 x2 : Str} {c1 c2 : Value} {p1 p2 tpos : Pos} {kk : Nat} (n1 : Names X x1 c1) (n2 : Names X x2 c2) : TestT X (.Tuple [.Name x1 p1, .Name x2 p2] kk tpos) [c1, c2] := fun a oe pn cls b σ H s A' Q E I LT he q => by
  refine wpAny_Tuple ?_
  refine wpAny_items_cons (name_s n1 I ?_)
  refine wpAny_items_cons (name_s n2 I ?_)
  refine wpAny_items_nil ⟨by size_fits, ?_⟩
  have kp : ∀ q o, s.heap.get? q = some o → (s.heap.push { cls := .type "tuple", data := .seq [c1, c2].toArray }).get? q = some o := fun _ _ z => Heap.get?_push_of_some _ z
  exact (PySem.W.exm_tup2 (I.kIn.keeps kp) (LT.keeps kp) (Heap.get?_push_size s.heap rfl) he).here (q _ kp)
theorem test_3 {X : Cx} {x1 x2 x3 : Str} {c1 c2 c3 : Value} {p1 p2 p3 tpos : Pos} {kk : Nat} (n1 : Names X x1 c1) (n2 : Names X x2 c2) (n3 : Names X x3 c3) : TestT X (.Tuple [.Name x1 p1, .Name x2 p2, .Name x3 p3] kk tpos) [c1, c2, c3] := fun a oe pn cls b σ H s A' Q E I LT he q => by
  refine wpAny_Tuple ?_
  refine wpAny_items_cons (name_s n1 I ?_)
  refine wpAny_items_cons (name_s n2 I ?_)
  refine wpAny_items_cons (name_s n3 I ?_)
  refine wpAny_items_nil ⟨by size_fits, ?_⟩
  have kp : ∀ q o, s.heap.get? q = some o → (s.heap.push { cls := .type "tuple", data := .seq [c1, c2, c3].toArray }).get? q = some o := fun _ _ z => Heap.get?_push_of_some _ z
  exact (PySem.W.exm_tup3 (I.kIn.keeps kp) (LT.keeps kp) (Heap.get?_push_size s.heap rfl) he).here (q _ kp)
theorem test_4 {X : Cx} {x1 x2 x3 x4 : Str} {c1 c2 c3 c4 : Value} {p1 p2 p3 p4 tpos : Pos} {kk : Nat} (n1 : Names X x1 c1) (n2 : Names X x2 c2) (n3 : Names X x3 c3) (n4 : Names X x4 c4) : TestT X (.Tuple [.Name x1 p1, .Name x2 p2, .Name x3 p3, .Name x4 p4] kk tpos) [c1, c2, c3, c4] := fun a oe pn cls b σ H s A' Q E I LT he q => by
  refine wpAny_Tuple ?_
  refine wpAny_items_cons (name_s n1 I ?_)
  refine wpAny_items_cons (name_s n2 I ?_)
  refine wpAny_items_cons (name_s n3 I ?_)
  refine wpAny_items_cons (name_s n4 I ?_)
  refine wpAny_items_nil ⟨by size_fits, ?_⟩
  have kp : ∀ q o, s.heap.get? q = some o → (s.heap.push { cls := .type "tuple", data := .seq [c1, c2, c3, c4].toArray }).get? q = some o := fun _ _ z => Heap.get?_push_of_some _ z
  exact (PySem.W.exm_tup4 (I.kIn.keeps kp) (LT.keeps kp) (Heap.get?_push_size s.heap rfl) he).here (q _ kp)
def wAsT (K : PySem.W.Frag) (cs : List Value) (i : Nat) (ts : Addr → Value → Option Addr → TS) (Wout : WX) (D : Ends) : WX := fun cls d σ H => ∃ b, PySem.W.exmAny K cls cs = some b ∧ (b = true → ∀ a, H a = none → ts a cls d (goneD i D) (σ.set i (some (.ref a))) H) ∧ (b = false → Wout cls d σ H)
theorem ps_try_asT {X : Cx} {n : Str} {i : Nat} {body suite : List Stmt} {b₀ : Stmt} {t : Expr} {cs : List Value} {ts : Addr → Value → Option Addr → TS} {pos pos' : Pos} {tb : WX → TS} {Wout : WX} (hc : TestT X t cs)
    (hs : X.stack = X.env :: X.outer) (hf : X.env.frame = some X.env.locals) (hN : X.N.Nodup) (hi : X.N[i]? = some n) (hln : X.env.kindOf n = some .local) (tk : Takes X Wout)
    (hb : ∀ (W : WX) (pn : List (Addr × Obj)) (xe : Value → Shared → Prop), Takes (X.tr pn xe) W → PassesOwn (model X.prog X.w) X.A X.env xe → PSs (X.tr pn xe) body (tb W))
    (hsu : ∀ (a : Addr) (oe : Obj) (cls : Value) (d : Option Addr) (pn : List (Addr × Obj)), Zc cls d oe → (∃ vs, oe.data = .fields vs) → PSs (X.suite a ((a, oe) :: pn)) (b₀ :: suite) (ts a cls d)) :
    PS X (.Try body [.ExceptHandler (some t) (some n) (b₀ :: suite) pos'] [] [] pos) (fun D σ H => tb (wAsT X.K cs i ts Wout D) D σ H) := by
  refine ⟨fun pins s σ H D I h => ?_⟩
  have ok := I.ok
  have hfr : X.A.frames = some (X.env :: X.outer) := by rw [ok.frames, hs]
  have hloc : Loc X.env.scope n := .inl hln
  refine wpAny_Try_except ?_
  refine wpAny_mono ((hb (wAsT X.K cs i ts Wout D) (X.pn ++ pins) (fun e s₁ => wpAny (model X.prog X.w) X.A (noteFrame e X.env) (fun _ s₂ => wpAny (model X.prog X.w) X.A (setFlight e none) (fun _ s₃ =>
    wpAny (model X.prog X.w) X.A (handleBy e X.env [.ExceptHandler (some t) (some n) (b₀ :: suite) pos']) (SP X pins D) X.xe s₃) X.xe s₂) X.xe s₁) (fun u s' xx => ?_) PassesOwn.looking).run [] s σ H D (I.toTry _) h) (fun f s1 hsp => ?_) (fun e s1 he => he)
  · obtain ⟨a, B, sI, pins', σ', H', cls, d, rfl, J', nb, up, sky, na, os, ag, w⟩ := xx
    have J : Inv X pins σ' H' sI := J'.ofTry ok
    have sky' : Sky B (X.env :: X.outer) a (Zc cls d) X.env.locals s'.heap := by rw [← hs]; exact sky
    show wpAny (model X.prog X.w) X.A (noteFrame (.ref a) X.env) _ _ _
    refine Sky.land Zc.steady hfr hf sky' fun h3 fl3 up3 => ?_
    have J3 : Inv X pins σ' H' { s' with heap := h3 } := J.landed nb fl3.1 (up.trans up3) os ag
    obtain ⟨oe3, vs3, he3, hz3, hd3⟩ := fl3.there
    have nfr : a ∉ frs (X.env :: X.outer) := fun hm => by
      obtain ⟨_, o', e', hnf⟩ := fl3.2.2.1.mem hm
      rw [he3] at e'; cases e'
      exact hnf _ hd3
    have nL : a ≠ X.env.locals := fun z => nfr (List.mem_filterMap.mpr ⟨X.env, List.mem_cons_self, by rw [hf, z]⟩)
    have nF : a ∉ X.fs := fun hm => by
      obtain ⟨e, he, q⟩ := List.mem_filterMap.mp hm
      exact nfr (List.mem_filterMap.mpr ⟨e, List.mem_cons_of_mem _ he, q⟩)
    have S3 := J3.suite he3 hd3 na nL nF
    obtain ⟨b, hb1, hyes, hno⟩ := w
    refine wpAny_handleBy_cons (codeAny_handlers_test ?_) (by intro q; cases q)
    have LT : PySem.W.Looks (model X.prog X.w) h3 (typeOf (.ref a)) cls := fun A Q E s k q => wpAny_typeOf_ref (k _ _ he3) (by rw [hz3.1]; exact q)
    refine hc a oe3 (X.pn ++ pins) cls b σ' H' { s' with heap := h3 } _ _ _ S3 LT hb1 fun hT kp => ?_
    have fl3 := flZ_keeps fl3 kp
    have up3 : s'.heap.UpToSlots hT := up3.trans (Heap.UpToSlots.of_keeps kp)
    cases b with
    | true =>
      refine codeAny_handlers_suite_as ?_
      refine HandSPX.lands_againZ fl3 fun h4 fl4 up4 => ?_
      have J4 : Inv X pins σ' H' { s' with heap := h4 } := J.landed nb fl4.1 ((up.trans up3).trans up4) os ag
      obtain ⟨oe4, vs4, he4, hz4, hd4⟩ := fl4.there
      have S4 := J4.suite he4 hd4 na nL nF
      refine store_ok (X := X.suite a ((a, oe4) :: (X.pn ++ pins))) (v := .ref a) S4 hN hi hloc rfl (fun s5 S5 => ?_) (.inr hln)
      refine wpAny_mono ((hsu a oe4 cls d (X.pn ++ pins) hz4 ⟨_, hd4⟩).run [] s5 _ H' _ S5 (hyes rfl a na)) (fun f s6 hsp => ?_) (fun _ _ z => False.elim z)
      have end_ : ∀ {σ6 : L2.St} {H6 : Hp} {Q : Shared → Prop}, Inv (X.suite a ((a, oe4) :: (X.pn ++ pins))) [] σ6 H6 s6 → (∀ s7, Inv X pins (σ6.set i none) H6 s7 → Q s7) →
          wpAny (model X.prog X.w) X.A (do bindName X.env n .none; unbindBehindTheSuite X.env n pos') (fun _ s7 => Q s7) X.xe s6 := fun {σ6 H6 Q} S6 hq => gone_ok (S6.unsuite ok) hN hi hln hq
      cases f with
      | next =>
        obtain ⟨σ6, H6, S6, q6⟩ := hsp
        exact end_ S6 fun s7 J7 => ⟨_, _, J7, q6⟩
      | brk =>
        obtain ⟨σ6, H6, S6, q6⟩ := hsp
        exact end_ S6 fun s7 J7 => ⟨_, _, J7, q6⟩
      | cont =>
        obtain ⟨σ6, H6, S6, q6⟩ := hsp
        exact end_ S6 fun s7 J7 => ⟨_, _, J7, q6⟩
      | ret u =>
        obtain ⟨v6, σ6, H6, S6, r6, q6⟩ := hsp
        exact end_ S6 fun s7 J7 => ⟨_, _, _, J7, r6, q6⟩
    | false =>
      show wpAny _ X.A (handleBy (.ref a) X.env []) _ _ _
      refine wpAny_handleBy_nil ?_
      obtain ⟨k1, k2, k3, oe, vs, T, oT, ts', he, hz, hd, h1, hr⟩ := id fl3
      unfold PySem.passOn
      refine wpAny_bind (wpAny_field he hd h1 ?_)
      rw [if_neg (show ¬ ((Value.ref T == Value.none) = true) from by simp)]
      have fin : wpAny (model X.prog X.w) X.A (setFlight (.ref a) X.env.frame) (fun _ s4 => wpAny (model X.prog X.w) X.A (throw (.ref a) : Sem Flow) (SP X pins D) X.xe s4) X.xe { s' with heap := hT } := by
        rw [hf]
        refine HandSPX.setFlight_upZ fl3 fun h4 hh4 up4 => wpAny_throw (tk _ _ ?_)
        exact ⟨a, B, sI, pins, σ', H', cls, d, rfl, J, nb, (up.trans up3).trans up4, .inr (.inr (by rw [hs]; exact hh4)), na, os, ag, hno rfl⟩
      first
        | exact wpAny_bind (wpAny_pure (wpAny_bind fin))
        | exact wpAny_bind fin
  · cases f with
    | next =>
      obtain ⟨σ', H', J', q⟩ := hsp
      exact wpAny_execs_nil ⟨σ', H', J'.ofTry ok, q⟩
    | brk =>
      obtain ⟨σ', H', J', q⟩ := hsp
      exact ⟨σ', H', J'.ofTry ok, q⟩
    | cont =>
      obtain ⟨σ', H', J', q⟩ := hsp
      exact ⟨σ', H', J'.ofTry ok, q⟩
    | ret u =>
      obtain ⟨v, σ', H', J', r, q⟩ := hsp
      exact ⟨v, σ', H', J'.ofTry ok, r, q⟩
end XT
/-! several clauses, of one class or of several, with a name or without -/
namespace XT
open PySem PySem.Spec PyProof.Rows L2
theorem any_one {K : PySem.W.Frag} {cls c : Value} {b : Bool} (h : PySem.W.exmAny K cls [c] = some b) : PySem.W.exmOne K cls c = some b := by
  obtain ⟨b1, d1, h1, h2, e⟩ := PySem.W.exmAny_cons h
  cases h2
  rw [h1, e, Bool.or_false]
theorem one_any {K : PySem.W.Frag} {cls c : Value} {b : Bool} (h : PySem.W.exmOne K cls c = some b) : PySem.W.exmAny K cls [c] = some b := by
  unfold PySem.W.exmAny
  rw [h]
  show some (b || false) = some b
  rw [Bool.or_false]
theorem test_1 {X : Cx} {x1 : Str} {c1 : Value} {p1 : Pos} (n1 : Names X x1 c1) : TestT X (.Name x1 p1) [c1] := fun a oe pn cls b σ H s A' Q E I LT he q =>
  name_s n1 I ((PySem.W.exm_one (M := model X.prog X.w) I.kIn LT (any_one he)).here (q _ fun _ _ z => z))
structure Cl where
  cs : List Value
  nm : Bool
  ts : Addr → Value → Option Addr → TS
def wG (K : PySem.W.Frag) (i : Nat) (Wout : WX) (D : Ends) : List Cl → WX
  | [] => Wout
  | c :: r => fun cls d σ H => ∃ b, PySem.W.exmAny K cls c.cs = some b ∧ (b = true → ∀ a, H a = none → if c.nm = true then c.ts a cls d (goneD i D) (σ.set i (some (.ref a))) H else c.ts a cls d D σ H) ∧ (b = false → wG K i Wout D r cls d σ H)
inductive HdsG (X : Cx) (n : Str) : List ExceptHandler → List Cl → Prop
  | nil : HdsG X n [] []
  | plain {t : Expr} {cs : List Value} {ts : Addr → Value → Option Addr → TS} {b₀ : Stmt} {suite : List Stmt} {pos' : Pos} {hds : List ExceptHandler} {l : List Cl} (hc : TestT X t cs)
      (hsu : ∀ (a : Addr) (oe : Obj) (cls : Value) (d : Option Addr) (pn : List (Addr × Obj)), Zc cls d oe → (∃ vs, oe.data = .fields vs) → PSs (X.suite a ((a, oe) :: pn)) (b₀ :: suite) (ts a cls d)) (r : HdsG X n hds l) :
      HdsG X n (.ExceptHandler (some t) none (b₀ :: suite) pos' :: hds) (⟨cs, false, ts⟩ :: l)
  | named {t : Expr} {cs : List Value} {ts : Addr → Value → Option Addr → TS} {b₀ : Stmt} {suite : List Stmt} {pos' : Pos} {hds : List ExceptHandler} {l : List Cl} (hc : TestT X t cs)
      (hsu : ∀ (a : Addr) (oe : Obj) (cls : Value) (d : Option Addr) (pn : List (Addr × Obj)), Zc cls d oe → (∃ vs, oe.data = .fields vs) → PSs (X.suite a ((a, oe) :: pn)) (b₀ :: suite) (ts a cls d)) (r : HdsG X n hds l) :
      HdsG X n (.ExceptHandler (some t) (some n) (b₀ :: suite) pos' :: hds) (⟨cs, true, ts⟩ :: l)
theorem ps_try_g {X : Cx} {n : Str} {i : Nat} {body : List Stmt} {h₀ : ExceptHandler} {hds : List ExceptHandler} {l : List Cl} {pos : Pos} {tb : WX → TS} {Wout : WX}
    (hs : X.stack = X.env :: X.outer) (hf : X.env.frame = some X.env.locals) (hN : X.N.Nodup) (hi : X.N[i]? = some n) (hln : X.env.kindOf n = some .local) (tk : Takes X Wout)
    (hb : ∀ (W : WX) (pn : List (Addr × Obj)) (xe : Value → Shared → Prop), Takes (X.tr pn xe) W → PassesOwn (model X.prog X.w) X.A X.env xe → PSs (X.tr pn xe) body (tb W))
    (hh : HdsG X n (h₀ :: hds) l) : PS X (.Try body (h₀ :: hds) [] [] pos) (fun D σ H => tb (wG X.K i Wout D l) D σ H) := by
  refine ⟨fun pins s σ H D I h => ?_⟩
  have ok := I.ok
  have hfr : X.A.frames = some (X.env :: X.outer) := by rw [ok.frames, hs]
  have hloc : Loc X.env.scope n := .inl hln
  refine wpAny_Try_except ?_
  refine wpAny_mono ((hb (wG X.K i Wout D l) (X.pn ++ pins) (fun e s₁ => wpAny (model X.prog X.w) X.A (noteFrame e X.env) (fun _ s₂ => wpAny (model X.prog X.w) X.A (setFlight e none) (fun _ s₃ =>
    wpAny (model X.prog X.w) X.A (handleBy e X.env (h₀ :: hds)) (SP X pins D) X.xe s₃) X.xe s₂) X.xe s₁) (fun u s' xx => ?_) PassesOwn.looking).run [] s σ H D (I.toTry _) h) (fun f s1 hsp => ?_) (fun e s1 he => he)
  · obtain ⟨a, B, sI, pins', σ', H', cls, d, rfl, J', nb, up, sky, na, os, ag, w⟩ := xx
    have J : Inv X pins σ' H' sI := J'.ofTry ok
    have sky' : Sky B (X.env :: X.outer) a (Zc cls d) X.env.locals s'.heap := by rw [← hs]; exact sky
    show wpAny (model X.prog X.w) X.A (noteFrame (.ref a) X.env) _ _ _
    refine Sky.land Zc.steady hfr hf sky' fun h3 fl3 up3 => ?_
    have go : ∀ {hds' : List ExceptHandler} {l' : List Cl}, HdsG X n hds' l' → ∀ (h3 : Heap), HandSPX.FlyingZ B (X.env :: X.outer) a (Zc cls d) h3 → s'.heap.UpToSlots h3 → wG X.K i Wout D l' cls d σ' H' →
        wpAny (model X.prog X.w) X.A (handleBy (.ref a) X.env hds') (SP X pins D) X.xe { s' with heap := h3 } := by
      intro hds' l' hk
      induction hk with
      | nil =>
        intro h3 fl3 up3 w
        refine wpAny_handleBy_nil ?_
        obtain ⟨k1, k2, k3, oe, vs, T, oT, ts', he, hz, hd, h1, hr⟩ := id fl3
        unfold PySem.passOn
        refine wpAny_bind (wpAny_field he hd h1 ?_)
        rw [if_neg (show ¬ ((Value.ref T == Value.none) = true) from by simp)]
        have fin : wpAny (model X.prog X.w) X.A (setFlight (.ref a) X.env.frame) (fun _ s4 => wpAny (model X.prog X.w) X.A (throw (.ref a) : Sem Flow) (SP X pins D) X.xe s4) X.xe { s' with heap := h3 } := by
          rw [hf]
          refine HandSPX.setFlight_upZ fl3 fun h4 hh4 up4 => wpAny_throw (tk _ _ ?_)
          exact ⟨a, B, sI, pins, σ', H', cls, d, rfl, J, nb, (up.trans up3).trans up4, .inr (.inr (by rw [hs]; exact hh4)), na, os, ag, w⟩
        first
          | exact wpAny_bind (wpAny_pure (wpAny_bind fin))
          | exact wpAny_bind fin
      | @plain t cs ts b₀ suite pos' hds2 l2 hc hsu r ih =>
        intro h3 fl3 up3 w
        have J3 : Inv X pins σ' H' { s' with heap := h3 } := J.landed nb fl3.1 (up.trans up3) os ag
        obtain ⟨oe3, vs3, he3, hz3, hd3⟩ := fl3.there
        have nfr : a ∉ frs (X.env :: X.outer) := fun hm => by
          obtain ⟨_, o', e', hnf⟩ := fl3.2.2.1.mem hm
          rw [he3] at e'; cases e'
          exact hnf _ hd3
        have nL : a ≠ X.env.locals := fun z => nfr (List.mem_filterMap.mpr ⟨X.env, List.mem_cons_self, by rw [hf, z]⟩)
        have nF : a ∉ X.fs := fun hm => by
          obtain ⟨e, he, q⟩ := List.mem_filterMap.mp hm
          exact nfr (List.mem_filterMap.mpr ⟨e, List.mem_cons_of_mem _ he, q⟩)
        have S3 := J3.suite he3 hd3 na nL nF
        obtain ⟨b, hb1, hyes, hno⟩ := w
        refine wpAny_handleBy_cons (codeAny_handlers_test ?_) (by intro q; cases q)
        have LT : PySem.W.Looks (model X.prog X.w) h3 (typeOf (.ref a)) cls := fun A Q E s k q => wpAny_typeOf_ref (k _ _ he3) (by rw [hz3.1]; exact q)
        refine hc a oe3 (X.pn ++ pins) cls b σ' H' { s' with heap := h3 } _ _ _ S3 LT hb1 fun hT kp => ?_
        have fl3 := flZ_keeps fl3 kp
        have up3 : s'.heap.UpToSlots hT := up3.trans (Heap.UpToSlots.of_keeps kp)
        cases b with
        | true =>
          refine codeAny_handlers_suite ?_
          refine HandSPX.lands_againZ fl3 fun h4 fl4 up4 => ?_
          have J4 : Inv X pins σ' H' { s' with heap := h4 } := J.landed nb fl4.1 ((up.trans up3).trans up4) os ag
          obtain ⟨oe4, vs4, he4, hz4, hd4⟩ := fl4.there
          have S4 := J4.suite he4 hd4 na nL nF
          have hy : ts a cls d D σ' H' := by
            have := hyes rfl a na
            rwa [if_neg (show ¬ (false = true) from Bool.false_ne_true)] at this
          refine wpAny_mono ((hsu a oe4 cls d (X.pn ++ pins) hz4 ⟨_, hd4⟩).run [] _ _ H' _ S4 hy) (fun f s6 hsp => ?_) (fun _ _ z => False.elim z)
          cases f with
          | next =>
            obtain ⟨σ6, H6, S6, q6⟩ := hsp
            exact ⟨_, _, S6.unsuite ok, q6⟩
          | brk =>
            obtain ⟨σ6, H6, S6, q6⟩ := hsp
            exact ⟨_, _, S6.unsuite ok, q6⟩
          | cont =>
            obtain ⟨σ6, H6, S6, q6⟩ := hsp
            exact ⟨_, _, S6.unsuite ok, q6⟩
          | ret u =>
            obtain ⟨v6, σ6, H6, S6, r6, q6⟩ := hsp
            exact ⟨_, _, _, S6.unsuite ok, r6, q6⟩
        | false =>
          show wpAny _ X.A (handleBy (.ref a) X.env hds2) _ _ _
          exact ih hT fl3 up3 (hno rfl)
      | @named t cs ts b₀ suite pos' hds2 l2 hc hsu r ih =>
        intro h3 fl3 up3 w
        have J3 : Inv X pins σ' H' { s' with heap := h3 } := J.landed nb fl3.1 (up.trans up3) os ag
        obtain ⟨oe3, vs3, he3, hz3, hd3⟩ := fl3.there
        have nfr : a ∉ frs (X.env :: X.outer) := fun hm => by
          obtain ⟨_, o', e', hnf⟩ := fl3.2.2.1.mem hm
          rw [he3] at e'; cases e'
          exact hnf _ hd3
        have nL : a ≠ X.env.locals := fun z => nfr (List.mem_filterMap.mpr ⟨X.env, List.mem_cons_self, by rw [hf, z]⟩)
        have nF : a ∉ X.fs := fun hm => by
          obtain ⟨e, he, q⟩ := List.mem_filterMap.mp hm
          exact nfr (List.mem_filterMap.mpr ⟨e, List.mem_cons_of_mem _ he, q⟩)
        have S3 := J3.suite he3 hd3 na nL nF
        obtain ⟨b, hb1, hyes, hno⟩ := w
        refine wpAny_handleBy_cons (codeAny_handlers_test ?_) (by intro q; cases q)
        have LT : PySem.W.Looks (model X.prog X.w) h3 (typeOf (.ref a)) cls := fun A Q E s k q => wpAny_typeOf_ref (k _ _ he3) (by rw [hz3.1]; exact q)
        refine hc a oe3 (X.pn ++ pins) cls b σ' H' { s' with heap := h3 } _ _ _ S3 LT hb1 fun hT kp => ?_
        have fl3 := flZ_keeps fl3 kp
        have up3 : s'.heap.UpToSlots hT := up3.trans (Heap.UpToSlots.of_keeps kp)
        cases b with
        | true =>
          refine codeAny_handlers_suite_as ?_
          refine HandSPX.lands_againZ fl3 fun h4 fl4 up4 => ?_
          have J4 : Inv X pins σ' H' { s' with heap := h4 } := J.landed nb fl4.1 ((up.trans up3).trans up4) os ag
          obtain ⟨oe4, vs4, he4, hz4, hd4⟩ := fl4.there
          have S4 := J4.suite he4 hd4 na nL nF
          have hy : ts a cls d (goneD i D) (σ'.set i (some (.ref a))) H' := by
            have := hyes rfl a na
            rwa [if_pos rfl] at this
          refine store_ok (X := X.suite a ((a, oe4) :: (X.pn ++ pins))) (v := .ref a) S4 hN hi hloc rfl (fun s5 S5 => ?_) (.inr hln)
          refine wpAny_mono ((hsu a oe4 cls d (X.pn ++ pins) hz4 ⟨_, hd4⟩).run [] s5 _ H' _ S5 hy) (fun f s6 hsp => ?_) (fun _ _ z => False.elim z)
          have end_ : ∀ {σ6 : L2.St} {H6 : Hp} {Q : Shared → Prop}, Inv (X.suite a ((a, oe4) :: (X.pn ++ pins))) [] σ6 H6 s6 → (∀ s7, Inv X pins (σ6.set i none) H6 s7 → Q s7) →
              wpAny (model X.prog X.w) X.A (do bindName X.env n .none; unbindBehindTheSuite X.env n pos') (fun _ s7 => Q s7) X.xe s6 := fun {σ6 H6 Q} S6 hq => gone_ok (S6.unsuite ok) hN hi hln hq
          cases f with
          | next =>
            obtain ⟨σ6, H6, S6, q6⟩ := hsp
            exact end_ S6 fun s7 J7 => ⟨_, _, J7, q6⟩
          | brk =>
            obtain ⟨σ6, H6, S6, q6⟩ := hsp
            exact end_ S6 fun s7 J7 => ⟨_, _, J7, q6⟩
          | cont =>
            obtain ⟨σ6, H6, S6, q6⟩ := hsp
            exact end_ S6 fun s7 J7 => ⟨_, _, J7, q6⟩
          | ret u =>
            obtain ⟨v6, σ6, H6, S6, r6, q6⟩ := hsp
            exact end_ S6 fun s7 J7 => ⟨_, _, _, J7, r6, q6⟩
        | false =>
          show wpAny _ X.A (handleBy (.ref a) X.env hds2) _ _ _
          exact ih hT fl3 up3 (hno rfl)
    exact go hh h3 fl3 up3 w
  · cases f with
    | next =>
      obtain ⟨σ', H', J', q⟩ := hsp
      exact wpAny_execs_nil ⟨σ', H', J'.ofTry ok, q⟩
    | brk =>
      obtain ⟨σ', H', J', q⟩ := hsp
      exact ⟨σ', H', J'.ofTry ok, q⟩
    | cont =>
      obtain ⟨σ', H', J', q⟩ := hsp
      exact ⟨σ', H', J'.ofTry ok, q⟩
    | ret u =>
      obtain ⟨v, σ', H', J', r, q⟩ := hsp
      exact ⟨v, σ', H', J'.ofTry ok, r, q⟩
end XT
/-! _law_masked, _law_combined -/
namespace XT
open PySem PySem.Spec PyProof.Rows L2
theorem exm_any1s {K : PySem.W.Frag} {c c1 : Value} {b1 : Bool} (h1 : PySem.W.exmOne K c c1 = some b1) : PySem.W.exmAny K c [c1] = some (b1 || false) := by
  unfold PySem.W.exmAny
  rw [h1]
  rfl
theorem exm_any2s {K : PySem.W.Frag} {c c1 c2 : Value} {b1 b2 : Bool} (h1 : PySem.W.exmOne K c c1 = some b1) (h2 : PySem.W.exmOne K c c2 = some b2) : PySem.W.exmAny K c [c1, c2] = some (b1 || (b2 || false)) := by
  unfold PySem.W.exmAny PySem.W.exmAny
  rw [h1, h2]
  rfl
section
variable {P : Program} {w : World} {K : PySem.W.Frag} {mg : Str → Option Value} {base : Heap} {C CN CW cT : Addr}
/-- what is wanted of an error's class -/
structure ErS (K : PySem.W.Frag) (mg : Str → Option Value) (D : Addr) (j : Nat) : Prop where
  ix : IsX K D
  xf : XfC K D
  no : PySem.W.findIn K (.ref D) (fdS j) = some none
  se : SeC K mg D j
abbrev nMa : List Str := ["_law_a", "_law_way", "_law_value", "_law_error"]
theorem scMa : FnScope nMa ["_law_a", "_law_way", "_law_value"] (defScope sLMasked) := ⟨rfl, rfl, rfl, by decide +kernel, rfl, by decide +kernel, by decide +kernel⟩
structure DMa (P : Program) (w : World) (K : PySem.W.Frag) (mg : Str → Option Value) (base : Heap) (C CN CW cT : Addr) : Prop where
  T : MsC K C
  mN : mg "NoMask" = some (.ref CN)
  mT : mg "TurnError" = some (.ref cT)
  eN : ErS K mg CN 4
  eW : ErS K mg CW 3
  xN : PySem.W.exmAny K (.ref CN) [.ref CN, .ref cT] = some true
  xW : PySem.W.exmAny K (.ref CW) [.ref cT] = some true
  xor : OwnR P w K mg base 9 C (PySem.dunder (Operator.info .BitXor).2) (spMsXor C)
  oi : OpI K C .BitXor
  xoz : OwnX P w K mg base 9 C (PySem.dunder (Operator.info .BitXor).2) (spXoz K C CN)
  ob : opB K C .BitXor = true
  cal : CallO P w K mg base 9 C (spMsCall C)
  caz : OwnX P w K mg base 9 C "__call__" (spXoz K C CN)
  lot : PropR P w K mg base 1 C "lot" (spMsLot C)
def spMa (K : PySem.W.Frag) (C : Addr) : Sp := fun vs H Q _ => ∃ (z v y : V) (way n : Nat) (p : Nat → Bool), vs = [z, .int (way : Int), y] ∧ way < 2 ∧ MsAt C H z v n p ∧ 1 ≤ n ∧ n ≤ 6 ∧
  ((∃ m : Nat, y = .int (m : Int) ∧ m < 2 ^ n ∧ (way = 0 → ∀ H' r, Same H H' → LotAt H' r n (fun x => p (x ^^^ m)) → Q r H') ∧ (way = 1 → ∀ H', Same H H' → Q (.int (pcN n p m : Int)) H')) ∨
   (NotM K C H y n ∧ ∀ H' L, Same H H' → H' L = none → L ≠ sysModules → Q (.ref L) (upd H' L (.lst [.str "mask", y]))))
theorem ok_ma {f fS : Addr} {fd fdS' : FuncData} {k : Nat} (B : Bl mg) (D : DMa P w K mg base C CN CW cT) (F : Fun K "_law_masked" "_law_masked" sLMasked f fd) (FS : Fun K "_law_set_error" "_law_set_error" sLSetError fS fdS') (hmS : mg "_law_set_error" = some (.ref fS)) : FnOk P w K mg base CX0 (k + 12) f fd ["_law_a", "_law_way", "_law_value"] (spMa K C) := by
  refine F.ok scMa (fun vs H Q E h => ?_) (fun cdv A outer s H vs Q E hr h => ?_)
  · obtain ⟨z, v, y, way, n, p, rfl, _⟩ := h
    rfl
  · obtain ⟨z, v, y, way, n, p, rfl, hw, hz, n1, n6, h⟩ := h
    have hun : (A.deeper (envOfC "_law_masked" (defScope sLMasked) s.heap.objs.size f cdv)).units + 96 < cLine := by have := hr.un; omega
    have hdp : (A.deeper (envOfC "_law_masked" (defScope sLMasked) s.heap.objs.size f cdv)).depth < recursionLimit := by have := hr.dp; omega
    have hr9 : Room 9 (A.deeper (envOfC "_law_masked" (defScope sLMasked) s.heap.objs.size f cdv)) := hr.mono (by omega)
    obtain ⟨a, dx, ez, ha⟩ := id hz.1
    have eK : ∀ {H1 : Hp} {u : Option V}, EvT (decide ((way : Int) = 0)) (tTest (tOp rEq (tVar 1) (tC (.int 0)))) [some z, some (.int (way : Int)), some y, u] H1 := fun {H1 u} => evt_test (ev_op (sty_v _) (ev_var (sty_v (.int (way : Int))) rfl rfl) (ev_c _) of_eqI)
    rcases h with ⟨m, rfl, hm, q0, q1⟩ | ⟨nm, q⟩
    · refine ⟨_, pss_one (ps_try_asT (i := 3) (test_2 (c1 := .ref CN) (c2 := .ref cT) ⟨rfl, by decide, .inl D.mN⟩ ⟨rfl, by decide, .inl D.mT⟩) rfl rfl scMa.nd rfl rfl takes0
        (fun W pn xe tk _ => pss_cons (ps_if (pt_cmpR op_eq (pv 1) pe_int (nomark _)) (pss_one (ps_ret (pe_propR (pe_op (op_ownIR (op := .BitXor) D.xor hr9 D.T.sf D.oi) (pv 0) (pv 2)) D.lot (hr.mono (by omega))))) pss_nil) (pss_one (ps_ret (pe_callO D.cal hr9 (i := 0) (by rfl) (by first | exact Or.inl rfl | rfl | decide) (pa_cons (pv 2) pa_nil)))))
        (fun a oe cls d pn hz hf => pss_never)), ?_⟩
      refine ifs_ev eK (fun hb H1 s1 => ?_) (fun hb H1 s1 => ?_)
      · rw [decide_eq_true_eq] at hb
        refine ⟨z, rfl, .int (m : Int), rfl, ⟨_, (hz.same s1).1⟩, ⟨_, rfl⟩, z, v, n, m, p, rfl, hz.same s1, n1, n6, hm, fun H2 o s2 ⟨v2, g2⟩ => ?_⟩
        obtain ⟨a2, dx2, ez2, ha2⟩ := id g2.1
        refine ⟨a2, dx2, _, ez2, ha2, o, v2, n, _, by rw [ez2], g2, n1, n6, fun H3 r s3 er => ?_⟩
        subst er
        exact q0 (by omega) H3 r ((s1.trans s2).trans s3) (g2.2.same s3)
      · rw [decide_eq_false_iff_not] at hb
        refine ⟨z, rfl, ⟨_, (hz.same s1).1⟩, .int (m : Int), rfl, ⟨_, (hz.same s1).1⟩, z, v, n, m, p, rfl, hz.same s1, n1, n6, hm, fun H2 o s2 eo => ?_⟩
        rw [eo]
        exact q1 (by omega) H2 (s1.trans s2)
    · have hbu : ∀ {H1 : Hp}, Same H H1 → (∃ T, BuV K H1 y T) ∨ ∃ fs, InsAt H1 C y fs := fun s1 => by
        rcases nm with ⟨d, hd, _⟩ | ⟨n', p', v', hm'⟩
        · exact .inl ⟨_, (hd.same s1).bu⟩
        · exact .inr (hm'.same s1).ins
      refine ⟨_, pss_one (ps_try_asT (i := 3) (test_2 (c1 := .ref CN) (c2 := .ref cT) ⟨rfl, by decide, .inl D.mN⟩ ⟨rfl, by decide, .inl D.mT⟩) rfl rfl scMa.nd rfl rfl takes0
        (fun W pn xe tk _ => pss_cons (ps_if (pt_cmpR op_eq (pv 1) pe_int (nomark _)) (pss_one (ps_ret (pe_propR (pe_opX (op := .BitXor) K rfl D.xoz hr9 D.T.sf D.ob tk (pv 0) (pv 2)) D.lot (hr.mono (by omega))))) pss_nil) (pss_one (ps_ret (pe_callOX D.caz hr9 (i := 0) (by rfl) (by first | exact Or.inl rfl | rfl | decide) tk (pa_cons (pv 2) pa_nil)))))
        (fun a oe cls d pn hz hf => pss_one (ps_ret (pe_se (.inr rfl) B D.eN.ix D.eN.xf D.eN.no D.eN.se hz hf FS (by rfl) hmS hdp hun (pv 3))))), ?_⟩
      refine ifs_ev eK (fun hb H1 s1 => ?_) (fun hb H1 s1 => ?_)
      · refine ⟨z, rfl, y, rfl, ⟨_, (hz.same s1).1⟩, hbu s1, z, v, y, n, p, rfl, hz.same s1, n1, n6, nm.same s1, fun H2 dd s2 hdd => ?_⟩
        refine ⟨true, D.xN, fun _ x nx => ?_, fun z => nomatch z⟩
        exact ⟨.ref x, rfl, rfl, dd, y, rfl, rfl, hdd, fun H3 L s3 nL bL => q H3 L ((s1.trans s2).trans s3) nL bL⟩
      · refine ⟨z, rfl, ⟨_, (hz.same s1).1⟩, y, rfl, ⟨_, (hz.same s1).1⟩, z, v, y, n, p, rfl, hz.same s1, n1, n6, nm.same s1, fun H2 dd s2 hdd => ?_⟩
        refine ⟨true, D.xN, fun _ x nx => ?_, fun z => nomatch z⟩
        exact ⟨.ref x, rfl, rfl, dd, y, rfl, rfl, hdd, fun H3 L s3 nL bL => q H3 L ((s1.trans s2).trans s3) nL bL⟩
abbrev nCb : List Str := ["_law_a", "_law_b", "_law_way", "_law_error"]
theorem scCb : FnScope nCb ["_law_a", "_law_b", "_law_way"] (defScope sLCombined) := ⟨rfl, rfl, rfl, by decide +kernel, rfl, by decide +kernel, by decide +kernel⟩
structure DCb (P : Program) (w : World) (K : PySem.W.Frag) (mg : Str → Option Value) (base : Heap) (C CW cT : Addr) : Prop where
  T : MsC K C
  mT : mg "TurnError" = some (.ref cT)
  eW : ErS K mg CW 3
  xW : PySem.W.exmAny K (.ref CW) [.ref cT] = some true
  lot : PropR P w K mg base 1 C "lot" (spMsLot C)
  or_ : OwnR P w K mg base 9 C (PySem.dunder (Operator.info .BitOr).2) (spMsOr C)
  orz : OwnX P w K mg base 9 C (PySem.dunder (Operator.info .BitOr).2) (spSz C CW)
  and_ : OwnR P w K mg base 9 C (PySem.dunder (Operator.info .BitAnd).2) (spMsAnd C)
  anz : OwnX P w K mg base 9 C (PySem.dunder (Operator.info .BitAnd).2) (spSz C CW)
  sub : OwnR P w K mg base 9 C (PySem.dunder (Operator.info .Sub).2) (spMsSub C)
  sbz : OwnX P w K mg base 9 C (PySem.dunder (Operator.info .Sub).2) (spSz C CW)
  add : OwnR P w K mg base 9 C (PySem.dunder (Operator.info .Add).2) (spMsAdd C)
  adz : OwnX P w K mg base 9 C (PySem.dunder (Operator.info .Add).2) (spSz C CW)
  wi : MethR P w K mg base 9 C "within" (spMsWithin C)
  ae : MethR P w K mg base 9 C "addend" (spMsAddend C)
  wiz : MethX P w K mg base 9 C "within" (spSz C CW)
  aez : MethX P w K mg base 9 C "addend" (spSz C CW)
/-- a lot of n bits, or a truth value -/
def LoB (n : Nat) (H : Hp) (r : V) : Prop := (∃ p, LotAt H r n p) ∨ ∃ b, r = .bl b
def spCb (C : Addr) : Sp := fun vs H Q _ => ∃ (z z' v v' : V) (way n n' : Nat) (p p' : Nat → Bool), vs = [z, z', .int (way : Int)] ∧ way < 6 ∧ MsAt C H z v n p ∧ MsAt C H z' v' n' p' ∧ 1 ≤ n ∧ n ≤ 6 ∧ 1 ≤ n' ∧ n' ≤ 6 ∧
  (n = n' → ∀ H' r, Same H H' → LoB n H' r → Q r H') ∧ (n ≠ n' → ∀ H' L, Same H H' → H' L = none → L ≠ sysModules → Q (.ref L) (upd H' L (.lst [.str "width", .int 1])))
theorem ok_cb {f fS : Addr} {fd fdS' : FuncData} {k : Nat} (B : Bl mg) (D : DCb P w K mg base C CW cT) (F : Fun K "_law_combined" "_law_combined" sLCombined f fd) (FS : Fun K "_law_set_error" "_law_set_error" sLSetError fS fdS') (hmS : mg "_law_set_error" = some (.ref fS)) : FnOk P w K mg base CX0 (k + 12) f fd ["_law_a", "_law_b", "_law_way"] (spCb C) := by
  refine F.ok scCb (fun vs H Q E h => ?_) (fun cdv A outer s H vs Q E hr h => ?_)
  · obtain ⟨z, z', v, v', way, n, n', p, p', rfl, _⟩ := h
    rfl
  · obtain ⟨z, z', v, v', way, n, n', p, p', rfl, hw, hz, hz', n1, n6, m1, m6, q, qe⟩ := h
    have hun : (A.deeper (envOfC "_law_combined" (defScope sLCombined) s.heap.objs.size f cdv)).units + 96 < cLine := by have := hr.un; omega
    have hdp : (A.deeper (envOfC "_law_combined" (defScope sLCombined) s.heap.objs.size f cdv)).depth < recursionLimit := by have := hr.dp; omega
    have hr9 : Room 9 (A.deeper (envOfC "_law_combined" (defScope sLCombined) s.heap.objs.size f cdv)) := hr.mono (by omega)
    obtain ⟨a, dx, ez, ha⟩ := id hz.1
    obtain ⟨a', dx', ez', ha'⟩ := id hz'.1
    have eL : ∀ {H1 : Hp} {c : Int} {u : Option V}, EvT (decide ((way : Int) < c)) (tTest (tOp (rI0 fun i j => .bl (decide (i < j))) (tVar 2) (tC (.int c)))) [some z, some z', some (.int (way : Int)), u] H1 := fun {H1 c u} => evt_test (ev_op (sty_v _) (ev_var (sty_v (.int (way : Int))) rfl rfl) (ev_c _) (of_i _))
    have eK : ∀ {H1 : Hp} {c : Int} {u : Option V}, EvT (decide ((way : Int) = c)) (tTest (tOp rEq (tVar 2) (tC (.int c)))) [some z, some z', some (.int (way : Int)), u] H1 := fun {H1 c u} => evt_test (ev_op (sty_v _) (ev_var (sty_v (.int (way : Int))) rfl rfl) (ev_c _) of_eqI)
    by_cases hn : n = n'
    · subst hn
      have q := q rfl
      refine ⟨_, pss_one (ps_try_asT (i := 3) (test_1 (c1 := .ref cT) ⟨rfl, by decide, .inl D.mT⟩) rfl rfl scCb.nd rfl rfl takes0
        (fun W pn xe tk _ => pss_cons (ps_if (pt_cmpR op_lt (pv 2) pe_int (nomark _)) (pss_one (ps_ret (pe_ifExp (pt_cmpR op_eq (pv 2) pe_int (nomark _)) (pe_propR (pe_op (op_ownR (op := .BitOr) D.or_ hr9 D.T.sf) (pv 0) (pv 1)) D.lot (hr.mono (by omega))) (pe_propR (pe_op (op_ownR (op := .BitAnd) D.and_ hr9 D.T.sf) (pv 0) (pv 1)) D.lot (hr.mono (by omega)))))) pss_nil)
          (pss_cons (ps_if (pt_cmpR op_lt (pv 2) pe_int (nomark _)) (pss_one (ps_ret (pe_ifExp (pt_cmpR op_eq (pv 2) pe_int (nomark _)) (pe_propR (pe_op (op_ownR (op := .Sub) D.sub hr9 D.T.sf) (pv 0) (pv 1)) D.lot (hr.mono (by omega))) (pe_propR (pe_op (op_ownR (op := .Add) D.add hr9 D.T.sf) (pv 0) (pv 1)) D.lot (hr.mono (by omega)))))) pss_nil)
          (pss_one (ps_ret (pe_ifExp (pt_cmpR op_eq (pv 2) pe_int (nomark _)) (pe_methR (pv 0) D.wi hr9 (pa_cons (pv 1) pa_nil)) (pe_propR (pe_methR (pv 0) D.ae hr9 (pa_cons (pv 1) pa_nil)) D.lot (hr.mono (by omega))))))))
        (fun a oe cls d pn hz hf => pss_never)), ?_⟩
      have fin : ∀ {H1 H2 : Hp} {o : V} {p9 : Nat → Bool}, Same H H1 → Same H1 H2 → IsMs C H2 o n p9 → ∃ a dx fs, o = .ref a ∧ H2 a = some (.ins C dx fs) ∧ spMsLot C ([.ref a] ++ []) H2 Q E0 := fun {H1 H2 o p9} s1 s2 ⟨v2, g2⟩ => by
        obtain ⟨a2, dx2, ez2, ha2⟩ := id g2.1
        refine ⟨a2, dx2, _, ez2, ha2, o, v2, n, _, by rw [ez2]; rfl, g2, n1, n6, fun H3 r s3 er => ?_⟩
        subst er
        exact q H3 r ((s1.trans s2).trans s3) (.inl ⟨_, g2.2.same s3⟩)
      refine ifs_ev eL (fun hb H1 s1 => ?_) (fun hb H1 s1 => ?_)
      · refine (eK (c := 0)) H1 (Same.refl _) _ fun H2 s2 => ?_
        have s12 := s1.trans s2
        have zz := hz.same s12
        have zz' := hz'.same s12
        by_cases hb3 : (way : Int) = 0
        · rw [decide_eq_true hb3]
          exact iteT ⟨z, rfl, z', rfl, zz.ins, zz'.ins, z, z', v, v', n, p, p', rfl, zz, zz', n1, n6, fun H3 o s3 g3 => fin s12 s3 g3⟩
        · rw [decide_eq_false hb3]
          exact iteF ⟨z, rfl, z', rfl, zz.ins, zz'.ins, z, z', v, v', n, p, p', rfl, zz, zz', n1, n6, fun H3 o s3 g3 => fin s12 s3 g3⟩
      refine ifs_ev eL (fun hb2 H2 s2 => ?_) (fun hb2 H2 s2 => ?_)
      · refine (eK (c := 2)) H2 (Same.refl _) _ fun H3 s3 => ?_
        have s12 := (s1.trans s2).trans s3
        have zz := hz.same s12
        have zz' := hz'.same s12
        by_cases hb3 : (way : Int) = 2
        · rw [decide_eq_true hb3]
          exact iteT ⟨z, rfl, z', rfl, zz.ins, zz'.ins, z, z', v, v', n, p, p', rfl, zz, zz', n1, n6, fun H3 o s3 g3 => fin s12 s3 g3⟩
        · rw [decide_eq_false hb3]
          exact iteF ⟨z, rfl, z', rfl, zz.ins, zz'.ins, z, z', v, v', n, p, p', rfl, zz, zz', n1, n6, fun H3 o s3 g3 => fin s12 s3 g3⟩
      refine (eK (c := 4)) H2 (Same.refl _) _ fun H3 s3 => ?_
      have s12 := (s1.trans s2).trans s3
      have zz := hz.same s12
      have zz' := hz'.same s12
      have hl : ∀ {m : Str}, (m == ("held" : Str)) = false → List.lookup m [(("held" : Str), v)] = none := fun {m} h => by
        simp [List.lookup, h]
      by_cases hb3 : (way : Int) = 4
      · rw [decide_eq_true hb3]
        refine iteT ⟨z, rfl, a, dx, _, ez, s12 _ _ ha, hl (by decide), z', rfl, z, z', v, v', n, p, p', by rw [ez]; rfl, zz, zz', n1, n6, fun H4 o s4 eo => ?_⟩
        rw [eo]
        exact q H4 _ (s12.trans s4) (.inr ⟨_, rfl⟩)
      · rw [decide_eq_false hb3]
        exact iteF ⟨z, rfl, a, dx, _, ez, s12 _ _ ha, hl (by decide), z', rfl, z, z', v, v', n, p, p', by rw [ez]; rfl, zz, zz', n1, n6, fun H4 o s4 g4 => fin s12 s4 g4⟩
    · have qe := qe hn
      refine ⟨_, pss_one (ps_try_asT (i := 3) (test_1 (c1 := .ref cT) ⟨rfl, by decide, .inl D.mT⟩) rfl rfl scCb.nd rfl rfl takes0
        (fun W pn xe tk _ => pss_cons (ps_if (pt_cmpR op_lt (pv 2) pe_int (nomark _)) (pss_one (ps_ret (pe_ifExp (pt_cmpR op_eq (pv 2) pe_int (nomark _)) (pe_propR (pe_opXO (op := .BitOr) D.orz hr9 D.T.sf tk (pv 0) (pv 1)) D.lot (hr.mono (by omega))) (pe_propR (pe_opXO (op := .BitAnd) D.anz hr9 D.T.sf tk (pv 0) (pv 1)) D.lot (hr.mono (by omega)))))) pss_nil)
          (pss_cons (ps_if (pt_cmpR op_lt (pv 2) pe_int (nomark _)) (pss_one (ps_ret (pe_ifExp (pt_cmpR op_eq (pv 2) pe_int (nomark _)) (pe_propR (pe_opXO (op := .Sub) D.sbz hr9 D.T.sf tk (pv 0) (pv 1)) D.lot (hr.mono (by omega))) (pe_propR (pe_opXO (op := .Add) D.adz hr9 D.T.sf tk (pv 0) (pv 1)) D.lot (hr.mono (by omega)))))) pss_nil)
          (pss_one (ps_ret (pe_ifExp (pt_cmpR op_eq (pv 2) pe_int (nomark _)) (pe_methX (pv 0) D.wiz hr9 tk (pa_cons (pv 1) pa_nil)) (pe_propR (pe_methX (pv 0) D.aez hr9 tk (pa_cons (pv 1) pa_nil)) D.lot (hr.mono (by omega))))))))
        (fun a oe cls d pn hz hf => pss_one (ps_ret (pe_se (.inl rfl) B D.eW.ix D.eW.xf D.eW.no D.eW.se hz hf FS (by rfl) hmS hdp hun (pv 3))))), ?_⟩
      refine ifs_ev eL (fun hb H1 s1 => ?_) (fun hb H1 s1 => ?_)
      · refine (eK (c := 0)) H1 (Same.refl _) _ fun H2 s2 => ?_
        have s12 := s1.trans s2
        have zz := hz.same s12
        have zz' := hz'.same s12
        by_cases hb3 : (way : Int) = 0
        · rw [decide_eq_true hb3]
          refine iteT ⟨z, rfl, z', rfl, zz.ins, zz'.ins, z, z', v, v', n, n', p, p', rfl, zz, zz', n1, n6, m1, m6, hn, fun H3 dd s3 hdd => ⟨true, D.xW, fun _ x nx => ?_, fun z => nomatch z⟩⟩
          exact ⟨.ref x, rfl, rfl, dd, .int 1, rfl, rfl, hdd, fun H4 L s4 nL bL => qe H4 L ((s12.trans s3).trans s4) nL bL⟩
        · rw [decide_eq_false hb3]
          refine iteF ⟨z, rfl, z', rfl, zz.ins, zz'.ins, z, z', v, v', n, n', p, p', rfl, zz, zz', n1, n6, m1, m6, hn, fun H3 dd s3 hdd => ⟨true, D.xW, fun _ x nx => ?_, fun z => nomatch z⟩⟩
          exact ⟨.ref x, rfl, rfl, dd, .int 1, rfl, rfl, hdd, fun H4 L s4 nL bL => qe H4 L ((s12.trans s3).trans s4) nL bL⟩
      refine ifs_ev eL (fun hb2 H2 s2 => ?_) (fun hb2 H2 s2 => ?_)
      · refine (eK (c := 2)) H2 (Same.refl _) _ fun H3 s3 => ?_
        have s12 := (s1.trans s2).trans s3
        have zz := hz.same s12
        have zz' := hz'.same s12
        by_cases hb3 : (way : Int) = 2
        · rw [decide_eq_true hb3]
          refine iteT ⟨z, rfl, z', rfl, zz.ins, zz'.ins, z, z', v, v', n, n', p, p', rfl, zz, zz', n1, n6, m1, m6, hn, fun H3 dd s3 hdd => ⟨true, D.xW, fun _ x nx => ?_, fun z => nomatch z⟩⟩
          exact ⟨.ref x, rfl, rfl, dd, .int 1, rfl, rfl, hdd, fun H4 L s4 nL bL => qe H4 L ((s12.trans s3).trans s4) nL bL⟩
        · rw [decide_eq_false hb3]
          refine iteF ⟨z, rfl, z', rfl, zz.ins, zz'.ins, z, z', v, v', n, n', p, p', rfl, zz, zz', n1, n6, m1, m6, hn, fun H3 dd s3 hdd => ⟨true, D.xW, fun _ x nx => ?_, fun z => nomatch z⟩⟩
          exact ⟨.ref x, rfl, rfl, dd, .int 1, rfl, rfl, hdd, fun H4 L s4 nL bL => qe H4 L ((s12.trans s3).trans s4) nL bL⟩
      refine (eK (c := 4)) H2 (Same.refl _) _ fun H3 s3 => ?_
      have s12 := (s1.trans s2).trans s3
      have zz := hz.same s12
      have zz' := hz'.same s12
      have hl : ∀ {m : Str}, (m == ("held" : Str)) = false → List.lookup m [(("held" : Str), v)] = none := fun {m} h => by
        simp [List.lookup, h]
      by_cases hb3 : (way : Int) = 4
      · rw [decide_eq_true hb3]
        refine iteT ⟨z, rfl, a, dx, _, ez, s12 _ _ ha, hl (by decide), z', rfl, z, z', v, v', n, n', p, p', by rw [ez], zz, zz', n1, n6, m1, m6, hn, fun H3 dd s3 hdd => ⟨true, D.xW, fun _ x nx => ?_, fun z => nomatch z⟩⟩
        exact ⟨.ref x, rfl, rfl, dd, .int 1, rfl, rfl, hdd, fun H4 L s4 nL bL => qe H4 L ((s12.trans s3).trans s4) nL bL⟩
      · rw [decide_eq_false hb3]
        refine iteF ⟨z, rfl, a, dx, _, ez, s12 _ _ ha, hl (by decide), z', rfl, z, z', v, v', n, n', p, p', by rw [ez], zz, zz', n1, n6, m1, m6, hn, fun H3 dd s3 hdd => ⟨true, D.xW, fun _ x nx => ?_, fun z => nomatch z⟩⟩
        exact ⟨.ref x, rfl, rfl, dd, .int 1, rfl, rfl, hdd, fun H4 L s4 nL bL => qe H4 L ((s12.trans s3).trans s4) nL bL⟩
end
end XT
/-! _law_is_int at any data -/
namespace XT
open PySem PySem.Spec PyProof.Rows L2
section
variable {P : Program} {w : World} {K : PySem.W.Frag} {mg : Str → Option Value} {base : Heap}
theorem scIsInt : FnScope ["_law_value", "_law_low", "_law_high"] ["_law_value", "_law_low", "_law_high"] (defScope sLIsInt) := ⟨rfl, rfl, rfl, by decide +kernel, rfl, by decide +kernel, by decide +kernel⟩
def isIn (a b : Int) : PyData → Bool
  | .int i => decide (a ≤ i) && decide (i ≤ b)
  | _ => false
def spIsInt (K : PySem.W.Frag) : Sp := fun vs H Q _ => ∃ (v : V) (d : PyData) (a b : Int), vs = [v, .int a, .int b] ∧ Dz K H v d ∧ Q (.bl (isIn a b d)) H
theorem ok_isInt {f : Addr} {fd : FuncData} {k : Nat} (B : Bl mg) (F : Fun K "_law_is_int" "_law_is_int" sLIsInt f fd) : FnOk P w K mg base CX0 (k + 1) f fd ["_law_value", "_law_low", "_law_high"] (spIsInt K) := by
  refine F.ok scIsInt (fun vs H Q E h => ?_) (fun cdv A outer s H vs Q E hr h => ?_)
  · obtain ⟨v, d, a, b, rfl, _⟩ := h
    rfl
  · obtain ⟨v, d, a, b, rfl, hd, q⟩ := h
    refine ⟨_, pss_one (ps_ret (pe_and (pe_callB call_isi (by rfl) B.isinstance bI (pa_cons (pv 0) (pa_cons (pe_bltn (v := .ty "int") (by rfl) B.int bInt rfl) pa_nil)))
      (pe_and (pe_not (pe_callB call_isi (by rfl) B.isinstance bI (pa_cons (pv 0) (pa_cons (pe_bltn (v := .ty "bool") (by rfl) B.bool bBool rfl) pa_nil)))) (pe_one (pe_chain op_le op_le (pv 1) (pv 0) (pv 2)))))), ?_⟩
    refine ⟨v, rfl, v, .ty "int", _, _, isIt d, rfl, .ty _, hd.ty, kitI d, isIt d, rfl, ?_⟩
    cases hi : isIt d with
    | false =>
      refine iteF ?_
      have e : isIn a b d = false := by cases d <;> first | rfl | simp [isIt] at hi
      rw [e] at q
      exact q
    | true =>
      refine iteT ⟨v, rfl, v, .ty "bool", _, _, isBl d, rfl, .ty _, hd.ty, kitB' d, isBl d, rfl, !isBl d, rfl, ?_⟩
      cases hd with
      | bl c => exact iteF q
      | int i =>
        refine iteT ⟨.int a, rfl, .int i, rfl, a, i, rfl, rfl, _, rfl, ?_⟩
        by_cases h0 : a ≤ i
        · rw [decide_eq_true h0]
          refine iteT ⟨.int b, rfl, i, b, rfl, rfl, ?_⟩
          have e : isIn a b (.int i) = decide (i ≤ b) := by
            show (decide (a ≤ i) && decide (i ≤ b)) = _
            rw [decide_eq_true h0, Bool.true_and]
          rw [e] at q
          exact q
        · rw [decide_eq_false h0]
          have e : isIn a b (.int i) = false := by
            show (decide (a ≤ i) && decide (i ≤ b)) = _
            rw [decide_eq_false h0, Bool.false_and]
          rw [e] at q
          exact iteF q
      | non => simp [isIt] at hi
      | str _ => simp [isIt] at hi
      | lst _ _ _ => simp [isIt] at hi
      | tup _ _ => simp [isIt] at hi
      | dct kvs _ => simp [isIt, dkD] at hi
end
end XT
/-! what is shown as two numbers is two numbers -/
namespace XT
open PySem PySem.Spec PyProof.Rows L2
abbrev shL (d : PyData) : List Nat := d.shown.cps.toList
def dgt (c : Nat) : Prop := 48 ≤ c ∧ c ≤ 57
theorem dig_split {c c' : Nat} {r r' : List Nat} (hc : ¬ dgt c) (hc' : ¬ dgt c') : ∀ {xs ys : List Nat}, (∀ x ∈ xs, dgt x) → (∀ y ∈ ys, dgt y) → xs ++ c :: r = ys ++ c' :: r' → xs = ys ∧ c = c' ∧ r = r'
  | [], [], _, _, e => ⟨rfl, (List.cons.inj e).1, (List.cons.inj e).2⟩
  | [], y :: ys, _, h, e => absurd (h y List.mem_cons_self) (by rw [← (List.cons.inj e).1]; exact hc)
  | x :: xs, [], h, _, e => absurd (h x List.mem_cons_self) (by rw [(List.cons.inj e).1]; exact hc')
  | x :: xs, y :: ys, h, k, e => by
    obtain ⟨e1, e2⟩ := List.cons.inj e
    obtain ⟨a, b⟩ := dig_split hc hc' (fun z hz => h z (List.mem_cons_of_mem _ hz)) (fun z hz => k z (List.mem_cons_of_mem _ hz)) e2
    exact ⟨by rw [e1, a], b⟩
theorem nat_codes (n : Nat) : shL (.int (n : Int)) = (Nat.repr n).toList.map Char.toNat := by
  show (Str.ofString (toString (n : Int))).cps.toList = _
  rw [signs_ofString]
  rfl
theorem nat_dgt (n : Nat) : ∀ c ∈ shL (.int (n : Int)), dgt c := by
  intro c hc
  rw [nat_codes, Nat.toList_repr] at hc
  obtain ⟨ch, h1, h2⟩ := List.mem_map.mp hc
  have := digit_range (Nat.isDigit_of_mem_toDigits (by decide) (by decide) h1)
  rw [← h2]
  exact this
theorem nat_ne (n : Nat) : shL (.int (n : Int)) ≠ [] := by
  rw [nat_codes, Nat.toList_repr]
  intro h
  have h := List.map_eq_nil_iff.mp h
  exact absurd (congrArg List.length h) (by have := Nat.length_toDigits_pos (b := 10) (n := n); simp)
theorem nat_inj {n m : Nat} (h : shL (.int (n : Int)) = shL (.int (m : Int))) : n = m := by
  rw [nat_codes, nat_codes] at h
  have h2 : (Nat.repr n).toList = (Nat.repr m).toList := by
    refine List.map_inj_right (f := Char.toNat) (fun a b e => ?_) |>.mp h
    exact Char.ext (UInt32.toNat_inj.mp e)
  have h3 : Nat.repr n = Nat.repr m := String.toList_inj.mp h2
  exact Nat.repr_inj.mp h3
theorem fold_pre (g : Nat → Array Nat) : ∀ (l : List Nat) (acc : Array Nat), ∃ r, (l.foldl (fun out c => out ++ g c) acc).toList = acc.toList ++ r
  | [], acc => ⟨[], by simp⟩
  | c :: l, acc => by
    obtain ⟨r, h⟩ := fold_pre g l (acc ++ g c)
    exact ⟨(g c).toList ++ r, by rw [List.foldl_cons, h, Array.toList_append, List.append_assoc]⟩
theorem text_pre : ∀ (ts : List Str) (k : Nat) (acc : Str), ∃ r, (textFrom k acc ts).cps.toList = acc.cps.toList ++ r
  | [], _, acc => ⟨[], by rw [List.append_nil]; rfl⟩
  | t :: ts, k, acc => by
    obtain ⟨r, h⟩ := text_pre ts (k + 1) (acc ++ (if k > 0 then ", " else "" : String) ++ t)
    exact ⟨_, by rw [show textFrom k acc (t :: ts) = textFrom (k + 1) (acc ++ (if k > 0 then ", " else "" : String) ++ t) ts from rfl, h, cps_toList_append, cps_toList_append, List.append_assoc, List.append_assoc]⟩
theorem tup_codes (ts : List Str) : (tupleText ts).cps.toList = 40 :: ((Str.join ", " ts).cps.toList ++ (Str.ofString (if ts.length == 1 then ",)" else ")")).cps.toList) := by
  unfold tupleText
  rw [cps_toList_append, cps_toList_append]
  rfl
theorem kind (d : PyData) : (∃ n : Nat, d = .int (n : Int)) ∨ ∃ c r, shL d = c :: r ∧ ¬ dgt c := by
  cases d with
  | none => exact .inr ⟨78, [111, 110, 101], by decide, by unfold dgt; omega⟩
  | bool b => cases b
              · exact .inr ⟨70, [97, 108, 115, 101], by decide, by unfold dgt; omega⟩
              · exact .inr ⟨84, [114, 117, 101], by decide, by unfold dgt; omega⟩
  | int i =>
    rcases Int.lt_or_le i 0 with h | h
    · refine .inr ⟨45, (Nat.repr i.natAbs).toList.map Char.toNat, ?_, by unfold dgt; omega⟩
      show (Str.ofString (toString i)).cps.toList = _
      rw [signs_ofString, Int.toString_eq_repr, Int.repr_eq_if, if_neg (by omega), String.toList_append, List.map_append]
      first
        | rfl
        | (rw [show i.natAbs = (-i).toNat by omega]; rfl)
    · exact .inl ⟨i.toNat, by rw [Int.toNat_of_nonneg h]⟩
  | str x =>
    obtain ⟨r, hr⟩ := fold_pre (fun c => (Builtin.Str.reprChar (reprQuote x) c).toArray) x.cps.toList #[reprQuote x]
    have e : shL (.str x) = reprQuote x :: (r ++ [reprQuote x]) := by
      show ((x.cps.foldl (fun out c => out ++ (Builtin.Str.reprChar (reprQuote x) c).toArray) #[reprQuote x]).push (reprQuote x)).toList = _
      rw [Array.toList_push, ← Array.foldl_toList, hr]
      rfl
    refine .inr ⟨_, _, e, ?_⟩
    unfold reprQuote dgt
    split <;> omega
  | list xs =>
    obtain ⟨r, hr⟩ := text_pre (PyData.shownAll xs) 0 "["
    refine .inr ⟨91, r ++ [93], ?_, by unfold dgt; omega⟩
    have e : shL (.list xs) = (textFrom 0 "[" (PyData.shownAll xs)).cps.toList ++ ("]" : Str).cps.toList := by
      show (PyData.shown (.list xs)).cps.toList = _
      simp only [PyData.shown]
      exact cps_toList_append _ _
    rw [e, hr]
    rfl
  | tuple xs =>
    refine .inr ⟨40, (Str.join ", " (PyData.shownAll xs)).cps.toList ++ (Str.ofString (if (PyData.shownAll xs).length == 1 then ",)" else ")")).cps.toList, ?_, by unfold dgt; omega⟩
    show (PyData.shown (.tuple xs)).cps.toList = _
    simp only [PyData.shown]
    exact tup_codes _
  | dict kvs =>
    refine .inr ⟨123, (Str.join ", " (PyData.shownKv kvs)).cps.toList ++ [125], ?_, by unfold dgt; omega⟩
    show (PyData.shown (.dict kvs)).cps.toList = _
    simp only [PyData.shown]
    show (("{" : Str) ++ Str.join ", " (PyData.shownKv kvs) ++ "}").cps.toList = _
    rw [cps_toList_append, cps_toList_append]
    rfl
theorem tup_shown (ds : List PyData) : shL (.tuple ds) = 40 :: ((Str.join ", " (PyData.shownAll ds)).cps.toList ++ (Str.ofString (if (PyData.shownAll ds).length == 1 then ",)" else ")")).cps.toList) := by
  show (PyData.shown (.tuple ds)).cps.toList = _
  simp only [PyData.shown]
  exact tup_codes _
theorem join2 (x y : Str) (r : List Str) : (Str.join ", " (x :: y :: r)).cps.toList = x.cps.toList ++ 44 :: 32 :: (Str.join ", " (y :: r)).cps.toList := by
  rw [join_cons_cons, cps_toList_append, cps_toList_append, List.append_assoc]
  rfl
theorem dig_num {d : PyData} {b : Nat} {x y : List Nat} {c c' : Nat} (hc : ¬ dgt c) (hc' : ¬ dgt c') (h : shL d ++ c :: x = shL (.int (b : Int)) ++ c' :: y) : d = .int (b : Int) ∧ c = c' ∧ x = y := by
  rcases kind d with ⟨n, rfl⟩ | ⟨e, r, he, hn⟩
  · obtain ⟨h1, h2, h3⟩ := dig_split hc hc' (nat_dgt n) (nat_dgt b) h
    exact ⟨by rw [nat_inj h1], h2, h3⟩
  · exfalso
    rw [he] at h
    cases hb : shL (.int (b : Int)) with
    | nil => exact nat_ne b hb
    | cons z zs =>
      rw [hb] at h
      have : e = z := (List.cons.inj h).1
      exact hn (this ▸ nat_dgt b z (by rw [hb]; exact List.mem_cons_self))
theorem pair_shown {ds : List PyData} {a b : Nat} (h : (PyData.tuple ds).shown = (PyData.tuple [.int (a : Int), .int (b : Int)]).shown) : ds = [.int (a : Int), .int (b : Int)] := by
  have h : shL (.tuple ds) = shL (.tuple [.int (a : Int), .int (b : Int)]) := by unfold shL; rw [h]
  have n44 : ¬ dgt 44 := by unfold dgt; omega
  have n41 : ¬ dgt 41 := by unfold dgt; omega
  have e2 : shL (.tuple [.int (a : Int), .int (b : Int)]) = 40 :: (shL (.int (a : Int)) ++ 44 :: 32 :: (shL (.int (b : Int)) ++ [41])) := by
    rw [tup_shown]
    simp only [PyData.shownAll]
    rw [join2, join_one, List.append_assoc]
    rfl
  rw [e2, tup_shown] at h
  have h := (List.cons.inj h).2
  match ds, h with
  | [], h =>
    exfalso
    have h : [41] = shL (.int (a : Int)) ++ 44 :: 32 :: (shL (.int (b : Int)) ++ [41]) := h
    have := congrArg List.length h
    simp at this
    omega
  | [d], h =>
    exfalso
    simp only [PyData.shownAll] at h
    rw [join_one] at h
    have h : shL d ++ 44 :: [41] = shL (.int (a : Int)) ++ 44 :: 32 :: (shL (.int (b : Int)) ++ [41]) := h
    have := (dig_num n44 n44 h).2.2
    cases this
  | [d, e], h =>
    simp only [PyData.shownAll] at h
    rw [join2, join_one, List.append_assoc] at h
    have h : shL d ++ 44 :: 32 :: (shL e ++ [41]) = shL (.int (a : Int)) ++ 44 :: 32 :: (shL (.int (b : Int)) ++ [41]) := h
    obtain ⟨h1, _, h3⟩ := dig_num n44 n44 h
    have h4 := (List.cons.inj h3).2
    obtain ⟨h5, _⟩ := dig_num n41 n41 h4
    rw [h1, h5]
  | d :: e :: f :: r, h =>
    exfalso
    simp only [PyData.shownAll] at h
    rw [join2, join2, List.append_assoc] at h
    have h : shL d ++ 44 :: 32 :: ((shL e ++ 44 :: 32 :: (Str.join ", " (PyData.shown f :: PyData.shownAll r)).cps.toList) ++ (Str.ofString ")").cps.toList) = shL (.int (a : Int)) ++ 44 :: 32 :: (shL (.int (b : Int)) ++ [41]) := h
    obtain ⟨h1, _, h3⟩ := dig_num n44 n44 h
    have h4 := (List.cons.inj h3).2
    rw [List.append_assoc] at h4
    obtain ⟨_, h5, _⟩ := dig_num n44 n41 h4
    cases h5
end XT
/-! what k54's law compares -/
namespace XT
open PySem PySem.Spec PyProof.Rows L2
theorem textFrom_head : ∀ (ts : List Str) (k : Nat) (acc : Str) (c : Nat) (r : List Nat), acc.cps.toList = c :: r → ∃ r', (textFrom k acc ts).cps.toList = c :: r'
  | [], _, acc, c, r, h => ⟨r, h⟩
  | t :: ts, k, acc, c, r, h => by
    show ∃ r', (textFrom (k + 1) (acc ++ (if k > 0 then ", " else "" : String) ++ t) ts).cps.toList = c :: r'
    refine textFrom_head ts (k + 1) _ c (r ++ (Str.ofString (if k > 0 then ", " else "")).cps.toList ++ t.cps.toList) ?_
    rw [cps_toList_append, cps_toList_append, h]
    rfl
theorem list_head (ds : List PyData) : ∃ r, (PyData.list ds).shown.cps.toList = 91 :: r := by
  simp only [PyData.shown]
  obtain ⟨r, hr⟩ := textFrom_head (PyData.shownAll ds) 0 "[" 91 [] rfl
  refine ⟨r ++ (Str.ofString "]").cps.toList, ?_⟩
  show (textFrom 0 "[" (PyData.shownAll ds) ++ Str.ofString "]").cps.toList = _
  rw [cps_toList_append, hr]
  rfl
theorem shown_ne {d : PyData} {ds : List PyData} (h : (∃ es, d = .tuple es) ∨ ∃ b, d = .bool b) : d.shown ≠ (PyData.list ds).shown := fun e => by
  obtain ⟨r, hr⟩ := list_head ds
  rw [← e] at hr
  rcases h with ⟨es, rfl⟩ | ⟨b, rfl⟩
  · have h2 := tup_shown es
    unfold shL at h2
    rw [h2] at hr
    exact absurd (List.cons.inj hr).1 (by decide)
  · cases b
    · have : (PyData.bool false).shown = ("False" : Str) := by simp only [PyData.shown]; rfl
      rw [this] at hr
      exact absurd (List.cons.inj hr).1 (by decide)
    · have : (PyData.bool true).shown = ("True" : Str) := by simp only [PyData.shown]; rfl
      rw [this] at hr
      exact absurd (List.cons.inj hr).1 (by decide)
/-- what is told of a ^ d and a(d) -/
def dMa (n : Nat) (p : Nat → Bool) (way : Nat) (d : PyData) : PyData := if isM n d = true then (if way = 0 then dLot n (fun x => p (x ^^^ mN d)) else .int ((pcN n p (mN d) : Nat) : Int)) else .list [.str "mask", d]
theorem isIn_isM {n : Nat} (d : PyData) : isIn 0 (((2 ^ n : Nat) : Int) - 1) d = isM n d := by
  cases d with
  | int i =>
    show (decide (0 ≤ i) && decide (i ≤ ((2 ^ n : Nat) : Int) - 1)) = (decide (0 ≤ i) && decide (i < ((2 ^ n : Nat) : Int)))
    congr 1
    exact decide_eq_decide.mpr (by omega)
  | _ => rfl
section
variable {K : PySem.W.Frag} {C : Addr} {t ta tb : TE} {σ : L2.St} {H : Hp} {n n' way : Nat} {p p' : Nat → Bool} {d : PyData} {i j l : Nat}
theorem ev_ma {z v : V} (hw : way < 2) (n1 : 1 ≤ n) (n6 : n ≤ 6) (hi : σ[i]? = some (some z)) (hz : MsAt C H z v n p) (hj : Ev (isV (.int (way : Int))) (tVar j) σ H) (hd : Ev (isD K d) (tVar l) σ H) : Ev (isD K (dMa n p way d)) (tDf (spMa K C) (tCons (tVar i) (tCons (tVar j) (tCons (tVar l) tNil)))) σ H := fun H1 s1 Q q => by
  refine ⟨z, hi, hj H1 s1 _ fun H2 x s2 ex => hd H2 (s1.trans s2) _ fun H3 y s3 gy => ?_⟩
  have s03 := (s1.trans s2).trans s3
  refine ⟨z, v, y, way, n, p, by rw [ex], hw, hz.same s03, n1, n6, ?_⟩
  unfold dMa at q
  by_cases hm : isM n d = true
  · rw [if_pos hm] at q
    obtain ⟨e1, e2⟩ := isM_mN hm
    refine .inl ⟨mN d, ?_, e2, fun w0 H' r s' g => ?_, fun w1 H' s' => ?_⟩
    · have gy : Dz K H3 y d := gy
      rw [e1] at gy
      cases gy
      rfl
    · rw [if_pos w0] at q
      exact q H' r ((s2.trans s3).trans s') (lot_dz g)
    · rw [if_neg (by omega)] at q
      exact q H' _ ((s2.trans s3).trans s') (.int _)
  · rw [if_neg hm] at q
    refine .inr ⟨.inl ⟨d, gy, Bool.eq_false_iff.mpr hm⟩, fun H' L s' nL bL => q _ _ (((s2.trans s3).trans s').trans (same_new nL)) ?_⟩
    exact .lst (SqL.of upd_same) bL (.cons (.str _) (.cons ((Dz.same s' gy).same (same_new nL)) .nil))
/-- the list that tells that y is no mask -/
abbrev isMk (y : V) : RV := fun H z => ∃ L, z = .ref L ∧ H L = some (.lst [.str "mask", y])
theorem sty_mk (y : V) : Sty (isMk y) := fun _ _ _ s ⟨L, e, h⟩ => ⟨L, e, s _ _ h⟩
theorem ev_mo {z z' v v' : V} {c : Int} (hc : c = (way : Int)) (hw : way < 2) (n1 : 1 ≤ n) (n6 : n ≤ 6) (hi : σ[i]? = some (some z)) (hz : MsAt C H z v n p) (hl : σ[l]? = some (some z')) (hz' : MsAt C H z' v' n' p') : Ev (isMk z') (tDf (spMa K C) (tCons (tVar i) (tCons (tC (.int c)) (tCons (tVar l) tNil)))) σ H := fun H1 s1 Q q => by
  subst hc
  exact ⟨z, hi, z', hl, z, v, z', way, n, p, rfl, hw, hz.same s1, n1, n6, .inr ⟨.inr ⟨n', p', v', hz'.same s1⟩, fun H' L s' nL bL => q _ _ (s'.trans (same_new nL)) ⟨L, rfl, upd_same⟩⟩⟩
theorem of_neM2 : OpF (isLv [.str "mask", .str "mask"]) (isLv [.str "mask", .str "mask"]) (rNeD K) (isB false) := fun H u v ⟨L, eu, hL⟩ ⟨L', ev, hL'⟩ Q q => by
  subst eu ev
  have all : DpAll K H [.str "mask", .str "mask"] [.str "mask", .str "mask"] := .cons (.str _) (.cons (.str _) .nil)
  exact ⟨.list [.str "mask", .str "mask"], .list [.str "mask", .str "mask"], .lst (SqL.of hL) all, .lst (SqL.of hL') all, by decide +kernel, by decide +kernel, q _ _ (Same.refl _) (congrArg V.bl (by decide +kernel))⟩
/-- what is told of two sets taken together: a text of its own, or that of the error -/
def dCb : PyData := .list [.str "width", .int 1]
end
end XT
/-! common_width, its error made as ErrG -/
namespace XT
open PySem PySem.Spec PyProof.Rows L2
section
variable {P : Program} {w : World} {K : PySem.W.Frag} {mg : Str → Option Value} {base : Heap}
def spWdG (K : PySem.W.Frag) (CW : Addr) : Sp := fun vs H Q E => ∃ (t : Addr) (ls : List Lt), vs = [.ref t] ∧ SqT K H t (ls.map (·.v)) ∧ (∀ l ∈ ls, LtAt H l) ∧ ls ≠ [] ∧
  ∀ l0 r, ls = l0 :: r → ((∀ l ∈ ls, l.n = l0.n) → ∀ H', Same H H' → Q (.int (l0.n : Int)) H') ∧ ∀ i, Odd ls l0.n i → ∀ H' d, Same H H' → H' d = some (.xd [("index", .int (i : Nat))]) → E (.ref CW) (some d) H'
theorem ok_wdG {f CW : Addr} {fd : FuncData} {k : Nat} (B : Bl mg) (F : Fun K "common_width" "common_width" sWidth f fd) (R : ErrG P w K mg base "OtherWidth" "index" CW) : FnOk P w K mg base (L2.CX P w) (k + 3) f fd ["lots"] (spWdG K CW) := by
  refine F.okX scWd (fun vs H Q E h => ?_) (fun cdv A outer s H vs Q E hr h => ?_)
  · obtain ⟨t, ls, rfl, _⟩ := h
    rfl
  · obtain ⟨t, ls, rfl, ht, hL, h0, h1⟩ := h
    refine ⟨_, pss_cons (ps_if (pt_cmpR op_eq (pe_callB call_len_seq (by rfl) B.len PySem.boot_len (pa_cons (pv 0) pa_nil)) pe_int (nomark _)) pss_never pss_nil)
      (pss_cons (ps_set (i := 1) scWd.nd rfl (.inl rfl) (pe_ix ix_tup (pe_ix ix_tup (pv 0) pe_int (fun _ _ => rfl)) pe_int (fun _ _ => rfl)))
      (pss_cons (ps_for (passes_of rfl) rfl (pi_enumT (by rfl) B.enumerate (pa_cons (pv 0) pa_nil)) (pg_tup rfl (pgs_cons (pg_name (i := 2) scWd.nd rfl (.inl rfl)) (pgs_cons (pg_name (i := 3) scWd.nd rfl (.inl rfl)) pgs_nil)))
        (pss_one (ps_if (pt_cmpR op_ne (pe_ix ix_tup (pv 3) pe_int (fun _ _ => rfl)) (pv 1) (nomark _)) (pss_one (ps_raise rfl (takes_of rfl rfl rfl rfl) (pmk_errG R (hr.mono (by omega)) (by rfl) (pa_cons (pv 2) pa_nil)))) pss_nil)))
      (pss_one (ps_ret (pv 1))))), ?_⟩
    refine ⟨.ref t, rfl, t, _, rfl, .inr ht, rfl, _, rfl, ?_⟩
    cases ls with
    | nil => exact absurd rfl h0
    | cons l0 ls' =>
      have e0 : decide (V.int (((l0 :: ls').map (·.v)).length : Nat) = V.int 0) = false := by
        rw [decide_eq_false]
        intro z
        have z2 := V.int.inj z
        rw [List.map_cons, List.length_cons] at z2
        omega
      rw [e0]
      refine iteF ?_
      obtain ⟨hs, hi⟩ := h1 l0 ls' rfl
      obtain ⟨⟨x0, y0, e1, hx0, hy0⟩, hn0⟩ := hL l0 List.mem_cons_self
      refine ⟨.ref t, rfl, t, _, 0, l0.v, rfl, rfl, ht, atI_nat (j := 0) rfl, x0, _, 0, .int l0.n, e1, rfl, SqT.of hx0, rfl, ?_⟩
      refine ⟨.ref t, rfl, t, _, rfl, ht, for_enumT (K := K) (xs := (l0 :: ls').map (·.v)) (fun i σ H' => Same H H' ∧ (∃ a b, σ = [some (.ref t), some (.int (l0.n : Int)), a, b]) ∧ ∀ j l, j < i → (l0 :: ls')[j]? = some l → l.n = l0.n) ⟨Same.refl H, ⟨none, none, rfl⟩, fun j l z => absurd z (Nat.not_lt_zero _)⟩ (fun i σ H' _ h => Same.sqT h.1 ht) (fun i v σ H' T hv h nT => ?_) (fun σ H' h => ?_)⟩
      · obtain ⟨sm, ⟨a, b, rfl⟩, hj⟩ := h
        have sT := same_new (o := .tup [.int (i : Nat), v]) nT
        rw [List.getElem?_map] at hv
        obtain ⟨l, hl, rfl⟩ := Option.map_eq_some_iff.mp hv
        obtain ⟨⟨x, y, ev, hx, hy⟩, hn⟩ := hL l (List.mem_of_getElem? hl)
        refine ⟨T, _, rfl, SqT.of upd_same, rfl, _, _, rfl, _, _, rfl, rfl, ?_⟩
        refine ⟨l.v, rfl, x, _, 0, .int l.n, ev, rfl, SqT.of (sT _ _ (sm _ _ hx)), rfl, .int l0.n, rfl, rfl, _, rfl, ?_⟩
        by_cases hne : l.n = l0.n
        · rw [hne]
          refine iteNS rfl ?_
          refine ⟨sm.trans sT, ⟨_, _, rfl⟩, fun j l2 hlt e => ?_⟩
          rcases Nat.lt_succ_iff_lt_or_eq.mp hlt with z | z
          · exact hj j l2 z e
          · rw [z, hl] at e
            cases e
            exact hne
        · have e2 : (!decide (V.int (l.n : Int) = V.int (l0.n : Int))) = true := by
            rw [decide_eq_false (fun z => hne (by have := V.int.inj z; omega))]
            rfl
          rw [e2]
          exact iteT ⟨.int i, rfl, mkoG_in fun H2 d sm2 hd => hi i ⟨⟨l, hl, hne⟩, hj⟩ H2 d ((sm.trans sT).trans sm2) hd⟩
      · obtain ⟨sm, ⟨a, b, rfl⟩, hj⟩ := h
        refine ⟨.int l0.n, rfl, hs (fun l hl => ?_) H' sm⟩
        obtain ⟨j, hj1, hj2⟩ := List.getElem_of_mem hl
        exact hj j l (by rw [List.length_map]; exact hj1) (by rw [List.getElem?_eq_getElem hj1, hj2])
theorem wdzG_of {k : Nat} {x : Str} {CW : Addr} (D : DefX P w K mg base k x (spWdG K CW)) : DefX P w K mg base k x (spWdz K CW) := by
  obtain ⟨f, fd, ps, F, h⟩ := D
  refine ⟨f, fd, ps, F.imp fun vs H Q E ⟨t, v, u, e, ht, ⟨n, p, n', p', h1, h2, n1, n6, m1, m6, ne⟩, qe⟩ => ?_, h⟩
  refine ⟨t, [⟨v, n, p⟩, ⟨u, n', p'⟩], e, ht, fun l hl => ?_, (by simp), fun l0 r el => ⟨fun hall => ?_, fun i hi H' d s' hd => ?_⟩⟩
  · rcases List.mem_cons.mp hl with rfl | hl
    · exact ⟨h1, n1, n6⟩
    · rw [List.mem_singleton.mp hl]
      exact ⟨h2, m1, m6⟩
  · obtain ⟨rfl, rfl⟩ := List.cons.inj el
    exact absurd (hall ⟨u, n', p'⟩ (by simp)).symm ne
  · obtain ⟨rfl, rfl⟩ := List.cons.inj el
    have ei : i = 1 := by
      obtain ⟨⟨l, hl, hne⟩, hlt⟩ := hi
      match i, hl with
      | 0, hl => cases hl; exact absurd rfl hne
      | 1, _ => rfl
      | i + 2, hl => cases hl
    subst ei
    exact qe H' d s' hd
theorem opI_of {C : Addr} {op : Operator} (ho : opB K C op = true) : OpI K C op := by
  obtain ⟨hr, hall⟩ := Bool.and_eq_true_iff.mp ho
  have h := List.all_eq_true.mp hall "int" (by decide)
  obtain ⟨h1, h2⟩ := Bool.and_eq_true_iff.mp h
  exact ⟨beq_iff_eq.mp hr, Option.isSome_iff_exists.mp h1, Option.isSome_iff_exists.mp h2, sub_bu "int" (by decide)⟩
end
end XT
namespace XT
open PySem PySem.Spec PyProof.Rows L2

theorem scSt : FnScope ["_law_script", "_law_cells", "_law_cell"] ["_law_script"] (defScope sStream) := ⟨rfl, rfl, rfl, by decide +kernel, rfl, by decide +kernel, by decide +kernel⟩
section
variable {P : Program} {w : World} {K : PySem.W.Frag} {mg : Str → Option Value} {base : Heap}
theorem ok_stream {f : Addr} {fd : FuncData} {k : Nat} (F : Fun K "_law_stream" "_law_stream" sStream f fd) (ml : mg "len" = none) (ma : mg "abs" = none) : FnOk P w K mg base CX0 (k + 1) f fd ["_law_script"] (spStream K) := by
  refine F.ok scSt (fun vs H Q E h => ?_) (fun cdv A outer s H vs Q E hr h => ?_)
  · obtain ⟨a, ns, rfl, _⟩ := h
    rfl
  · obtain ⟨a, ns, rfl, hA, hlen, q⟩ := h
    refine ⟨_, pss_cons (ps_setLc (i := 1) (own := [("_law_cell", 2)]) (g := gName 2) (tt := tYes) rfl scSt.nd rfl rfl (sw_true rfl rfl rfl (by decide +kernel)) (pi_list (pv 0)) (blkOk_by (own := [("_law_cell", 2)]) (N := ["_law_script", "_law_cells", "_law_cell"]) (sc := defScope sStream) (by decide +kernel))
          (fun _ _ _ _ _ => pg_name (i := 2) scSt.nd rfl (Or.inl rfl)) (fun _ _ _ _ _ => pts_nil) (fun _ _ _ _ _ => pe_callB call_abs (by rfl) ma (by decide +kernel) (pa_cons (pv 2) pa_nil)))
        (pss_one (ps_ret (pe_lst (pa_cons
          (pe_lc (own := [("_law_cell", 2)]) (g := gName 2) rfl scSt.nd (pi_list (pv 1)) (blkOk_by (own := [("_law_cell", 2)]) (N := ["_law_script", "_law_cells", "_law_cell"]) (sc := defScope sStream) (by decide +kernel))
            (fun _ _ _ _ _ => pg_name (i := 2) scSt.nd rfl (Or.inl rfl)) (fun _ _ _ _ _ => pts_one (pt_cmpR op_ge (pv 2) (pe_op op_pow pe_int pe_int) (nomark _))) (fun _ _ _ _ _ => pv 2))
          (pa_cons (pe_op op_cat (pv 1) (pe_lst (pa_cons (pe_op op_add (pe_callB call_len_seq (by rfl) ml PySem.boot_len (pa_cons (pv 1) pa_nil)) pe_int) pa_nil)))
          (pa_cons pe_int pa_nil)))))), ?_⟩
    have hml : (ns.map V.int).length ≤ 63 := by rw [List.length_map]; exact hlen
    refine ⟨.ref a, rfl, a, rfl, ⟨_, hA⟩, fun D nD => lcp_list (p := fun _ => true) (f := fun v => match v with | .int i => .int (ab i) | v => v) nD hA (small64 (by omega)) (fun i x H3 hx sm => ?_) (fun H3 sm hD => ?_)⟩
    · intro R1 R2 h1 h2
      rw [List.getElem?_map] at hx
      obtain ⟨n, -, rfl⟩ := Option.map_eq_some_iff.mp hx
      exact ⟨rfl, iteT (B := R1 H3) ⟨_, rfl, n, rfl, h2 rfl _ (Same.refl _)⟩⟩
    · -- cells
      obtain ⟨cs, hcs, hcl⟩ : ∃ cs : List Int, (((ns.map V.int).filter fun _ => true).map fun v => match v with | .int i => V.int (ab i) | v => v) = cs.map V.int ∧ cs.length = ns.length := by
        refine ⟨ns.map ab, ?_, List.length_map _⟩
        rw [List.filter_eq_self.mpr (fun _ _ => rfl), List.map_map, List.map_map]
        rfl
      rw [hcs] at hD
      have hDl : (cs.map V.int).length ≤ 63 := by rw [List.length_map]; omega
      refine ⟨.ref D, rfl, D, rfl, ⟨_, SqL.of hD⟩, fun B nB => lcp_list (p := fun v => match v with | .int i => decide (10 ^ 18 ≤ i) | _ => false) (f := id) nB (SqL.of hD) (small64 (by omega)) (fun i x H4 hx sm4 => ?_) (fun H4 sm4 hB => ?_)⟩
      · intro R1 R2 h1 h2
        rw [List.getElem?_map] at hx
        obtain ⟨n, -, rfl⟩ := Option.map_eq_some_iff.mp hx
        refine ⟨rfl, _, rfl, 10, 18, rfl, rfl, ⟨by decide, by decide, by decide⟩, n, _, rfl, rfl, _, rfl, ite2 (fun e => ?_) (fun e => ?_)⟩
        · exact ⟨_, rfl, h2 e _ (Same.refl _)⟩
        · exact h1 (by simpa using e) _ (Same.refl _)
      · have hD4 := sm4 _ _ hD
        obtain ⟨big, hbig⟩ : ∃ big : List Int, (((cs.map V.int).filter fun v => match v with | .int i => decide (10 ^ 18 ≤ i) | _ => false).map id) = big.map V.int := by
          refine ⟨cs.filter fun i => decide (10 ^ 18 ≤ i), ?_⟩
          rw [List.map_id, List.filter_map]
          rfl
        rw [hbig] at hB
        refine ⟨.ref D, rfl, .ref D, rfl, D, _, rfl, .inl (SqL.of hD4), _, _, rfl, rfl, sz (n := 1) (by decide), fun L nL => ?_⟩
        have s5 : Same H4 (upd H4 L (.lst [.int (((cs.map V.int).length : Nat) + 37)])) := same_new nL
        refine ⟨D, L, _, _, rfl, rfl, s5 _ _ hD4, upd_same, ?_, fun C nC => ?_⟩
        · rw [sizeLine_eq]; simp only [List.length_map, List.length_cons, List.length_nil]; omega
        · have s6 := same_new (o := .lst (cs.map V.int ++ [.int (((cs.map V.int).length : Nat) + 37)])) nC
          refine ⟨sz (n := 3) (by decide), fun G nG => ?_⟩
          have s7 := same_new (o := .lst [V.ref B, .ref C, .int 0]) nG
          have hBC : B ≠ C := ne_of_none (s5 _ _ hB) nC
          refine q _ ⟨G, B, C, cs ++ [(((cs.map V.int).length : Nat) : Int) + 37]⟩ (((sm.trans sm4).trans (s5.trans s6)).trans s7) ⟨big, upd_same, s7 _ _ (s6 _ _ (s5 _ _ hB)), s7 _ _ ?_, ?_, ?_, hBC, ?_, Int.le_refl _⟩
          · rw [upd_same, List.map_append]; rfl
          · exact (ne_of_none (s6 _ _ (s5 _ _ hB)) nG).symm
          · exact (ne_of_none (show (upd _ C _) C = some _ from upd_same) nG).symm
          · show 0 < (cs ++ _).length
            rw [List.length_append]; exact Nat.succ_pos _
end
end XT
namespace XT
open PySem PySem.Spec PyProof.Rows L2
abbrev nDn : List Str := ["_law_stream_here", "_law_most", "_law_width", "_law_way", "_law_count", "_law_masks", "_law_k", "_law_turn", "_law_out", "_law_mask"]
theorem scDn : FnScope nDn ["_law_stream_here", "_law_most"] (defScope sDrawn) := ⟨rfl, rfl, rfl, by decide +kernel, rfl, by decide +kernel, by decide +kernel⟩
section
variable {P : Program} {w : World} {K : PySem.W.Frag} {mg : Str → Option Value} {base : Heap}
def spDrawn : Sp := fun vs H Q _ => ∃ (S : Sm) (t : Int) (most : Nat), vs = [.ref S.s, .int (most : Int)] ∧ Strm S H t ∧ 1 ≤ most ∧ most ≤ 6 ∧ t < 10000000 ∧
  ∀ (H' : Hp) (r : V) (n : Nat) (p : Nat → Bool) (t' : Int), Step S H t H' t' 300 → 1 ≤ n → n ≤ most → LotAt H' r n p → Q r H'
/-- the masks so far -/
def MidD (S : Sm) (H : Hp) (t : Int) (most n way B : Nat) (σ : L2.St) (H' : Hp) : Prop := ∃ (M : Addr) (ks : List Nat) (t' : Int) (y6 y7 y8 : Option V),
  σ = [some (.ref S.s), some (.int (most : Int)), some (.int (n : Int)), some (.int (way : Int)), some (.int ((2 ^ n : Nat) : Int)), some (.ref M), y6, y7, y8, none] ∧
  Step S H t H' t' B ∧ H' M = some (.lst (vm ks)) ∧ M ≠ S.s ∧ M ≠ S.p ∧ (∀ k ∈ ks, k < 2 ^ n) ∧ ks.length ≤ 64
theorem fresh_s {S : Sm} {H : Hp} {t : Int} {x : Addr} (h : Strm S H t) (n : H x = none) : x ≠ S.s ∧ x ≠ S.p := by
  obtain ⟨_, h⟩ := h
  exact ⟨fun e => (by rw [e, h.hs] at n; cases n), fun e => (by rw [e, h.hp] at n; cases n)⟩
abbrev tDr (m : TE) : TE := fun σ H Q => tCons (tVar 0) (tCons m tNil) σ H fun vs H1 => spDrawN vs H1 Q E0
theorem or_eq {σ : L2.St} {H : Hp} {i : Nat} {x a b : Int} {Q : Bool → Hp → Prop} (hx : σ[i]? = some (some (.int x))) (h : Q (decide (x = a ∨ x = b)) H) : tOr (tTest (tOp rEq (tVar i) (tC (.int a)))) (tTest (tOp rEq (tVar i) (tC (.int b)))) σ H Q := by
  refine ⟨.int x, hx, rfl, _, rfl, ite2 (fun e => ?_) (fun e => ⟨.int x, hx, rfl, _, rfl, ?_⟩)⟩
  · have e1 : x = a := V.int.inj (of_decide_eq_true e)
    rw [decide_eq_true (Or.inl e1)] at h
    exact h
  · have e1 : x ≠ a := fun z => e (decide_eq_true (by rw [z]))
    by_cases e2 : x = b
    · rw [decide_eq_true (Or.inr e2)] at h
      rw [decide_eq_true (by rw [e2])]
      exact h
    · rw [decide_eq_false (fun z => z.elim e1 e2)] at h
      rw [decide_eq_false (fun z => e2 (V.int.inj z))]
      exact h
theorem ok_drawn {f : Addr} {fd : FuncData} {k : Nat} (B : Bl mg) (F : Fun K "_law_drawn" "_law_drawn" sDrawn f fd) (dD : DefR P w K mg base 1 "_law_draw" spDrawN) : FnOk P w K mg base CX0 (k + 2) f fd ["_law_stream_here", "_law_most"] spDrawn := by
  refine F.ok scDn (fun vs H Q E h => ?_) (fun cdv A outer s H vs Q E hr h => ?_)
  · obtain ⟨S, t, most, rfl, _⟩ := h
    rfl
  · obtain ⟨S, t, most, rfl, st, ml, mh, ht, q⟩ := h
    have hr1 : Room 1 (A.deeper (envOfC "_law_drawn" (defScope sDrawn) s.heap.objs.size f cdv)) := hr.mono (by omega)
    refine ⟨_, pss_cons (ps_asg (pe_tup (pa_cons (pe_op op_add pe_int (pe_def dD hr1 (by rfl) (pa_cons (pv 0) (pa_cons (pv 1) pa_nil)))) (pa_cons (pe_def dD hr1 (by rfl) (pa_cons (pv 0) (pa_cons pe_int pa_nil))) pa_nil)))
          (pg_tup rfl (pgs_cons (pg_name (i := 2) scDn.nd rfl (.inl rfl)) (pgs_cons (pg_name (i := 3) scDn.nd rfl (.inr rfl)) pgs_nil))))
      (C8.pss_cut (ps_asg (pe_tup (pa_cons (pe_op op_shl pe_int (pv 2)) (pa_cons (pe_lst pa_nil) pa_nil)))
          (pg_tup rfl (pgs_cons (pg_name (i := 4) scDn.nd rfl (.inr rfl)) (pgs_cons (pg_name (i := 5) scDn.nd rfl (.inl rfl)) pgs_nil))))
      (C8.pss_cut (ps_if (pt_cmpR op_eq (pv 3) pe_int (nomark _))
          (pss_one (ps_setLc (i := 5) (own := [("_law_mask", 9)]) (g := gName 9) (te := tVar 9) rfl scDn.nd rfl rfl (sw_true rfl rfl rfl (by decide +kernel)) (pi_range1 (by rfl) B.range (pa_cons (pv 4) pa_nil)) (blkOk_by (own := [("_law_mask", 9)]) (N := nDn) (sc := defScope sDrawn) (by decide +kernel))
            (fun _ _ _ _ _ => pg_name (i := 9) scDn.nd rfl (Or.inl rfl)) (fun _ _ _ _ _ => pts_one (pt_cmpR op_eq (pe_def dD hr1 (by rfl) (pa_cons (pv 0) (pa_cons pe_int pa_nil))) pe_int (nomark _))) (fun _ _ _ _ _ => pv 9))) pss_nil)
      (C8.pss_cut (ps_if (PW.pt (pw_or (pt_cmpR op_eq (pv 3) pe_int (nomark _)) (pw_or1 (pt_cmpR op_eq (pv 3) pe_int (nomark _)))))
          (pss_one (ps_setLc (i := 5) (own := [("_law_k", 6)]) (g := gName 6) (tt := tYes) rfl scDn.nd rfl rfl (sw_true rfl rfl rfl (by decide +kernel))
            (pi_range1 (by rfl) B.range (pa_cons (pe_def dD hr1 (by rfl) (pa_cons (pv 0) (pa_cons (pe_ix ix_list (pe_lst (pa_cons pe_int (pa_cons pe_int pa_nil))) (pe_op op_sub (pv 3) pe_int) (fun _ _ => rfl)) pa_nil))) pa_nil)) (blkOk_by (own := [("_law_k", 6)]) (N := nDn) (sc := defScope sDrawn) (by decide +kernel))
            (fun _ _ _ _ _ => pg_name (i := 6) scDn.nd rfl (Or.inl rfl)) (fun _ _ _ _ _ => pts_nil) (fun _ _ _ _ _ => pe_def dD hr1 (by rfl) (pa_cons (pv 0) (pa_cons (pv 4) pa_nil))))) pss_nil)
      (C8.pss_cut (ps_if (PW.pt (pw_or (pt_cmpR op_eq (pv 3) pe_int (nomark _)) (pw_or1 (pt_cmpR op_eq (pv 3) pe_int (nomark _)))))
          (pss_cons (ps_set (i := 5) scDn.nd rfl (.inl rfl) (pe_lst (pa_cons (pe_def dD hr1 (by rfl) (pa_cons (pv 0) (pa_cons (pv 4) pa_nil))) pa_nil)))
          (pss_one (ps_for PassesOwn.never rfl (pi_range1 (by rfl) B.range (pa_cons (pe_def dD hr1 (by rfl) (pa_cons (pv 0) (pa_cons pe_int pa_nil))) pa_nil)) (pg_name (i := 6) scDn.nd rfl (.inl rfl))
            (pss_cons (ps_set (i := 7) scDn.nd rfl (.inr rfl) (pe_def dD hr1 (by rfl) (pa_cons (pv 0) (pa_cons (pv 4) pa_nil))))
            (pss_one (ps_set (i := 5) scDn.nd rfl (.inl rfl) (pe_op op_cat (pv 5)
              (pe_lc (own := [("_law_mask", 9)]) (g := gName 9) rfl scDn.nd (pi_list (pv 5)) (blkOk_by (own := [("_law_mask", 9)]) (N := nDn) (sc := defScope sDrawn) (by decide +kernel))
                (fun _ _ _ _ _ => pg_name (i := 9) scDn.nd rfl (Or.inl rfl)) (fun _ _ _ _ _ => pts_one (pt_cmpR op_gt (pe_def dD hr1 (by rfl) (pa_cons (pv 0) (pa_cons pe_int pa_nil))) (pe_op op_sub pe_int (pv 3)) (nomark _)))
                (fun _ _ _ _ _ => pe_op op_xor (pv 9) (pv 7)))))))))) pss_nil)
      (C8.pss_cut (ps_if (pt_cmpR op_eq (pv 3) pe_int (nomark _))
          (pss_cons (ps_set (i := 8) scDn.nd rfl (.inr rfl)
            (pe_lc (own := [("_law_k", 6)]) (g := gName 6) (tt := tYes) rfl scDn.nd (pi_range1 (by rfl) B.range (pa_cons (pe_def dD hr1 (by rfl) (pa_cons (pv 0) (pa_cons pe_int pa_nil))) pa_nil)) (blkOk_by (own := [("_law_k", 6)]) (N := nDn) (sc := defScope sDrawn) (by decide +kernel))
              (fun _ _ _ _ _ => pg_name (i := 6) scDn.nd rfl (Or.inl rfl)) (fun _ _ _ _ _ => pts_nil) (fun _ _ _ _ _ => pe_def dD hr1 (by rfl) (pa_cons (pv 0) (pa_cons (pv 4) pa_nil)))))
          (pss_one (ps_setLc (i := 5) (own := [("_law_mask", 9)]) (g := gName 9) (tt := tTest (tOp (rIn K true) (tVar 9) (tVar 8))) (te := tVar 9) rfl scDn.nd rfl rfl (sw_true rfl rfl rfl (by decide +kernel)) (pi_range1 (by rfl) B.range (pa_cons (pv 4) pa_nil)) (blkOk_by (own := [("_law_mask", 9)]) (N := nDn) (sc := defScope sDrawn) (by decide +kernel))
            (fun _ _ _ _ _ => pg_name (i := 9) scDn.nd rfl (Or.inl rfl)) (fun _ _ _ _ _ => pts_one (pt_cmpR op_notIn_seq (pv 9) (pv 8) (by rfl))) (fun _ _ _ _ _ => pv 9)))) pss_nil)
      (pss_one (ps_ret (pe_tup (pa_cons (pv 2) (pa_cons (pe_callTy call_tuple_of (by rfl) B.tuple bT (pa_cons (pe_callB (cr_sortS rfl) (by rfl) B.sorted bS (pa_cons (pe_callTy (cr_setL rfl) (by rfl) B.set bSet (pa_cons (pv 5) pa_nil)) pa_nil)) pa_nil)) pa_nil)))))))))), ?_⟩
    -- width, way
    refine ⟨.ref S.s, rfl, .int most, rfl, S, t, most, rfl, st, by omega, by omega, by omega, fun H1 r1 t1 s1 hr1 => ?_⟩
    refine ⟨1, r1, rfl, rfl, .ref S.s, rfl, S, t1, 6, rfl, s1.st, by omega, by omega, by have := s1.hi; omega, fun H2 way t2 s2 hway => ?_⟩
    refine ⟨sz (n := 2) (by decide), fun T nT => ⟨T, _, rfl, SqT.of upd_same, rfl, _, _, rfl, _, _, rfl, rfl, ?_⟩⟩
    have s3 := (s1.trans s2).same (same_new (o := .tup [.int (1 + (r1 : Int)), .int (way : Int)]) nT)
    obtain ⟨n, hn⟩ : ∃ n : Nat, n = 1 + r1 := ⟨_, rfl⟩
    have hn1 : 1 ≤ n := by omega
    have hn6 : n ≤ most := by omega
    -- count, masks
    refine ⟨MidD S H t most n way 10, ?_, fun σ0 H0 mid0 => ?_⟩
    · refine ⟨.int (1 + (r1 : Int)), rfl, 1, (n : Int), rfl, by rw [hn]; rfl, cpow (by omega), sz (n := 0) (by decide), fun M nM => ⟨sz (n := 2) (by decide), fun T2 nT2 => ⟨T2, _, rfl, SqT.of upd_same, rfl, _, _, rfl, _, _, rfl, rfl, ?_⟩⟩⟩
      have fs := fresh_s s3.st nM
      have s4 := s3.same (same_new (o := .lst []) nM)
      refine ⟨M, [], t2, none, none, none, ?_, (s4.same (same_new nT2)).mono (by omega), ?_, fs.1, fs.2, by simp, by simp⟩
      · rw [← shl1 n, hn]
        rfl
      · rw [upd_ne (ne_of_none upd_same nT2)]
        exact upd_same
    -- if way == 0
    refine ⟨MidD S H t most n way 80, ?_, fun σ1 H1 mid1 => ?_⟩
    · obtain ⟨M, ks, t', y6, y7, y8, rfl, stp, hM, as, ap, hk, hl⟩ := mid0
      refine ⟨.int way, rfl, rfl, _, rfl, ite2 (fun e => ?_) (fun e => ?_)⟩
      · refine ⟨.int ((2 ^ n : Nat) : Int), rfl, ((2 ^ n : Nat) : Int), rfl, l62, r62 (by omega), fun D nD => ?_⟩
        have p6 := pow6 (w := n) (by omega)
        have hi0 := stp.hi
        refine lcs_range (S := S) (c := 2 ^ n) (d := 1) (n := 2 ^ n) stp.st nD (by omega) (fun i H3 t3 hi s3 => ?_) (fun H3 pv => ?_)
        · intro R1 R2 h1 h2
          have hi3 := s3.hi
          refine ⟨rfl, .ref S.s, rfl, S, t3, 2, rfl, s3.st, by omega, by omega, by omega, fun H4 r t4 s4 hr4 => ⟨rfl, _, rfl, ite2 (fun e => ?_) (fun e => ?_)⟩⟩
          · refine ⟨.int (0 + (i : Int)), rfl, ?_⟩
            rw [Int.zero_add]
            exact h2 i H4 t4 s4 hi
          · exact h1 H4 t4 s4
        · obtain ⟨ks2, t3, s3, hD, hk2, hl2⟩ := pv
          have fs := fresh_s stp.st nD
          exact ⟨D, ks2, t3, y6, y7, y8, rfl, (stp.trans s3).mono (by omega), hD, fs.1, fs.2, hk2, by omega⟩
      · exact ⟨M, ks, t', y6, y7, y8, rfl, stp.mono (by omega), hM, as, ap, hk, hl⟩
    -- if way == 1 or way == 2
    refine ⟨MidD S H t most n way 100, ?_, fun σ2 H2 mid2 => ?_⟩
    · obtain ⟨M, ks, t', y6, y7, y8, rfl, stp, hM, as, ap, hk, hl⟩ := mid1
      refine or_eq (x := (way : Int)) rfl (ite2 (fun e => ?_) (fun e => ?_))
      · have e1 : way = 1 ∨ way = 2 := by
          have := of_decide_eq_true e
          omega
        obtain ⟨m, hm, hm7⟩ : ∃ m : Nat, atI [V.int 3, V.int 7] ((way : Int) - 1) = some (.int (m : Int)) ∧ (m = 3 ∨ m = 7) := by
          rcases e1 with rfl | rfl
          · exact ⟨3, rfl, .inl rfl⟩
          · exact ⟨7, rfl, .inr rfl⟩
        have hi0 := stp.hi
        refine ⟨.ref S.s, rfl, sz (n := 2) (by decide), fun L nL => ⟨.int way, rfl, way, 1, rfl, rfl, L, _, (way : Int) - 1, .int (m : Int), rfl, rfl, SqL.of upd_same, hm, ?_⟩⟩
        have s0 := stp.same (same_new (o := .lst [.int 3, .int 7]) nL)
        refine ⟨S, t', m, rfl, s0.st, by omega, by omega, by omega, fun H3 r t3 s3 hr3 => ?_⟩
        have hi3 := s3.hi
        refine ⟨r, rfl, by omega, by omega, fun D nD => ?_⟩
        have p6 := pow6 (w := n) (by omega)
        have p0 := pow0 n
        refine lcs_range (S := S) (c := 2 ^ n) (d := 1) (n := r) (g := gName 6) (tt := tYes) (te := tDr (tVar 4)) (vs := [6]) s3.st nD (by omega) (fun i H4 t4 hi s4 => ?_) (fun H4 pv => ?_)
        · intro R1 R2 h1 h2
          have hi4 := s4.hi
          refine ⟨rfl, iteT (B := R1 H4) ⟨.ref S.s, rfl, .int ((2 ^ n : Nat) : Int), rfl, S, t4, 2 ^ n, rfl, s4.st, by omega, by omega, by omega, fun H5 r5 t5 s5 hr5 => h2 r5 H5 t5 s5 hr5⟩⟩
        · obtain ⟨ks2, t4, s4, hD, hk2, hl2⟩ := pv
          have fs := fresh_s s3.st nD
          exact ⟨D, ks2, t4, y6, y7, y8, rfl, ((s0.trans s3).trans s4).mono (by omega), hD, fs.1, fs.2, hk2, by omega⟩
      · exact ⟨M, ks, t', y6, y7, y8, rfl, stp.mono (by omega), hM, as, ap, hk, hl⟩
    -- if way == 3 or way == 4
    refine ⟨MidD S H t most n way 200, ?_, fun σ3 H3 mid3 => ?_⟩
    · obtain ⟨M, ks, t', y6, y7, y8, rfl, stp, hM, as, ap, hk, hl⟩ := mid2
      refine or_eq (x := (way : Int)) rfl (ite2 (fun e => ?_) (fun e => ?_))
      · have hi0 := stp.hi
        have p6 := pow6 (w := n) (by omega)
        have p0 := pow0 n
        refine ⟨.ref S.s, rfl, .int ((2 ^ n : Nat) : Int), rfl, S, t', 2 ^ n, rfl, stp.st, by omega, by omega, by omega, fun H3 r t3 s3 hr3 => ⟨sz (n := 1) (by decide), fun L nL => ?_⟩⟩
        have fs := fresh_s s3.st nL
        have s4 := (stp.trans s3).same (same_new (o := .lst [.int (r : Int)]) nL)
        have hi4 := s4.hi
        refine ⟨.ref S.s, rfl, S, t3, 4, rfl, s4.st, by omega, by omega, by omega, fun H5 r5 t5 s5 hr5 => ⟨r5, rfl, by omega, by omega, ?_⟩⟩
        have hL5 := s5.keep L _ fs.1 fs.2 (show (upd H3 L (.lst [.int (r : Int)])) L = some (.lst (vm [r])) from upd_same)
        refine for_range (lo := 0) (n := r5) (fun i σ K0 => ∃ (M : Addr) (ks : List Nat) (t' : Int) (z6 z7 : Option V),
          σ = [some (.ref S.s), some (.int (most : Int)), some (.int (n : Int)), some (.int (way : Int)), some (.int ((2 ^ n : Nat) : Int)), some (.ref M), z6, z7, y8, none] ∧
          Step S H t K0 t' (102 + 9 * i) ∧ K0 M = some (.lst (vm ks)) ∧ M ≠ S.s ∧ M ≠ S.p ∧ (∀ k ∈ ks, k < 2 ^ n) ∧ ks.length ≤ 2 ^ i) ?_ (fun i σ K0 hi h => ?_) (fun σ K0 h => ?_)
        · exact ⟨L, [r], t5, y6, y7, rfl, (s4.trans s5).mono (by omega), hL5, fs.1, fs.2, by simpa using hr3, by simp⟩
        · obtain ⟨M, ks, t6, z6, z7, rfl, s6, hM6, as6, ap6, hk6, hl6⟩ := h
          have hi6 := s6.hi
          have pi : 2 ^ i ≤ 4 := by
            have : i = 0 ∨ i = 1 ∨ i = 2 := by omega
            rcases this with rfl | rfl | rfl <;> decide
          refine ⟨.ref S.s, rfl, .int ((2 ^ n : Nat) : Int), rfl, S, t6, 2 ^ n, rfl, s6.st, by omega, by omega, by omega, fun H7 r7 t7 s7 hr7 => ?_⟩
          have hi7 := s7.hi
          have hM7 := s7.keep M _ as6 ap6 hM6
          refine ⟨.ref M, rfl, .ref M, rfl, M, rfl, ⟨_, SqL.of hM7⟩, fun D nD => ?_⟩
          have fsD := fresh_s s7.st nD
          refine lcs_list (S := S) (c := 2 ^ n) (d := 1) (ms := ks) s7.st nD hM7 as6 ap6 (by omega) (fun j m H8 t8 hj s8 => ?_) (fun H8 pv => ?_)
          · intro R1 R2 h1 h2
            have hi8 := s8.hi
            have hjl : j < ks.length := (List.getElem?_eq_some_iff.mp hj).1
            refine ⟨rfl, .ref S.s, rfl, S, t8, 9, rfl, s8.st, by omega, by omega, by omega, fun H9 r9 t9 s9 hr9 => ⟨.int way, rfl, 4, way, rfl, rfl, r9, _, rfl, rfl, _, rfl, ite2 (fun e => ?_) (fun e => ?_)⟩⟩
            · refine ⟨.int m, rfl, .int r7, rfl, m, r7, rfl, rfl, ?_⟩
              show R2 (.int (Builtin.bitXor (m : Int) (r7 : Int))) H9
              rw [bx]
              exact h2 (m ^^^ r7) H9 t9 s9 (xor_lt (hk6 m (List.mem_of_getElem? hj)) hr7)
            · exact h1 H9 t9 s9
          · obtain ⟨ks8, t8, s8, hD8, hk8, hl8⟩ := pv
            have hM8 := s8.keep M _ as6 ap6 hM7
            refine ⟨M, D, vm ks, vm ks8, rfl, rfl, hM8, hD8, ?_, fun C nC => ?_⟩
            · rw [vm_len, vm_len]; exact sz (by omega)
            · have fsC := fresh_s s8.st nC
              have s9 := ((s6.trans s7).trans s8).same (same_new (o := .lst (vm ks ++ vm ks8)) nC)
              refine ⟨C, ks ++ ks8, t8, some (.int (0 + (i : Int))), some (.int (r7 : Int)), rfl, s9.mono (by omega), ?_, fsC.1, fsC.2, ?_, ?_⟩
              · rw [upd_same]; unfold vm; rw [List.map_append]
              · intro k hk
                rcases List.mem_append.mp hk with hk | hk
                · exact hk6 k hk
                · exact hk8 k hk
              · rw [List.length_append, Nat.pow_succ]; omega
        · obtain ⟨M, ks, t6, z6, z7, rfl, s6, hM6, as6, ap6, hk6, hl6⟩ := h
          have pi : 2 ^ r5 ≤ 8 := by
            have : r5 = 0 ∨ r5 = 1 ∨ r5 = 2 ∨ r5 = 3 := by omega
            rcases this with rfl | rfl | rfl | rfl <;> decide
          exact ⟨M, ks, t6, z6, z7, y8, rfl, s6.mono (by omega), hM6, as6, ap6, hk6, by omega⟩
      · exact ⟨M, ks, t', y6, y7, y8, rfl, stp.mono (by omega), hM, as, ap, hk, hl⟩
    -- if way == 5
    refine ⟨MidD S H t most n way 300, ?_, fun σ4 H4 mid4 => ?_⟩
    · obtain ⟨M, ks, t', y6, y7, y8, rfl, stp, hM, as, ap, hk, hl⟩ := mid3
      refine ⟨.int way, rfl, rfl, _, rfl, ite2 (fun e => ?_) (fun e => ?_)⟩
      · have hi0 := stp.hi
        have p6 := pow6 (w := n) (by omega)
        have p0 := pow0 n
        refine ⟨.ref S.s, rfl, S, t', 4, rfl, stp.st, by omega, by omega, by omega, fun H5 r5 t5 s5 hr5 => ⟨r5, rfl, by omega, by omega, fun D nD => ?_⟩⟩
        have hi5 := s5.hi
        have fs := fresh_s s5.st nD
        refine lcs_range (S := S) (c := 2 ^ n) (d := 1) (n := r5) (g := gName 6) (tt := tYes) (te := tDr (tVar 4)) (vs := [6]) s5.st nD (by omega) (fun i H6 t6 hi s6 => ?_) (fun H6 pv => ?_)
        · intro R1 R2 h1 h2
          have hi6 := s6.hi
          refine ⟨rfl, iteT (B := R1 H6) ⟨.ref S.s, rfl, .int ((2 ^ n : Nat) : Int), rfl, S, t6, 2 ^ n, rfl, s6.st, by omega, by omega, by omega, fun H7 r7 t7 s7 hr7 => h2 r7 H7 t7 s7 hr7⟩⟩
        · obtain ⟨ks6, t6, s6, hD6, hk6, hl6⟩ := pv
          refine ⟨.int ((2 ^ n : Nat) : Int), rfl, ((2 ^ n : Nat) : Int), rfl, l62, r62 (by omega), fun L nL => ?_⟩
          have fsL := fresh_s s6.st nL
          refine lcp_range (n := 2 ^ n) (p := fun m => !decide (m ∈ ks6)) (f := fun m => .int (m : Int)) nL (small64 (by omega)) (fun i H7 hi s7 => ?_) (fun H7 s7 hL => ?_)
          · intro R1 R2 h1 h2
            refine ⟨rfl, _, rfl, .ref D, rfl, D, _, rfl, .inl (SqL.of (s7 _ _ hD6)), rfl, vm_flat _, _, rfl, ?_⟩
            have e : inV (.int (0 + (i : Int))) (vm ks6) = decide (i ∈ ks6) := by
              rw [Int.zero_add]; exact in_vm i ks6
            show if (!inV (.int (0 + (i : Int))) (vm ks6)) = true then _ else _
            rw [e]
            refine ite2 (fun z => ?_) (fun z => ?_)
            · refine ⟨.int (0 + (i : Int)), rfl, ?_⟩
              rw [Int.zero_add]
              exact h2 z _ (Same.refl _)
            · exact h1 (by simpa using z) _ (Same.refl _)
          · refine ⟨L, (List.range (2 ^ n)).filter fun m => !decide (m ∈ ks6), t6, y6, y7, some (.ref D), rfl, (((stp.trans s5).trans s6).same s7).mono (by omega), hL, fsL.1, fsL.2, fun k hk => ?_, ?_⟩
            · exact List.mem_range.mp (List.mem_filter.mp hk).1
            · refine Nat.le_trans (List.length_filter_le _ _) ?_
              rw [List.length_range]; exact p6
      · exact ⟨M, ks, t', y6, y7, y8, rfl, stp.mono (by omega), hM, as, ap, hk, hl⟩
    -- return
    obtain ⟨M, ks, t', y6, y7, y8, rfl, stp, hM, as, ap, hk, hl⟩ := mid4
    refine ⟨.int n, rfl, .ref M, rfl, M, ks.map fun (k : Nat) => (k : Int), rfl, SqL.of (by rw [hM, vm_ints]), by rw [List.length_map]; omega, fun G c nG => ?_⟩
    have sG := same_new (o := SetO w G (fun j => decide (j ∈ ks.map fun (k : Nat) => (k : Int))) c) nG
    refine ⟨G, _, c, rfl, upd_same, fun ns L asc hm nL => ?_⟩
    have sL := same_new (o := .lst (ns.map V.int)) nL
    refine ⟨L, _, rfl, .inl ⟨SqL.of upd_same, fun T3 nT3 => ⟨sz (n := 2) (by decide), fun U nU => ?_⟩⟩⟩
    refine q _ _ n (fun m => decide (m ∈ ks)) t' ((((stp.same sG).same sL).same (same_new nT3)).same (same_new nU)) hn1 hn6 ⟨U, T3, rfl, upd_same, ?_⟩
    rw [upd_ne (ne_of_none upd_same nU), upd_same, rising_lot (w := n) (P := fun m => decide (m ∈ ks)) asc fun z => ?_]
    rw [hm z, decide_eq_true_iff, List.mem_map]
    constructor
    · rintro ⟨m, h1, h2⟩
      exact ⟨m, h2.symm, hk m h1, decide_eq_true h1⟩
    · rintro ⟨m, h1, h2, h3⟩
      exact ⟨m, of_decide_eq_true h3, h1.symm⟩
end
end XT
/-! _law_moved -/
namespace XT
open PySem PySem.Spec PyProof.Rows L2
section
variable {P : Program} {w : World} {K : PySem.W.Frag} {mg : Str → Option Value} {base : Heap}
abbrev nMv : List Str := ["_law_lot", "_law_mask", "_law_width", "_law_masks", "_law_one"]
theorem scMv : FnScope nMv ["_law_lot", "_law_mask"] (defScope sLMoved) := ⟨rfl, rfl, rfl, by decide +kernel, rfl, by decide +kernel, by decide +kernel⟩
def spMv : Sp := fun vs H Q _ => ∃ (v : V) (n a : Nat) (p : Nat → Bool), vs = [v, .int (a : Int)] ∧ LotAt H v n p ∧ n ≤ 6 ∧ a < 2 ^ n ∧ ∀ H' r, Same H H' → LotAt H' r n (fun m => p (m ^^^ a)) → Q r H'
theorem ok_mv {f : Addr} {fd : FuncData} {k : Nat} (B : Bl mg) (F : Fun K "_law_moved" "_law_moved" sLMoved f fd) : FnOk P w K mg base CX0 (k + 1) f fd ["_law_lot", "_law_mask"] spMv := by
  refine F.ok scMv (fun vs H Q E h => ?_) (fun cdv A outer s H vs Q E hr h => ?_)
  · obtain ⟨v, n, a, p, rfl, _⟩ := h
    rfl
  · obtain ⟨v, n, a, p, rfl, ⟨x, y, rfl, hx, hy⟩, hn, ha, q⟩ := h
    refine ⟨_, pss_cons (ps_asg (pv 0) (pg_tup rfl (pgs_cons (pg_name (i := 2) scMv.nd rfl (by first | exact Or.inl rfl | exact Or.inr rfl)) (pgs_cons (pg_name (i := 3) scMv.nd rfl (by first | exact Or.inl rfl | exact Or.inr rfl)) pgs_nil))))
      (pss_one (ps_ret (pe_tup (pa_cons (pv 2) (pa_cons (pe_callTy call_tuple_of (by rfl) B.tuple bT (pa_cons
        (pe_lc (own := [("_law_one", 4)]) (g := gName 4) (te := tVar 4) (tt := tTest (tOp (rIn K false) (tOp rXor (tVar 4) (tVar 1)) (tVar 3))) rfl scMv.nd (pi_range1 (by rfl) B.range (pa_cons (pe_op op_shl pe_int (pv 2)) pa_nil)) (blkOk_by (own := [("_law_one", 4)]) (N := nMv) (sc := defScope sLMoved) (by decide +kernel))
          (fun _ _ _ _ _ => pg_name (i := 4) scMv.nd rfl (Or.inl rfl)) (fun _ _ _ _ _ => pts_one (pt_cmpR op_in_seq (pe_op op_xor (pv 4) (pv 1)) (pv 3) (by rfl))) (fun _ _ _ _ _ => pv 4)) pa_nil)) pa_nil))))), ?_⟩
    refine ⟨.ref x, rfl, x, _, rfl, SqT.of hx, rfl, _, _, rfl, _, _, rfl, rfl, ?_⟩
    have h6 := pow6 hn
    refine ⟨.int n, rfl, .int n, rfl, 1, n, rfl, rfl, cpow hn, ((2 ^ n : Nat) : Int), congrArg (fun z => [V.int z]) (shl1 n), l62, r62 hn, fun D nD => ?_⟩
    refine lcp_range (n := 2 ^ n) (p := fun m => p (m ^^^ a)) (f := fun m => .int (m : Int)) nD (small64 (by omega)) (fun i H3 hi sm => ?_) (fun H3 sm hD => ?_)
    · intro R1 R2 h1 h2
      refine ⟨rfl, _, rfl, .int (a : Int), rfl, 0 + (i : Int), (a : Int), rfl, rfl, .ref y, rfl, y, _, rfl, .inr (SqT.of (sm _ _ hy)), rfl, vm_flat _, _, rfl, ?_⟩
      have e : inV (.int (Builtin.bitXor (0 + (i : Int)) (a : Int))) (vm (lotOf n p)) = p (i ^^^ a) := by
        rw [Int.zero_add, bx, in_lot (xor_lt hi ha)]
      show if inV (.int (Builtin.bitXor (0 + (i : Int)) (a : Int))) (vm (lotOf n p)) = true then _ else _
      rw [e]
      refine ite2 (fun z => ?_) (fun z => ?_)
      · refine ⟨.int (0 + (i : Int)), rfl, ?_⟩
        rw [Int.zero_add]
        exact h2 z _ (Same.refl _)
      · exact h1 (by simpa using z) _ (Same.refl _)
    · refine ⟨D, _, rfl, .inl ⟨SqL.of hD, fun T nT => ⟨sz (n := 2) (by decide), fun U nU => ?_⟩⟩⟩
      refine q _ _ ((sm.trans (same_new nT)).trans (same_new nU)) ⟨U, T, rfl, upd_same, ?_⟩
      rw [upd_ne (ne_of_none upd_same nU), upd_same]
      rfl
end
end XT
namespace XT
open PySem PySem.Spec PyProof.Rows L2
section
variable {P : Program} {w : World} {K : PySem.W.Frag} {mg : Str → Option Value} {base : Heap}
abbrev nLp : List Str := ["_law_lot", "_law_width", "_law_masks", "_law_d", "_law_x"]
theorem scLp : FnScope nLp ["_law_lot"] (defScope sLPairs) := ⟨rfl, rfl, rfl, by decide +kernel, rfl, by decide +kernel, by decide +kernel⟩
def outLp : Scope := match (defBody sLPairs).getD 1 (.Pass ⟨0, 0, 0, 0⟩) with
  | .Return (some (.Call _ [.ListComp _ _ sc _] _ _)) _ => sc
  | _ => defScope sLPairs
theorem ok_Lp {f : Addr} {fd : FuncData} {k : Nat} (B : Bl mg) (F : Fun K "_law_pairs" "_law_pairs" sLPairs f fd) : FnOk P w K mg base CX0 (k + 1) f fd ["_law_lot"] spPc := by
  refine F.ok scLp (fun vs H Q E h => ?_) (fun cdv A outer s H vs Q E hr h => ?_)
  · obtain ⟨v, n, p, rfl, _⟩ := h
    rfl
  · obtain ⟨v, n, p, rfl, ⟨x, y, rfl, hx, hy⟩, hn, q⟩ := h
    refine ⟨_, pss_cons (ps_asg (pv 0) (pg_tup rfl (pgs_cons (pg_name (i := 1) scLp.nd rfl (by first | exact Or.inl rfl | exact Or.inr rfl)) (pgs_cons (pg_name (i := 2) scLp.nd rfl (by first | exact Or.inl rfl | exact Or.inr rfl)) pgs_nil))))
      (pss_one (ps_ret (pe_callTy call_tuple_of (by rfl) B.tuple bT (pa_cons
        (pe_lc (own := [("_law_d", 3)]) (g := gName 3) (tt := tYes) (te := tePc K)
          rfl scLp.nd (pi_range1 (by rfl) B.range (pa_cons (pe_op op_shl pe_int (pv 1)) pa_nil))
          (blkOk_by (own := [("_law_d", 3)]) (N := nLp) (sc := defScope sLPairs) (by decide +kernel))
          (fun _ _ _ _ _ => pg_name (i := 3) scLp.nd rfl (Or.inr rfl)) (fun _ _ _ _ _ => pts_nil)
          (fun _ _ _ _ _ => pe_callB call_len_seq (by rfl) B.len PySem.boot_len (pa_cons
            (pe_lc (own := [("_law_x", 4)]) (g := gName 4) (tt := ttPc K) (te := tVar 4) rfl scLp.nd (pi_tup (pv 2))
              (blkOk_by (own := [("_law_x", 4)]) (N := nLp) (sc := relS outLp (defScope sLPairs)) (by decide +kernel))
              (fun _ _ _ _ _ => pg_name (i := 4) scLp.nd rfl (Or.inl rfl)) (fun _ _ _ _ _ => pts_one (pt_cmpR op_in_seq (pe_op op_xor (pv 4) (pv 3)) (pv 2) (by rfl))) (fun _ _ _ _ _ => pv 4)) pa_nil))) pa_nil)))), ?_⟩
    refine ⟨.ref x, rfl, x, _, rfl, SqT.of hx, rfl, _, _, rfl, _, _, rfl, rfl, ?_⟩
    refine ⟨.int n, rfl, 1, n, rfl, rfl, cpow hn, ((2 ^ n : Nat) : Int), congrArg (fun z => [V.int z]) (shl1 n), l62, r62 hn, fun D nD => ?_⟩
    exact pc_walk hn hy nD (fun H3 s3 hD => ⟨D, _, rfl, .inl ⟨SqL.of hD, fun L nL => q _ _ (s3.trans (same_new nL)) ⟨L, rfl, upd_same⟩⟩⟩)
end
end XT
/-! _law_odd, _law_pick -/
namespace XT
open PySem PySem.Spec PyProof.Rows L2
abbrev nOd : List Str := ["_law_stream_here", "_law_some"]
theorem scOd : FnScope nOd ["_law_stream_here"] (defScope sLOdd) := ⟨rfl, rfl, rfl, by decide +kernel, rfl, by decide +kernel, by decide +kernel⟩
section
variable {P : Program} {w : World} {K : PySem.W.Frag} {mg : Str → Option Value} {base : Heap}
def spOddS (K : PySem.W.Frag) : Sp := fun vs H Q _ => ∃ (S : Sm) (t : Int) (Nw : Addr → Prop), vs = [.ref S.s] ∧ Strm S H t ∧ t < 1000000 ∧ NwOk S H Nw ∧ ∀ (H' : Hp) (v : V) (d : PyData) (t' : Int), Step S H t H' t' 1 → Dv K (fun b => Nw b ∧ H' b ≠ none) H' v d → d ∈ oddD → Q v H'
theorem ok_oddS {f : Addr} {fd : FuncData} {k : Nat} (F : Fun K "_law_odd" "_law_odd" sLOdd f fd) (dD : DefR P w K mg base 1 "_law_draw" spDrawN) : FnOk P w K mg base CX0 (k + 2) f fd ["_law_stream_here"] (spOddS K) := by
  refine F.ok scOd (fun vs H Q E h => ?_) (fun cdv A outer s H vs Q E hr h => ?_)
  · obtain ⟨S, t, Nw, rfl, _⟩ := h
    rfl
  · obtain ⟨S, t, Nw, rfl, st, ht, hw, q⟩ := h
    refine ⟨_, pss_cons (ps_set (i := 1) scOd.nd rfl (.inl rfl) (pe_lst (pa_cons pe_non (pa_cons pe_bl (pa_cons pe_bl (pa_cons (pe_un un_neg pe_int) (pa_cons pe_int (pa_cons pe_int (pa_cons pe_int (pa_cons pe_int (pa_cons pe_int (pa_cons pe_int (pa_cons pe_int (pa_cons pe_int
        (pa_cons (pe_op op_pow pe_int pe_int) (pa_cons pe_str (pa_cons pe_str (pa_cons pe_str (pa_cons (pe_tup pa_nil) (pa_cons (pe_lstB pa_nil) (pa_cons pe_dnewK (pa_cons (pe_tup (pa_cons pe_int pa_nil)) (pa_cons (pe_lstB (pa_cons pe_int pa_nil)) (pa_cons (pe_tup (pa_cons pe_bl pa_nil)) pa_nil))))))))))))))))))))))))
      (pss_one (ps_ret (pe_ix ix_list (pe_op op_cat (pv 1) (pe_lst (pa_cons (pe_tup (pa_cons pe_int (pa_cons (pe_tup (pa_cons pe_int pa_nil)) pa_nil))) (pa_cons (pe_tup (pa_cons pe_int (pa_cons pe_int pa_nil))) (pa_cons (pe_disp (pps_cons pe_str pe_int pps_nil) rfl rfl (by decide) (by decide)) (pa_cons pe_str pa_nil))))))
        (pe_def dD (hr.mono (by omega)) (by rfl) (pa_cons (pv 0) (pa_cons pe_int pa_nil))) (fun _ _ => rfl)))), ?_⟩
    refine ⟨1, rfl, 10, 39, rfl, rfl, ⟨by decide, by decide, by decide⟩, sz (n := 0) (by decide), fun T1 nT1 => ⟨sz (n := 0) (by decide), fun L1 nL1 bL1 D1 nD1 => ⟨sz (n := 1) (by decide), fun T2 nT2 => ⟨sz (n := 1) (by decide), fun L2 nL2 bL2 => ⟨sz (n := 1) (by decide), fun T3 nT3 => ⟨sz (n := 22) (by decide), fun S0 nS0 => ?_⟩⟩⟩⟩⟩⟩
    have m1 := same_new (o := .tup []) nT1
    have m2 := same_new (o := .lst []) nL1
    have m3 := same_new (o := .dK []) nD1
    have m4 := same_new (o := .tup [.int 0]) nT2
    have m5 := same_new (o := .lst [.int 0]) nL2
    have m6 := same_new (o := .tup [.bl true]) nT3
    let xs : List V := [.non, .bl true, .bl false, .int (-1), .int 0, .int 1, .int 2, .int 3, .int 6, .int 7, .int 63, .int 64, .int (10 ^ (39 : Int).toNat), .str "", .str "0", .str "lot", .ref T1, .ref L1, .ref D1, .ref T2, .ref L2, .ref T3]
    have m7 := same_new (o := .lst xs) nS0
    refine ⟨.ref S0, rfl, sz (n := 1) (by decide), fun T4 nT4 => ⟨sz (n := 2) (by decide), fun T5 nT5 => ⟨sz (n := 2) (by decide), fun T6 nT6 D2 nD2 => ⟨upd_same, [(.inr "a", .int 1)], rfl, by decide, sz (n := 4) (by decide), fun M nM => ?_⟩⟩⟩⟩
    have m8 := same_new (o := .tup [.int 0]) nT4
    have m9 := same_new (o := .tup [.int 2, .ref T4]) nT5
    have m10 := same_new (o := .tup [.int 0, .int 1]) nT6
    have m11 : Same _ (upd (upd (upd (upd (upd (upd (upd (upd (upd (upd (upd (upd H T1 (.tup [])) L1 (.lst [])) D1 (.dK [])) T2 (.tup [.int 0])) L2 (.lst [.int 0])) T3 (.tup [.bl true])) S0 (.lst xs)) T4 (.tup [.int 0])) T5 (.tup [.int 2, .ref T4])) T6 (.tup [.int 0, .int 1])) D2 (.dK [])) D2 (.dK (mergeK [] [(.inr "a", .int 1)]))) := fun b o e => by
      rw [upd_ne (ne_of_none e nD2), upd_ne (ne_of_none e nD2)]
      exact e
    have m12 := same_new (o := .lst [.ref T5, .ref T6, .ref D2, .str "01"]) nM
    refine ⟨S0, M, _, _, rfl, rfl, m12 _ _ (m11 _ _ (m10 _ _ (m9 _ _ (m8 _ _ upd_same)))), upd_same, (by rw [sizeLine_eq]; show 22 + 4 ≤ 16777216; decide), fun C nC => ?_⟩
    have m13 := same_new (o := .lst (xs ++ [.ref T5, .ref T6, .ref D2, .str "01"])) nC
    have st1 := st.same m1
    have st2 := st1.same m2
    have st3 := st2.same m3
    have st4 := st3.same m4
    have st5 := st4.same m5
    have st6 := st5.same m6
    have st7 := st6.same m7
    have st8 := st7.same m8
    have st9 := st8.same m9
    have st10 := st9.same m10
    have st11 := st10.same m11
    have st12 := st11.same m12
    have st13 := st12.same m13
    refine ⟨.ref S.s, rfl, S, t, 26, rfl, st13, by omega, by omega, by omega, fun H9 r t9 s9 hr26 => ?_⟩
    have c12 := m12.trans m13
    have c11 := m11.trans c12
    have c10 := m10.trans c11
    have c9 := m9.trans c10
    have c8 := m8.trans c9
    have c7 := m7.trans c8
    have c6 := m6.trans c7
    have c5 := m5.trans c6
    have c4 := m4.trans c5
    have c3 := m3.trans c4
    have c2 := m2.trans c3
    have kT : ∀ {b : Addr} {zs : List V}, _ = some (HO.tup zs) → H9 b = some (.tup zs) := fun {b zs} e => s9.keep.tup st13 e
    have gT1 := kT (c2 T1 _ upd_same)
    have gT2 := kT (c5 T2 _ upd_same)
    have gT3 := kT (c7 T3 _ upd_same)
    have gT4 := kT (c9 T4 _ upd_same)
    have gT5 := kT (c10 T5 _ upd_same)
    have gT6 := kT (c11 T6 _ upd_same)
    have nL1s := strm_ne st1 nL1
    have nL2s := strm_ne st4 nL2
    have nD1s := strm_ne st2 nD1
    have nD2s := strm_ne st10 nD2
    have nCs := strm_ne st12 nC
    have gL1 := s9.keep L1 _ nL1s.1 nL1s.2.1 (c3 L1 _ upd_same)
    have gL2 := s9.keep L2 _ nL2s.1 nL2s.2.1 (c6 L2 _ upd_same)
    have gD1 := s9.keep D1 _ nD1s.1 nD1s.2.1 (c4 D1 _ upd_same)
    have gD2 := s9.keep D2 _ nD2s.1 nD2s.2.1 (c12 D2 _ upd_same)
    have gC := s9.keep C _ nCs.1 nCs.2.1 upd_same
    have all : DvAll K (fun b => Nw b ∧ H9 b ≠ none) H9 (xs ++ [.ref T5, .ref T6, .ref D2, .str "01"]) oddD :=
      .cons .non (.cons (.bl _) (.cons (.bl _) (.cons (.int _) (.cons (.int _) (.cons (.int _) (.cons (.int _) (.cons (.int _) (.cons (.int _) (.cons (.int _) (.cons (.int _) (.cons (.int _) (.cons (.int _) (.cons (.str _) (.cons (.str _) (.cons (.str _)
        (.cons (.tup (SqT.of gT1) .nil) (.cons (.lst (SqL.of gL1) bL1 ⟨hw.f _ (Same.free m1 nL1), by rw [gL1]; exact fun z => nomatch z⟩ .nil) (.cons (.dct [] gD1) (.cons (.tup (SqT.of gT2) (.cons (.int _) .nil)) (.cons (.lst (SqL.of gL2) bL2 ⟨hw.f _ (Same.free (((m1.trans m2).trans m3).trans m4) nL2), by rw [gL2]; exact fun z => nomatch z⟩ (.cons (.int _) .nil)) (.cons (.tup (SqT.of gT3) (.cons (.bl _) .nil))
        (.cons (.tup (SqT.of gT5) (.cons (.int _) (.cons (.tup (SqT.of gT4) (.cons (.int _) .nil)) .nil))) (.cons (.tup (SqT.of gT6) (.cons (.int _) (.cons (.int _) .nil))) (.cons (.dct [("a", 1)] gD2) (.cons (.str _) .nil)))))))))))))))))))))))))
    have hlt : r < (xs ++ [V.ref T5, V.ref T6, V.ref D2, V.str "01"]).length := by
      show r < 26
      exact hr26
    obtain ⟨d, hd, hz⟩ := all.at (List.getElem?_eq_getElem hlt)
    refine ⟨C, _, r, _, rfl, rfl, SqL.of gC, atI_nat (List.getElem?_eq_getElem hlt), ?_⟩
    exact q H9 _ d t9 ⟨(Keep.of (((m1.trans c2)))).trans s9.keep, s9.st, s9.lo, s9.hi⟩ hz (List.mem_of_getElem? hd)
end
end XT
/-! from what k_is answers to what the classes must say -/
namespace XT
open PySem PySem.Spec PyProof.Rows L2
section
variable {K : PySem.W.Frag} {C D : Addr} {b : Bool}
theorem kit_ref (hd : PySem.W.hasDictIn K C = true) (ht : PySem.W.typeIn K (.ref C) = some (.type "type")) (hs : PySem.W.subIn K (.ref D) (.ref C) = some b) (hne : (Value.ref D == Value.ref C) = false) : PySem.W.kitOne K (.ref D) (.ref C) = some b := by
  obtain ⟨cd, hc, _⟩ := PySem.W.any_some hd
  have e2 : ((PySem.W.clsIn K C).isSome && PySem.W.typeIn K (.ref C) == some (.type "type")) = true := by rw [hc, ht] <;> rfl
  unfold PySem.W.kitOne PySem.W.kitCls
  rw [hne]
  show (if ((PySem.W.clsIn K C).isSome && PySem.W.typeIn K (.ref C) == some (.type "type")) = true then PySem.W.subIn K (.ref D) (.ref C) else none) = some b
  rw [if_pos e2]
  exact hs
theorem kit_bt {T : String} (hs : PySem.W.subIn K (.ref D) (.type T) = some b) (hm : PySem.W.kitMeta T = true) : PySem.W.kitOne K (.ref D) (.type T) = some b := by
  unfold PySem.W.kitOne PySem.W.kitCls
  rw [if_neg (by simp)]
  show (if PySem.W.kitMeta T = true then PySem.W.subIn K (.ref D) (.type T) else none) = some b
  rw [if_pos hm]
  exact hs
theorem kit_none {t c : Value} {cs : List Value} (h : PySem.W.kitOne K t c = some false) (r : PySem.W.kitAny K t cs = some false) : PySem.W.kitAny K t (c :: cs) = some false := L2.kitAny_cons h (fun _ => r) (fun z => nomatch z)
def strKey (e : DictEntry) : Bool := match e.key with | .str _ _ => true | _ => false
theorem nsOk_of {N : Addr} {oc : Value} {od : Option Addr} {es : Array DictEntry} {ep : Nat} {sl : Array (Option Value)} (l : K.lookup N = some ⟨oc, od, .dict es ep, sl⟩) (h : es.toList.all strKey = true) : PySem.W.nsOkIn K N = true := by
  unfold PySem.W.nsOkIn
  rw [l]
  rw [Array.all_toList] at h
  exact h
abbrev veTl : List Value := [.type "ValueError", .type "Exception", .type "BaseException", .type "object"]
theorem excIn_of {cN cT NSn NSt : Addr} {nm qn nt qt : Str} {bs sub bst subt mt : List Value} {hd hdt : Bool} {sn snt : List Str} {ab abt del : Bool} {col colt : Option Bool} {dd od : Option Addr} {q0 q1 q2 q3 q5 : Option Value} {oc : Value} {sl : Array (Option Value)}
    (lN : K.lookup cN = some (excClassObj nm qn cN NSn bs [.ref cT, .type "ValueError", .type "Exception", .type "BaseException", .type "object"] hd sn sub ab col dd q0 q1 q2 q3 q5 "ValueError.__new__")) (oN : PySem.W.nsOkIn K NSn = true) (iN : PySem.W.nsIn K NSn "__init__" = some none)
    (lT : K.lookup cT = some ⟨oc, od, .cls { name := nt, bases := bst, mro := mt, ns := NSt, qualname := qt, hasDict := hdt, slotNames := snt, subclasses := subt, abstract := abt, collection := colt, hasDel := del }, sl⟩) (oT : PySem.W.nsOkIn K NSt = true) (iT : PySem.W.nsIn K NSt "__init__" = some none) :
    PySem.W.excIn K cN [.type "ValueError", .type "Exception", .type "BaseException", .type "object"] "ValueError.__new__" = true := by
  have e1 : PySem.W.tailIn K veTl veTl = true := by
    unfold PySem.W.tailIn
    simp
  have e2 : PySem.W.tailIn K veTl (.ref cT :: veTl) = true := by
    unfold PySem.W.tailIn
    dsimp only
    rw [lT]
    simp [oT, iT, e1]
  unfold PySem.W.excIn
  rw [lN]
  simp [oN, iN, e2]
end
end XT
/-! what the operators on sets give -/
namespace XT
open PySem PySem.Spec PyProof.Rows L2
section
variable {C : Addr} {n m : Nat} {p r : Nat → Bool} {t ta tb : TE} {σ : L2.St} {H : Hp}
theorem of_or (h1 : 1 ≤ n) (h6 : n ≤ 6) : OpF (isMs C n p) (isMs C n r) (rOwn C (spMsOr C)) (isMs C n fun m => p m || r m) := of_m2 h1 h6
theorem of_and (h1 : 1 ≤ n) (h6 : n ≤ 6) : OpF (isMs C n p) (isMs C n r) (rOwn C (spMsAnd C)) (isMs C n fun m => p m && r m) := of_m2 h1 h6
theorem of_sub (h1 : 1 ≤ n) (h6 : n ≤ 6) : OpF (isMs C n p) (isMs C n r) (rOwn C (spMsSub C)) (isMs C n fun m => p m && !r m) := of_m2 h1 h6
theorem of_add (h1 : 1 ≤ n) (h6 : n ≤ 6) : OpF (isMs C n p) (isMs C n r) (rOwn C (spMsAdd C)) (isMs C n fun m => addB n p r m) := of_m2 h1 h6
theorem of_eqM (h1 : 1 ≤ n) (h6 : n ≤ 6) : OpF (isMs C n p) (isMs C n r) (rOwn C (spMsEq C)) (isB (decide (∀ m, m < 2 ^ n → p m = r m))) := of_m2 h1 h6
theorem of_turn (h1 : 1 ≤ n) (h6 : n ≤ 6) (hm : m < 2 ^ n) : OpF (isMs C n p) (isV (.int (m : Int))) (rOwnI C (spMsXor C)) (isMs C n fun x => p (x ^^^ m)) := of_mx h1 h6 hm
theorem ev_inv (h1 : 1 ≤ n) (h6 : n ≤ 6) (a : Ev (isMs C n p) t σ H) : Ev (isMs C n fun x => !p x) (tUn (rOwn1 C (spMsInv C)) t) σ H := ev_m1 h1 h6 a fun _ _ _ _ g => g
theorem ev_masks (h1 : 1 ≤ n) (h6 : n ≤ 6) (a : Ev (isMs C n p) t σ H) : Ev (isTup (lotOf n p)) (tProp C (spMsMasks C) [] E0 t) σ H := ev_prop h1 h6 a fun _ _ _ _ g => g
theorem ev_lot (h1 : 1 ≤ n) (h6 : n ≤ 6) (a : Ev (isMs C n p) t σ H) : Ev (isLot n p) (tProp C (spMsLot C) [] E0 t) σ H := ev_prop h1 h6 a fun _ _ _ l g => by rw [g]; exact l
theorem ev_width (h1 : 1 ≤ n) (h6 : n ≤ 6) (a : Ev (isMs C n p) t σ H) : Ev (isV (.int (n : Int))) (tProp C (spMsWidth C) [] E0 t) σ H := ev_prop h1 h6 a fun _ _ _ _ g => g
theorem ev_lenM (h1 : 1 ≤ n) (h6 : n ≤ 6) (a : Ev (isMs C n p) t σ H) : Ev (isV (.int ((lotOf n p).length : Int))) (tCB (rOwnLen C (spMsLen C)) (tCons t tNil)) σ H := ev_len h1 h6 a fun _ _ _ g => g
end
end XT
namespace XT
open PySem PySem.Spec PyProof.Rows L2
abbrev c9 (n : Nat) : Int := 1 * 2 ^ ((n : Int).toNat)
abbrev xs11 (n : Nat) (T0 : Addr) (od : V) : List V := [.int 0, .int (c9 n - 1), .int (c9 n), .int (-1), .bl true, .bl false, .non, .str "0", .ref T0, .int (10 ^ (39 : Int).toNat), od]
abbrev ds12 (n : Nat) (dod : PyData) (m : Nat) : List PyData := [.int 0, .int (c9 n - 1), .int (c9 n), .int (-1), .bool true, .bool false, .none, .str "0", .tuple [.int 0], .int (10 ^ (39 : Int).toNat), dod, .int (m : Int)]
theorem gds54 {n m : Nat} {dod : PyData} (n6 : n ≤ 6) (hm : m < 64) (mod : dod ∈ oddD) : ∀ e ∈ ds12 n dod m, Gd (10 ^ 39) 3000 4 e := fun e he => by
  have p6 := pow6 n6
  have p0 := pow0 n
  have e1 : c9 n = ((2 ^ n : Nat) : Int) := shl1 n
  have e2 : c9 n - 1 = ((2 ^ n - 1 : Nat) : Int) := by rw [e1]; omega
  have gi : ∀ {i : Int}, i.natAbs ≤ 10 ^ 39 → Gd (10 ^ 39) 3000 4 (.int i) := fun h => (gd_int h).mono (Nat.le_refl _) (by omega) (by omega)
  simp only [List.mem_cons, List.not_mem_nil, or_false] at he
  rcases he with rfl | rfl | rfl | rfl | rfl | rfl | rfl | rfl | rfl | rfl | rfl | rfl
  · exact gi (by decide)
  · rw [e2]
    exact gi (by rw [Int.natAbs_natCast]; omega)
  · rw [e1]
    exact gi (by rw [Int.natAbs_natCast]; omega)
  · exact gi (by decide)
  · exact (gd_bl _).mono (Nat.le_refl _) (by omega) (by omega)
  · exact (gd_bl _).mono (Nat.le_refl _) (by omega) (by omega)
  · exact gd_non.mono (Nat.le_refl _) (by omega) (by omega)
  · exact (gd_str (n := 4) (TxOk.of _) (by decide)).mono (Nat.le_refl _) (by omega) (by omega)
  · exact (GdAll.cons (gd_int (M := 10 ^ 39) (i := 0) (by decide)) GdAll.nil).tuple.mono (Nat.le_refl _) (by omega) (by omega)
  · exact gi (by decide)
  · exact (gd_odd _ mod).mono (Nat.le_refl _) (by omega) (by omega)
  · exact gi (by rw [Int.natAbs_natCast]; omega)
theorem ma_keep {C : Addr} {S : Sm} {H H' : Hp} {t : Int} {z v : V} {n : Nat} {p : Nat → Bool} (h : MsAt C H z v n p) (k : Keep S H H') (st : Strm S H t) : MsAt C H' z v n p := by
  obtain ⟨⟨a, dx, ez, ha⟩, hv⟩ := h
  obtain ⟨big, b⟩ := st
  refine ⟨⟨a, dx, ez, k a _ (fun e => by rw [e, b.hs] at ha; cases ha) (fun e => by rw [e, b.hp] at ha; cases ha) ha⟩, hv.keep k ⟨big, b⟩⟩
theorem tu_keep {S : Sm} {H H' : Hp} {t : Int} {v : V} {ms : List Nat} (h : TupAt H v ms) (k : Keep S H H') (st : Strm S H t) : TupAt H' v ms := by
  obtain ⟨a, ez, ha⟩ := h
  obtain ⟨big, b⟩ := st
  exact ⟨a, ez, k a _ (fun e => by rw [e, b.hs] at ha; cases ha) (fun e => by rw [e, b.hp] at ha; cases ha) ha⟩
theorem sh_dMa {n way : Nat} {p : Nat → Bool} {d : PyData} (hn : n ≤ 6) (h : Gd (10 ^ 39) 3000 4 d) : ShD (dMa n p way d) := by
  unfold dMa
  by_cases hm : isM n d = true
  · rw [if_pos hm]
    by_cases w0 : way = 0
    · rw [if_pos w0]
      exact (gd_lot (M := 10 ^ 39) (by decide) hn _).shD (by decide) (by decide) (by decide)
    · rw [if_neg w0]
      exact (gd_int (M := 10 ^ 39) (by have h1 : pcN n p (mN d) ≤ (lotOf n p).length := List.length_filter_le _ _; have h2 := lot_len hn p; omega)).shD (by decide) (by decide) (by decide)
  · rw [if_neg hm]
    exact ((GdAll.cons ((gd_str (M := 10 ^ 39) (n := 4) (TxOk.of "mask") (by decide : (Str.ofString "mask").length ≤ 4)).mono (Nat.le_refl _) (Nat.le_refl _) (Nat.zero_le 4)) (GdAll.cons h GdAll.nil)).list).shD (by decide) (by decide) (by decide)
section
variable {P : Program} {w : World} {K : PySem.W.Frag} {mg : Str → Option Value} {base : Heap} {C : Addr}
abbrev nLw : List Str := ["_law_script", "_law_stream_here", "_law_turn", "_law_one", "_law_other", "_law_a", "_law_b", "_law_count", "_law_pairs_here", "_law_values", "_law_value", "_law_is_mask", "_law_way", "_law_due", "_law_told", "_law_found", "_law_row"]
theorem scLw : FnScope nLw ["_law_script"] (defScope sLaw) := ⟨rfl, rfl, rfl, by decide +kernel, rfl, by decide +kernel, by decide +kernel⟩
structure Defs (P : Program) (w : World) (K : PySem.W.Frag) (mg : Str → Option Value) (base : Heap) (C : Addr) : Prop where
  lstream : DefR P w K mg base 50 "_law_stream" (spStream K)
  ldraw : DefR P w K mg base 50 "_law_draw" spDrawN
  ldrawn : DefR P w K mg base 50 "_law_drawn" spDrawn
  lodd : DefR P w K mg base 50 "_law_odd" (spOddS K)
  lisint : DefR P w K mg base 50 "_law_is_int" (spIsInt K)
  lmoved : DefR P w K mg base 50 "_law_moved" spMv
  lpairs : DefR P w K mg base 50 "_law_pairs" spPc
  lmasked : DefR P w K mg base 50 "_law_masked" (spMa K C)
  lcombined : DefR P w K mg base 50 "_law_combined" (spCb C)
  mkS : MakeR P w K mg base 6 C "MaskSet" (spMi C)
  plot : PropR P w K mg base 1 C "lot" (spMsLot C)
  eqM : OwnR P w K mg base 8 C "__eq__" (spMsEq C)
  T : MsC K C
def spLaw (K : PySem.W.Frag) : Sp := fun vs H Q _ => ∃ (a : Addr) (ns : List Int), vs = [.ref a] ∧ SqL K H a (ns.map V.int) ∧ ns.length ≤ 63 ∧ ∀ H', Q (.bl true) H'
theorem run_it {f : Addr} {fd : FuncData} (B : Bl mg) (mR : mg "repr" = none) (F : Fun K "law" "law" sLaw f fd) (d : Defs P w K mg base C) : RunC P w K mg base 51 f (spLaw K) := by
  refine run_law (k := 50) F scLw (fun _ _ _ _ _ _ _ => rfl) (fun cdv s H v Q hr h => ?_)
  obtain ⟨a0, ns, ev, hA, hlen, q⟩ := h
  cases ev
  have hun : (callerA.deeper (envOfC "law" (defScope sLaw) s.heap.objs.size f cdv)).units + 128 < cLine := by have := hr.un; omega
  have hgd : (callerA.deeper (envOfC "law" (defScope sLaw) s.heap.objs.size f cdv)).guards = some [] := rfl
  have hr8 : Room 8 (callerA.deeper (envOfC "law" (defScope sLaw) s.heap.objs.size f cdv)) := hr.mono (by omega)
  refine ⟨_, pss_cons (ps_set (i := 1) scLw.nd rfl (by first | exact Or.inl rfl | exact Or.inr rfl) (pe_def d.lstream hr (by rfl) (pa_cons (pv 0) pa_nil)))
      (pss_cons (ps_for PassesOwn.never rfl (pi_range1 (by rfl) B.range (pa_cons pe_int pa_nil)) (pg_name (i := 2) scLw.nd rfl (by first | exact Or.inl rfl | exact Or.inr rfl))
      (pss_cons (ps_par (i := 3) (j := 4) (by rfl) scLw.nd rfl rfl (by decide) rfl rfl (pa_cons (pe_def d.ldrawn hr (by rfl) (pa_cons (pv 1) (pa_cons pe_int pa_nil))) (pa_cons (pe_def d.ldrawn hr (by rfl) (pa_cons (pv 1) (pa_cons pe_int pa_nil))) pa_nil)) (by rfl))
      (pss_cons (ps_asg (pe_tup (pa_cons (pe_mkR d.mkS (hr.mono (by omega)) (by rfl) (pa_cons (pv 3) pa_nil)) (pa_cons (pe_mkR d.mkS (hr.mono (by omega)) (by rfl) (pa_cons (pv 4) pa_nil)) (pa_cons (pe_op op_shl pe_int (pe_ix ix_tup (pv 3) pe_int (fun _ _ => rfl))) pa_nil)))) (pg_tup rfl (pgs_cons (pg_name (i := 5) scLw.nd rfl (by first | exact Or.inl rfl | exact Or.inr rfl)) (pgs_cons (pg_name (i := 6) scLw.nd rfl (by first | exact Or.inl rfl | exact Or.inr rfl)) (pgs_cons (pg_name (i := 7) scLw.nd rfl (by first | exact Or.inl rfl | exact Or.inr rfl)) pgs_nil)))))
      (pss_cons (ps_set (i := 8) scLw.nd rfl (by first | exact Or.inl rfl | exact Or.inr rfl) (pe_def d.lpairs hr (by rfl) (pa_cons (pv 3) pa_nil)))
      (pss_cons (ps_set (i := 9) scLw.nd rfl (by first | exact Or.inl rfl | exact Or.inr rfl) (pe_lst (pa_cons pe_int (pa_cons (pe_op op_sub (pv 7) pe_int) (pa_cons (pv 7) (pa_cons (pe_un un_neg pe_int) (pa_cons pe_bl (pa_cons pe_bl (pa_cons pe_non (pa_cons pe_str (pa_cons (pe_tup (pa_cons pe_int pa_nil)) (pa_cons (pe_op op_pow pe_int pe_int) (pa_cons (pe_def d.lodd hr (by rfl) (pa_cons (pv 1) pa_nil)) pa_nil)))))))))))))
      (pss_cons (ps_expr (pe_bm PySem.F.plainAttrs_list PySem.F.slot_list_append PySem.F.type_list_append mt_append (pv 9) (pa_cons (pe_def d.ldraw hr (by rfl) (pa_cons (pv 1) (pa_cons pe_int pa_nil))) pa_nil)))
      (C8.pss_cut (ps_for PassesOwn.never rfl (pi_list (pv 9)) (pg_name (i := 10) scLw.nd rfl (by first | exact Or.inl rfl | exact Or.inr rfl))
      (pss_cons (ps_set (i := 11) scLw.nd rfl (by first | exact Or.inl rfl | exact Or.inr rfl) (pe_def d.lisint hr (by rfl) (pa_cons (pv 10) (pa_cons pe_int (pa_cons (pe_op op_sub (pv 7) pe_int) pa_nil)))))
      (pss_one (ps_for PassesOwn.never rfl (pi_tup (pe_tup (pa_cons pe_int (pa_cons pe_int pa_nil)))) (pg_name (i := 12) scLw.nd rfl (by first | exact Or.inl rfl | exact Or.inr rfl))
      (pss_cons (ps_set (i := 13) scLw.nd rfl (by first | exact Or.inl rfl | exact Or.inr rfl) (pe_lstB (pa_cons pe_str (pa_cons (pv 10) pa_nil))))
      (C8.pss_cut (ps_if (pt_val (pv 11)) (pss_one (ps_set (i := 13) scLw.nd rfl (by first | exact Or.inl rfl | exact Or.inr rfl) (pe_ix ix_list (pe_lst (pa_cons (pe_def d.lmoved hr (by rfl) (pa_cons (pv 3) (pa_cons (pv 10) pa_nil))) (pa_cons (pe_ix ix_tup (pv 8) (pv 10) (fun _ _ => rfl)) pa_nil))) (pv 12) (fun _ _ => rfl)))) pss_nil)
      (pss_one (ps_if (pt_cmpR op_ne (pe_callB (cr_reprA hgd hun) (by rfl) mR boot_repr (pa_cons (pe_def d.lmasked hr (by rfl) (pa_cons (pv 5) (pa_cons (pv 12) (pa_cons (pv 10) pa_nil)))) pa_nil)) (pe_callB (cr_reprA hgd hun) (by rfl) mR boot_repr (pa_cons (pv 13) pa_nil)) (nomark _)) pss_never pss_nil))))))))
      (pss_cons (ps_set (i := 14) scLw.nd rfl (by first | exact Or.inl rfl | exact Or.inr rfl) (pe_lst (pa_cons (pe_def d.lmasked hr (by rfl) (pa_cons (pv 5) (pa_cons pe_int (pa_cons (pv 6) pa_nil)))) (pa_cons (pe_def d.lmasked hr (by rfl) (pa_cons (pv 5) (pa_cons pe_int (pa_cons (pv 6) pa_nil)))) pa_nil))))
      (pss_cons (ps_if (PW.pt (pw_or (pt_cmpR (op_neD hr.units) (pe_lc (own := [("_law_row", 16)]) (g := (gName 16)) (tt := tYes) (te := (tOp (rIxL K) (tVar 16) (tC (.int 0)))) rfl scLw.nd (pi_list (pv 14)) (blkOk_by (own := [("_law_row", 16)]) (N := nLw) (sc := defScope sLaw) (by decide +kernel))
          (fun _ _ _ _ _ => (pg_name (i := 16) scLw.nd rfl (Or.inl rfl))) (fun _ _ _ _ _ => pts_nil) (fun _ _ _ _ _ => pe_ix ix_list (pv 16) pe_int (fun _ _ => rfl))) (pe_lst (pa_cons pe_str (pa_cons pe_str pa_nil))) (nomark _)) (pw_or1 (pt_cmpR (op_neEL (Nat.lt_of_le_of_lt (Nat.le_add_right _ 64) hr.units)) (pe_lc (own := [("_law_row", 16)]) (g := (gName 16)) (tt := (tNot (tTest (tOp (rOwn C (spMsEq C)) (tOp (rIxL K) (tVar 16) (tC (.int 1))) (tVar 6))))) (te := (tC (.int 1))) rfl scLw.nd (pi_list (pv 14)) (blkOk_by (own := [("_law_row", 16)]) (N := nLw) (sc := defScope sLaw) (by decide +kernel))
          (fun _ _ _ _ _ => (pg_name (i := 16) scLw.nd rfl (Or.inl rfl))) (fun _ _ _ _ _ => pts_one (pt_not (pt_cmpR (op_eqR d.eqM hr8) (pe_ix ix_list (pv 16) pe_int (fun _ _ => rfl)) (pv 6) (nomark _)))) (fun _ _ _ _ _ => pe_int)) (pe_lst pa_nil) (nomark _))))) pss_never pss_nil)
      (C8.pss_cut (ps_for PassesOwn.never rfl (pi_range1 (by rfl) B.range (pa_cons pe_int pa_nil)) (pg_name (i := 12) scLw.nd rfl (by first | exact Or.inl rfl | exact Or.inr rfl))
      (pss_cons (ps_set (i := 15) scLw.nd rfl (by first | exact Or.inl rfl | exact Or.inr rfl) (pe_def d.lcombined hr (by rfl) (pa_cons (pv 5) (pa_cons (pv 6) (pa_cons (pv 12) pa_nil)))))
      (pss_one (ps_if (pt_cmpR op_ne (pe_cmpR op_eq (pe_callB (cr_reprA hgd hun) (by rfl) mR boot_repr (pa_cons (pv 15) pa_nil)) (pe_callB (cr_reprA hgd hun) (by rfl) mR boot_repr (pa_cons (pe_lstB (pa_cons pe_str (pa_cons pe_int pa_nil))) pa_nil)) (nomark _)) (pe_cmpR op_ne (pe_ix ix_tup (pv 3) pe_int (fun _ _ => rfl)) (pe_ix ix_tup (pv 4) pe_int (fun _ _ => rfl)) (nomark _)) (nomark _)) pss_never pss_nil))))
      (pss_one (ps_if (pt_cmpR op_ne (pe_callB (cr_reprA hgd hun) (by rfl) mR boot_repr (pa_cons (pe_lstB (pa_cons (pe_propR (pv 5) d.plot (hr.mono (by omega))) (pa_cons (pe_propR (pv 6) d.plot (hr.mono (by omega))) pa_nil))) pa_nil)) (pe_callB (cr_reprA hgd hun) (by rfl) mR boot_repr (pa_cons (pe_lstB (pa_cons (pv 3) (pa_cons (pv 4) pa_nil))) pa_nil)) (nomark _)) pss_never pss_nil))))))))))))
      (pss_one (ps_ret pe_bl))), ?_⟩
  refine ⟨.ref a0, rfl, a0, ns, rfl, hA, hlen, fun H1 S s1 st1 => ?_⟩
  refine ⟨6, rfl, by decide, by decide, for_range (lo := 0) (n := 6) (fun i σ H' => ∃ (t : Int) (z2 z3 z4 z5 z6 z7 z8 z9 z10 z11 z12 z13 z14 z15 : Option V), σ = [some (.ref a0), some (.ref S.s), z2, z3, z4, z5, z6, z7, z8, z9, z10, z11, z12, z13, z14, z15, none] ∧ Strm S H' t ∧ t ≤ 1000 * i) ⟨0, none, none, none, none, none, none, none, none, none, none, none, none, none, none, rfl, st1, by omega⟩ (fun i σ H2 hi h => ?_) (fun σ H2 h => q H2)⟩
  obtain ⟨t, z2, z3, z4, z5, z6, z7, z8, z9, z10, z11, z12, z13, z14, z15, rfl, st, ht⟩ := h
  refine ⟨.ref S.s, rfl, S, t, 6, rfl, st, by decide, by decide, by omega, fun H3 one n p t3 s3 n1 n6 l1 => ?_⟩
  have hi3 := s3.hi
  refine ⟨.ref S.s, rfl, S, t3, 6, rfl, s3.st, by decide, by decide, by omega, fun H4 oth n' r t4 s4 m1 m6 l2 => ⟨_, _, rfl, ?_⟩⟩
  have hi4 := s4.hi
  have l1 := l1.keep s4.keep s3.st
  refine ⟨one, rfl, fun xa dxa nxa ndxa nea => ms_new l1 n1 n6 nxa ndxa nea fun H5 s5 m5 => ?_⟩
  have l1 := l1.same s5
  have l2 := l2.same s5
  refine ⟨oth, rfl, fun xb dxb nxb ndxb neb => ms_new l2 m1 m6 nxb ndxb neb fun H6 s6 mb => ?_⟩
  have l1 := l1.same s6
  have l2 := l2.same s6
  have ma := m5.same s6
  have st6 := (s4.st.same s5).same s6
  obtain ⟨x1, y1, e1, hx1, hy1⟩ := id l1
  refine ⟨one, rfl, x1, _, 0, .int n, e1, rfl, SqT.of hx1, rfl, 1, n, rfl, rfl, cpow n6, sz (n := 3) (by decide), fun Tt nTt => ⟨Tt, _, rfl, SqT.of upd_same, rfl, _, _, rfl, _, _, rfl, _, _, rfl, rfl, ?_⟩⟩
  have sT := same_new (o := .tup [.ref xa, .ref xb, .int (c9 n)]) nTt
  have l1 := l1.same sT
  have l2 := l2.same sT
  have ma := ma.same sT
  have mb := mb.same sT
  have st7 := st6.same sT
  generalize upd H6 Tt (.tup [.ref xa, .ref xb, .int (c9 n)]) = H7 at *
  clear nxa ndxa nea nxb ndxb neb m5 s5 s6 st6 nTt sT hx1 hy1 e1
  refine ⟨one, rfl, one, n, p, rfl, l1, n6, fun H8 pc s8 gp => ?_⟩
  have l1 := l1.same s8
  have l2 := l2.same s8
  have ma := ma.same s8
  have mb := mb.same s8
  have st8 := st7.same s8
  refine ⟨.int (c9 n), rfl, c9 n, 1, rfl, rfl, .int (c9 n), rfl, 1, rfl, sz (n := 1) (by decide), fun T0 nT0 => ?_⟩
  have sT := same_new (o := .tup [.int 0]) nT0
  have l1 := l1.same sT
  have l2 := l2.same sT
  have ma := ma.same sT
  have mb := mb.same sT
  have gp := TupAt.same gp sT
  have st9 := st8.same sT
  have hT0 : (upd H8 T0 (.tup [.int 0])) T0 = some (.tup [.int 0]) := upd_same
  generalize upd H8 T0 (.tup [.int 0]) = H9 at *
  refine ⟨10, 39, rfl, rfl, ⟨by decide, by decide, by decide⟩, .ref S.s, rfl, S, t4, Nof S, rfl, st9, by omega, nw_all st9, fun Ha od dod ta sa zod mod => ⟨sz (n := 11) (by decide), fun L nL => ?_⟩⟩
  have hia := sa.hi
  have l1 := l1.keep sa.keep st9
  have l2 := l2.keep sa.keep st9
  have ma := ma_keep ma sa.keep st9
  have mb := ma_keep mb sa.keep st9
  have gp := tu_keep gp sa.keep st9
  have hT0 : Ha T0 = some (.tup [.int 0]) := (tu_keep (ms := [0]) ⟨T0, rfl, hT0⟩ sa.keep st9) |> fun ⟨a, e, h⟩ => by cases e; exact h
  have sL := same_new (o := .lst (xs11 n T0 od)) nL
  have hL := upd_same (H := Ha) (a := L) (o := .lst (xs11 n T0 od))
  have nLL := strm_ne sa.st nL
  refine ⟨.ref L, rfl, .inl ⟨rfl, _, SqL.of hL⟩, .ref S.s, rfl, S, ta, 64, rfl, sa.st.same sL, by decide, by decide, by omega, fun Hb m tb sb hm => ?_⟩
  have hib := sb.hi
  have hLb := sb.keep L _ nLL.1 nLL.2.1 hL
  refine ⟨L, _, .int (m : Int), rfl, rfl, hLb, (show (11 : Nat) < sizeLine by rw [sizeLine_eq]; omega), ?_⟩
  have kA : Keep S Ha (upd Hb L (.lst (xs11 n T0 od ++ [.int (m : Int)]))) := fun b o b1 b2 e => by
    rw [upd_ne (fun z => by rw [z, nL] at e; cases e)]
    exact sb.keep b o b1 b2 (sL _ _ e)
  have stZ := strm_upd (o := .lst (xs11 n T0 od ++ [.int (m : Int)])) sb.st nLL.1 nLL.2.1 nLL.2.2
  have hLz : (upd Hb L (.lst (xs11 n T0 od ++ [.int (m : Int)]))) L = some (.lst (xs11 n T0 od ++ [.int (m : Int)])) := upd_same
  have l1 := l1.keep kA sa.st
  have l2 := l2.keep kA sa.st
  have ma := ma_keep ma kA sa.st
  have mb := ma_keep mb kA sa.st
  have gp := tu_keep gp kA sa.st
  have hT0 := (tu_keep (ms := [0]) ⟨T0, rfl, hT0⟩ kA sa.st) |> fun ⟨a, e, h⟩ => (by cases e; exact h : _ = some (HO.tup [V.int 0]))
  have hod := ((zod.imp (fun b hb => hb.1)).keepN (fun b hb => hb) kA sa.st).dz
  generalize upd Hb L _ = Hz at *
  have dzs : DzAll K Hz (xs11 n T0 od ++ [.int (m : Int)]) (ds12 n dod m) :=
    .cons (.int _) (.cons (.int _) (.cons (.int _) (.cons (.int _) (.cons (.bl _) (.cons (.bl _) (.cons .non (.cons (.str _) (.cons (.tup (SqT.of hT0) (.cons (.int _) .nil)) (.cons (.int _) (.cons hod (.cons (.int _) .nil)))))))))))
  have ec : c9 n = ((2 ^ n : Nat) : Int) := shl1 n
  have p6 := pow6 n6
  have gds := gds54 (m := m) n6 hm mod
  have hlen : (xs11 n T0 od ++ [V.int (m : Int)]).length = 12 := rfl
  generalize (xs11 n T0 od ++ [V.int (m : Int)] : List V) = xs at *
  generalize ds12 n dod m = ds at *
  have base10 : ∀ {H' : Hp}, Same Hz H' → LotAt H' one n p ∧ LotAt H' oth n' r ∧ MsAt C H' (.ref xa) one n p ∧ MsAt C H' (.ref xb) oth n' r ∧ TupAt H' pc (pcL n p) := fun s => ⟨l1.same s, l2.same s, ma.same s, mb.same s, gp.same s⟩
  refine ⟨fun σ H' => ∃ z10 z11 z12 z13, σ = [some (.ref a0), some (.ref S.s), some (.int (0 + (i : Int))), some one, some oth, some (.ref xa), some (.ref xb), some (.int (c9 n)), some pc, some (.ref L), z10, z11, z12, z13, z14, z15, none] ∧ Same Hz H', ?_, fun σ9 H9 mid => ?_⟩
  · refine ⟨.ref L, rfl, L, rfl, ⟨_, SqL.of hLz⟩, for_list (K := K) (xs := xs) (fun j σ H' => ∃ z10 z11 z12 z13, σ = [some (.ref a0), some (.ref S.s), some (.int (0 + (i : Int))), some one, some oth, some (.ref xa), some (.ref xb), some (.int (c9 n)), some pc, some (.ref L), z10, z11, z12, z13, z14, z15, none] ∧ Same Hz H') ⟨_, _, _, _, rfl, Same.refl _⟩ (fun j σ H' _ h => ?_) (fun j v σ H' hv h => ?_) (fun σ H' h => h)⟩
    · obtain ⟨_, _, _, _, rfl, sm⟩ := h
      exact SqL.of (sm _ _ hLz)
    obtain ⟨z10, z11, z12, z13, rfl, sm⟩ := h
    obtain ⟨dd, hdd, hvd⟩ := dzs.at hv
    have gd := gds dd (List.mem_of_getElem? hdd)
    have eb : isIn 0 (c9 n - 1) dd = isM n dd := by rw [ec]; exact isIn_isM dd
    refine ⟨v, rfl, .int (c9 n), rfl, c9 n, 1, rfl, rfl, v, dd, 0, c9 n - 1, rfl, hvd.same sm, sz (n := 2) (by decide), fun T nT => ?_⟩
    have sT := same_new (o := .tup [.int 0, .int 1]) nT
    refine ⟨T, rfl, ⟨_, SqT.of upd_same⟩, for_tup (K := K) (xs := [.int 0, .int 1]) (fun k σ H2 => ∃ z12 z13, σ = [some (.ref a0), some (.ref S.s), some (.int (0 + (i : Int))), some one, some oth, some (.ref xa), some (.ref xb), some (.int (c9 n)), some pc, some (.ref L), some v, some (.bl (isIn 0 (c9 n - 1) dd)), z12, z13, z14, z15, none] ∧ Same (upd H' T (.tup [.int 0, .int 1])) H2) ⟨_, _, rfl, Same.refl _⟩ (fun k σ H2 _ h => ?_) (fun k x σ H2 hx h => ?_) (fun σ H2 h => ?_)⟩
    · obtain ⟨_, _, rfl, s2⟩ := h
      exact SqT.of (s2 _ _ upd_same)
    · obtain ⟨z12, z13, rfl, s2⟩ := h
      have sm2 := (sm.trans sT).trans s2
      obtain ⟨hk, rfl⟩ : k < 2 ∧ x = .int (k : Int) := by
        match k, hx with
        | 0, hx => cases hx; exact ⟨by decide, rfl⟩
        | 1, hx => cases hx; exact ⟨by decide, rfl⟩
        | k + 2, hx => cases hx
      obtain ⟨b1, b2, b3, b4, b5⟩ := base10 sm2
      have hz2 := hvd.same sm2
      refine ⟨v, rfl, sz (n := 2) (by decide), fun D1 nD bD => ?_⟩
      have sD := same_new (o := .lst [.str "mask", v]) nD
      refine ⟨fun σ H3 => ∃ y, σ = [some (.ref a0), some (.ref S.s), some (.int (0 + (i : Int))), some one, some oth, some (.ref xa), some (.ref xb), some (.int (c9 n)), some pc, some (.ref L), some v, some (.bl (isIn 0 (c9 n - 1) dd)), some (.int (k : Int)), some y, z14, z15, none] ∧ Same H2 H3 ∧ Dz K H3 y (dMa n p k dd), ?_, fun σ3 H3 mid => ?_⟩
      · refine ⟨.bl (isIn 0 (c9 n - 1) dd), rfl, isIn 0 (c9 n - 1) dd, rfl, ?_⟩
        rw [eb]
        cases hb : isM n dd with
        | false =>
          refine iteF ⟨_, rfl, sD, ?_⟩
          unfold dMa
          rw [if_neg (by rw [hb]; decide)]
          exact .lst (SqL.of upd_same) bD (.cons (.str _) (.cons (hz2.same sD) .nil))
        | true =>
          obtain ⟨m0, rfl, hm0⟩ := isM_int hb
          cases hz2
          obtain ⟨c1, c2, c3, c4, c5⟩ := base10 (sm2.trans sD)
          refine iteT ⟨one, rfl, .int (m0 : Int), rfl, one, n, m0, p, rfl, c1, n6, hm0, fun H4 lm s4 g4 => ?_⟩
          obtain ⟨y5, e5, hy5⟩ := c5.same s4
          refine ⟨pc, rfl, .int (m0 : Int), rfl, y5, _, m0, .int (pcN n p m0 : Int), e5, rfl, SqT.of hy5, atI_nat (at_pc hm0), sz (n := 2) (by decide), fun L2 nL2 => ?_⟩
          have s5 := same_new (o := .lst [lm, .int (pcN n p m0 : Int)]) nL2
          have sel : ∃ y, atI [lm, .int (pcN n p m0 : Int)] (k : Int) = some y ∧ Dz K (upd H4 L2 (.lst [lm, .int (pcN n p m0 : Int)])) y (dMa n p k (.int (m0 : Int))) := by
            unfold dMa
            rw [if_pos hb]
            match k, hk with
            | 0, _ => exact ⟨lm, rfl, lot_dz (g4.same s5)⟩
            | 1, _ => exact ⟨_, rfl, .int _⟩
          obtain ⟨y, ey, gy⟩ := sel
          exact ⟨.int (k : Int), rfl, L2, _, _, y, rfl, rfl, SqL.of upd_same, ey, y, rfl, (sD.trans s4).trans s5, gy⟩
      · obtain ⟨y, rfl, s3, gy⟩ := mid
        obtain ⟨c1, c2, c3, c4, c5⟩ := base10 (sm2.trans s3)
        exact if_no (evt_reprs (sh_dMa n6 gd) rfl (ev_ma hk n1 n6 rfl c3 (ev_var (sty_v _) rfl rfl) (ev_varD rfl (hz2.same s3))) (ev_varD rfl gy)) rfl fun H4 s4 => ⟨_, _, rfl, (s2.trans s3).trans s4⟩
    · obtain ⟨z12, z13, rfl, s2⟩ := h
      exact ⟨_, _, _, _, rfl, (sm.trans sT).trans s2⟩
  · obtain ⟨z10, z11, z12, z13, rfl, sm⟩ := mid
    obtain ⟨b1, b2, b3, b4, b5⟩ := base10 sm
    have sMk : StyA [isMk (.ref xb), isMk (.ref xb)] := styA_cons (sty_mk _) (styA_cons (sty_mk _) styA_nil)
    refine asg_ev (ev_lst sMk (Nat.le_of_ble_eq_true rfl) (eva_cons (sty_mk _) (ev_mo (c := 0) (way := 0) rfl (by decide) n1 n6 rfl b3 rfl b4) (eva_cons (sty_mk _) (ev_mo (c := 1) (way := 1) rfl (by decide) n1 n6 rfl b3 rfl b4) eva_nil))) fun Ht zt st14 gt => ?_
    have smt := sm.trans st14
    obtain ⟨c1, c2, c3, c4, c5⟩ := base10 smt
    have two : ∀ {j : Nat} {R : RV}, [isMk (.ref xb), isMk (.ref xb)][j]? = some R → R = isMk (.ref xb) := fun {j R} h => by
      match j, h with
      | 0, h => exact (Option.some.inj h).symm
      | 1, h => exact (Option.some.inj h).symm
      | j + 2, h => cases h
    have two2 : ∀ {j : Nat} {R : RV}, [isV (.str "mask"), isV (.str "mask")][j]? = some R → R = isV (.str "mask") := fun {j R} h => by
      match j, h with
      | 0, h => exact (Option.some.inj h).symm
      | 1, h => exact (Option.some.inj h).symm
      | j + 2, h => cases h
    refine ifs_no0 (b := false) (evt_or (b := false) (c := false) (evt_test (ev_op (sty_lv [.str "mask", .str "mask"]) ((ev_lcL (Rs := [isMk (.ref xb), isMk (.ref xb)]) (Ss := [isV (.str "mask"), isV (.str "mask")]) rfl (Nat.le_of_ble_eq_true rfl) sMk (styA_cons (sty_v _) (styA_cons (sty_v _) styA_nil)) (fun S hS => by
          rcases List.mem_cons.mp hS with rfl | hS
          · exact styL_v _
          · rw [List.mem_singleton.mp hS]; exact styL_v _) (ev_var (sty_lst sMk) rfl gt) (fun _ => rfl) (fun j R S z H1 hR hS gz s1 => by
          rw [two2 hS]
          rw [two hR] at gz
          obtain ⟨L5, e5, h5⟩ := gz
          exact fun H2 s2 Q' q' => ⟨z, rfl, L5, _, 0, .str "mask", e5, rfl, SqL.of (s2 _ _ h5), rfl, q' _ _ (Same.refl _) rfl⟩)).mono fun H z ⟨L5, vs, e5, h5, g5⟩ => ⟨L5, e5, by rw [h5, allV_v (vs := [.str "mask", .str "mask"]) g5]⟩) (ev_lv (vs := [.str "mask", .str "mask"]) (Nat.le_of_ble_eq_true rfl) (eva_cons (sty_v _) (ev_c _) (eva_cons (sty_v _) (ev_c _) eva_nil))) of_neM2))
        (evt_test (ev_op (fun _ _ _ s ⟨D, e, h⟩ => ⟨D, e, s _ _ h⟩) ((ev_lcLN (Rs := [isMk (.ref xb), isMk (.ref xb)]) (Nat.le_of_ble_eq_true rfl) sMk (ev_var (sty_lst sMk) rfl gt) (fun _ => rfl) (fun j R z H1 hR gz s1 => by
          rw [two hR] at gz
          obtain ⟨L5, e5, h5⟩ := gz
          have em : EvT true (tTest (tOp (rOwn C (spMsEq C)) (tOp (rIxL K) (tVar 16) (tC (.int 1))) (tVar 6))) ((wipe [some (.ref a0), some (.ref S.s), some (.int (0 + (i : Int))), some one, some oth, some (.ref xa), some (.ref xb), some (.int (c9 n)), some pc, some (.ref L), z10, z11, z12, z13, some zt, z15, none] [16]).set 16 (some z)) H1 := evt_test ((ev_op (Ra := isMs C n' r) (Rb := isMs C n' r) (sty_ms _ _ _) (fun H2 s2 Q' q' => ⟨z, rfl, L5, _, 1, .ref xb, e5, rfl, SqL.of (s2 _ _ h5), rfl, q' _ _ (Same.refl _) ⟨oth, (c4.same s1).same s2⟩⟩) (ev_var (sty_ms _ _ _) rfl ⟨oth, c4.same s1⟩) (of_eqM m1 m6)).mono fun H z e => by rw [e]; exact congrArg V.bl (decide_eq_true fun _ _ => rfl))
          exact evt_not em)).mono fun H z ⟨D, e, h⟩ => (⟨D, e, h⟩ : isLV [] H z)) (fun H1 s1 Q' q' => ⟨sz (n := 0) (by decide), fun L5 nL5 => q' _ _ (same_new nL5) ⟨L5, rfl, upd_same⟩⟩) of_neEL))) rfl fun Hu su => ?_
    have smu := smt.trans su
    have gcb : Gd (10 ^ 39) 200 2 dCb := (GdAll.cons ((gd_str (M := 10 ^ 39) (n := 5) (TxOk.of "width") (by decide : (Str.ofString "width").length ≤ 5)).mono (Nat.le_refl _) (show _ ≤ 60 by omega) (Nat.zero_le 1)) (GdAll.cons ((gd_int (M := 10 ^ 39) (i := 1) (by decide)).mono (Nat.le_refl _) (Nat.le_refl _) (Nat.zero_le 1)) GdAll.nil)).list.mono (Nat.le_refl _) (by omega) (by omega)
    have shcb : ShD dCb := gcb.shD (by decide) (by decide) (by decide)
    refine ⟨fun σ H' => ∃ z12 z15, σ = [some (.ref a0), some (.ref S.s), some (.int (0 + (i : Int))), some one, some oth, some (.ref xa), some (.ref xb), some (.int (c9 n)), some pc, some (.ref L), z10, z11, z12, z13, some zt, z15, none] ∧ Same Hz H', ?_, fun σ9 H9 mid => ?_⟩
    · refine ⟨6, rfl, by decide, by decide, for_range (lo := 0) (n := 6) (fun k σ H' => ∃ z12 z15, σ = [some (.ref a0), some (.ref S.s), some (.int (0 + (i : Int))), some one, some oth, some (.ref xa), some (.ref xb), some (.int (c9 n)), some pc, some (.ref L), z10, z11, z12, z13, some zt, z15, none] ∧ Same Hz H') ⟨_, _, rfl, smu⟩ (fun k σ H' hk h => ?_) (fun σ H' h => h)⟩
      obtain ⟨z12', z15', rfl, sk⟩ := h
      obtain ⟨d1, d2, d3, d4, d5⟩ := base10 sk
      refine ⟨.ref xa, rfl, .ref xb, rfl, .int (0 + (k : Int)), rfl, .ref xa, .ref xb, one, oth, k, n, n', p, r, by rw [Int.zero_add], hk, d3, d4, n1, n6, m1, m6, fun hn H2 y s2 g => ?_, fun hn H2 L5 s2 nL5 bL5 => ?_⟩
      · subst hn
        obtain ⟨e1, e2, _, _, _⟩ := base10 (sk.trans s2)
        have hb : ∀ {dd : PyData}, ((∃ es, dd = .tuple es) ∨ ∃ b, dd = .bool b) → decide (dd.shown = dCb.shown) = !decide ((n : Int) = (n : Int)) := fun {dd} h => by
          rw [decide_eq_false (show ¬ dd.shown = dCb.shown from shown_ne h), decide_eq_true rfl]
          rfl
        rcases g with ⟨p2, g⟩ | ⟨b, rfl⟩
        · have h1 := hb (dd := dLot n p2) (.inl ⟨_, rfl⟩)
          exact if_no (evt_test ((ev_op (Ra := isB (decide ((dLot n p2).shown = dCb.shown))) (Rb := isB (!decide ((n : Int) = (n : Int)))) (sty_v _) (ev_op (sty_v _) (ev_reprD ((gd_lot (M := 10 ^ 39) (by decide) n6 p2).shD (by decide) (by decide) (by decide)) (ev_varD rfl (lot_dz g))) (ev_reprD (d := dCb) shcb (ev_lstD (Nat.le_of_ble_eq_true rfl) (eva_consD (ev_s (ev_c _)) (eva_consD (ev_i (ev_c _)) eva_nil)))) of_eqS) (ev_op (sty_v _) (ev_op (sty_lot _ _) (ev_var (sty_lot _ _) rfl e1) (ev_c _) of_ix0) (ev_op (sty_lot _ _) (ev_var (sty_lot _ _) rfl e2) (ev_c _) of_ix0) of_neI) of_neB).mono fun H z e => (by rw [e, h1]; exact congrArg V.bl (by simp) : isB false H z))) rfl fun H3 s3 => ⟨_, _, rfl, (sk.trans s2).trans s3⟩
        · have h1 := hb (dd := .bool b) (.inr ⟨_, rfl⟩)
          exact if_no (evt_test ((ev_op (Ra := isB (decide ((PyData.bool b).shown = dCb.shown))) (Rb := isB (!decide ((n : Int) = (n : Int)))) (sty_v _) (ev_op (sty_v _) (ev_reprD ((gd_bl (M := 10 ^ 39) b).shD (by decide) (by decide) (by decide)) (ev_varD rfl (.bl b))) (ev_reprD (d := dCb) shcb (ev_lstD (Nat.le_of_ble_eq_true rfl) (eva_consD (ev_s (ev_c _)) (eva_consD (ev_i (ev_c _)) eva_nil)))) of_eqS) (ev_op (sty_v _) (ev_op (sty_lot _ _) (ev_var (sty_lot _ _) rfl e1) (ev_c _) of_ix0) (ev_op (sty_lot _ _) (ev_var (sty_lot _ _) rfl e2) (ev_c _) of_ix0) of_neI) of_neB).mono fun H z e => (by rw [e, h1]; exact congrArg V.bl (by simp) : isB false H z))) rfl fun H3 s3 => ⟨_, _, rfl, (sk.trans s2).trans s3⟩
      · have s5 := same_new (o := .lst [.str "width", .int 1]) nL5
        obtain ⟨e1, e2, _, _, _⟩ := base10 ((sk.trans s2).trans s5)
        have h1 : decide (dCb.shown = dCb.shown) = !decide ((n : Int) = (n' : Int)) := by
          rw [decide_eq_true rfl, decide_eq_false (show ¬ ((n : Int) = (n' : Int)) by omega)]
          rfl
        exact if_no (evt_test ((ev_op (Ra := isB (decide (dCb.shown = dCb.shown))) (Rb := isB (!decide ((n : Int) = (n' : Int)))) (sty_v _) (ev_op (sty_v _) (ev_reprD shcb (ev_varD rfl (.lst (SqL.of upd_same) bL5 (.cons (.str _) (.cons (.int _) .nil))))) (ev_reprD (d := dCb) shcb (ev_lstD (Nat.le_of_ble_eq_true rfl) (eva_consD (ev_s (ev_c _)) (eva_consD (ev_i (ev_c _)) eva_nil)))) of_eqS) (ev_op (sty_v _) (ev_op (sty_lot _ _) (ev_var (sty_lot _ _) rfl e1) (ev_c _) of_ix0) (ev_op (sty_lot _ _) (ev_var (sty_lot _ _) rfl e2) (ev_c _) of_ix0) of_neI) of_neB).mono fun H z e => (by rw [e, h1]; exact congrArg V.bl (by simp) : isB false H z))) rfl fun H3 s3 => ⟨_, _, rfl, ((sk.trans s2).trans s5).trans s3⟩
    · obtain ⟨z12', z15', rfl, sk⟩ := mid
      obtain ⟨d1, d2, d3, d4, d5⟩ := base10 sk
      have g1 := (gd_lot (M := 10 ^ 39) (by decide) n6 p)
      have g2 := (gd_lot (M := 10 ^ 39) (by decide) m6 r)
      have sh : ShD (.list [dLot n p, dLot n' r]) := (GdAll.cons g1 (GdAll.cons g2 GdAll.nil)).list.shD (by decide) (by decide) (by decide)
      have ea : ∀ {z12 z15 : Option V}, Ev (isMs C n p) (tVar 5) [some (.ref a0), some (.ref S.s), some (.int (0 + (i : Int))), some one, some oth, some (.ref xa), some (.ref xb), some (.int (c9 n)), some pc, some (.ref L), z10, z11, z12, z13, some zt, z15, none] H9 := ev_var (sty_ms _ _ _) rfl ⟨one, d3⟩
      have eb : ∀ {z12 z15 : Option V}, Ev (isMs C n' r) (tVar 6) [some (.ref a0), some (.ref S.s), some (.int (0 + (i : Int))), some one, some oth, some (.ref xa), some (.ref xb), some (.int (c9 n)), some pc, some (.ref L), z10, z11, z12, z13, some zt, z15, none] H9 := ev_var (sty_ms _ _ _) rfl ⟨oth, d4⟩
      refine if_no (evt_reprs sh rfl (ev_lstD (Nat.le_of_ble_eq_true rfl) (eva_consD (ev_lotD (ev_lot n1 n6 ea)) (eva_consD (ev_lotD (ev_lot m1 m6 eb)) eva_nil))) (ev_lstD (Nat.le_of_ble_eq_true rfl) (eva_consD (ev_lotD (ev_var (sty_lot _ _) rfl d1)) (eva_consD (ev_lotD (ev_var (sty_lot _ _) rfl d2)) eva_nil)))) rfl fun Hw sw => ?_
      exact ⟨tb, _, _, _, _, _, _, _, _, _, _, _, _, _, _, rfl, stZ.same (sk.trans sw), by omega⟩
end
end XT
namespace XT
open PySem PySem.Spec PyProof.Rows L2
/-! ### the law's end -/
theorem walk_ofX {l : PySem.W.OpenLaw} {n k : Nat} {q : Program} {loose : List Str} {XP : (Str → Option Value) → Heap → Prop} {YP : World → Heap → Prop} {d : DefRec}
    (hn : l.most = some n) (hn2 : n ≤ sizeLine) (hdf : d.params.defaults = []) (hr : Room k callerA)
    (F : ∀ (w : World) (mg : Str → Option Value) (fa : Addr) (h : Heap), YP w h → h.Ns mainGlobals mg → mg d.name = some (.ref fa) →
      ∃ (K : PySem.W.Frag) (sp : Sp), K.In h ∧ (∀ base : Heap, K.In base → base.Ns mainGlobals mg → RunC l.prog w K mg base k fa sp) ∧
        ∀ (H : Hp) (a : Addr) (ns : List Int), ns.length ≤ n → SqL K H a (ns.map V.int) → sp [.ref a] H (fun v _ => v = .bl true) E0) :
    PySem.W.WalkO q loose XP YP l.row.toRowW d [] (fun f vs => PySem.call f vs) := by
  refine Att.attach_call hn hdf fun w s0 s1 mg mb fa o pm cd doc a vs ns G Y ho hd hcd hmg hobj hints hlen hg => ?_
  obtain ⟨K, sp, KX, hF, hsp⟩ := F w mg fa _ Y G.T.g hmg
  exact law_end KX G.T.g G.T.b G.T.builtins G.T.nolimit hg hobj hints (Nat.le_trans hlen hn2) hr hF fun H hS => hsp H a ns hlen hS
end XT
namespace XT
open PySem PySem.Spec PyProof.Rows L2
/-! what the top has written -/
theorem all_mk {l : PySem.W.OpenLaw} {w : World} {K : PySem.W.Frag} {h : Heap} {mg : Str → Option Value} {fa : Addr} (X : K.In h) (G : h.Ns mainGlobals mg) (hfa : mg "law" = some (.ref fa))
    {f1 : Addr} {od1 an1 : Option Addr} {sl1 : Array (Option Value)} {oc1 kV1 dc1 pm1 cd1 ct1 : Value}
    (a1 : PySem.W.nsIn K mainGlobals "_wall" = some (some (.ref f1))) (l1 : K.lookup f1 = some ⟨oc1, od1, .func (PySem.W.fnOf "_wall" "_wall" (defArgs sWall) (defBody sWall) (defScope sWall) .none kV1 dc1 pm1 an1 cd1 ct1), sl1⟩) (c1 : PySem.W.codeIn K cd1 "_wall" = true) (k1 : PySem.W.keepIn K (.ref f1) = true)
    {f2 : Addr} {od2 an2 : Option Addr} {sl2 : Array (Option Value)} {oc2 kV2 dc2 pm2 cd2 ct2 : Value}
    (a2 : PySem.W.nsIn K mainGlobals "is_number" = some (some (.ref f2))) (l2 : K.lookup f2 = some ⟨oc2, od2, .func (PySem.W.fnOf "is_number" "is_number" (defArgs sNum) (defBody sNum) (defScope sNum) .none kV2 dc2 pm2 an2 cd2 ct2), sl2⟩) (c2 : PySem.W.codeIn K cd2 "is_number" = true) (k2 : PySem.W.keepIn K (.ref f2) = true)
    {f3 : Addr} {od3 an3 : Option Addr} {sl3 : Array (Option Value)} {oc3 kV3 dc3 pm3 cd3 ct3 : Value}
    (a3 : PySem.W.nsIn K mainGlobals "is_width" = some (some (.ref f3))) (l3 : K.lookup f3 = some ⟨oc3, od3, .func (PySem.W.fnOf "is_width" "is_width" (defArgs sIsW) (defBody sIsW) (defScope sIsW) .none kV3 dc3 pm3 an3 cd3 ct3), sl3⟩) (c3 : PySem.W.codeIn K cd3 "is_width" = true) (k3 : PySem.W.keepIn K (.ref f3) = true)
    {f4 : Addr} {od4 an4 : Option Addr} {sl4 : Array (Option Value)} {oc4 kV4 dc4 pm4 cd4 ct4 : Value}
    (a4 : PySem.W.nsIn K mainGlobals "is_mask" = some (some (.ref f4))) (l4 : K.lookup f4 = some ⟨oc4, od4, .func (PySem.W.fnOf "is_mask" "is_mask" (defArgs sMask) (defBody sMask) (defScope sMask) .none kV4 dc4 pm4 an4 cd4 ct4), sl4⟩) (c4 : PySem.W.codeIn K cd4 "is_mask" = true) (k4 : PySem.W.keepIn K (.ref f4) = true)
    {f5 : Addr} {od5 an5 : Option Addr} {sl5 : Array (Option Value)} {oc5 kV5 dc5 pm5 cd5 ct5 : Value}
    (a5 : PySem.W.nsIn K mainGlobals "lot_error" = some (some (.ref f5))) (l5 : K.lookup f5 = some ⟨oc5, od5, .func (PySem.W.fnOf "lot_error" "lot_error" (defArgs sLotE) (defBody sLotE) (defScope sLotE) .none kV5 dc5 pm5 an5 cd5 ct5), sl5⟩) (c5 : PySem.W.codeIn K cd5 "lot_error" = true) (k5 : PySem.W.keepIn K (.ref f5) = true)
    {f6 : Addr} {od6 an6 : Option Addr} {sl6 : Array (Option Value)} {oc6 kV6 dc6 pm6 cd6 ct6 : Value}
    (a6 : PySem.W.nsIn K mainGlobals "check_lot" = some (some (.ref f6))) (l6 : K.lookup f6 = some ⟨oc6, od6, .func (PySem.W.fnOf "check_lot" "check_lot" (defArgs sCheckLot) (defBody sCheckLot) (defScope sCheckLot) .none kV6 dc6 pm6 an6 cd6 ct6), sl6⟩) (c6 : PySem.W.codeIn K cd6 "check_lot" = true) (k6 : PySem.W.keepIn K (.ref f6) = true)
    {f7 : Addr} {od7 an7 : Option Addr} {sl7 : Array (Option Value)} {oc7 kV7 dc7 pm7 cd7 ct7 : Value}
    (a7 : PySem.W.nsIn K mainGlobals "mask_error" = some (some (.ref f7))) (l7 : K.lookup f7 = some ⟨oc7, od7, .func (PySem.W.fnOf "mask_error" "mask_error" (defArgs sMaskE) (defBody sMaskE) (defScope sMaskE) .none kV7 dc7 pm7 an7 cd7 ct7), sl7⟩) (c7 : PySem.W.codeIn K cd7 "mask_error" = true) (k7 : PySem.W.keepIn K (.ref f7) = true)
    {f8 : Addr} {od8 an8 : Option Addr} {sl8 : Array (Option Value)} {oc8 kV8 dc8 pm8 cd8 ct8 : Value}
    (a8 : PySem.W.nsIn K mainGlobals "turned" = some (some (.ref f8))) (l8 : K.lookup f8 = some ⟨oc8, od8, .func (PySem.W.fnOf "turned" "turned" (defArgs sTurned) (defBody sTurned) (defScope sTurned) .none kV8 dc8 pm8 an8 cd8 ct8), sl8⟩) (c8 : PySem.W.codeIn K cd8 "turned" = true) (k8 : PySem.W.keepIn K (.ref f8) = true)
    {f9 : Addr} {od9 an9 : Option Addr} {sl9 : Array (Option Value)} {oc9 kV9 dc9 pm9 cd9 ct9 : Value}
    (a9 : PySem.W.nsIn K mainGlobals "rest_of" = some (some (.ref f9))) (l9 : K.lookup f9 = some ⟨oc9, od9, .func (PySem.W.fnOf "rest_of" "rest_of" (defArgs sRest) (defBody sRest) (defScope sRest) .none kV9 dc9 pm9 an9 cd9 ct9), sl9⟩) (c9 : PySem.W.codeIn K cd9 "rest_of" = true) (k9 : PySem.W.keepIn K (.ref f9) = true)
    {f10 : Addr} {od10 an10 : Option Addr} {sl10 : Array (Option Value)} {oc10 kV10 dc10 pm10 cd10 ct10 : Value}
    (a10 : PySem.W.nsIn K mainGlobals "left_over" = some (some (.ref f10))) (l10 : K.lookup f10 = some ⟨oc10, od10, .func (PySem.W.fnOf "left_over" "left_over" (defArgs sLeft) (defBody sLeft) (defScope sLeft) .none kV10 dc10 pm10 an10 cd10 ct10), sl10⟩) (c10 : PySem.W.codeIn K cd10 "left_over" = true) (k10 : PySem.W.keepIn K (.ref f10) = true)
    {f11 : Addr} {od11 an11 : Option Addr} {sl11 : Array (Option Value)} {oc11 kV11 dc11 pm11 cd11 ct11 : Value}
    (a11 : PySem.W.nsIn K mainGlobals "united" = some (some (.ref f11))) (l11 : K.lookup f11 = some ⟨oc11, od11, .func (PySem.W.fnOf "united" "united" (defArgs sUnited) (defBody sUnited) (defScope sUnited) .none kV11 dc11 pm11 an11 cd11 ct11), sl11⟩) (c11 : PySem.W.codeIn K cd11 "united" = true) (k11 : PySem.W.keepIn K (.ref f11) = true)
    {f12 : Addr} {od12 an12 : Option Addr} {sl12 : Array (Option Value)} {oc12 kV12 dc12 pm12 cd12 ct12 : Value}
    (a12 : PySem.W.nsIn K mainGlobals "shared" = some (some (.ref f12))) (l12 : K.lookup f12 = some ⟨oc12, od12, .func (PySem.W.fnOf "shared" "shared" (defArgs sShared) (defBody sShared) (defScope sShared) .none kV12 dc12 pm12 an12 cd12 ct12), sl12⟩) (c12 : PySem.W.codeIn K cd12 "shared" = true) (k12 : PySem.W.keepIn K (.ref f12) = true)
    {f13 : Addr} {od13 an13 : Option Addr} {sl13 : Array (Option Value)} {oc13 kV13 dc13 pm13 cd13 ct13 : Value}
    (a13 : PySem.W.nsIn K mainGlobals "common_width" = some (some (.ref f13))) (l13 : K.lookup f13 = some ⟨oc13, od13, .func (PySem.W.fnOf "common_width" "common_width" (defArgs sWidth) (defBody sWidth) (defScope sWidth) .none kV13 dc13 pm13 an13 cd13 ct13), sl13⟩) (c13 : PySem.W.codeIn K cd13 "common_width" = true) (k13 : PySem.W.keepIn K (.ref f13) = true)
    {f14 : Addr} {od14 an14 : Option Addr} {sl14 : Array (Option Value)} {oc14 kV14 dc14 pm14 cd14 ct14 : Value}
    (a14 : PySem.W.nsIn K mainGlobals "pair_counts" = some (some (.ref f14))) (l14 : K.lookup f14 = some ⟨oc14, od14, .func (PySem.W.fnOf "pair_counts" "pair_counts" (defArgs sPairCounts) (defBody sPairCounts) (defScope sPairCounts) .none kV14 dc14 pm14 an14 cd14 ct14), sl14⟩) (c14 : PySem.W.codeIn K cd14 "pair_counts" = true) (k14 : PySem.W.keepIn K (.ref f14) = true)
    {f15 : Addr} {od15 an15 : Option Addr} {sl15 : Array (Option Value)} {oc15 kV15 dc15 pm15 cd15 ct15 : Value}
    (a15 : PySem.W.nsIn K mainGlobals "sum_of" = some (some (.ref f15))) (l15 : K.lookup f15 = some ⟨oc15, od15, .func (PySem.W.fnOf "sum_of" "sum_of" (defArgs sSumOf) (defBody sSumOf) (defScope sSumOf) .none kV15 dc15 pm15 an15 cd15 ct15), sl15⟩) (c15 : PySem.W.codeIn K cd15 "sum_of" = true) (k15 : PySem.W.keepIn K (.ref f15) = true)
    {f16 : Addr} {od16 an16 : Option Addr} {sl16 : Array (Option Value)} {oc16 kV16 dc16 pm16 cd16 ct16 : Value}
    (a16 : PySem.W.nsIn K mainGlobals "greatest_addend" = some (some (.ref f16))) (l16 : K.lookup f16 = some ⟨oc16, od16, .func (PySem.W.fnOf "greatest_addend" "greatest_addend" (defArgs sGreatestAddend) (defBody sGreatestAddend) (defScope sGreatestAddend) .none kV16 dc16 pm16 an16 cd16 ct16), sl16⟩) (c16 : PySem.W.codeIn K cd16 "greatest_addend" = true) (k16 : PySem.W.keepIn K (.ref f16) = true)
    {f17 : Addr} {od17 an17 : Option Addr} {sl17 : Array (Option Value)} {oc17 kV17 dc17 pm17 cd17 ct17 : Value}
    (a17 : PySem.W.nsIn K mainGlobals "digits_of" = some (some (.ref f17))) (l17 : K.lookup f17 = some ⟨oc17, od17, .func (PySem.W.fnOf "digits_of" "digits_of" (defArgs sDigitsOf) (defBody sDigitsOf) (defScope sDigitsOf) .none kV17 dc17 pm17 an17 cd17 ct17), sl17⟩) (c17 : PySem.W.codeIn K cd17 "digits_of" = true) (k17 : PySem.W.keepIn K (.ref f17) = true)
    {f18 : Addr} {od18 an18 : Option Addr} {sl18 : Array (Option Value)} {oc18 kV18 dc18 pm18 cd18 ct18 : Value}
    (a18 : PySem.W.nsIn K mainGlobals "patterns_of" = some (some (.ref f18))) (l18 : K.lookup f18 = some ⟨oc18, od18, .func (PySem.W.fnOf "patterns_of" "patterns_of" (defArgs sPatternsOf) (defBody sPatternsOf) (defScope sPatternsOf) .none kV18 dc18 pm18 an18 cd18 ct18), sl18⟩) (c18 : PySem.W.codeIn K cd18 "patterns_of" = true) (k18 : PySem.W.keepIn K (.ref f18) = true)
    {f19 : Addr} {od19 an19 : Option Addr} {sl19 : Array (Option Value)} {oc19 kV19 dc19 pm19 cd19 ct19 : Value}
    (a19 : PySem.W.nsIn K mainGlobals "words_or_none" = some (some (.ref f19))) (l19 : K.lookup f19 = some ⟨oc19, od19, .func (PySem.W.fnOf "words_or_none" "words_or_none" (defArgs sWordsOrNone) (defBody sWordsOrNone) (defScope sWordsOrNone) .none kV19 dc19 pm19 an19 cd19 ct19), sl19⟩) (c19 : PySem.W.codeIn K cd19 "words_or_none" = true) (k19 : PySem.W.keepIn K (.ref f19) = true)
    {f20 : Addr} {od20 an20 : Option Addr} {sl20 : Array (Option Value)} {oc20 kV20 dc20 pm20 cd20 ct20 : Value}
    (a20 : PySem.W.nsIn K mainGlobals "_law_stream" = some (some (.ref f20))) (l20 : K.lookup f20 = some ⟨oc20, od20, .func (PySem.W.fnOf "_law_stream" "_law_stream" (defArgs sStream) (defBody sStream) (defScope sStream) .none kV20 dc20 pm20 an20 cd20 ct20), sl20⟩) (c20 : PySem.W.codeIn K cd20 "_law_stream" = true) (k20 : PySem.W.keepIn K (.ref f20) = true)
    {f21 : Addr} {od21 an21 : Option Addr} {sl21 : Array (Option Value)} {oc21 kV21 dc21 pm21 cd21 ct21 : Value}
    (a21 : PySem.W.nsIn K mainGlobals "_law_draw" = some (some (.ref f21))) (l21 : K.lookup f21 = some ⟨oc21, od21, .func (PySem.W.fnOf "_law_draw" "_law_draw" (defArgs sDraw) (defBody sDraw) (defScope sDraw) .none kV21 dc21 pm21 an21 cd21 ct21), sl21⟩) (c21 : PySem.W.codeIn K cd21 "_law_draw" = true) (k21 : PySem.W.keepIn K (.ref f21) = true)
    {f22 : Addr} {od22 an22 : Option Addr} {sl22 : Array (Option Value)} {oc22 kV22 dc22 pm22 cd22 ct22 : Value}
    (a22 : PySem.W.nsIn K mainGlobals "_law_odd" = some (some (.ref f22))) (l22 : K.lookup f22 = some ⟨oc22, od22, .func (PySem.W.fnOf "_law_odd" "_law_odd" (defArgs sLOdd) (defBody sLOdd) (defScope sLOdd) .none kV22 dc22 pm22 an22 cd22 ct22), sl22⟩) (c22 : PySem.W.codeIn K cd22 "_law_odd" = true) (k22 : PySem.W.keepIn K (.ref f22) = true)
    {f23 : Addr} {od23 an23 : Option Addr} {sl23 : Array (Option Value)} {oc23 kV23 dc23 pm23 cd23 ct23 : Value}
    (a23 : PySem.W.nsIn K mainGlobals "_law_is_int" = some (some (.ref f23))) (l23 : K.lookup f23 = some ⟨oc23, od23, .func (PySem.W.fnOf "_law_is_int" "_law_is_int" (defArgs sLIsInt) (defBody sLIsInt) (defScope sLIsInt) .none kV23 dc23 pm23 an23 cd23 ct23), sl23⟩) (c23 : PySem.W.codeIn K cd23 "_law_is_int" = true) (k23 : PySem.W.keepIn K (.ref f23) = true)
    {f24 : Addr} {od24 an24 : Option Addr} {sl24 : Array (Option Value)} {oc24 kV24 dc24 pm24 cd24 ct24 : Value}
    (a24 : PySem.W.nsIn K mainGlobals "_law_drawn" = some (some (.ref f24))) (l24 : K.lookup f24 = some ⟨oc24, od24, .func (PySem.W.fnOf "_law_drawn" "_law_drawn" (defArgs sDrawn) (defBody sDrawn) (defScope sDrawn) .none kV24 dc24 pm24 an24 cd24 ct24), sl24⟩) (c24 : PySem.W.codeIn K cd24 "_law_drawn" = true) (k24 : PySem.W.keepIn K (.ref f24) = true)
    {f25 : Addr} {od25 an25 : Option Addr} {sl25 : Array (Option Value)} {oc25 kV25 dc25 pm25 cd25 ct25 : Value}
    (a25 : PySem.W.nsIn K mainGlobals "_law_moved" = some (some (.ref f25))) (l25 : K.lookup f25 = some ⟨oc25, od25, .func (PySem.W.fnOf "_law_moved" "_law_moved" (defArgs sLMoved) (defBody sLMoved) (defScope sLMoved) .none kV25 dc25 pm25 an25 cd25 ct25), sl25⟩) (c25 : PySem.W.codeIn K cd25 "_law_moved" = true) (k25 : PySem.W.keepIn K (.ref f25) = true)
    {f26 : Addr} {od26 an26 : Option Addr} {sl26 : Array (Option Value)} {oc26 kV26 dc26 pm26 cd26 ct26 : Value}
    (a26 : PySem.W.nsIn K mainGlobals "_law_pairs" = some (some (.ref f26))) (l26 : K.lookup f26 = some ⟨oc26, od26, .func (PySem.W.fnOf "_law_pairs" "_law_pairs" (defArgs sLPairs) (defBody sLPairs) (defScope sLPairs) .none kV26 dc26 pm26 an26 cd26 ct26), sl26⟩) (c26 : PySem.W.codeIn K cd26 "_law_pairs" = true) (k26 : PySem.W.keepIn K (.ref f26) = true)
    {f27 : Addr} {od27 an27 : Option Addr} {sl27 : Array (Option Value)} {oc27 kV27 dc27 pm27 cd27 ct27 : Value}
    (a27 : PySem.W.nsIn K mainGlobals "_law_set_error" = some (some (.ref f27))) (l27 : K.lookup f27 = some ⟨oc27, od27, .func (PySem.W.fnOf "_law_set_error" "_law_set_error" (defArgs sLSetError) (defBody sLSetError) (defScope sLSetError) .none kV27 dc27 pm27 an27 cd27 ct27), sl27⟩) (c27 : PySem.W.codeIn K cd27 "_law_set_error" = true) (k27 : PySem.W.keepIn K (.ref f27) = true)
    {f28 : Addr} {od28 an28 : Option Addr} {sl28 : Array (Option Value)} {oc28 kV28 dc28 pm28 cd28 ct28 : Value}
    (a28 : PySem.W.nsIn K mainGlobals "_law_masked" = some (some (.ref f28))) (l28 : K.lookup f28 = some ⟨oc28, od28, .func (PySem.W.fnOf "_law_masked" "_law_masked" (defArgs sLMasked) (defBody sLMasked) (defScope sLMasked) .none kV28 dc28 pm28 an28 cd28 ct28), sl28⟩) (c28 : PySem.W.codeIn K cd28 "_law_masked" = true) (k28 : PySem.W.keepIn K (.ref f28) = true)
    {f29 : Addr} {od29 an29 : Option Addr} {sl29 : Array (Option Value)} {oc29 kV29 dc29 pm29 cd29 ct29 : Value}
    (a29 : PySem.W.nsIn K mainGlobals "_law_combined" = some (some (.ref f29))) (l29 : K.lookup f29 = some ⟨oc29, od29, .func (PySem.W.fnOf "_law_combined" "_law_combined" (defArgs sLCombined) (defBody sLCombined) (defScope sLCombined) .none kV29 dc29 pm29 an29 cd29 ct29), sl29⟩) (c29 : PySem.W.codeIn K cd29 "_law_combined" = true) (k29 : PySem.W.keepIn K (.ref f29) = true)
    {f30 : Addr} {od30 an30 : Option Addr} {sl30 : Array (Option Value)} {oc30 kV30 dc30 pm30 cd30 ct30 : Value}
    (a30 : PySem.W.nsIn K mainGlobals "law" = some (some (.ref f30))) (l30 : K.lookup f30 = some ⟨oc30, od30, .func (PySem.W.fnOf "law" "law" (defArgs sLaw) (defBody sLaw) (defScope sLaw) .none kV30 dc30 pm30 an30 cd30 ct30), sl30⟩) (c30 : PySem.W.codeIn K cd30 "law" = true) (k30 : PySem.W.keepIn K (.ref f30) = true)
    {tk1 : Tok} (w1 : PySem.W.nsIn K mainGlobals "MAX_WIDTH" = some (some (.int 6 tk1)))
    {cMaskSet : Addr} {minitcMaskSet : Addr} {ocminitcMaskSet kVminitcMaskSet dcminitcMaskSet pmminitcMaskSet cdminitcMaskSet ctminitcMaskSet : Value} {odminitcMaskSet anminitcMaskSet : Option Addr} {slminitcMaskSet : Array (Option Value)} {glotcMaskSet plotcMaskSet : Addr} {rglotcMaskSet : List Value} {ocglotcMaskSet kVglotcMaskSet dcglotcMaskSet pmglotcMaskSet cdglotcMaskSet ctglotcMaskSet : Value} {odglotcMaskSet anglotcMaskSet : Option Addr} {slglotcMaskSet : Array (Option Value)} {mxorcMaskSet : Addr} {ocmxorcMaskSet kVmxorcMaskSet dcmxorcMaskSet pmmxorcMaskSet cdmxorcMaskSet ctmxorcMaskSet : Value} {odmxorcMaskSet anmxorcMaskSet : Option Addr} {slmxorcMaskSet : Array (Option Value)} {morcMaskSet : Addr} {ocmorcMaskSet kVmorcMaskSet dcmorcMaskSet pmmorcMaskSet cdmorcMaskSet ctmorcMaskSet : Value} {odmorcMaskSet anmorcMaskSet : Option Addr} {slmorcMaskSet : Array (Option Value)} {mandcMaskSet : Addr} {ocmandcMaskSet kVmandcMaskSet dcmandcMaskSet pmmandcMaskSet cdmandcMaskSet ctmandcMaskSet : Value} {odmandcMaskSet anmandcMaskSet : Option Addr} {slmandcMaskSet : Array (Option Value)} {msubcMaskSet : Addr} {ocmsubcMaskSet kVmsubcMaskSet dcmsubcMaskSet pmmsubcMaskSet cdmsubcMaskSet ctmsubcMaskSet : Value} {odmsubcMaskSet anmsubcMaskSet : Option Addr} {slmsubcMaskSet : Array (Option Value)} {maddcMaskSet : Addr} {ocmaddcMaskSet kVmaddcMaskSet dcmaddcMaskSet pmmaddcMaskSet cdmaddcMaskSet ctmaddcMaskSet : Value} {odmaddcMaskSet anmaddcMaskSet : Option Addr} {slmaddcMaskSet : Array (Option Value)} {gwidthcMaskSet pwidthcMaskSet : Addr} {rgwidthcMaskSet : List Value} {ocgwidthcMaskSet kVgwidthcMaskSet dcgwidthcMaskSet pmgwidthcMaskSet cdgwidthcMaskSet ctgwidthcMaskSet : Value} {odgwidthcMaskSet angwidthcMaskSet : Option Addr} {slgwidthcMaskSet : Array (Option Value)} {mwithincMaskSet : Addr} {ocmwithincMaskSet kVmwithincMaskSet dcmwithincMaskSet pmmwithincMaskSet cdmwithincMaskSet ctmwithincMaskSet : Value} {odmwithincMaskSet anmwithincMaskSet : Option Addr} {slmwithincMaskSet : Array (Option Value)} {maddendcMaskSet : Addr} {ocmaddendcMaskSet kVmaddendcMaskSet dcmaddendcMaskSet pmmaddendcMaskSet cdmaddendcMaskSet ctmaddendcMaskSet : Value} {odmaddendcMaskSet anmaddendcMaskSet : Option Addr} {slmaddendcMaskSet : Array (Option Value)} {mcallcMaskSet : Addr} {ocmcallcMaskSet kVmcallcMaskSet dcmcallcMaskSet pmmcallcMaskSet cdmcallcMaskSet ctmcallcMaskSet : Value} {odmcallcMaskSet anmcallcMaskSet : Option Addr} {slmcallcMaskSet : Array (Option Value)} {meqcMaskSet : Addr} {ocmeqcMaskSet kVmeqcMaskSet dcmeqcMaskSet pmmeqcMaskSet cdmeqcMaskSet ctmeqcMaskSet : Value} {odmeqcMaskSet anmeqcMaskSet : Option Addr} {slmeqcMaskSet : Array (Option Value)} {cNoMask : Addr} {fIgNoMask NSgNoMask : Addr} {nmgNoMask qngNoMask : Str} {bsgNoMask bmgNoMask sbgNoMask : List Value} {sngNoMask : List Str} {abgNoMask : Bool} {colgNoMask : Option Bool} {ddgNoMask odgNoMask angNoMask : Option Addr} {p0gNoMask p1gNoMask p2gNoMask p3gNoMask p5gNoMask : Option Value} {ocgNoMask kVgNoMask dcgNoMask pmgNoMask cdgNoMask ctgNoMask : Value} {slgNoMask : Array (Option Value)} {cOtherWidth : Addr} {fIgOtherWidth NSgOtherWidth : Addr} {nmgOtherWidth qngOtherWidth : Str} {bsgOtherWidth bmgOtherWidth sbgOtherWidth : List Value} {sngOtherWidth : List Str} {abgOtherWidth : Bool} {colgOtherWidth : Option Bool} {ddgOtherWidth odgOtherWidth angOtherWidth : Option Addr} {p0gOtherWidth p1gOtherWidth p2gOtherWidth p3gOtherWidth p5gOtherWidth : Option Value} {ocgOtherWidth kVgOtherWidth dcgOtherWidth pmgOtherWidth cdgOtherWidth ctgOtherWidth : Value} {slgOtherWidth : Array (Option Value)} {cBadLot : Addr} {cBadWide : Addr} {cTooWide : Addr} {cNoIndex : Addr} {cTurnError : Addr}
    (x1 : PySem.W.nsIn K mainGlobals "MaskSet" = some (some (.ref cMaskSet)))
    (x2 : PySem.W.plainGet K cMaskSet Str.empty = true)
    (x3 : PySem.W.hasDictIn K cMaskSet = true)
    (x4 : PySem.W.plainOver K cMaskSet = true)
    (x5 : PySem.W.findIn K (.ref cMaskSet) "__setattr__" = some (some (.builtin "object.__setattr__")))
    (x6 : PySem.W.findIn K (.ref cMaskSet) "held" = some none)
    (x7 : PySem.W.selfFirst K cMaskSet = true)
    (x8 : PySem.W.findIn K (.ref cMaskSet) "__init__" = some (some (.ref minitcMaskSet)))
    (x9 : PySem.W.isFn K (.ref minitcMaskSet) = true)
    (x10 : K.lookup minitcMaskSet = some ⟨ocminitcMaskSet, odminitcMaskSet, .func (PySem.W.fnOf "__init__" "MaskSet.__init__" (defArgs sMsInit) (defBody sMsInit) (defScope sMsInit) .none kVminitcMaskSet dcminitcMaskSet pmminitcMaskSet anminitcMaskSet cdminitcMaskSet ctminitcMaskSet), slminitcMaskSet⟩)
    (x11 : PySem.W.codeIn K cdminitcMaskSet "MaskSet.__init__" = true)
    (x12 : PySem.W.keepIn K (.ref minitcMaskSet) = true)
    (x13 : PySem.W.makesIn K cMaskSet = true)
    (x14 : PySem.W.keepIn K (.ref cMaskSet) = true)
    (x15 : PySem.W.findIn K (.ref cMaskSet) "lot" = some (some (.ref plotcMaskSet)))
    (x16 : PySem.W.specialIn K (.ref plotcMaskSet) "__get__" = some (some (.builtin "property.__get__")))
    (x17 : PySem.W.takesIn K (.ref plotcMaskSet) = some true)
    (x18 : PySem.W.recIn K plotcMaskSet "property" = some (.ref glotcMaskSet :: rglotcMaskSet))
    (x19 : K.lookup glotcMaskSet = some ⟨ocglotcMaskSet, odglotcMaskSet, .func (PySem.W.fnOf "lot" "MaskSet.lot" (defArgs sMsLot) (defBody sMsLot) (defScope sMsLot) .none kVglotcMaskSet dcglotcMaskSet pmglotcMaskSet anglotcMaskSet cdglotcMaskSet ctglotcMaskSet), slglotcMaskSet⟩)
    (x20 : PySem.W.codeIn K cdglotcMaskSet "MaskSet.lot" = true)
    (x21 : PySem.W.keepIn K (.ref glotcMaskSet) = true)
    (x22 : PySem.W.findIn K (.ref cMaskSet) "__xor__" = some (some (.ref mxorcMaskSet)))
    (x23 : PySem.W.isFn K (.ref mxorcMaskSet) = true)
    (x24 : K.lookup mxorcMaskSet = some ⟨ocmxorcMaskSet, odmxorcMaskSet, .func (PySem.W.fnOf "__xor__" "MaskSet.__xor__" (defArgs sMsXor) (defBody sMsXor) (defScope sMsXor) .none kVmxorcMaskSet dcmxorcMaskSet pmmxorcMaskSet anmxorcMaskSet cdmxorcMaskSet ctmxorcMaskSet), slmxorcMaskSet⟩)
    (x25 : PySem.W.codeIn K cdmxorcMaskSet "MaskSet.__xor__" = true)
    (x26 : PySem.W.keepIn K (.ref mxorcMaskSet) = true)
    (x27 : PySem.W.findIn K (.ref cMaskSet) "__or__" = some (some (.ref morcMaskSet)))
    (x28 : PySem.W.isFn K (.ref morcMaskSet) = true)
    (x29 : K.lookup morcMaskSet = some ⟨ocmorcMaskSet, odmorcMaskSet, .func (PySem.W.fnOf "__or__" "MaskSet.__or__" (defArgs sMsOr) (defBody sMsOr) (defScope sMsOr) .none kVmorcMaskSet dcmorcMaskSet pmmorcMaskSet anmorcMaskSet cdmorcMaskSet ctmorcMaskSet), slmorcMaskSet⟩)
    (x30 : PySem.W.codeIn K cdmorcMaskSet "MaskSet.__or__" = true)
    (x31 : PySem.W.keepIn K (.ref morcMaskSet) = true)
    (x32 : PySem.W.findIn K (.ref cMaskSet) "__and__" = some (some (.ref mandcMaskSet)))
    (x33 : PySem.W.isFn K (.ref mandcMaskSet) = true)
    (x34 : K.lookup mandcMaskSet = some ⟨ocmandcMaskSet, odmandcMaskSet, .func (PySem.W.fnOf "__and__" "MaskSet.__and__" (defArgs sMsAnd) (defBody sMsAnd) (defScope sMsAnd) .none kVmandcMaskSet dcmandcMaskSet pmmandcMaskSet anmandcMaskSet cdmandcMaskSet ctmandcMaskSet), slmandcMaskSet⟩)
    (x35 : PySem.W.codeIn K cdmandcMaskSet "MaskSet.__and__" = true)
    (x36 : PySem.W.keepIn K (.ref mandcMaskSet) = true)
    (x37 : PySem.W.findIn K (.ref cMaskSet) "__sub__" = some (some (.ref msubcMaskSet)))
    (x38 : PySem.W.isFn K (.ref msubcMaskSet) = true)
    (x39 : K.lookup msubcMaskSet = some ⟨ocmsubcMaskSet, odmsubcMaskSet, .func (PySem.W.fnOf "__sub__" "MaskSet.__sub__" (defArgs sMsSub) (defBody sMsSub) (defScope sMsSub) .none kVmsubcMaskSet dcmsubcMaskSet pmmsubcMaskSet anmsubcMaskSet cdmsubcMaskSet ctmsubcMaskSet), slmsubcMaskSet⟩)
    (x40 : PySem.W.codeIn K cdmsubcMaskSet "MaskSet.__sub__" = true)
    (x41 : PySem.W.keepIn K (.ref msubcMaskSet) = true)
    (x42 : PySem.W.findIn K (.ref cMaskSet) "__add__" = some (some (.ref maddcMaskSet)))
    (x43 : PySem.W.isFn K (.ref maddcMaskSet) = true)
    (x44 : K.lookup maddcMaskSet = some ⟨ocmaddcMaskSet, odmaddcMaskSet, .func (PySem.W.fnOf "__add__" "MaskSet.__add__" (defArgs sMsAdd) (defBody sMsAdd) (defScope sMsAdd) .none kVmaddcMaskSet dcmaddcMaskSet pmmaddcMaskSet anmaddcMaskSet cdmaddcMaskSet ctmaddcMaskSet), slmaddcMaskSet⟩)
    (x45 : PySem.W.codeIn K cdmaddcMaskSet "MaskSet.__add__" = true)
    (x46 : PySem.W.keepIn K (.ref maddcMaskSet) = true)
    (x47 : PySem.W.findIn K (.ref cMaskSet) "width" = some (some (.ref pwidthcMaskSet)))
    (x48 : PySem.W.specialIn K (.ref pwidthcMaskSet) "__get__" = some (some (.builtin "property.__get__")))
    (x49 : PySem.W.takesIn K (.ref pwidthcMaskSet) = some true)
    (x50 : PySem.W.recIn K pwidthcMaskSet "property" = some (.ref gwidthcMaskSet :: rgwidthcMaskSet))
    (x51 : K.lookup gwidthcMaskSet = some ⟨ocgwidthcMaskSet, odgwidthcMaskSet, .func (PySem.W.fnOf "width" "MaskSet.width" (defArgs sMsWidth) (defBody sMsWidth) (defScope sMsWidth) .none kVgwidthcMaskSet dcgwidthcMaskSet pmgwidthcMaskSet angwidthcMaskSet cdgwidthcMaskSet ctgwidthcMaskSet), slgwidthcMaskSet⟩)
    (x52 : PySem.W.codeIn K cdgwidthcMaskSet "MaskSet.width" = true)
    (x53 : PySem.W.keepIn K (.ref gwidthcMaskSet) = true)
    (x54 : PySem.W.findIn K (.ref cMaskSet) "within" = some (some (.ref mwithincMaskSet)))
    (x55 : PySem.W.isFn K (.ref mwithincMaskSet) = true)
    (x56 : K.lookup mwithincMaskSet = some ⟨ocmwithincMaskSet, odmwithincMaskSet, .func (PySem.W.fnOf "within" "MaskSet.within" (defArgs sMsWithin) (defBody sMsWithin) (defScope sMsWithin) .none kVmwithincMaskSet dcmwithincMaskSet pmmwithincMaskSet anmwithincMaskSet cdmwithincMaskSet ctmwithincMaskSet), slmwithincMaskSet⟩)
    (x57 : PySem.W.codeIn K cdmwithincMaskSet "MaskSet.within" = true)
    (x58 : PySem.W.keepIn K (.ref mwithincMaskSet) = true)
    (x59 : PySem.W.findIn K (.ref cMaskSet) "addend" = some (some (.ref maddendcMaskSet)))
    (x60 : PySem.W.isFn K (.ref maddendcMaskSet) = true)
    (x61 : K.lookup maddendcMaskSet = some ⟨ocmaddendcMaskSet, odmaddendcMaskSet, .func (PySem.W.fnOf "addend" "MaskSet.addend" (defArgs sMsAddend) (defBody sMsAddend) (defScope sMsAddend) .none kVmaddendcMaskSet dcmaddendcMaskSet pmmaddendcMaskSet anmaddendcMaskSet cdmaddendcMaskSet ctmaddendcMaskSet), slmaddendcMaskSet⟩)
    (x62 : PySem.W.codeIn K cdmaddendcMaskSet "MaskSet.addend" = true)
    (x63 : PySem.W.keepIn K (.ref maddendcMaskSet) = true)
    (x64 : PySem.W.findIn K (.ref cMaskSet) "__call__" = some (some (.ref mcallcMaskSet)))
    (x65 : PySem.W.isFn K (.ref mcallcMaskSet) = true)
    (x66 : K.lookup mcallcMaskSet = some ⟨ocmcallcMaskSet, odmcallcMaskSet, .func (PySem.W.fnOf "__call__" "MaskSet.__call__" (defArgs sMsCall) (defBody sMsCall) (defScope sMsCall) .none kVmcallcMaskSet dcmcallcMaskSet pmmcallcMaskSet anmcallcMaskSet cdmcallcMaskSet ctmcallcMaskSet), slmcallcMaskSet⟩)
    (x67 : PySem.W.codeIn K cdmcallcMaskSet "MaskSet.__call__" = true)
    (x68 : PySem.W.keepIn K (.ref mcallcMaskSet) = true)
    (x69 : PySem.W.fnIn K mcallcMaskSet = true)
    (x70 : PySem.W.findIn K (.ref cMaskSet) "__class__" = some (some (.builtin "object.__class__")))
    (x71 : PySem.W.specialIn K (.builtin "object.__class__") "__get__" = some (some (.builtin "getset_descriptor.__get__")))
    (x72 : PySem.W.takesIn K (.builtin "object.__class__") = some true)
    (x73 : PySem.W.mroIn K cMaskSet (.type "object") = some true)
    (x74 : PySem.W.findIn K (.ref cMaskSet) "__eq__" = some (some (.ref meqcMaskSet)))
    (x75 : PySem.W.isFn K (.ref meqcMaskSet) = true)
    (x76 : K.lookup meqcMaskSet = some ⟨ocmeqcMaskSet, odmeqcMaskSet, .func (PySem.W.fnOf "__eq__" "MaskSet.__eq__" (defArgs sMsEq) (defBody sMsEq) (defScope sMsEq) .none kVmeqcMaskSet dcmeqcMaskSet pmmeqcMaskSet anmeqcMaskSet cdmeqcMaskSet ctmeqcMaskSet), slmeqcMaskSet⟩)
    (x77 : PySem.W.codeIn K cdmeqcMaskSet "MaskSet.__eq__" = true)
    (x78 : PySem.W.keepIn K (.ref meqcMaskSet) = true)
    (x79 : PySem.W.nsIn K mainGlobals "NoMask" = some (some (.ref cNoMask)))
    (x80 : K.lookup cNoMask = some (excClassObj nmgNoMask qngNoMask cNoMask NSgNoMask bsgNoMask bmgNoMask true sngNoMask sbgNoMask abgNoMask colgNoMask ddgNoMask p0gNoMask p1gNoMask p2gNoMask p3gNoMask p5gNoMask "LookupError.__new__"))
    (x81 : PySem.W.excTail [.type "LookupError", .type "Exception", .type "BaseException", .type "object"] bmgNoMask = true)
    (x82 : PySem.W.findIn K (.ref cNoMask) "__setattr__" = some (some (.builtin "object.__setattr__")))
    (x83 : PySem.W.findIn K (.ref cNoMask) "value" = some none)
    (x84 : PySem.W.findIn K (.ref cNoMask) "__init__" = some (some (.ref fIgNoMask)))
    (x85 : PySem.W.typeIn K (.ref fIgNoMask) = some (.type "function"))
    (x86 : K.lookup fIgNoMask = some ⟨ocgNoMask, odgNoMask, .func (PySem.W.fnOf "__init__" "NoMask.__init__" (defArgs sINoMask) (defBody sINoMask) (defScope sINoMask) .none kVgNoMask dcgNoMask pmgNoMask angNoMask cdgNoMask ctgNoMask), slgNoMask⟩)
    (x87 : PySem.W.codeIn K cdgNoMask "NoMask.__init__" = true)
    (x88 : PySem.W.keepIn K (.ref fIgNoMask) = true)
    (x89 : PySem.W.subIn K (.ref cNoMask) (.type "BaseException") = some true)
    (x90 : PySem.W.typeIn K (.ref cNoMask) = some (.type "type"))
    (x91 : PySem.W.keepIn K (.ref cNoMask) = true)
    (x92 : PySem.W.nsIn K mainGlobals "OtherWidth" = some (some (.ref cOtherWidth)))
    (x93 : K.lookup cOtherWidth = some (excClassObj nmgOtherWidth qngOtherWidth cOtherWidth NSgOtherWidth bsgOtherWidth bmgOtherWidth true sngOtherWidth sbgOtherWidth abgOtherWidth colgOtherWidth ddgOtherWidth p0gOtherWidth p1gOtherWidth p2gOtherWidth p3gOtherWidth p5gOtherWidth "ValueError.__new__"))
    (x94 : PySem.W.excTail [.type "ValueError", .type "Exception", .type "BaseException", .type "object"] bmgOtherWidth = true)
    (x95 : PySem.W.findIn K (.ref cOtherWidth) "__setattr__" = some (some (.builtin "object.__setattr__")))
    (x96 : PySem.W.findIn K (.ref cOtherWidth) "index" = some none)
    (x97 : PySem.W.findIn K (.ref cOtherWidth) "__init__" = some (some (.ref fIgOtherWidth)))
    (x98 : PySem.W.typeIn K (.ref fIgOtherWidth) = some (.type "function"))
    (x99 : K.lookup fIgOtherWidth = some ⟨ocgOtherWidth, odgOtherWidth, .func (PySem.W.fnOf "__init__" "OtherWidth.__init__" (defArgs sIOtherWidth) (defBody sIOtherWidth) (defScope sIOtherWidth) .none kVgOtherWidth dcgOtherWidth pmgOtherWidth angOtherWidth cdgOtherWidth ctgOtherWidth), slgOtherWidth⟩)
    (x100 : PySem.W.codeIn K cdgOtherWidth "OtherWidth.__init__" = true)
    (x101 : PySem.W.keepIn K (.ref fIgOtherWidth) = true)
    (x102 : PySem.W.subIn K (.ref cOtherWidth) (.type "BaseException") = some true)
    (x103 : PySem.W.typeIn K (.ref cOtherWidth) = some (.type "type"))
    (x104 : PySem.W.keepIn K (.ref cOtherWidth) = true)
    (x105 : PySem.W.hasDictIn K cNoMask = true)
    (x106 : PySem.W.findIn K (.ref cNoMask) "__getattribute__" = some (some (.builtin "BaseException.__getattribute__")))
    (x107 : PySem.W.findIn K (.ref cNoMask) "__getattr__" = some none)
    (x108 : PySem.W.nsIn K mainGlobals "BadLot" = some (some (.ref cBadLot)))
    (x109 : PySem.W.hasDictIn K cBadLot = true)
    (x110 : PySem.W.typeIn K (.ref cBadLot) = some (.type "type"))
    (x111 : PySem.W.subIn K (.ref cNoMask) (.ref cBadLot) = some false)
    (x112 : (Value.ref cNoMask == Value.ref cBadLot) = false)
    (x113 : PySem.W.nsIn K mainGlobals "BadWide" = some (some (.ref cBadWide)))
    (x114 : PySem.W.hasDictIn K cBadWide = true)
    (x115 : PySem.W.typeIn K (.ref cBadWide) = some (.type "type"))
    (x116 : PySem.W.subIn K (.ref cNoMask) (.ref cBadWide) = some false)
    (x117 : (Value.ref cNoMask == Value.ref cBadWide) = false)
    (x118 : PySem.W.nsIn K mainGlobals "TooWide" = some (some (.ref cTooWide)))
    (x119 : PySem.W.hasDictIn K cTooWide = true)
    (x120 : PySem.W.typeIn K (.ref cTooWide) = some (.type "type"))
    (x121 : PySem.W.subIn K (.ref cNoMask) (.ref cTooWide) = some false)
    (x122 : (Value.ref cNoMask == Value.ref cTooWide) = false)
    (x123 : PySem.W.hasDictIn K cOtherWidth = true)
    (x124 : PySem.W.subIn K (.ref cNoMask) (.ref cOtherWidth) = some false)
    (x125 : (Value.ref cNoMask == Value.ref cOtherWidth) = false)
    (x126 : PySem.W.nsIn K mainGlobals "NoIndex" = some (some (.ref cNoIndex)))
    (x127 : PySem.W.hasDictIn K cNoIndex = true)
    (x128 : PySem.W.typeIn K (.ref cNoIndex) = some (.type "type"))
    (x129 : PySem.W.subIn K (.ref cNoMask) (.ref cNoIndex) = some false)
    (x130 : (Value.ref cNoMask == Value.ref cNoIndex) = false)
    (x131 : PySem.W.nsIn K mainGlobals "TurnError" = some (some (.ref cTurnError)))
    (x132 : PySem.W.hasDictIn K cTurnError = true)
    (x133 : PySem.W.typeIn K (.ref cTurnError) = some (.type "type"))
    (x134 : PySem.W.subIn K (.ref cNoMask) (.ref cTurnError) = some false)
    (x135 : (Value.ref cNoMask == Value.ref cTurnError) = false)
    (x136 : PySem.W.subIn K (.ref cNoMask) (.type "LookupError") = some true)
    (x137 : PySem.W.findIn K (.ref cNoMask) "__class__" = some (some (.builtin "object.__class__")))
    (x138 : PySem.W.mroIn K cNoMask (.type "object") = some true)
    (x139 : PySem.W.findIn K (.ref cOtherWidth) "__getattribute__" = some (some (.builtin "BaseException.__getattribute__")))
    (x140 : PySem.W.findIn K (.ref cOtherWidth) "__getattr__" = some none)
    (x141 : PySem.W.subIn K (.ref cOtherWidth) (.ref cBadLot) = some false)
    (x142 : (Value.ref cOtherWidth == Value.ref cBadLot) = false)
    (x143 : PySem.W.subIn K (.ref cOtherWidth) (.ref cBadWide) = some false)
    (x144 : (Value.ref cOtherWidth == Value.ref cBadWide) = false)
    (x145 : PySem.W.subIn K (.ref cOtherWidth) (.ref cTooWide) = some false)
    (x146 : (Value.ref cOtherWidth == Value.ref cTooWide) = false)
    (x147 : PySem.W.subIn K (.ref cOtherWidth) (.ref cNoMask) = some false)
    (x148 : (Value.ref cOtherWidth == Value.ref cNoMask) = false)
    (x149 : PySem.W.subIn K (.ref cOtherWidth) (.ref cNoIndex) = some false)
    (x150 : (Value.ref cOtherWidth == Value.ref cNoIndex) = false)
    (x151 : PySem.W.subIn K (.ref cOtherWidth) (.ref cTurnError) = some true)
    (x152 : (Value.ref cOtherWidth == Value.ref cTurnError) = false)
    (x153 : PySem.W.subIn K (.ref cOtherWidth) (.type "LookupError") = some false)
    (x154 : PySem.W.findIn K (.ref cOtherWidth) "__class__" = some (some (.builtin "object.__class__")))
    (x155 : PySem.W.mroIn K cOtherWidth (.type "object") = some true)
    (x156 : PySem.W.kitOne K (.ref cMaskSet) (.type "int") = some false)
    (x157 : opB K cMaskSet .BitXor = true)
    (x158 : PySem.W.fnIn K mxorcMaskSet = true)
    (x159 : PySem.W.fnIn K mcallcMaskSet = true)
    (x160 : PySem.W.fnIn K morcMaskSet = true)
    (x161 : PySem.W.fnIn K mandcMaskSet = true)
    (x162 : PySem.W.fnIn K msubcMaskSet = true)
    (x163 : PySem.W.fnIn K maddcMaskSet = true)
    (x164 : PySem.W.subIn K (.ref cNoMask) (.ref cNoMask) = some true)
    (x165 : PySem.W.subIn K (.ref cTurnError) (.type "BaseException") = some true)
    (y1 : PySem.W.nsIn K mainGlobals "repr" = some none)
    (y2 : PySem.W.nsIn K mainGlobals "LookupError" = some none)
    (z1 : PySem.W.nsIn K mainGlobals "len" = some none) (z2 : PySem.W.nsIn K mainGlobals "abs" = some none) (z3 : PySem.W.nsIn K mainGlobals "tuple" = some none) (z4 : PySem.W.nsIn K mainGlobals "sorted" = some none) (z5 : PySem.W.nsIn K mainGlobals "isinstance" = some none) (z6 : PySem.W.nsIn K mainGlobals "int" = some none) (z7 : PySem.W.nsIn K mainGlobals "bool" = some none) (z8 : PySem.W.nsIn K mainGlobals "set" = some none) (z9 : PySem.W.nsIn K mainGlobals "all" = some none) (z10 : PySem.W.nsIn K mainGlobals "range" = some none) (z11 : PySem.W.nsIn K mainGlobals "enumerate" = some none) :
    ∀ base : Heap, K.In base → base.Ns mainGlobals mg → RunC l.prog w K mg base 51 fa (spLaw K) := by
  cases hfa.symm.trans (PySem.W.mg_of X G a30)
  have F1 := fun_mk (st := sWall) l1 c1 k1
  have F2 := fun_mk (st := sNum) l2 c2 k2
  have F3 := fun_mk (st := sIsW) l3 c3 k3
  have F4 := fun_mk (st := sMask) l4 c4 k4
  have F5 := fun_mk (st := sLotE) l5 c5 k5
  have F6 := fun_mk (st := sCheckLot) l6 c6 k6
  have F7 := fun_mk (st := sMaskE) l7 c7 k7
  have F8 := fun_mk (st := sTurned) l8 c8 k8
  have F9 := fun_mk (st := sRest) l9 c9 k9
  have F10 := fun_mk (st := sLeft) l10 c10 k10
  have F11 := fun_mk (st := sUnited) l11 c11 k11
  have F12 := fun_mk (st := sShared) l12 c12 k12
  have F13 := fun_mk (st := sWidth) l13 c13 k13
  have F14 := fun_mk (st := sPairCounts) l14 c14 k14
  have F15 := fun_mk (st := sSumOf) l15 c15 k15
  have F16 := fun_mk (st := sGreatestAddend) l16 c16 k16
  have F17 := fun_mk (st := sDigitsOf) l17 c17 k17
  have F18 := fun_mk (st := sPatternsOf) l18 c18 k18
  have F19 := fun_mk (st := sWordsOrNone) l19 c19 k19
  have F20 := fun_mk (st := sStream) l20 c20 k20
  have F21 := fun_mk (st := sDraw) l21 c21 k21
  have F22 := fun_mk (st := sLOdd) l22 c22 k22
  have F23 := fun_mk (st := sLIsInt) l23 c23 k23
  have F24 := fun_mk (st := sDrawn) l24 c24 k24
  have F25 := fun_mk (st := sLMoved) l25 c25 k25
  have F26 := fun_mk (st := sLPairs) l26 c26 k26
  have F27 := fun_mk (st := sLSetError) l27 c27 k27
  have F28 := fun_mk (st := sLMasked) l28 c28 k28
  have F29 := fun_mk (st := sLCombined) l29 c29 k29
  have F30 := fun_mk (st := sLaw) l30 c30 k30
  have b1 := F1.binds (ps := ["k"]) fun _ _ _ _ _ _ us hl => match us, hl with | [_], _ => rfl
  have b2 := F2.binds (ps := ["value"]) fun _ _ _ _ _ _ us hl => match us, hl with | [_], _ => rfl
  have b3 := F3.binds (ps := ["value"]) fun _ _ _ _ _ _ us hl => match us, hl with | [_], _ => rfl
  have b4 := F4.binds (ps := ["value", "width"]) fun _ _ _ _ _ _ us hl => match us, hl with | [_, _], _ => rfl
  have b5 := F5.binds (ps := ["value"]) fun _ _ _ _ _ _ us hl => match us, hl with | [_], _ => rfl
  have b6 := F6.binds (ps := ["value"]) fun _ _ _ _ _ _ us hl => match us, hl with | [_], _ => rfl
  have b7 := F7.binds (ps := ["width", "masks"]) fun _ _ _ _ _ _ us hl => match us, hl with | [_, _], _ => rfl
  have b8 := F8.binds (ps := ["lot", "mask"]) fun _ _ _ _ _ _ us hl => match us, hl with | [_, _], _ => rfl
  have b9 := F9.binds (ps := ["lot"]) fun _ _ _ _ _ _ us hl => match us, hl with | [_], _ => rfl
  have b10 := F10.binds (ps := ["one", "other"]) fun _ _ _ _ _ _ us hl => match us, hl with | [_, _], _ => rfl
  have b13 := F13.binds (ps := ["lots"]) fun _ _ _ _ _ _ us hl => match us, hl with | [_], _ => rfl
  have b14 := F14.binds (ps := ["lot"]) fun _ _ _ _ _ _ us hl => match us, hl with | [_], _ => rfl
  have b16 := F16.binds (ps := ["one", "other"]) fun _ _ _ _ _ _ us hl => match us, hl with | [_, _], _ => rfl
  have b17 := F17.binds (ps := ["mask", "width"]) fun _ _ _ _ _ _ us hl => match us, hl with | [_, _], _ => rfl
  have b18 := F18.binds (ps := ["lot"]) fun _ _ _ _ _ _ us hl => match us, hl with | [_], _ => rfl
  have b19 := F19.binds (ps := ["words"]) fun _ _ _ _ _ _ us hl => match us, hl with | [_], _ => rfl
  have b20 := F20.binds (ps := ["_law_script"]) fun _ _ _ _ _ _ us hl => match us, hl with | [_], _ => rfl
  have b21 := F21.binds (ps := ["_law_stream_here", "_law_many"]) fun _ _ _ _ _ _ us hl => match us, hl with | [_, _], _ => rfl
  have b22 := F22.binds (ps := ["_law_stream_here"]) fun _ _ _ _ _ _ us hl => match us, hl with | [_], _ => rfl
  have b23 := F23.binds (ps := ["_law_value", "_law_low", "_law_high"]) fun _ _ _ _ _ _ us hl => match us, hl with | [_, _, _], _ => rfl
  have b24 := F24.binds (ps := ["_law_stream_here", "_law_most"]) fun _ _ _ _ _ _ us hl => match us, hl with | [_, _], _ => rfl
  have b25 := F25.binds (ps := ["_law_lot", "_law_mask"]) fun _ _ _ _ _ _ us hl => match us, hl with | [_, _], _ => rfl
  have b26 := F26.binds (ps := ["_law_lot"]) fun _ _ _ _ _ _ us hl => match us, hl with | [_], _ => rfl
  have b27 := F27.binds (ps := ["_law_error"]) fun _ _ _ _ _ _ us hl => match us, hl with | [_], _ => rfl
  have b28 := F28.binds (ps := ["_law_a", "_law_way", "_law_value"]) fun _ _ _ _ _ _ us hl => match us, hl with | [_, _, _], _ => rfl
  have b29 := F29.binds (ps := ["_law_a", "_law_b", "_law_way"]) fun _ _ _ _ _ _ us hl => match us, hl with | [_, _, _], _ => rfl
  have B : Bl mg := ⟨PySem.W.mg_none_of X G z1, PySem.W.mg_none_of X G z2, PySem.W.mg_none_of X G z3, PySem.W.mg_none_of X G z4, PySem.W.mg_none_of X G z5, PySem.W.mg_none_of X G z6, PySem.W.mg_none_of X G z7, PySem.W.mg_none_of X G z8, PySem.W.mg_none_of X G z9, PySem.W.mg_none_of X G z10, PySem.W.mg_none_of X G z11⟩
  intro base _ _
  have d_is_number : DefR l.prog w K mg base 1 "is_number" spNum := .of (ok_num B F2) b2 (PySem.W.mg_of X G a2) k2
  have d_is_mask : DefR l.prog w K mg base 2 "is_mask" spMask := .of (ok_mask F4 d_is_number) b4 (PySem.W.mg_of X G a4) k4
  have d_is_width : DefR l.prog w K mg base 2 "is_width" spIw := .of (ok_iw F3 (PySem.W.mg_of X G w1) d_is_number) b3 (PySem.W.mg_of X G a3) k3
  have d_mask_error : DefR l.prog w K mg base 3 "mask_error" spMe := .of (ok_me B F7 d_is_mask) b7 (PySem.W.mg_of X G a7) k7
  have d_lot_error : DefR l.prog w K mg base 4 "lot_error" spLe := .of (ok_le B F5 d_is_width d_mask_error) b5 (PySem.W.mg_of X G a5) k5
  have d_check_lot : DefR l.prog w K mg base 5 "check_lot" spCk := .of (ok_ck F6 d_lot_error) b6 (PySem.W.mg_of X G a6) k6
  have d_turned : DefR l.prog w K mg base 3 "turned" spTurned := .of (ok_turned B F8 d_is_mask) b8 (PySem.W.mg_of X G a8) k8
  have d_common_width : DefR l.prog w K mg base 1 "common_width" (spWidth K) := .of (ok_width B F13) b13 (PySem.W.mg_of X G a13) k13
  have d_united : DefR l.prog w K mg base 2 "united" (spMany fun bs => bs.any id) := ⟨_, ok_united B F11 d_common_width, PySem.W.mg_of X G a11, k11⟩
  have d_shared : DefR l.prog w K mg base 2 "shared" (spMany fun bs => bs.all id) := ⟨_, ok_shared B F12 d_common_width, PySem.W.mg_of X G a12, k12⟩
  have d_left_over : DefR l.prog w K mg base 2 "left_over" spLeft := .of (ok_left B F10 d_common_width) b10 (PySem.W.mg_of X G a10) k10
  have d_sum_of : DefR l.prog w K mg base 2 "sum_of" spSum := ⟨_, ok_sum B F15 d_common_width, PySem.W.mg_of X G a15, k15⟩
  have d_greatest_addend : DefR l.prog w K mg base 2 "greatest_addend" spGa := .of (ok_ga B F16 d_common_width) b16 (PySem.W.mg_of X G a16) k16
  have d_pair_counts : DefR l.prog w K mg base 1 "pair_counts" spPc := .of (ok_Pc B F14) b14 (PySem.W.mg_of X G a14) k14
  have T : MsC K cMaskSet := ⟨⟨x2, x3, x4, x5⟩, x6, x7⟩
  have FminitcMaskSet := fun_mk (st := sMsInit) x10 x11 x12
  have bminitcMaskSet := FminitcMaskSet.binds (ps := ["self", "lot"]) fun _ _ _ _ _ _ us hl => match us, hl with | [_, _], _ => rfl
  have mkS : MakeR l.prog w K mg base 6 cMaskSet "MaskSet" (spMi cMaskSet) := ⟨_, _, _, ⟨x13, x8, x9, x14⟩, ok_msI T FminitcMaskSet d_check_lot, bminitcMaskSet, (PySem.W.mg_of X G x1)⟩
  have FglotcMaskSet := fun_mk (st := sMsLot) x19 x20 x21
  have bglotcMaskSet := FglotcMaskSet.binds (ps := ["self"]) fun _ _ _ _ _ _ us hl => match us, hl with | [_], _ => rfl
  have plot : PropR l.prog w K mg base 1 cMaskSet "lot" (spMsLot cMaskSet) := ⟨_, _, _, _, T.cl, ⟨x15, x16, x17, ⟨_, x18⟩⟩, ok_msLot T FglotcMaskSet, bglotcMaskSet⟩
  have FmxorcMaskSet := fun_mk (st := sMsXor) x24 x25 x26
  have bmxorcMaskSet := FmxorcMaskSet.binds (ps := ["self", "other"]) fun _ _ _ _ _ _ us hl => match us, hl with | [_, _], _ => rfl
  have FmorcMaskSet := fun_mk (st := sMsOr) x29 x30 x31
  have bmorcMaskSet := FmorcMaskSet.binds (ps := ["self", "other"]) fun _ _ _ _ _ _ us hl => match us, hl with | [_, _], _ => rfl
  have FmandcMaskSet := fun_mk (st := sMsAnd) x34 x35 x36
  have bmandcMaskSet := FmandcMaskSet.binds (ps := ["self", "other"]) fun _ _ _ _ _ _ us hl => match us, hl with | [_, _], _ => rfl
  have FmsubcMaskSet := fun_mk (st := sMsSub) x39 x40 x41
  have bmsubcMaskSet := FmsubcMaskSet.binds (ps := ["self", "other"]) fun _ _ _ _ _ _ us hl => match us, hl with | [_, _], _ => rfl
  have FmaddcMaskSet := fun_mk (st := sMsAdd) x44 x45 x46
  have bmaddcMaskSet := FmaddcMaskSet.binds (ps := ["self", "other"]) fun _ _ _ _ _ _ us hl => match us, hl with | [_, _], _ => rfl
  have FgwidthcMaskSet := fun_mk (st := sMsWidth) x51 x52 x53
  have bgwidthcMaskSet := FgwidthcMaskSet.binds (ps := ["self"]) fun _ _ _ _ _ _ us hl => match us, hl with | [_], _ => rfl
  have pwidth : PropR l.prog w K mg base 1 cMaskSet "width" (spMsWidth cMaskSet) := ⟨_, _, _, _, T.cl, ⟨x47, x48, x49, ⟨_, x50⟩⟩, ok_msWidth T FgwidthcMaskSet, bgwidthcMaskSet⟩
  have FmwithincMaskSet := fun_mk (st := sMsWithin) x56 x57 x58
  have bmwithincMaskSet := FmwithincMaskSet.binds (ps := ["self", "other"]) fun _ _ _ _ _ _ us hl => match us, hl with | [_, _], _ => rfl
  have FmaddendcMaskSet := fun_mk (st := sMsAddend) x61 x62 x63
  have bmaddendcMaskSet := FmaddendcMaskSet.binds (ps := ["self", "other"]) fun _ _ _ _ _ _ us hl => match us, hl with | [_, _], _ => rfl
  have FmcallcMaskSet := fun_mk (st := sMsCall) x66 x67 x68
  have bmcallcMaskSet := FmcallcMaskSet.binds (ps := ["self", "mask"]) fun _ _ _ _ _ _ us hl => match us, hl with | [_, _], _ => rfl
  have FmeqcMaskSet := fun_mk (st := sMsEq) x76 x77 x78
  have bmeqcMaskSet := FmeqcMaskSet.binds (ps := ["self", "other"]) fun _ _ _ _ _ _ us hl => match us, hl with | [_, _], _ => rfl
  have TNoMask : OexG K cNoMask := ⟨⟨_, _, _, _, _, _, _, _, _, _, _, _, _, _, _, _, _, _, _, PySem.F.excBase_LookupError, x80, x81, fun self => PySem.F.store_LookupError.passes self, by decide⟩, x82, x89, x90, x91⟩
  have FINoMask := fun_mk (st := sINoMask) x86 x87 x88
  have bINoMask := FINoMask.binds (ps := ["self", "value"]) fun _ _ _ _ _ _ us hl => match us, hl with | [_, _], _ => rfl
  have RNoMask : ErrG l.prog w K mg base "NoMask" "value" cNoMask := ⟨TNoMask, x83, ⟨fIgNoMask, _, _, x84, x85, ok_iNoMask TNoMask x83 FINoMask, bINoMask⟩, (PySem.W.mg_of X G x79)⟩
  have TOtherWidth : OexG K cOtherWidth := ⟨⟨_, _, _, _, _, _, _, _, _, _, _, _, _, _, _, _, _, _, _, PySem.F.excBase_ValueError, x93, x94, fun self => PySem.F.store_ValueError.passes self, by decide⟩, x95, x102, x103, x104⟩
  have FIOtherWidth := fun_mk (st := sIOtherWidth) x99 x100 x101
  have bIOtherWidth := FIOtherWidth.binds (ps := ["self", "index"]) fun _ _ _ _ _ _ us hl => match us, hl with | [_, _], _ => rfl
  have ROtherWidth : ErrG l.prog w K mg base "OtherWidth" "index" cOtherWidth := ⟨TOtherWidth, x96, ⟨fIgOtherWidth, _, _, x97, x98, ok_iOtherWidth TOtherWidth x96 FIOtherWidth, bIOtherWidth⟩, (PySem.W.mg_of X G x92)⟩
  have xclNoMask : (PySem.W.clsIn K cNoMask).isSome = true := by obtain ⟨cd, hc, _⟩ := PySem.W.any_some x105; rw [hc]; rfl
  have SNoMask : ErS K mg cNoMask 4 := ⟨⟨⟨xclNoMask, x106, x107, x89, x137, x71, x72, x138⟩, x105⟩, ⟨x106, x107, x89, x105⟩, x83, ⟨⟨cBadLot, (PySem.W.mg_of X G x108), (kit_ref x109 x110 x111 x112)⟩, ⟨cBadWide, (PySem.W.mg_of X G x113), (kit_ref x114 x115 x116 x117)⟩, ⟨cTooWide, (PySem.W.mg_of X G x118), (kit_ref x119 x120 x121 x122)⟩, ⟨cOtherWidth, (PySem.W.mg_of X G x92), (kit_ref x123 x103 x124 x125)⟩, ⟨cNoMask, (PySem.W.mg_of X G x79), kit_self⟩, ⟨cNoIndex, (PySem.W.mg_of X G x126), (kit_ref x127 x128 x129 x130)⟩, ⟨cTurnError, (PySem.W.mg_of X G x131), (kit_ref x132 x133 x134 x135)⟩, (kit_bt x136 rfl), (PySem.W.mg_none_of X G y2)⟩⟩
  have xclOtherWidth : (PySem.W.clsIn K cOtherWidth).isSome = true := by obtain ⟨cd, hc, _⟩ := PySem.W.any_some x123; rw [hc]; rfl
  have SOtherWidth : ErS K mg cOtherWidth 3 := ⟨⟨⟨xclOtherWidth, x139, x140, x102, x154, x71, x72, x155⟩, x123⟩, ⟨x139, x140, x102, x123⟩, x96, ⟨⟨cBadLot, (PySem.W.mg_of X G x108), (kit_ref x109 x110 x141 x142)⟩, ⟨cBadWide, (PySem.W.mg_of X G x113), (kit_ref x114 x115 x143 x144)⟩, ⟨cTooWide, (PySem.W.mg_of X G x118), (kit_ref x119 x120 x145 x146)⟩, ⟨cOtherWidth, (PySem.W.mg_of X G x92), kit_self⟩, ⟨cNoMask, (PySem.W.mg_of X G x79), (kit_ref x105 x90 x147 x148)⟩, ⟨cNoIndex, (PySem.W.mg_of X G x126), (kit_ref x127 x128 x149 x150)⟩, ⟨cTurnError, (PySem.W.mg_of X G x131), (kit_ref x132 x133 x151 x152)⟩, (kit_bt x153 rfl), (PySem.W.mg_none_of X G y2)⟩⟩
  have dNz : DefR l.prog w K mg base 1 "is_number" (spNumZ K) := .of (ok_numZ B F2) b2 (PySem.W.mg_of X G a2) k2
  have dNo : DefR l.prog w K mg base 1 "is_number" (spNumO cMaskSet) := .of (ok_numO B (fun e => .base (.ins e T.cl x70 x71 x72 x73)) x156 F2) b2 (PySem.W.mg_of X G a2) k2
  have dMno : DefR l.prog w K mg base 2 "is_mask" (spNoM K cMaskSet) := noM_of (.of (FnOk.or (ok_maskZ F4 dNz) (ok_mskO (k := 0) dNo F4)) b4 (PySem.W.mg_of X G a4) k4)
  have dTz : DefX l.prog w K mg base 3 "turned" (spTuz K cMaskSet cNoMask) := .of (ok_tuz (k := 0) RNoMask dMno F8) b8 (PySem.W.mg_of X G a8) k8
  have dW : DefX l.prog w K mg base 3 "common_width" (spWdG K cOtherWidth) := .of (ok_wdG (k := 0) B F13 ROtherWidth) b13 (PySem.W.mg_of X G a13) k13
  have dWz : DefX l.prog w K mg base 3 "common_width" (spWdz K cOtherWidth) := wdzG_of dW
  have dUn : DefS l.prog w K mg base 4 "united" (spPrz cOtherWidth) := ⟨_, ok_unz (k := 0) F11 dWz, (PySem.W.mg_of X G a11), k11⟩
  have dSh : DefS l.prog w K mg base 4 "shared" (spPrz cOtherWidth) := ⟨_, ok_shz (k := 0) F12 dWz, (PySem.W.mg_of X G a12), k12⟩
  have dSu : DefS l.prog w K mg base 4 "sum_of" (spPrz cOtherWidth) := ⟨_, ok_suz (k := 0) F15 dWz, (PySem.W.mg_of X G a15), k15⟩
  have dLe : DefX l.prog w K mg base 4 "left_over" (spPrz cOtherWidth) := .of (ok_lez (k := 0) F10 dWz) b10 (PySem.W.mg_of X G a10) k10
  have dGa : DefX l.prog w K mg base 4 "greatest_addend" (spPrz cOtherWidth) := .of (ok_gaz (k := 0) F16 dWz) b16 (PySem.W.mg_of X G a16) k16
  have dXz : OwnX l.prog w K mg base 9 cMaskSet (PySem.dunder (Operator.info .BitXor).2) (spXoz K cMaskSet cNoMask) := ⟨_, ⟨x22, x23⟩, x158, .of (ok_xoz (k := 1) FmxorcMaskSet plot dTz mkS) bmxorcMaskSet⟩
  have dCz : OwnX l.prog w K mg base 9 cMaskSet "__call__" (spXoz K cMaskSet cNoMask) := ⟨_, ⟨x64, x65⟩, x159, .of (ok_caz (k := 6) RNoMask FmcallcMaskSet pwidth dMno) bmcallcMaskSet⟩
  have dZor : OwnX l.prog w K mg base 9 cMaskSet (PySem.dunder (Operator.info .BitOr).2) (spSz cMaskSet cOtherWidth) := ⟨_, ⟨x27, x28⟩, x160, .of (ok_orz (k := 1) FmorcMaskSet plot dUn mkS) bmorcMaskSet⟩
  have dZan : OwnX l.prog w K mg base 9 cMaskSet (PySem.dunder (Operator.info .BitAnd).2) (spSz cMaskSet cOtherWidth) := ⟨_, ⟨x32, x33⟩, x161, .of (ok_anz (k := 1) FmandcMaskSet plot dSh mkS) bmandcMaskSet⟩
  have dZsb : OwnX l.prog w K mg base 9 cMaskSet (PySem.dunder (Operator.info .Sub).2) (spSz cMaskSet cOtherWidth) := ⟨_, ⟨x37, x38⟩, x162, .of (ok_sbz (k := 1) FmsubcMaskSet plot dLe mkS) bmsubcMaskSet⟩
  have dZad : OwnX l.prog w K mg base 9 cMaskSet (PySem.dunder (Operator.info .Add).2) (spSz cMaskSet cOtherWidth) := ⟨_, ⟨x42, x43⟩, x163, .of (ok_adz (k := 1) FmaddcMaskSet plot dSu mkS) bmaddcMaskSet⟩
  have dZwi : MethX l.prog w K mg base 9 cMaskSet "within" (spSz cMaskSet cOtherWidth) := ⟨_, _, _, T.cl, ⟨x54, x55, x58⟩, ok_wiz (k := 1) B FmwithincMaskSet plot dLe, bmwithincMaskSet⟩
  have dZae : MethX l.prog w K mg base 9 cMaskSet "addend" (spSz cMaskSet cOtherWidth) := ⟨_, _, _, T.cl, ⟨x59, x60, x63⟩, ok_aez (k := 1) FmaddendcMaskSet plot dGa mkS, bmaddendcMaskSet⟩
  have dIw : DefR l.prog w K mg base 1 "_law_draw" spDraw := .of (ok_draw F21 B.len) b21 (PySem.W.mg_of X G a21) k21
  have dD1 := drawN dIw
  have DMA : DMa l.prog w K mg base cMaskSet cNoMask cOtherWidth cTurnError := ⟨T, (PySem.W.mg_of X G x79), (PySem.W.mg_of X G x131), SNoMask, SOtherWidth, exm_any2s (PySem.W.exm_ref x89 x105 x90 x164) (PySem.W.exm_ref x165 x132 x133 x134), exm_any1s (PySem.W.exm_ref x165 x132 x133 x151), ⟨_, ⟨x22, x23⟩, .of (ok_msXor FmxorcMaskSet plot d_turned mkS) bmxorcMaskSet⟩, opI_of x157, dXz, x157, ⟨_, ⟨x64, x65⟩, x69, .of (ok_msCall FmcallcMaskSet plot pwidth d_is_mask d_pair_counts) bmcallcMaskSet⟩, dCz, plot⟩
  have DCB : DCb l.prog w K mg base cMaskSet cOtherWidth cTurnError := ⟨T, (PySem.W.mg_of X G x131), SOtherWidth, exm_any1s (PySem.W.exm_ref x165 x132 x133 x151), plot, ⟨_, ⟨x27, x28⟩, .of (ok_msOr FmorcMaskSet plot d_united mkS) bmorcMaskSet⟩, dZor, ⟨_, ⟨x32, x33⟩, .of (ok_msAnd FmandcMaskSet plot d_shared mkS) bmandcMaskSet⟩, dZan, ⟨_, ⟨x37, x38⟩, .of (ok_msSub FmsubcMaskSet plot d_left_over mkS) bmsubcMaskSet⟩, dZsb, ⟨_, ⟨x42, x43⟩, .of (ok_msAdd FmaddcMaskSet plot d_sum_of mkS) bmaddcMaskSet⟩, dZad, ⟨_, _, _, T.cl, ⟨x54, x55, x58⟩, ok_msWithin B plot d_left_over FmwithincMaskSet, bmwithincMaskSet⟩, ⟨_, _, _, T.cl, ⟨x59, x60, x63⟩, ok_msAddend plot d_greatest_addend mkS FmaddendcMaskSet, bmaddendcMaskSet⟩, dZwi, dZae⟩
  exact run_it B (PySem.W.mg_none_of X G y1) F30 ⟨.of (ok_stream F20 B.len B.abs) b20 (PySem.W.mg_of X G a20) k20, drawN (.of (ok_draw F21 B.len) b21 (PySem.W.mg_of X G a21) k21), .of (ok_drawn B F24 dD1) b24 (PySem.W.mg_of X G a24) k24, .of (ok_oddS F22 dD1) b22 (PySem.W.mg_of X G a22) k22, .of (ok_isInt B F23) b23 (PySem.W.mg_of X G a23) k23, .of (ok_mv B F25) b25 (PySem.W.mg_of X G a25) k25, .of (ok_Lp B F26) b26 (PySem.W.mg_of X G a26) k26, .of (ok_ma (k := 38) B DMA F28 F27 (PySem.W.mg_of X G a27)) b28 (PySem.W.mg_of X G a28) k28, .of (ok_cb (k := 38) B DCB F29 F27 (PySem.W.mg_of X G a27)) b29 (PySem.W.mg_of X G a29) k29, mkS, plot, ⟨_, ⟨x74, x75⟩, .of (ok_msEq B (PySem.W.mg_of X G x1) (fun e => .base (.ins e T.cl x70 x71 x72 x73)) plot FmeqcMaskSet) bmeqcMaskSet⟩, T⟩
theorem hall {l : PySem.W.OpenLaw} {w : World} {K : PySem.W.Frag} {h : Heap} {mg : Str → Option Value} {fa : Addr} (X : K.In h) (G : h.Ns mainGlobals mg) (hfa : mg "law" = some (.ref fa)) (c : obsX hfb hfn K = valX hfn) :
    ∀ base : Heap, K.In base → base.Ns mainGlobals mg → RunC l.prog w K mg base 51 fa (spLaw K) := by
  have hb := saysX_b c
  unfold hfb at hb
  obtain ⟨g0, hb⟩ := He.ba hb
  obtain ⟨p0, p1, p2, p3, p4, p5, p6, p7, p8, p9, p10, p11, p12, p13, p14, p15, p16, p17, p18, p19, -⟩ := (of_decide_eq_true g0 : hb0 K)
  obtain ⟨g1, hb⟩ := He.ba hb
  obtain ⟨p20, p21, p22, p23, p24, p25, p26, p27, p28, p29, p30, p31, p32, p33, p34, p35, p36, p37, p38, p39, -⟩ := (of_decide_eq_true g1 : hb1 K)
  obtain ⟨g2, hb⟩ := He.ba hb
  obtain ⟨p40, p41, p42, p43, p44, p45, p46, p47, p48, p49, p50, p51, p52, p53, p54, p55, p56, p57, p58, p59, -⟩ := (of_decide_eq_true g2 : hb2 K)
  obtain ⟨g3, hb⟩ := He.ba hb
  obtain ⟨p60, p61, p62, p63, p64, p65, p66, p67, p68, p69, p70, p71, p72, p73, p74, p75, p76, p77, p78, p79, -⟩ := (of_decide_eq_true g3 : hb3 K)
  obtain ⟨g4, hb⟩ := He.ba hb
  obtain ⟨p80, p81, p82, p83, p84, p85, p86, p87, p88, p89, p90, p91, p92, p93, p94, p95, p96, p97, p98, p99, -⟩ := (of_decide_eq_true g4 : hb4 K)
  obtain ⟨g5, hb⟩ := He.ba hb
  obtain ⟨p100, p101, p102, p103, p104, p105, p106, p107, p108, p109, p110, p111, p112, p113, p114, p115, p116, p117, p118, p119, -⟩ := (of_decide_eq_true g5 : hb5 K)
  obtain ⟨g6, hb⟩ := He.ba hb
  obtain ⟨p120, p121, p122, p123, p124, p125, p126, p127, p128, p129, p130, p131, p132, p133, p134, p135, p136, p137, p138, p139, -⟩ := (of_decide_eq_true g6 : hb6 K)
  obtain ⟨g7, hb⟩ := He.ba hb
  obtain ⟨p140, p141, p142, p143, p144, p145, p146, p147, p148, p149, p150, p151, p152, p153, p154, p155, p156, p157, p158, p159, -⟩ := (of_decide_eq_true g7 : hb7 K)
  have g8 := hb
  obtain ⟨p160, p161, p162, p163, p164, p165, p166, p167, p168, p169, p170, p171, p172, p173, p174, p175, p176, p177, p178, -⟩ := (of_decide_eq_true g8 : hb8 K)
  obtain ⟨_, _, _, _, _, _, _, _, _, d0l, d0c, d0k⟩ := saysX_d c 0 (d := ⟨fun K => He.ga K "_wall", "_wall", "_wall", sWall⟩)
  obtain ⟨_, _, _, _, _, _, _, _, _, d1l, d1c, d1k⟩ := saysX_d c 1 (d := ⟨fun K => He.ga K "is_number", "is_number", "is_number", sNum⟩)
  obtain ⟨_, _, _, _, _, _, _, _, _, d2l, d2c, d2k⟩ := saysX_d c 2 (d := ⟨fun K => He.ga K "is_width", "is_width", "is_width", sIsW⟩)
  obtain ⟨_, _, _, _, _, _, _, _, _, d3l, d3c, d3k⟩ := saysX_d c 3 (d := ⟨fun K => He.ga K "is_mask", "is_mask", "is_mask", sMask⟩)
  obtain ⟨_, _, _, _, _, _, _, _, _, d4l, d4c, d4k⟩ := saysX_d c 4 (d := ⟨fun K => He.ga K "lot_error", "lot_error", "lot_error", sLotE⟩)
  obtain ⟨_, _, _, _, _, _, _, _, _, d5l, d5c, d5k⟩ := saysX_d c 5 (d := ⟨fun K => He.ga K "check_lot", "check_lot", "check_lot", sCheckLot⟩)
  obtain ⟨_, _, _, _, _, _, _, _, _, d6l, d6c, d6k⟩ := saysX_d c 6 (d := ⟨fun K => He.ga K "mask_error", "mask_error", "mask_error", sMaskE⟩)
  obtain ⟨_, _, _, _, _, _, _, _, _, d7l, d7c, d7k⟩ := saysX_d c 7 (d := ⟨fun K => He.ga K "turned", "turned", "turned", sTurned⟩)
  obtain ⟨_, _, _, _, _, _, _, _, _, d8l, d8c, d8k⟩ := saysX_d c 8 (d := ⟨fun K => He.ga K "rest_of", "rest_of", "rest_of", sRest⟩)
  obtain ⟨_, _, _, _, _, _, _, _, _, d9l, d9c, d9k⟩ := saysX_d c 9 (d := ⟨fun K => He.ga K "left_over", "left_over", "left_over", sLeft⟩)
  obtain ⟨_, _, _, _, _, _, _, _, _, d10l, d10c, d10k⟩ := saysX_d c 10 (d := ⟨fun K => He.ga K "united", "united", "united", sUnited⟩)
  obtain ⟨_, _, _, _, _, _, _, _, _, d11l, d11c, d11k⟩ := saysX_d c 11 (d := ⟨fun K => He.ga K "shared", "shared", "shared", sShared⟩)
  obtain ⟨_, _, _, _, _, _, _, _, _, d12l, d12c, d12k⟩ := saysX_d c 12 (d := ⟨fun K => He.ga K "common_width", "common_width", "common_width", sWidth⟩)
  obtain ⟨_, _, _, _, _, _, _, _, _, d13l, d13c, d13k⟩ := saysX_d c 13 (d := ⟨fun K => He.ga K "pair_counts", "pair_counts", "pair_counts", sPairCounts⟩)
  obtain ⟨_, _, _, _, _, _, _, _, _, d14l, d14c, d14k⟩ := saysX_d c 14 (d := ⟨fun K => He.ga K "sum_of", "sum_of", "sum_of", sSumOf⟩)
  obtain ⟨_, _, _, _, _, _, _, _, _, d15l, d15c, d15k⟩ := saysX_d c 15 (d := ⟨fun K => He.ga K "greatest_addend", "greatest_addend", "greatest_addend", sGreatestAddend⟩)
  obtain ⟨_, _, _, _, _, _, _, _, _, d16l, d16c, d16k⟩ := saysX_d c 16 (d := ⟨fun K => He.ga K "digits_of", "digits_of", "digits_of", sDigitsOf⟩)
  obtain ⟨_, _, _, _, _, _, _, _, _, d17l, d17c, d17k⟩ := saysX_d c 17 (d := ⟨fun K => He.ga K "patterns_of", "patterns_of", "patterns_of", sPatternsOf⟩)
  obtain ⟨_, _, _, _, _, _, _, _, _, d18l, d18c, d18k⟩ := saysX_d c 18 (d := ⟨fun K => He.ga K "words_or_none", "words_or_none", "words_or_none", sWordsOrNone⟩)
  obtain ⟨_, _, _, _, _, _, _, _, _, d19l, d19c, d19k⟩ := saysX_d c 19 (d := ⟨fun K => He.ga K "_law_stream", "_law_stream", "_law_stream", sStream⟩)
  obtain ⟨_, _, _, _, _, _, _, _, _, d20l, d20c, d20k⟩ := saysX_d c 20 (d := ⟨fun K => He.ga K "_law_draw", "_law_draw", "_law_draw", sDraw⟩)
  obtain ⟨_, _, _, _, _, _, _, _, _, d21l, d21c, d21k⟩ := saysX_d c 21 (d := ⟨fun K => He.ga K "_law_odd", "_law_odd", "_law_odd", sLOdd⟩)
  obtain ⟨_, _, _, _, _, _, _, _, _, d22l, d22c, d22k⟩ := saysX_d c 22 (d := ⟨fun K => He.ga K "_law_is_int", "_law_is_int", "_law_is_int", sLIsInt⟩)
  obtain ⟨_, _, _, _, _, _, _, _, _, d23l, d23c, d23k⟩ := saysX_d c 23 (d := ⟨fun K => He.ga K "_law_drawn", "_law_drawn", "_law_drawn", sDrawn⟩)
  obtain ⟨_, _, _, _, _, _, _, _, _, d24l, d24c, d24k⟩ := saysX_d c 24 (d := ⟨fun K => He.ga K "_law_moved", "_law_moved", "_law_moved", sLMoved⟩)
  obtain ⟨_, _, _, _, _, _, _, _, _, d25l, d25c, d25k⟩ := saysX_d c 25 (d := ⟨fun K => He.ga K "_law_pairs", "_law_pairs", "_law_pairs", sLPairs⟩)
  obtain ⟨_, _, _, _, _, _, _, _, _, d26l, d26c, d26k⟩ := saysX_d c 26 (d := ⟨fun K => He.ga K "_law_set_error", "_law_set_error", "_law_set_error", sLSetError⟩)
  obtain ⟨_, _, _, _, _, _, _, _, _, d27l, d27c, d27k⟩ := saysX_d c 27 (d := ⟨fun K => He.ga K "_law_masked", "_law_masked", "_law_masked", sLMasked⟩)
  obtain ⟨_, _, _, _, _, _, _, _, _, d28l, d28c, d28k⟩ := saysX_d c 28 (d := ⟨fun K => He.ga K "_law_combined", "_law_combined", "_law_combined", sLCombined⟩)
  obtain ⟨_, _, _, _, _, _, _, _, _, d29l, d29c, d29k⟩ := saysX_d c 29 (d := ⟨fun K => He.ga K "law", "law", "law", sLaw⟩)
  obtain ⟨_, _, _, _, _, _, _, _, _, d30l, d30c, d30k⟩ := saysX_d c 30 (d := ⟨fun K => (He.ma K (He.ga K "MaskSet") "__init__"), "__init__", "MaskSet.__init__", sMsInit⟩)
  obtain ⟨_, _, _, _, _, _, _, _, _, d31l, d31c, d31k⟩ := saysX_d c 31 (d := ⟨fun K => (xG K (He.ma K (He.ga K "MaskSet") "lot")), "lot", "MaskSet.lot", sMsLot⟩)
  obtain ⟨_, _, _, _, _, _, _, _, _, d32l, d32c, d32k⟩ := saysX_d c 32 (d := ⟨fun K => (He.ma K (He.ga K "MaskSet") "__xor__"), "__xor__", "MaskSet.__xor__", sMsXor⟩)
  obtain ⟨_, _, _, _, _, _, _, _, _, d33l, d33c, d33k⟩ := saysX_d c 33 (d := ⟨fun K => (He.ma K (He.ga K "MaskSet") "__or__"), "__or__", "MaskSet.__or__", sMsOr⟩)
  obtain ⟨_, _, _, _, _, _, _, _, _, d34l, d34c, d34k⟩ := saysX_d c 34 (d := ⟨fun K => (He.ma K (He.ga K "MaskSet") "__and__"), "__and__", "MaskSet.__and__", sMsAnd⟩)
  obtain ⟨_, _, _, _, _, _, _, _, _, d35l, d35c, d35k⟩ := saysX_d c 35 (d := ⟨fun K => (He.ma K (He.ga K "MaskSet") "__sub__"), "__sub__", "MaskSet.__sub__", sMsSub⟩)
  obtain ⟨_, _, _, _, _, _, _, _, _, d36l, d36c, d36k⟩ := saysX_d c 36 (d := ⟨fun K => (He.ma K (He.ga K "MaskSet") "__add__"), "__add__", "MaskSet.__add__", sMsAdd⟩)
  obtain ⟨_, _, _, _, _, _, _, _, _, d37l, d37c, d37k⟩ := saysX_d c 37 (d := ⟨fun K => (xG K (He.ma K (He.ga K "MaskSet") "width")), "width", "MaskSet.width", sMsWidth⟩)
  obtain ⟨_, _, _, _, _, _, _, _, _, d38l, d38c, d38k⟩ := saysX_d c 38 (d := ⟨fun K => (He.ma K (He.ga K "MaskSet") "within"), "within", "MaskSet.within", sMsWithin⟩)
  obtain ⟨_, _, _, _, _, _, _, _, _, d39l, d39c, d39k⟩ := saysX_d c 39 (d := ⟨fun K => (He.ma K (He.ga K "MaskSet") "addend"), "addend", "MaskSet.addend", sMsAddend⟩)
  obtain ⟨_, _, _, _, _, _, _, _, _, d40l, d40c, d40k⟩ := saysX_d c 40 (d := ⟨fun K => (He.ma K (He.ga K "MaskSet") "__call__"), "__call__", "MaskSet.__call__", sMsCall⟩)
  obtain ⟨_, _, _, _, _, _, _, _, _, d41l, d41c, d41k⟩ := saysX_d c 41 (d := ⟨fun K => (He.ma K (He.ga K "MaskSet") "__eq__"), "__eq__", "MaskSet.__eq__", sMsEq⟩)
  obtain ⟨_, _, _, _, _, _, _, _, _, d42l, d42c, d42k⟩ := saysX_d c 42 (d := ⟨fun K => (He.ma K (He.ga K "NoMask") "__init__"), "__init__", "NoMask.__init__", sINoMask⟩)
  obtain ⟨_, _, _, _, _, _, _, _, _, d43l, d43c, d43k⟩ := saysX_d c 43 (d := ⟨fun K => (He.ma K (He.ga K "OtherWidth") "__init__"), "__init__", "OtherWidth.__init__", sIOtherWidth⟩)
  obtain ⟨_, _, _, _, _, _, _, _, _, _, _, _, _, _, _, e1a, e1b⟩ := xGB_ok (p86)
  obtain ⟨_, _, _, _, _, _, _, _, _, _, _, _, _, _, _, e2a, e2b⟩ := xGB_ok (p96)
  exact all_mk X G hfa p0 d0l d0c d0k p1 d1l d1c d1k p2 d2l d2c d2k p3 d3l d3c d3k p4 d4l d4c d4k p5 d5l d5c d5k p6 d6l d6c d6k p7 d7l d7c d7k p8 d8l d8c d8k p9 d9l d9c d9k p10 d10l d10c d10k p11 d11l d11c d11k p12 d12l d12c d12k p13 d13l d13c d13k p14 d14l d14c d14k p15 d15l d15c d15k p16 d16l d16c d16k p17 d17l d17c d17k p18 d18l d18c d18k p19 d19l d19c d19k p20 d20l d20c d20k p21 d21l d21c d21k p22 d22l d22c d22k p23 d23l d23c d23k p24 d24l d24c d24k p25 d25l d25c d25k p26 d26l d26c d26k p27 d27l d27c d27k p28 d28l d28c d28k p29 d29l d29c d29k p30 p31 p32 p33 p34 p35 p36 p37 p38 p39 d30l d30c p40 p41 p42 p43 p44 p45 p46 d31l d31c p47 p48 p49 d32l d32c p50 p51 p52 d33l d33c p53 p54 p55 d34l d34c p56 p57 p58 d35l d35c p59 p60 p61 d36l d36c p62 p63 p64 p65 p66 d37l d37c p67 p68 p69 d38l d38c p70 p71 p72 d39l d39c p73 p74 p75 d40l d40c p76 p77 p78 p79 p80 p81 p82 p83 d41l d41c p84 p85 e1a e1b p87 p88 p89 p90 d42l d42c p91 p92 p93 p94 p95 e2a e2b p97 p98 p99 p100 d43l d43c p101 p102 p103 p104 p105 p106 p107 p108 p109 p110 p111 p112 p113 p114 p115 p116 p117 p118 p119 p120 p121 p122 p123 p124 p125 p126 p127 p128 p129 p130 p131 p132 p133 p134 p135 p136 p137 p138 p139 p140 p141 p142 p143 p144 p145 p146 p147 p148 p149 p150 p151 p152 p153 p154 p155 p156 p157 p158 p159 p160 p161 p162 p163 p164 p165 p166 p167 p168 p169 p170 p171 p172 p173 p174 p175 p176 p177 p178
end XT
open PySem PySem.W PySem.Calls PyProof.Rows
set_option maxHeartbeats 0 in
theorem PySem.Challenge.cw_xorturns_k54_errors_of_operators_holds : PySem.Challenge.rw_xorturns_k54_errors_of_operators.Holds := by
  w_on; o_law
  refine HandSHeadRun.head_any (r := XT.HR) (q := view XT.HR.prog [46]) (H := XT.hk) (ob := XT.hob) (M := 20000) (loose := XT.hlo) (d := HandSHeadRun.topDef XT.HR.prog 46) (kwd := []) XT.hob_eq
    (by kernel_rfl) (fun s => by kernel_rfl) XT.hrun (by kernel_rfl) (by kernel_rfl) (by kernel_rfl) (by rfl) (by first | assumption | decide +kernel) (by decide +kernel) ⟨rfl, rfl, rfl, rfl, rfl, by decide +kernel⟩ ?hw ?hc
  case hw => w_witness2
  case hc =>
    refine XT.walk_ofX (l := PySem.Challenge.rw_xorturns_k54_errors_of_operators) (n := 63) (k := 51) rfl (by decide) (by kernel_rfl) ⟨rfl, by decide, by decide⟩ ?F
    intro w mg fa h Y G hmg0
    obtain ⟨K, KX, c⟩ := Y
    have hmg : mg ("law" : PySem.Str) = some (.ref fa) := by
      have e : (HandSHeadRun.topDef XT.HR.prog 46).name = ("law" : PySem.Str) := by kernel_rfl
      rw [← e]
      exact hmg0
    exact ⟨K, XT.spLaw K, KX, XT.hall KX G hmg c, fun _ a ns hl hS => ⟨a, ns, rfl, hS, hl, fun _ => rfl⟩⟩
