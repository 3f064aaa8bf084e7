import PyProof.Rows.All
import Wide.All
import OpenK.AllK
import Wide.FinOn
import KE.KStateDown
import HandS.ForMost
import HandS.ForExc
import HandS.Lambda
import HandS.EndTab
import HandS.HeadWalk
import HandS.Head0
import HandS.Head1
import HandS.Head2
import HandS.HeadHook1
import HandS.HeadHook2
import HandS.HeadHook3
import HandS.HeadHook4
import HandS.Property
import HandS.OwnEq
import HandS.Star
import HandS.ClsMeth
import HandS.IsInst
import HandS.ExcIs
import HandS.ExcField
import HandS.ExcOwn
import HandS.FStr
import HandS.Wide
import HandS.StrMore
import HandS.TupMul
import HandS.Codes
import KE.GoesMore
import KE.GoesEnum
import HandS.Zip
import HandS.TupAny
import HandS.SlotsOwn
import HandS.NoneIn
import HandS.SortInts
import HandS.Style
import HandS.Flow
import PyProof.RulesDelMore
import PyProof.DelItemList
import HandS.Nested
import HandS.ExcInit
import KE.KExcSuper
import KE.KExcIs
import HandS.Iter
import HandS.SuiteRaise
import KE.KExcRaise
import KE.GoesComp
import KE.GoesRaise
import PySem.Challenge.RW_siftchain_k14_batches_of_operations
set_option Elab.async false
set_option linter.all false
set_option maxRecDepth 100000
set_option maxHeartbeats 2000000
/-! # Siftchain: what all rows share. Part A: the head's facts by names -/
namespace SC
open PySem PySem.Spec PyProof.Rows L2
/-! ### where defs stand -/
/-- the getter of a property of a class, the def of a classmethod -/
def recA (K : PySem.W.Frag) (p : Addr) (T : String) : Addr := match PySem.W.recIn K p T with
  | some (.ref g :: _) => g
  | _ => 0
def pgA (K : PySem.W.Frag) (C f : Str) : Addr := recA K (He.ma K (He.ga K C) f) "property"
def cmP (K : PySem.W.Frag) (C f : Str) : Addr := match PySem.W.findCls K (.ref (He.ga K C)) (.type "type") f with
  | some (.get _ (.ref p) _ _) => p
  | _ => 0
def cgA (K : PySem.W.Frag) (C f : Str) : Addr := recA K (cmP K C f) "classmethod"
structure DP where
  adr : PySem.W.Frag → Addr
  nm : Str
  qn : Str
  st : Stmt
  /-- the names that it captures -/
  fr : List Str
abbrev Seen : Type := Option (Str × Str × Arguments × FuncBody × Scope × Addr × List Str × Value × Addr)
def seen (K : PySem.W.Frag) (a : Addr) : Seen := match K.lookup a with
  | some ob => (match ob.data with
    | .func q => some (q.name, q.qualname, q.params, q.body, q.scope, q.globals, q.closure.map (·.1), q.defaults, q.builtins)
    | _ => none)
  | none => none
def DP.want (d : DP) : Seen := some (d.nm, d.qn, defArgs d.st, .stmts (defBody d.st), defScope d.st, mainGlobals, d.fr, .none, builtinsNs)
def DP.good (K : PySem.W.Frag) (d : DP) : Bool := match K.lookup (d.adr K) with
  | some ob => (match ob.data with
    | .func q => PySem.W.codeIn K q.code d.qn
    | _ => false)
  | none => false
/-- a def that captures names -/
structure FunC (K : PySem.W.Frag) (x qual : Str) (st : Stmt) (f : Addr) (fr : List Str) (fd : FuncData) : Prop where
  ex : ∃ (oc : Value) (od : Option Addr) (cl : List (Str × Addr)) (kV doc pm : Value) (an : Option Addr) (cdv ct : Value) (osl : Array (Option Value)),
    fd = PySem.W.fnX x qual (defArgs st) (defBody st) (defScope st) cl .none kV doc pm an cdv ct ∧ cl.map (·.1) = fr ∧ K.lookup f = some ⟨oc, od, .func fd, osl⟩ ∧ PySem.W.codeIn K cdv qual = true
  kp : PySem.W.keepIn K (.ref f) = true
theorem DP.toClo {K : PySem.W.Frag} {d : DP} (e : seen K (d.adr K) = d.want) (c : d.good K = true) : ∃ fd, FunC K d.nm d.qn d.st (d.adr K) d.fr fd := by
  unfold seen at e
  unfold DP.good at c
  cases q : K.lookup (d.adr K) with
  | none =>
    rw [q] at c
    cases c
  | some ob =>
    obtain ⟨oc, od, dt, sl⟩ := ob
    rw [q] at c e
    cases dt with
    | func fd =>
      obtain ⟨n1, n2, n3, n4, n5, n6, n7, n8, n9, n10, n11, n12, n13, n14, n15⟩ := fd
      simp only [DP.want, Option.some.injEq, Prod.mk.injEq] at e
      obtain ⟨h1, h2, h3, h4, h5, h6, h7, h8, h9⟩ := e
      subst h1 h2 h3 h4 h5 h6 h8 h9
      refine ⟨_, ⟨oc, od, _, n9, n10, n11, n12, n13, n14, sl, rfl, h7, q, c⟩, ?_⟩
      unfold PySem.W.keepIn
      dsimp only
      rw [q]
    | _ => cases c
theorem DP.toFun {K : PySem.W.Frag} {d : DP} (e : seen K (d.adr K) = d.want) (c : d.good K = true) (hf : d.fr = []) : ∃ fd, Fun K d.nm d.qn d.st (d.adr K) fd := by
  obtain ⟨fd, ⟨oc, od, cl, kV, doc, pm, an, cdv, ct, sl, h, hc, q, c'⟩, kp⟩ := DP.toClo e c
  rw [hf, List.map_eq_nil_iff] at hc
  subst hc
  exact ⟨fd, ⟨oc, od, kV, doc, pm, an, cdv, ct, sl, h, q, c'⟩, kp⟩
/-! ### facts -/
/-- a class: an own one by its name, a built-in one -/
inductive Cn where
  | g (x : Str)
  | t (n : String)
def Cn.v (K : PySem.W.Frag) : Cn → Value
  | .g x => .ref (He.ga K x)
  | .t n => .type n
inductive Fx where
  | fa (f : He.Fa)
  | prop (C f : Str)
  | con (C f : Str) (v : He.Dv)
  | mk0 (C : Str)
  | spec (C m : Str)
  | none_ (C m : Str) (id : String)
  | kit (a b : Cn) (r : Bool)
  | sub (a b : Cn) (r : Bool)
  | isi (C : Str)
  | cls (C : Str)
  | exk (D : Str)
  | cstr (C f z : Str)
  | cint (C f : Str) (i : Int)
  | cmet (C m : Str)
  | slf (C : Str)
  | gen (b : PySem.W.Frag → Bool)
def Fx.ok (K : PySem.W.Frag) : Fx → Bool
  | .fa f => f.ok K
  | .prop C f => He.eqO (PySem.W.findIn K (.ref (He.ga K C)) f) (some (some (.ref (He.ma K (He.ga K C) f)))) && (He.eqO (PySem.W.specialIn K (.ref (He.ma K (He.ga K C) f)) "__get__") (some (some (.builtin "property.__get__"))) &&
      (decide (PySem.W.takesIn K (.ref (He.ma K (He.ga K C) f)) = some true) && (match PySem.W.recIn K (He.ma K (He.ga K C) f) "property" with
        | some (.ref g :: _) => decide (g = pgA K C f)
        | _ => false)))
  | .con C f v => He.conB K C f v
  | .mk0 C => PySem.W.makesIn K (He.ga K C) && (He.eqO (PySem.W.findIn K (.ref (He.ga K C)) "__init__") (some (some (.builtin "object.__init__"))) && PySem.W.keepIn K (.ref (He.ga K C)))
  | .spec C m => He.eqO (PySem.W.findIn K (.ref (He.ga K C)) m) (some (some (.ref (He.ma K (He.ga K C) m)))) && (PySem.W.isFn K (.ref (He.ma K (He.ga K C) m)) && PySem.W.fnIn K (He.ma K (He.ga K C) m))
  | .none_ C m id => He.eqO (PySem.W.findIn K (.ref (He.ga K C)) m) (some (some (.builtin id)))
  | .kit a b r => decide (PySem.W.kitOne K (a.v K) (b.v K) = some r)
  | .sub a b r => decide (PySem.W.subIn K (a.v K) (b.v K) = some r)
  | .isi C => He.eqO (PySem.W.findIn K (.ref (He.ga K C)) "__class__") (some (some (.builtin "object.__class__"))) && (He.eqO (PySem.W.specialIn K (.builtin "object.__class__") "__get__") (some (some (.builtin "getset_descriptor.__get__"))) &&
      (decide (PySem.W.takesIn K (.builtin "object.__class__") = some true) && decide (PySem.W.mroIn K (He.ga K C) (.type "object") = some true)))
  | .cls C => PySem.W.readsIn K (He.ga K C) (.type "type") && He.eqO (PySem.W.specialIn K (.ref (He.ga K C)) "__getattribute__") (some (some (.builtin "type.__getattribute__")))
  | .exk D => He.eqO (PySem.W.findIn K (.ref (He.ga K D)) "__getattribute__") (some (some (.builtin "BaseException.__getattribute__"))) && (He.eqO (PySem.W.findIn K (.ref (He.ga K D)) "__getattr__") (some none) &&
      (decide (PySem.W.subIn K (.ref (He.ga K D)) (.type "BaseException") = some true) && PySem.W.hasDictIn K (He.ga K D)))
  | .cstr C f z => (match PySem.W.findCls K (.ref (He.ga K C)) (.type "type") f with
      | some (.val (.str y _)) => decide (y = z)
      | _ => false)
  | .cint C f i => (match PySem.W.findCls K (.ref (He.ga K C)) (.type "type") f with
      | some (.val (.int j _)) => decide (j = i)
      | _ => false)
  | .cmet C m => (match PySem.W.findCls K (.ref (He.ga K C)) (.type "type") m with
      | some (.get g (.ref p) o c) => decide (g = .builtin "classmethod.__get__" ∧ p = cmP K C m ∧ o = .none ∧ c = .ref (He.ga K C))
      | _ => false) && ((match PySem.W.recIn K (cmP K C m) "classmethod" with
      | some (.ref g :: _) => decide (g = cgA K C m)
      | _ => false) && PySem.W.fnIn K (cgA K C m))
  | .slf C => PySem.W.selfFirst K (He.ga K C)
  | .gen b => b K
section
variable {K : PySem.W.Frag}
open He (ba eqO_ok)
theorem fx_prop {C f : Str} (h : (Fx.prop C f).ok K = true) : PropOf K (He.ga K C) f (He.ma K (He.ga K C) f) (pgA K C f) := by
  obtain ⟨h1, h⟩ := ba h
  obtain ⟨h2, h⟩ := ba h
  obtain ⟨h3, h4⟩ := ba h
  refine ⟨eqO_ok h1, eqO_ok h2, of_decide_eq_true h3, ?_⟩
  split at h4
  · rename_i g r e
    exact ⟨r, by rw [e, of_decide_eq_true h4]⟩
  · cases h4
theorem fx_con {C f : Str} {v : He.Dv} (h : (Fx.con C f v).ok K = true) (hc : PySem.W.copiedNames.contains f = false := by decide) : ∃ u, Con K (He.ga K C) f (v.v K) u := He.conB_ok h hc
theorem fx_cls {C : Str} (h : (Fx.cls C).ok K = true) : ClX.CRead K (He.ga K C) (.type "type") := by
  obtain ⟨h1, h2⟩ := ba h
  exact ⟨h1, eqO_ok h2⟩
theorem fx_cstr {C f z : Str} (h : (Fx.cstr C f z).ok K = true) : ∃ u, ClX.CVal K (He.ga K C) (.type "type") f (.str z) u := by
  have h : (match PySem.W.findCls K (.ref (He.ga K C)) (.type "type") f with
      | some (.val (.str y _)) => decide (y = z)
      | _ => false) = true := h
  split at h
  · rename_i y t e
    rw [of_decide_eq_true h] at e
    exact ⟨_, e, t, rfl⟩
  · cases h
theorem fx_cint {C f : Str} {i : Int} (h : (Fx.cint C f i).ok K = true) : ∃ u, ClX.CVal K (He.ga K C) (.type "type") f (.int i) u := by
  have h : (match PySem.W.findCls K (.ref (He.ga K C)) (.type "type") f with
      | some (.val (.int j _)) => decide (j = i)
      | _ => false) = true := h
  split at h
  · rename_i y t e
    rw [of_decide_eq_true h] at e
    exact ⟨_, e, t, rfl⟩
  · cases h
theorem fx_cmet {C m : Str} (h : (Fx.cmet C m).ok K = true) : ClX.CMet K (He.ga K C) (.type "type") m (cmP K C m) (cgA K C m) := by
  obtain ⟨h1, h⟩ := ba h
  obtain ⟨h2, h3⟩ := ba h
  refine ⟨?_, ?_, h3⟩
  · split at h1
    · rename_i g p o c e
      obtain ⟨e1, e2, e3, e4⟩ := of_decide_eq_true h1
      rw [e, e1, e2, e3, e4]
    · cases h1
  · split at h2
    · rename_i g r e
      exact ⟨r, by rw [e, of_decide_eq_true h2]⟩
    · cases h2
theorem fx_gen {b : PySem.W.Frag → Bool} (h : (Fx.gen b).ok K = true) : b K = true := h
theorem fx_slf {C : Str} (h : (Fx.slf C).ok K = true) : PySem.W.selfFirst K (He.ga K C) = true := h
/-- a class without an __init__ of its own -/
structure Mk0 (K : PySem.W.Frag) (C : Addr) : Prop where
  makes : PySem.W.makesIn K C = true
  init : PySem.W.findIn K (.ref C) "__init__" = some (some (.builtin "object.__init__"))
  kp : PySem.W.keepIn K (.ref C) = true
theorem fx_mk0 {C : Str} (h : (Fx.mk0 C).ok K = true) : Mk0 K (He.ga K C) := by
  obtain ⟨h1, h⟩ := ba h
  obtain ⟨h2, h3⟩ := ba h
  exact ⟨h1, eqO_ok h2, h3⟩
/-- a special method -/
structure Spec (K : PySem.W.Frag) (C : Addr) (m : Str) (f : Addr) : Prop where
  at_ : PySem.W.findIn K (.ref C) m = some (some (.ref f))
  fn : PySem.W.isFn K (.ref f) = true
  fi : PySem.W.fnIn K f = true
theorem fx_spec {C m : Str} (h : (Fx.spec C m).ok K = true) : Spec K (He.ga K C) m (He.ma K (He.ga K C) m) := by
  obtain ⟨h1, h⟩ := ba h
  obtain ⟨h2, h3⟩ := ba h
  exact ⟨eqO_ok h1, h2, h3⟩
theorem fx_none {C m : Str} {id : String} (h : (Fx.none_ C m id).ok K = true) : PySem.W.findIn K (.ref (He.ga K C)) m = some (some (.builtin id)) := eqO_ok h
theorem fx_kit {a b : Cn} {r : Bool} (h : (Fx.kit a b r).ok K = true) : PySem.W.kitOne K (a.v K) (b.v K) = some r := of_decide_eq_true h
theorem fx_sub {a b : Cn} {r : Bool} (h : (Fx.sub a b r).ok K = true) : PySem.W.subIn K (a.v K) (b.v K) = some r := of_decide_eq_true h
/-- what isinstance asks of an instance's class -/
structure Isi (K : PySem.W.Frag) (C : Addr) : Prop where
  ha : PySem.W.findIn K (.ref C) "__class__" = some (some (.builtin "object.__class__"))
  hn : PySem.W.specialIn K (.builtin "object.__class__") "__get__" = some (some (.builtin "getset_descriptor.__get__"))
  ht : PySem.W.takesIn K (.builtin "object.__class__") = some true
  hm : PySem.W.mroIn K C (.type "object") = some true
theorem fx_isi {C : Str} (h : (Fx.isi C).ok K = true) : Isi K (He.ga K C) := by
  obtain ⟨h1, h⟩ := ba h
  obtain ⟨h2, h⟩ := ba h
  obtain ⟨h3, h4⟩ := ba h
  exact ⟨eqO_ok h1, eqO_ok h2, of_decide_eq_true h3, of_decide_eq_true h4⟩
theorem fx_exk {D : Str} (h : (Fx.exk D).ok K = true) (i : (Fx.isi D).ok K = true) : ExcC K (He.ga K D) := by
  obtain ⟨h1, h⟩ := ba h
  obtain ⟨h2, h⟩ := ba h
  obtain ⟨h3, h4⟩ := ba h
  have q := fx_isi i
  exact ⟨eqO_ok h1, eqO_ok h2, of_decide_eq_true h3, h4, q.ha, q.hn, q.ht, q.hm⟩
end
/-! ### the Hook -/
def tabGood (g : Addr → Option Obj) (K : PySem.W.Frag) (tf : List He.Defn) : Bool := He.tabsB g tf K
/-- those of l that the mask m does not hold, in order; k is told the new mask and them -/
def newA {α : Type} (k : Nat → List Addr → α) : List Addr → Nat → List Addr → α
  | [], m, acc => k m acc.reverse
  | a :: r, m, acc => HandSHeadRun.frNat a fun a => match Nat.land (Nat.shiftRight m a) 1 with
    | 0 => HandSHeadRun.frNat (Nat.lor m (Nat.shiftLeft 1 a)) fun m => newA k r m (a :: acc)
    | _ + 1 => newA k r m acc
/-- what f reaches in n steps and the mask m does not hold: He.asD's growth, with a mask in place of eraseDups (which goes through all pairs) -/
def asV (g : Addr → Option Obj) : Nat → Nat → List Addr → List Addr
  | 0, _, _ => []
  | n + 1, m, f => newA (fun m f => f ++ asV g n m f) (f.flatMap fun a => match g a with
    | some o => He.refsD o
    | none => []) m []
/-- what the names reach in n steps, and the interpreter's own statics (a class's reading looks there) -/
def asC (g : Addr → Option Obj) (n : Nat) : List Addr := mainGlobals :: (asV g n (Nat.shiftLeft 1 mainGlobals) [mainGlobals] ++ [cStatics])
abbrev Look : Type := List Seen × Bool
def look (n : Nat) (ds : List DP) (fs : List Fx) (tf : List He.Defn) (g : Addr → Option Obj) : Look :=
  (ds.map fun d => seen (He.frT g (asC g n)) (d.adr (He.frT g (asC g n))),
   (ds.all fun d => d.good (He.frT g (asC g n))) && ((fs.all fun f => f.ok (He.frT g (asC g n))) && He.tabsB g tf (He.frT g (asC g n))))
/-- map DP.want by a recursion of its own (the kernel would hold two maps' functions against each other before it runs them) -/
def wantL : List DP → List Seen
  | [] => []
  | d :: r => d.want :: wantL r
theorem wantL_eq : ∀ ds : List DP, wantL ds = ds.map DP.want
  | [] => rfl
  | d :: r => congrArg (d.want :: ·) (wantL_eq r)
def lookWant (ds : List DP) : Look := (wantL ds, true)
/-- what the head tells: the defs, the facts, the tables (empty, not in K) -/
structure Says (ds : List DP) (fs : List Fx) (tf : List He.Defn) (h : Heap) (K : PySem.W.Frag) : Prop where
  defs : ∀ d ∈ ds, d.fr = [] → ∃ fd, Fun K d.nm d.qn d.st (d.adr K) fd
  clos : ∀ d ∈ ds, ∃ fd, FunC K d.nm d.qn d.st (d.adr K) d.fr fd
  fact : ∀ f ∈ fs, f.ok K = true
  hd : ∀ p ∈ tf, PySem.W.codeHdIn K (He.cT K p).1 (He.cT K p).2 = true
  out : ∀ p ∈ tf, K.lookup (He.cT K p).2 = none
  empty : ∀ p ∈ tf, h.get? (He.cT K p).2 = some { cls := .none, data := .fields #[] }
theorem map_get {α β : Type} {f g : α → β} : ∀ {l : List α}, l.map f = l.map g → ∀ x ∈ l, f x = g x
  | [], _, _, h => by cases h
  | a :: r, e, x, h => by
    rw [List.map_cons, List.map_cons] at e
    injection e with e1 e2
    rcases List.mem_cons.mp h with q | q
    · rw [q]
      exact e1
    · exact map_get e2 x q
theorem says_of {n : Nat} {ds : List DP} {fs : List Fx} {tf : List He.Defn} {h : Heap} (e : look n ds fs tf h.get? = lookWant ds) : Says ds fs tf h (He.frT h.get? (asC h.get? n)) := by
  have e1 : ds.map (fun d => seen (He.frT h.get? (asC h.get? n)) (d.adr (He.frT h.get? (asC h.get? n)))) = ds.map DP.want := (congrArg (fun z : Look => z.1) e).trans (wantL_eq ds)
  have e2 : ((ds.all fun d => d.good (He.frT h.get? (asC h.get? n))) && ((fs.all fun f => f.ok (He.frT h.get? (asC h.get? n))) && He.tabsB h.get? tf (He.frT h.get? (asC h.get? n)))) = true := congrArg (fun z : Look => z.2) e
  obtain ⟨h1, h2⟩ := He.ba e2
  obtain ⟨h3, h4⟩ := He.ba h2
  generalize asC h.get? n = as at *
  have key : ∀ p ∈ tf, PySem.W.codeHdIn (He.frT h.get? as) (He.cT (He.frT h.get? as) p).1 (He.cT (He.frT h.get? as) p).2 = true ∧ ∃ o, h.get? (He.cT (He.frT h.get? as) p).2 = some o ∧ He.emptyTab o = true := fun p hp => by
    obtain ⟨k1, k2⟩ := He.ba (List.all_eq_true.mp h4 p hp)
    refine ⟨k1, ?_⟩
    cases q : h.get? (He.cT (He.frT h.get? as) p).2 with
    | none =>
      rw [q] at k2
      cases k2
    | some o =>
      rw [q] at k2
      exact ⟨o, rfl, k2⟩
  refine ⟨fun d hd => DP.toFun (map_get e1 d hd) (List.all_eq_true.mp h1 d hd), fun d hd => DP.toClo (map_get e1 d hd) (List.all_eq_true.mp h1 d hd), fun f hf => List.all_eq_true.mp h3 f hf, fun p hp => (key p hp).1, fun p hp => ?_, fun p hp => ?_⟩
  · obtain ⟨_, o, q, z⟩ := key p hp
    exact He.frT_none q z
  · obtain ⟨_, o, q, z⟩ := key p hp
    rw [q, He.emptyTab_eq z]
def hook (n : Nat) (ds : List DP) (fs : List Fx) (tf : List He.Defn) : PySem.W.Hook where
  α := Look
  obs := fun s => look n ds fs tf s.heap.get?
  val := fun _ => lookWant ds
  says := fun _ h => ∃ K : PySem.W.Frag, K.In h ∧ Says ds fs tf h K
  of := fun _ _ e => ⟨_, He.frT_in, says_of e⟩
  keeps := fun _ _ _ ⟨K, hK, c⟩ k => ⟨K, PySem.W.Frag.In.keeps hK k, ⟨c.defs, c.clos, c.fact, c.hd, c.out, fun p hp => k _ _ (c.empty p hp)⟩⟩
theorem look_eq {n : Nat} {ds : List DP} {fs : List Fx} {tf : List He.Defn} {g : Addr → Option Obj} {s : Shared} (h : ∀ a, g a = s.heap.get? a) : look n ds fs tf g = (hook n ds fs tf).obs s := by
  have e : g = s.heap.get? := funext h
  rw [e] <;> rfl
end SC
set_option maxRecDepth 100000
set_option maxHeartbeats 2000000
/-! # Part A2: the hook, with written dicts of the top (text keys) -/
namespace SC
open PySem PySem.Spec PyProof.Rows L2
abbrev LookW : Type := Look × List (Option (List (Option (Str × Int))))
def lookW (n : Nat) (ds : List DP) (fs : List Fx) (tf : List He.Defn) (ts : List He.Tab) (g : Addr → Option Obj) : LookW := (look n ds fs tf g, ts.map fun t => He.dicW (He.frT g (asC g n)) (t.1 (He.frT g (asC g n))))
def hookW (n : Nat) (ds : List DP) (fs : List Fx) (tf : List He.Defn) (ts : List He.Tab) : PySem.W.Hook where
  α := LookW
  obs := fun s => lookW n ds fs tf ts s.heap.get?
  val := fun w => (lookWant ds, ts.map fun t => some (He.keysIn w.params t.2))
  says := fun w h => ∃ K : PySem.W.Frag, K.In h ∧ Says ds fs tf h K ∧ ∀ t ∈ ts, ∃ es n, KDict K w (t.1 K) es n
  of := fun w h e => ⟨_, He.frT_in, says_of (congrArg (fun z : LookW => z.1) e), fun t ht => He.dicW_ok (ks := t.2) (map_get (congrArg (fun z : LookW => z.2) e) t ht)⟩
  keeps := fun _ _ _ ⟨K, hK, c, ct⟩ k => ⟨K, PySem.W.Frag.In.keeps hK k, ⟨c.defs, c.clos, c.fact, c.hd, c.out, fun p hp => k _ _ (c.empty p hp)⟩, ct⟩
theorem lookW_eq {n : Nat} {ds : List DP} {fs : List Fx} {tf : List He.Defn} {ts : List He.Tab} {g : Addr → Option Obj} {s : Shared} (h : ∀ a, g a = s.heap.get? a) : lookW n ds fs tf ts g = (hookW n ds fs tf ts).obs s := by
  have e : g = s.heap.get? := funext h
  rw [e] <;> rfl
end SC

set_option maxRecDepth 100000
set_option maxHeartbeats 0
namespace SC
open PySem PySem.Spec PyProof.Rows L2
def top0 : Program := PySem.Challenge.pw_siftchain_k14_batches_of_operations
def top (i : Nat) : Stmt := PySem.Challenge.pw_siftchain_k14_batches_of_operations.main.body.getD i (.Pass ⟨0, 0, 0, 0⟩)
abbrev s__wall : Stmt := top 0
abbrev s_is_within : Stmt := top 16
abbrev s_is_number : Stmt := top 17
abbrev s_check_number : Stmt := top 18
abbrev s_check_index : Stmt := top 19
abbrev s_check_row : Stmt := top 20
abbrev s_Cell_call : Stmt := inClass (top 24) 1
abbrev s_Cell_eq : Stmt := inClass (top 24) 2
abbrev s_Cell_neg : Stmt := inClass (top 24) 3
abbrev s_Cell_label : Stmt := inClass (top 24) 4
abbrev s_Last_call : Stmt := inClass (top 25) 1
abbrev s_Last_eq : Stmt := inClass (top 25) 2
abbrev s_Last_neg : Stmt := inClass (top 25) 3
abbrev s_Last_label : Stmt := inClass (top 25) 4
abbrev s_Less_call : Stmt := inClass (top 26) 1
abbrev s_Less_eq : Stmt := inClass (top 26) 2
abbrev s_Less_neg : Stmt := inClass (top 26) 3
abbrev s_Less_label : Stmt := inClass (top 26) 4
abbrev s_Greater_call : Stmt := inClass (top 27) 1
abbrev s_Greater_eq : Stmt := inClass (top 27) 2
abbrev s_Greater_neg : Stmt := inClass (top 27) 3
abbrev s_Greater_label : Stmt := inClass (top 27) 4
abbrev s_Near_init : Stmt := inClass (top 28) 1
abbrev s_Near_call : Stmt := inClass (top 28) 2
abbrev s_Near_eq : Stmt := inClass (top 28) 3
abbrev s_Near_neg : Stmt := inClass (top 28) 4
abbrev s_Near_label : Stmt := inClass (top 28) 5
abbrev s_near_of : Stmt := top 29
abbrev s_cell_of : Stmt := top 30
abbrev s_Chain_init : Stmt := inClass (top 31) 1
abbrev s_Chain_parse : Stmt := inClass (top 31) 2
abbrev s_Chain_text : Stmt := inClass (top 31) 3
abbrev s_Chain_empty : Stmt := inClass (top 31) 4
abbrev s_Chain_step : Stmt := inClass (top 31) 5
abbrev s_Chain_call : Stmt := inClass (top 31) 6
abbrev s_Chain_len : Stmt := inClass (top 31) 7
abbrev s_Chain_getitem : Stmt := inClass (top 31) 8
abbrev s_Chain_iter : Stmt := inClass (top 31) 9
abbrev s_Chain_rshift : Stmt := inClass (top 31) 10
abbrev s_Chain_rrshift : Stmt := inClass (top 31) 11
abbrev s_Chain_neg : Stmt := inClass (top 31) 12
abbrev s_Chain_eq : Stmt := inClass (top 31) 13
abbrev s_is_operation : Stmt := top 34
abbrev s_Step_init : Stmt := inClass (top 35) 0
abbrev s_Worktop_init : Stmt := inClass (top 36) 0
abbrev s_Worktop_replay : Stmt := inClass (top 36) 1
abbrev s_Worktop_now : Stmt := inClass (top 36) 2
abbrev s_Worktop_advance : Stmt := inClass (top 36) 3
abbrev s_Worktop_put : Stmt := inClass (top 36) 4
abbrev s_Worktop_take : Stmt := inClass (top 36) 5
abbrev s_Worktop_swap : Stmt := inClass (top 36) 6
abbrev s_Worktop_undo : Stmt := inClass (top 36) 7
abbrev s_Worktop_redo : Stmt := inClass (top 36) 8
abbrev s_Worktop_chain_now : Stmt := inClass (top 36) 9
abbrev s_Worktop_held : Stmt := inClass (top 36) 10
abbrev s_Worktop_let_out : Stmt := inClass (top 36) 11
abbrev s_Worktop_operations : Stmt := inClass (top 36) 12
abbrev s_Worktop_save : Stmt := inClass (top 36) 13
abbrev s_Worktop_restore : Stmt := inClass (top 36) 14
abbrev s_Worktop_execute : Stmt := inClass (top 36) 15
abbrev s_Worktop_batch : Stmt := inClass (top 36) 16
abbrev s__law_random : Stmt := top 38
abbrev s__law_below : Stmt := top 39
abbrev s__law_labels : Stmt := top 40
abbrev s__law_new : Stmt := top 41
abbrev s__law_chain : Stmt := top 42
abbrev s__law_kept : Stmt := top 43
abbrev s__law_step : Stmt := top 44
abbrev s__law_worked_on : Stmt := top 45
abbrev s__law_worked : Stmt := top 46
abbrev s__law_equal : Stmt := top 47
abbrev s__law_operation : Stmt := top 48
abbrev s__law_error_of : Stmt := top 49
abbrev s__law_stands : Stmt := top 50
abbrev s_law : Stmt := top 51
def d__wall : DP := ⟨(fun K => He.ga K "_wall"), "_wall", "_wall", s__wall, []⟩
def d_is_within : DP := ⟨(fun K => He.ga K "is_within"), "is_within", "is_within", s_is_within, []⟩
def d_is_number : DP := ⟨(fun K => He.ga K "is_number"), "is_number", "is_number", s_is_number, []⟩
def d_check_number : DP := ⟨(fun K => He.ga K "check_number"), "check_number", "check_number", s_check_number, []⟩
def d_check_index : DP := ⟨(fun K => He.ga K "check_index"), "check_index", "check_index", s_check_index, []⟩
def d_check_row : DP := ⟨(fun K => He.ga K "check_row"), "check_row", "check_row", s_check_row, []⟩
def d_Cell_call : DP := ⟨(fun K => He.ma K (He.ga K "Cell") "__call__"), "__call__", "Cell.__call__", s_Cell_call, []⟩
def d_Cell_eq : DP := ⟨(fun K => He.ma K (He.ga K "Cell") "__eq__"), "__eq__", "Cell.__eq__", s_Cell_eq, []⟩
def d_Cell_neg : DP := ⟨(fun K => He.ma K (He.ga K "Cell") "__neg__"), "__neg__", "Cell.__neg__", s_Cell_neg, []⟩
def d_Cell_label : DP := ⟨(fun K => pgA K "Cell" "label"), "label", "Cell.label", s_Cell_label, []⟩
def d_Last_call : DP := ⟨(fun K => He.ma K (He.ga K "Last") "__call__"), "__call__", "Last.__call__", s_Last_call, []⟩
def d_Last_eq : DP := ⟨(fun K => He.ma K (He.ga K "Last") "__eq__"), "__eq__", "Last.__eq__", s_Last_eq, []⟩
def d_Last_neg : DP := ⟨(fun K => He.ma K (He.ga K "Last") "__neg__"), "__neg__", "Last.__neg__", s_Last_neg, []⟩
def d_Last_label : DP := ⟨(fun K => pgA K "Last" "label"), "label", "Last.label", s_Last_label, []⟩
def d_Less_call : DP := ⟨(fun K => He.ma K (He.ga K "Less") "__call__"), "__call__", "Less.__call__", s_Less_call, []⟩
def d_Less_eq : DP := ⟨(fun K => He.ma K (He.ga K "Less") "__eq__"), "__eq__", "Less.__eq__", s_Less_eq, []⟩
def d_Less_neg : DP := ⟨(fun K => He.ma K (He.ga K "Less") "__neg__"), "__neg__", "Less.__neg__", s_Less_neg, []⟩
def d_Less_label : DP := ⟨(fun K => pgA K "Less" "label"), "label", "Less.label", s_Less_label, []⟩
def d_Greater_call : DP := ⟨(fun K => He.ma K (He.ga K "Greater") "__call__"), "__call__", "Greater.__call__", s_Greater_call, []⟩
def d_Greater_eq : DP := ⟨(fun K => He.ma K (He.ga K "Greater") "__eq__"), "__eq__", "Greater.__eq__", s_Greater_eq, []⟩
def d_Greater_neg : DP := ⟨(fun K => He.ma K (He.ga K "Greater") "__neg__"), "__neg__", "Greater.__neg__", s_Greater_neg, []⟩
def d_Greater_label : DP := ⟨(fun K => pgA K "Greater" "label"), "label", "Greater.label", s_Greater_label, []⟩
def d_Near_init : DP := ⟨(fun K => He.ma K (He.ga K "Near") "__init__"), "__init__", "Near.__init__", s_Near_init, []⟩
def d_Near_call : DP := ⟨(fun K => He.ma K (He.ga K "Near") "__call__"), "__call__", "Near.__call__", s_Near_call, []⟩
def d_Near_eq : DP := ⟨(fun K => He.ma K (He.ga K "Near") "__eq__"), "__eq__", "Near.__eq__", s_Near_eq, []⟩
def d_Near_neg : DP := ⟨(fun K => He.ma K (He.ga K "Near") "__neg__"), "__neg__", "Near.__neg__", s_Near_neg, []⟩
def d_Near_label : DP := ⟨(fun K => pgA K "Near" "label"), "label", "Near.label", s_Near_label, []⟩
def d_near_of : DP := ⟨(fun K => He.ga K "near_of"), "near_of", "near_of", s_near_of, []⟩
def d_cell_of : DP := ⟨(fun K => He.ga K "cell_of"), "cell_of", "cell_of", s_cell_of, []⟩
def d_Chain_init : DP := ⟨(fun K => He.ma K (He.ga K "Chain") "__init__"), "__init__", "Chain.__init__", s_Chain_init, []⟩
def d_Chain_parse : DP := ⟨(fun K => cgA K "Chain" "parse"), "parse", "Chain.parse", s_Chain_parse, []⟩
def d_Chain_text : DP := ⟨(fun K => pgA K "Chain" "text"), "text", "Chain.text", s_Chain_text, []⟩
def d_Chain_empty : DP := ⟨(fun K => pgA K "Chain" "empty"), "empty", "Chain.empty", s_Chain_empty, []⟩
def d_Chain_step : DP := ⟨(fun K => He.ma K (He.ga K "Chain") "step"), "step", "Chain.step", s_Chain_step, []⟩
def d_Chain_call : DP := ⟨(fun K => He.ma K (He.ga K "Chain") "__call__"), "__call__", "Chain.__call__", s_Chain_call, []⟩
def d_Chain_len : DP := ⟨(fun K => He.ma K (He.ga K "Chain") "__len__"), "__len__", "Chain.__len__", s_Chain_len, []⟩
def d_Chain_getitem : DP := ⟨(fun K => He.ma K (He.ga K "Chain") "__getitem__"), "__getitem__", "Chain.__getitem__", s_Chain_getitem, []⟩
def d_Chain_iter : DP := ⟨(fun K => He.ma K (He.ga K "Chain") "__iter__"), "__iter__", "Chain.__iter__", s_Chain_iter, []⟩
def d_Chain_rshift : DP := ⟨(fun K => He.ma K (He.ga K "Chain") "__rshift__"), "__rshift__", "Chain.__rshift__", s_Chain_rshift, []⟩
def d_Chain_rrshift : DP := ⟨(fun K => He.ma K (He.ga K "Chain") "__rrshift__"), "__rrshift__", "Chain.__rrshift__", s_Chain_rrshift, []⟩
def d_Chain_neg : DP := ⟨(fun K => He.ma K (He.ga K "Chain") "__neg__"), "__neg__", "Chain.__neg__", s_Chain_neg, []⟩
def d_Chain_eq : DP := ⟨(fun K => He.ma K (He.ga K "Chain") "__eq__"), "__eq__", "Chain.__eq__", s_Chain_eq, []⟩
def d_is_operation : DP := ⟨(fun K => He.ga K "is_operation"), "is_operation", "is_operation", s_is_operation, []⟩
def d_Step_init : DP := ⟨(fun K => He.ma K (He.ga K "Step") "__init__"), "__init__", "Step.__init__", s_Step_init, []⟩
def d_Worktop_init : DP := ⟨(fun K => He.ma K (He.ga K "Worktop") "__init__"), "__init__", "Worktop.__init__", s_Worktop_init, []⟩
def d_Worktop_replay : DP := ⟨(fun K => cgA K "Worktop" "replay"), "replay", "Worktop.replay", s_Worktop_replay, []⟩
def d_Worktop_now : DP := ⟨(fun K => He.ma K (He.ga K "Worktop") "now"), "now", "Worktop.now", s_Worktop_now, []⟩
def d_Worktop_advance : DP := ⟨(fun K => He.ma K (He.ga K "Worktop") "advance"), "advance", "Worktop.advance", s_Worktop_advance, []⟩
def d_Worktop_put : DP := ⟨(fun K => He.ma K (He.ga K "Worktop") "put"), "put", "Worktop.put", s_Worktop_put, []⟩
def d_Worktop_take : DP := ⟨(fun K => He.ma K (He.ga K "Worktop") "take"), "take", "Worktop.take", s_Worktop_take, []⟩
def d_Worktop_swap : DP := ⟨(fun K => He.ma K (He.ga K "Worktop") "swap"), "swap", "Worktop.swap", s_Worktop_swap, []⟩
def d_Worktop_undo : DP := ⟨(fun K => He.ma K (He.ga K "Worktop") "undo"), "undo", "Worktop.undo", s_Worktop_undo, []⟩
def d_Worktop_redo : DP := ⟨(fun K => He.ma K (He.ga K "Worktop") "redo"), "redo", "Worktop.redo", s_Worktop_redo, []⟩
def d_Worktop_chain_now : DP := ⟨(fun K => pgA K "Worktop" "chain_now"), "chain_now", "Worktop.chain_now", s_Worktop_chain_now, []⟩
def d_Worktop_held : DP := ⟨(fun K => pgA K "Worktop" "held"), "held", "Worktop.held", s_Worktop_held, []⟩
def d_Worktop_let_out : DP := ⟨(fun K => pgA K "Worktop" "let_out"), "let_out", "Worktop.let_out", s_Worktop_let_out, []⟩
def d_Worktop_operations : DP := ⟨(fun K => pgA K "Worktop" "operations"), "operations", "Worktop.operations", s_Worktop_operations, []⟩
def d_Worktop_save : DP := ⟨(fun K => He.ma K (He.ga K "Worktop") "save"), "save", "Worktop.save", s_Worktop_save, []⟩
def d_Worktop_restore : DP := ⟨(fun K => He.ma K (He.ga K "Worktop") "restore"), "restore", "Worktop.restore", s_Worktop_restore, []⟩
def d_Worktop_execute : DP := ⟨(fun K => He.ma K (He.ga K "Worktop") "execute"), "execute", "Worktop.execute", s_Worktop_execute, []⟩
def d_Worktop_batch : DP := ⟨(fun K => He.ma K (He.ga K "Worktop") "batch"), "batch", "Worktop.batch", s_Worktop_batch, []⟩
def d__law_random : DP := ⟨(fun K => He.ga K "_law_random"), "_law_random", "_law_random", s__law_random, []⟩
def d__law_below : DP := ⟨(fun K => He.ga K "_law_below"), "_law_below", "_law_below", s__law_below, []⟩
def d__law_labels : DP := ⟨(fun K => He.ga K "_law_labels"), "_law_labels", "_law_labels", s__law_labels, []⟩
def d__law_new : DP := ⟨(fun K => He.ga K "_law_new"), "_law_new", "_law_new", s__law_new, []⟩
def d__law_chain : DP := ⟨(fun K => He.ga K "_law_chain"), "_law_chain", "_law_chain", s__law_chain, []⟩
def d__law_kept : DP := ⟨(fun K => He.ga K "_law_kept"), "_law_kept", "_law_kept", s__law_kept, []⟩
def d__law_step : DP := ⟨(fun K => He.ga K "_law_step"), "_law_step", "_law_step", s__law_step, []⟩
def d__law_worked_on : DP := ⟨(fun K => He.ga K "_law_worked_on"), "_law_worked_on", "_law_worked_on", s__law_worked_on, []⟩
def d__law_worked : DP := ⟨(fun K => He.ga K "_law_worked"), "_law_worked", "_law_worked", s__law_worked, []⟩
def d__law_equal : DP := ⟨(fun K => He.ga K "_law_equal"), "_law_equal", "_law_equal", s__law_equal, []⟩
def d__law_operation : DP := ⟨(fun K => He.ga K "_law_operation"), "_law_operation", "_law_operation", s__law_operation, []⟩
def d__law_error_of : DP := ⟨(fun K => He.ga K "_law_error_of"), "_law_error_of", "_law_error_of", s__law_error_of, []⟩
def d__law_stands : DP := ⟨(fun K => He.ga K "_law_stands"), "_law_stands", "_law_stands", s__law_stands, []⟩
def d_law : DP := ⟨(fun K => He.ga K "law"), "law", "law", s_law, []⟩
def dps : List DP := [d__wall, d_is_within, d_is_number, d_check_number, d_check_index, d_check_row, d_Cell_call, d_Cell_eq, d_Cell_neg, d_Cell_label, d_Last_call, d_Last_eq, d_Last_neg, d_Last_label, d_Less_call, d_Less_eq, d_Less_neg, d_Less_label, d_Greater_call, d_Greater_eq, d_Greater_neg, d_Greater_label, d_Near_init, d_Near_call, d_Near_eq, d_Near_neg, d_Near_label, d_near_of, d_cell_of, d_Chain_init, d_Chain_parse, d_Chain_text, d_Chain_empty, d_Chain_step, d_Chain_call, d_Chain_len, d_Chain_getitem, d_Chain_iter, d_Chain_rshift, d_Chain_rrshift, d_Chain_neg, d_Chain_eq, d_is_operation, d_Step_init, d_Worktop_init, d_Worktop_replay, d_Worktop_now, d_Worktop_advance, d_Worktop_put, d_Worktop_take, d_Worktop_swap, d_Worktop_undo, d_Worktop_redo, d_Worktop_chain_now, d_Worktop_held, d_Worktop_let_out, d_Worktop_operations, d_Worktop_save, d_Worktop_restore, d_Worktop_execute, d_Worktop_batch, d__law_random, d__law_below, d__law_labels, d__law_new, d__law_chain, d__law_kept, d__law_step, d__law_worked_on, d__law_worked, d__law_equal, d__law_operation, d__law_error_of, d__law_stands, d_law]
def fxs : List Fx := [Fx.fa (.free "isinstance"),
  Fx.fa (.free "int"),
  Fx.fa (.free "bool"),
  Fx.fa (.free "abs"),
  Fx.fa (.free "str"),
  Fx.fa (.free "len"),
  Fx.fa (.free "range"),
  Fx.fa (.free "min"),
  Fx.fa (.free "max"),
  Fx.fa (.free "all"),
  Fx.fa (.free "list"),
  Fx.fa (.free "tuple"),
  Fx.fa (.free "ValueError"),
  Fx.fa (.free "enumerate"),
  Fx.fa (.free "zip"),
  Fx.fa (.free "sorted"),
  Fx.fa (.free "sum"),
  Fx.fa (.free "set"),
  Fx.fa (.free "dict"),
  Fx.fa (.free "reversed"),
  Fx.fa (.glo "_wall"),
  Fx.fa (.glo "is_within"),
  Fx.fa (.glo "is_number"),
  Fx.fa (.glo "check_number"),
  Fx.fa (.glo "check_index"),
  Fx.fa (.glo "check_row"),
  Fx.fa (.glo "near_of"),
  Fx.fa (.glo "cell_of"),
  Fx.fa (.glo "is_operation"),
  Fx.fa (.glo "_law_random"),
  Fx.fa (.glo "_law_below"),
  Fx.fa (.glo "_law_labels"),
  Fx.fa (.glo "_law_new"),
  Fx.fa (.glo "_law_chain"),
  Fx.fa (.glo "_law_kept"),
  Fx.fa (.glo "_law_step"),
  Fx.fa (.glo "_law_worked_on"),
  Fx.fa (.glo "_law_worked"),
  Fx.fa (.glo "_law_equal"),
  Fx.fa (.glo "_law_operation"),
  Fx.fa (.glo "_law_error_of"),
  Fx.fa (.glo "_law_stands"),
  Fx.fa (.glo "law"),
  Fx.fa (.glo "SiftError"),
  Fx.fa (.glo "InvalidNumber"),
  Fx.fa (.glo "InvalidChain"),
  Fx.fa (.glo "UnknownCell"),
  Fx.fa (.glo "InvalidRow"),
  Fx.fa (.glo "InvalidText"),
  Fx.fa (.glo "TooMany"),
  Fx.fa (.glo "Contradiction"),
  Fx.fa (.glo "InvalidName"),
  Fx.fa (.glo "UnknownName"),
  Fx.fa (.glo "InvalidOperation"),
  Fx.fa (.glo "Cell"),
  Fx.fa (.glo "Last"),
  Fx.fa (.glo "Less"),
  Fx.fa (.glo "Greater"),
  Fx.fa (.glo "Near"),
  Fx.fa (.glo "Chain"),
  Fx.fa (.glo "Step"),
  Fx.fa (.glo "Worktop"),
  Fx.fa (.int "LIMIT" 1000000000),
  Fx.fa (.int "LONGEST_ROW" 1000),
  Fx.fa (.int "MOST_DIGITS" 10),
  Fx.fa (.str "NEAR_START" "near:"),
  Fx.fa (.cls "Cell"),
  Fx.fa (.cls "Last"),
  Fx.fa (.cls "Less"),
  Fx.fa (.cls "Greater"),
  Fx.fa (.cls "Near"),
  Fx.prop "Cell" "label",
  Fx.prop "Last" "label",
  Fx.prop "Less" "label",
  Fx.prop "Greater" "label",
  Fx.prop "Near" "label",
  Fx.spec "Cell" "__call__",
  Fx.spec "Last" "__call__",
  Fx.spec "Less" "__call__",
  Fx.spec "Greater" "__call__",
  Fx.spec "Near" "__call__",
  Fx.spec "Cell" "__eq__",
  Fx.spec "Last" "__eq__",
  Fx.spec "Less" "__eq__",
  Fx.spec "Greater" "__eq__",
  Fx.spec "Near" "__eq__",
  Fx.spec "Cell" "__neg__",
  Fx.spec "Last" "__neg__",
  Fx.spec "Less" "__neg__",
  Fx.spec "Greater" "__neg__",
  Fx.spec "Near" "__neg__",
  Fx.none_ "Cell" "__ne__" "object.__ne__",
  Fx.none_ "Last" "__ne__" "object.__ne__",
  Fx.none_ "Less" "__ne__" "object.__ne__",
  Fx.none_ "Greater" "__ne__" "object.__ne__",
  Fx.none_ "Near" "__ne__" "object.__ne__",
  Fx.isi "Cell",
  Fx.isi "Last",
  Fx.isi "Less",
  Fx.isi "Greater",
  Fx.isi "Near",
  Fx.cls "Cell",
  Fx.cls "Last",
  Fx.cls "Less",
  Fx.cls "Greater",
  Fx.cls "Near",
  Fx.kit (.g "Cell") (.g "Cell") true,
  Fx.kit (.g "Last") (.g "Cell") true,
  Fx.kit (.g "Less") (.g "Cell") true,
  Fx.kit (.g "Greater") (.g "Cell") true,
  Fx.kit (.g "Near") (.g "Cell") true,
  Fx.mk0 "Cell",
  Fx.mk0 "Last",
  Fx.mk0 "Less",
  Fx.mk0 "Greater",
  Fx.fa (.mkr "Near"),
  Fx.fa (.noat "Near" "mark"),
  Fx.con "Cell" "KIND" (.str "first"),
  Fx.con "Last" "KIND" (.str "last"),
  Fx.con "Less" "KIND" (.str "less"),
  Fx.con "Greater" "KIND" (.str "greater"),
  Fx.con "Near" "KIND" (.str "near"),
  Fx.cstr "Cell" "KIND" "first",
  Fx.cstr "Last" "KIND" "last",
  Fx.cstr "Less" "KIND" "less",
  Fx.cstr "Greater" "KIND" "greater",
  Fx.kit (.t "str") (.g "Cell") false,
  Fx.sub (.g "Cell") (.g "Cell") true,
  Fx.sub (.g "Cell") (.g "Last") false,
  Fx.sub (.g "Cell") (.g "Less") false,
  Fx.sub (.g "Cell") (.g "Greater") false,
  Fx.sub (.g "Cell") (.g "Near") false,
  Fx.sub (.g "Last") (.g "Cell") true,
  Fx.sub (.g "Last") (.g "Last") true,
  Fx.sub (.g "Last") (.g "Less") false,
  Fx.sub (.g "Last") (.g "Greater") false,
  Fx.sub (.g "Last") (.g "Near") false,
  Fx.sub (.g "Less") (.g "Cell") true,
  Fx.sub (.g "Less") (.g "Last") false,
  Fx.sub (.g "Less") (.g "Less") true,
  Fx.sub (.g "Less") (.g "Greater") false,
  Fx.sub (.g "Less") (.g "Near") false,
  Fx.sub (.g "Greater") (.g "Cell") true,
  Fx.sub (.g "Greater") (.g "Last") false,
  Fx.sub (.g "Greater") (.g "Less") false,
  Fx.sub (.g "Greater") (.g "Greater") true,
  Fx.sub (.g "Greater") (.g "Near") false,
  Fx.sub (.g "Near") (.g "Cell") true,
  Fx.sub (.g "Near") (.g "Last") false,
  Fx.sub (.g "Near") (.g "Less") false,
  Fx.sub (.g "Near") (.g "Greater") false,
  Fx.sub (.g "Near") (.g "Near") true,
  Fx.sub (.t "str") (.g "Cell") false,
  Fx.sub (.t "str") (.g "Last") false,
  Fx.sub (.t "str") (.g "Less") false,
  Fx.sub (.t "str") (.g "Greater") false,
  Fx.sub (.t "str") (.g "Near") false,
  Fx.fa (.exc "InvalidNumber"),
  Fx.fa (.exc "UnknownCell"),
  Fx.fa (.exc "TooMany"),
  Fx.fa (.exc "Contradiction"),
  Fx.fa (.exc "InvalidName"),
  Fx.fa (.exc "UnknownName"),
  Fx.exk "InvalidNumber",
  Fx.isi "InvalidNumber",
  Fx.fa (.exm "InvalidNumber" "SiftError" true),
  Fx.kit (.g "InvalidNumber") (.t "ValueError") true,
  Fx.kit (.g "InvalidNumber") (.g "InvalidNumber") true,
  Fx.kit (.g "InvalidNumber") (.g "InvalidChain") false,
  Fx.kit (.g "InvalidNumber") (.g "UnknownCell") false,
  Fx.kit (.g "InvalidNumber") (.g "InvalidRow") false,
  Fx.kit (.g "InvalidNumber") (.g "InvalidText") false,
  Fx.kit (.g "InvalidNumber") (.g "TooMany") false,
  Fx.kit (.g "InvalidNumber") (.g "Contradiction") false,
  Fx.kit (.g "InvalidNumber") (.g "InvalidName") false,
  Fx.kit (.g "InvalidNumber") (.g "UnknownName") false,
  Fx.kit (.g "InvalidNumber") (.g "InvalidOperation") false,
  Fx.exk "UnknownCell",
  Fx.isi "UnknownCell",
  Fx.fa (.exm "UnknownCell" "SiftError" true),
  Fx.kit (.g "UnknownCell") (.t "ValueError") true,
  Fx.kit (.g "UnknownCell") (.g "InvalidNumber") false,
  Fx.kit (.g "UnknownCell") (.g "InvalidChain") false,
  Fx.kit (.g "UnknownCell") (.g "UnknownCell") true,
  Fx.kit (.g "UnknownCell") (.g "InvalidRow") false,
  Fx.kit (.g "UnknownCell") (.g "InvalidText") false,
  Fx.kit (.g "UnknownCell") (.g "TooMany") false,
  Fx.kit (.g "UnknownCell") (.g "Contradiction") false,
  Fx.kit (.g "UnknownCell") (.g "InvalidName") false,
  Fx.kit (.g "UnknownCell") (.g "UnknownName") false,
  Fx.kit (.g "UnknownCell") (.g "InvalidOperation") false,
  Fx.exk "TooMany",
  Fx.isi "TooMany",
  Fx.fa (.exm "TooMany" "SiftError" true),
  Fx.kit (.g "TooMany") (.t "ValueError") true,
  Fx.kit (.g "TooMany") (.g "InvalidNumber") false,
  Fx.kit (.g "TooMany") (.g "InvalidChain") false,
  Fx.kit (.g "TooMany") (.g "UnknownCell") false,
  Fx.kit (.g "TooMany") (.g "InvalidRow") false,
  Fx.kit (.g "TooMany") (.g "InvalidText") false,
  Fx.kit (.g "TooMany") (.g "TooMany") true,
  Fx.kit (.g "TooMany") (.g "Contradiction") false,
  Fx.kit (.g "TooMany") (.g "InvalidName") false,
  Fx.kit (.g "TooMany") (.g "UnknownName") false,
  Fx.kit (.g "TooMany") (.g "InvalidOperation") false,
  Fx.exk "Contradiction",
  Fx.isi "Contradiction",
  Fx.fa (.exm "Contradiction" "SiftError" true),
  Fx.kit (.g "Contradiction") (.t "ValueError") true,
  Fx.kit (.g "Contradiction") (.g "InvalidNumber") false,
  Fx.kit (.g "Contradiction") (.g "InvalidChain") false,
  Fx.kit (.g "Contradiction") (.g "UnknownCell") false,
  Fx.kit (.g "Contradiction") (.g "InvalidRow") false,
  Fx.kit (.g "Contradiction") (.g "InvalidText") false,
  Fx.kit (.g "Contradiction") (.g "TooMany") false,
  Fx.kit (.g "Contradiction") (.g "Contradiction") true,
  Fx.kit (.g "Contradiction") (.g "InvalidName") false,
  Fx.kit (.g "Contradiction") (.g "UnknownName") false,
  Fx.kit (.g "Contradiction") (.g "InvalidOperation") false,
  Fx.exk "InvalidName",
  Fx.isi "InvalidName",
  Fx.fa (.exm "InvalidName" "SiftError" true),
  Fx.kit (.g "InvalidName") (.t "ValueError") true,
  Fx.kit (.g "InvalidName") (.g "InvalidNumber") false,
  Fx.kit (.g "InvalidName") (.g "InvalidChain") false,
  Fx.kit (.g "InvalidName") (.g "UnknownCell") false,
  Fx.kit (.g "InvalidName") (.g "InvalidRow") false,
  Fx.kit (.g "InvalidName") (.g "InvalidText") false,
  Fx.kit (.g "InvalidName") (.g "TooMany") false,
  Fx.kit (.g "InvalidName") (.g "Contradiction") false,
  Fx.kit (.g "InvalidName") (.g "InvalidName") true,
  Fx.kit (.g "InvalidName") (.g "UnknownName") false,
  Fx.kit (.g "InvalidName") (.g "InvalidOperation") false,
  Fx.exk "UnknownName",
  Fx.isi "UnknownName",
  Fx.fa (.exm "UnknownName" "SiftError" true),
  Fx.kit (.g "UnknownName") (.t "ValueError") true,
  Fx.kit (.g "UnknownName") (.g "InvalidNumber") false,
  Fx.kit (.g "UnknownName") (.g "InvalidChain") false,
  Fx.kit (.g "UnknownName") (.g "UnknownCell") false,
  Fx.kit (.g "UnknownName") (.g "InvalidRow") false,
  Fx.kit (.g "UnknownName") (.g "InvalidText") false,
  Fx.kit (.g "UnknownName") (.g "TooMany") false,
  Fx.kit (.g "UnknownName") (.g "Contradiction") false,
  Fx.kit (.g "UnknownName") (.g "InvalidName") false,
  Fx.kit (.g "UnknownName") (.g "UnknownName") true,
  Fx.kit (.g "UnknownName") (.g "InvalidOperation") false,
  Fx.fa (.cls "Chain"),
  Fx.fa (.mkr "Chain"),
  Fx.fa (.noat "Chain" "cells"),
  Fx.con "Chain" "MAX_CELLS" (.int 8),
  Fx.cint "Chain" "MAX_CELLS" 8,
  Fx.cls "Chain",
  Fx.cmet "Chain" "parse",
  Fx.slf "Chain",
  Fx.isi "Chain",
  Fx.kit (.g "Chain") (.g "Chain") true,
  Fx.prop "Chain" "text",
  Fx.prop "Chain" "empty",
  Fx.fa (.meth "Chain" "step"),
  Fx.spec "Chain" "__call__",
  Fx.spec "Chain" "__len__",
  Fx.spec "Chain" "__getitem__",
  Fx.spec "Chain" "__rshift__",
  Fx.spec "Chain" "__neg__",
  Fx.spec "Chain" "__eq__",
  Fx.none_ "Chain" "__ne__" "object.__ne__",
  Fx.fa (.glo "ARGUMENTS"),
  Fx.gen (fun K => He.valsB K (He.ga K "ARGUMENTS") [("put", .int 1), ("take", .int 1), ("swap", .int 1), ("undo", .int 0), ("redo", .int 0)]),
  Fx.fa (.cls "Step"),
  Fx.fa (.mkr "Step"),
  Fx.fa (.noat "Step" "word"),
  Fx.fa (.noat "Step" "chain"),
  Fx.fa (.noat "Step" "numbers"),
  Fx.fa (.noat "Step" "out"),
  Fx.fa (.cls "Worktop"),
  Fx.fa (.mkr "Worktop"),
  Fx.fa (.noat "Worktop" "steps"),
  Fx.fa (.noat "Worktop" "done"),
  Fx.fa (.noat "Worktop" "saved"),
  Fx.fa (.meth "Worktop" "now"),
  Fx.fa (.meth "Worktop" "advance"),
  Fx.fa (.meth "Worktop" "put"),
  Fx.fa (.meth "Worktop" "take"),
  Fx.fa (.meth "Worktop" "swap"),
  Fx.fa (.meth "Worktop" "undo"),
  Fx.fa (.meth "Worktop" "redo"),
  Fx.fa (.meth "Worktop" "save"),
  Fx.fa (.meth "Worktop" "restore"),
  Fx.fa (.meth "Worktop" "execute"),
  Fx.fa (.meth "Worktop" "batch"),
  Fx.prop "Worktop" "chain_now",
  Fx.prop "Worktop" "held",
  Fx.prop "Worktop" "let_out",
  Fx.prop "Worktop" "operations",
  Fx.cls "Worktop",
  Fx.cmet "Worktop" "replay",
  Fx.slf "Worktop",
  Fx.kit (.g "Worktop") (.g "Chain") false,
  Fx.kit (.g "Worktop") (.g "Cell") false]
def tabs : List He.Tab := [(fun K => He.ga K "ARGUMENTS", ["put", "take", "swap", "undo", "redo"])]
def tfs : List He.Defn := [("law", none)]
abbrev R : PySem.W.OpenRow := PySem.W.OpenLaw.row PySem.Challenge.rw_siftchain_k14_batches_of_operations
abbrev hk : PySem.W.Hook := hookW 5 dps fxs tfs tabs
def ob (s : PySem.W.SharedT) : LookW := lookW 5 dps fxs tfs tabs (HandSHeadRun.getT s)
theorem ob_eq (s : PySem.W.SharedT) : ob s = hk.obs s.abs := lookW_eq (HandSHeadRun.getT_eq s)
def loose : List Str := (["_wall", "SiftError", "InvalidNumber", "InvalidChain", "UnknownCell", "InvalidRow", "InvalidText", "TooMany", "Contradiction", "InvalidName", "UnknownName", "InvalidOperation", "LIMIT", "LONGEST_ROW", "is_within", "is_number", "check_number", "check_index", "check_row", "MOST_DIGITS", "NEAR_START", "Cell", "Last", "Less", "Greater", "Near", "near_of", "cell_of", "Chain", "ARGUMENTS"] : List Str) ++ (["is_operation", "Step", "Worktop", "_law_random", "_law_below", "_law_labels", "_law_new", "_law_chain", "_law_kept", "_law_step", "_law_worked_on", "_law_worked", "_law_equal", "_law_operation", "_law_error_of", "_law_stands"] : List Str)
theorem run0 (w : World) : HandSHeadRun.RunEq R (PySem.W.view R.prog [51]) hk ob 12000 loose (w.withFollow "special-get-raises" false) := by
  intro os
  kernel_rfl
theorem run1 (w : World) : HandSHeadRun.RunEq R (PySem.W.view R.prog [51]) hk ob 12000 loose (w.withFollow "special-get-raises" true) := by
  intro os
  kernel_rfl
theorem run (w : World) : HandSHeadRun.RunEq R (PySem.W.view R.prog [51]) hk ob 12000 loose w := PySem.W.byRow2 "special-get-raises" (P := fun w => HandSHeadRun.RunEq R (PySem.W.view R.prog [51]) hk ob 12000 loose w) run0 run1 w
end SC
set_option maxRecDepth 100000
set_option maxHeartbeats 2000000
/-! # Part B: rules of our own: objects without an __init__, cells of five kinds through one rule each -/
namespace SC
open PySem PySem.Spec PyProof.Rows L2
/-! ### C() without an __init__ -/
def tMk0 (C : Addr) : TE := fun _ H Q => ∀ x dx, H x = none → H dx = none → dx ≠ x → Q (.ref x) (upd (upd H dx (.own x)) x (.ins C dx []))
theorem pe_mk0 {X : Cx} {C : Addr} {x : Str} {p pos : Pos} (M : Mk0 X.K C) (hg : Gl X x) (hm : X.mg x = some (.ref C)) (hdb : (x == ("__debug__" : Str)) = false := by decide) : PE X (.Call (.Name x p) [] [] pos) (tMk0 C) := by
  refine ⟨fun pins s σ H Q I h => ?_⟩
  refine wpAny_Call_Name_kw (ld_glob I hg hm ?_ hdb)
  refine PySem.W.callWith_K0 I.kIn M.kp (wpAny_call ?_)
  have J := Inv.made (C := C) I
  have hq := h (s.heap.objs.size + 1) s.heap.objs.size (I.hok.fresh (Nat.le_succ _)) (I.hok.fresh (Nat.le_refl _)) (Nat.ne_of_lt (Nat.lt_succ_self _))
  have at1 : ((s.heap.push PySem.W.emptyDict).push (PySem.W.instObj C s.heap.objs.size)).get? (s.heap.objs.size + 1) = some (PySem.W.instObj C s.heap.objs.size) := by
    have z := Heap.get?_push_size (s.heap.push PySem.W.emptyDict) (o := PySem.W.instObj C s.heap.objs.size) rfl
    rwa [Heap.size_push] at z
  have Y := PySem.W.makes_of (M := model X.prog X.w) I.kIn M.makes
  refine make_map0 I.kIn M.makes M.init (fun self => PySem.W.Looks.of_pure (PySem.W.oi_bind self)) ?_
  have ty : PySem.W.Looks (model X.prog X.w) ((s.heap.push PySem.W.emptyDict).push (PySem.W.instObj C s.heap.objs.size)) (typeOf (.ref (s.heap.objs.size + 1))) (.ref C) := (PySem.W.Looks.ld at1).andThen .now
  have isO : PySem.W.Looks (model X.prog X.w) ((s.heap.push PySem.W.emptyDict).push (PySem.W.instObj C s.heap.objs.size)) (isInstance (.ref (s.heap.objs.size + 1)) (.type "object")) true :=
    ty.andThen (Y.top.keeps fun b o e => Heap.get?_push_of_some _ (Heap.get?_push_of_some _ e))
  refine codeAny_call_builtin PySem.W.oi_plain PySem.W.entry_oi (@PySem.W.check_slot (model X.prog X.w) _ _ _ "object.__init__" "object" "__init__" (.ref (s.heap.objs.size + 1)) [] [] _ PySem.W.oi_kind PySem.W.oi_split isO (PySem.W.oi_args _) ?_)
  rw [PySem.W.oi_run]
  exact wpAny_pure ⟨rfl, .ref (s.heap.objs.size + 1), _, J, rfl, hq⟩
/-! ### rules -/
inductive Kd where
  | first | last | less | greater | near
  deriving DecidableEq
def Kd.cn : Kd → Str
  | .first => "Cell"
  | .last => "Last"
  | .less => "Less"
  | .greater => "Greater"
  | .near => "Near"
def Kd.word : Kd → Str
  | .first => "first"
  | .last => "last"
  | .less => "less"
  | .greater => "greater"
  | .near => "near"
inductive Rule where
  | first | last | less | greater | near (m : Int)
  deriving DecidableEq
def Rule.kd : Rule → Kd
  | .first => .first
  | .last => .last
  | .less => .less
  | .greater => .greater
  | .near _ => .near
def Rule.fs : Rule → List (Str × V)
  | .near m => [("mark", .int m)]
  | _ => []
def Rule.ok : Rule → Prop
  | .near m => -1000000000 ≤ m ∧ m ≤ 1000000000
  | _ => True
def numS (m : Int) : Str := Str.ofString (toString m)
def Rule.label : Rule → Str
  | .near m => ("near:" : Str) ++ numS m
  | r => r.kd.word
def absI (i : Int) : Int := if i < 0 then -i else i
def Rule.keep (r : Rule) (h c : Int) : Int × Int := match r with
  | .first => (h, c)
  | .last => (c, h)
  | .less => if c < h then (c, h) else (h, c)
  | .greater => if h < c then (c, h) else (h, c)
  | .near m => if absI (c - m) < absI (h - m) then (c, h) else (h, c)
def Rule.neg : Rule → Rule
  | .less => .greater
  | .greater => .less
  | .near m => .near (-m)
  | r => r
theorem Rule.neg_ok {r : Rule} (h : r.ok) : r.neg.ok := by
  cases r with
  | near m =>
    obtain ⟨h1, h2⟩ := h
    constructor <;> omega
  | _ => trivial
theorem Rule.neg_neg (r : Rule) : r.neg.neg = r := by
  cases r with
  | near m => show Rule.near (- -m) = Rule.near m; rw [Int.neg_neg]
  | _ => rfl
/-- at a stands a cell of the rule r -/
def CellAt (K : PySem.W.Frag) (H : Hp) (a : Addr) (r : Rule) : Prop := r.ok ∧ ∃ dx, H a = some (.ins (He.ga K r.kd.cn) dx r.fs)
theorem CellAt.same {K : PySem.W.Frag} {H H' : Hp} {a : Addr} {r : Rule} (c : CellAt K H a r) (s : Same H H') : CellAt K H' a r := by
  obtain ⟨h1, dx, h2⟩ := c
  exact ⟨h1, dx, s _ _ h2⟩
theorem CellAt.keep {K : PySem.W.Frag} {H H' : Hp} {a : Addr} {r : Rule} (c : CellAt K H a r) (s : ∀ o, H a = some o → H' a = some o) : CellAt K H' a r := by
  obtain ⟨h1, dx, h2⟩ := c
  exact ⟨h1, dx, s _ h2⟩
/-! ### what each method of a kind promises -/
def spCall (K : PySem.W.Frag) (k : Kd) : Sp := fun vs H Q _ => ∃ (a : Addr) (r : Rule) (h c : Int), vs = [.ref a, .int h, .int c] ∧ r.kd = k ∧ CellAt K H a r ∧ ∀ p, H p = none → Q (.ref p) (upd H p (.tup [.int (r.keep h c).1, .int (r.keep h c).2]))
def spLabel (K : PySem.W.Frag) (k : Kd) : Sp := fun vs H Q _ => ∃ (a : Addr) (r : Rule), vs = [.ref a] ∧ r.kd = k ∧ CellAt K H a r ∧ Q (.str r.label) H
def spNeg (K : PySem.W.Frag) (k : Kd) : Sp := fun vs H Q _ => ∃ (a : Addr) (r : Rule), vs = [.ref a] ∧ r.kd = k ∧ CellAt K H a r ∧ ∀ p H', H p = none → Same H H' → CellAt K H' p r.neg → Q (.ref p) H'
def spEq (K : PySem.W.Frag) (k : Kd) : Sp := fun vs H Q _ => ∃ (a : Addr) (r : Rule) (y : V), vs = [.ref a, y] ∧ r.kd = k ∧ CellAt K H a r ∧
  ((∃ (b : Addr) (r' : Rule), y = .ref b ∧ CellAt K H b r' ∧ Q (.bl (decide (r.label = r'.label))) H) ∨ ∃ z : Str, y = .str z ∧ Q (.bl false) H)
/-- what the written part says of the cells' classes -/
structure Cells (K : PySem.W.Frag) (mg : Str → Option Value) : Prop where
  cls : ∀ k : Kd, Cls K (He.ga K k.cn)
  isi : ∀ k : Kd, Isi K (He.ga K k.cn)
  glo : ∀ k : Kd, mg k.cn = some (.ref (He.ga K k.cn))
  call : ∀ k : Kd, Spec K (He.ga K k.cn) "__call__" (He.ma K (He.ga K k.cn) "__call__")
  eq : ∀ k : Kd, Spec K (He.ga K k.cn) "__eq__" (He.ma K (He.ga K k.cn) "__eq__")
  neg : ∀ k : Kd, Spec K (He.ga K k.cn) "__neg__" (He.ma K (He.ga K k.cn) "__neg__")
  ne : ∀ k : Kd, PySem.W.findIn K (.ref (He.ga K k.cn)) "__ne__" = some (some (.builtin "object.__ne__"))
  prop : ∀ k : Kd, PropOf K (He.ga K k.cn) "label" (He.ma K (He.ga K k.cn) "label") (pgA K k.cn "label")
  kind : ∀ k : Kd, ∃ u, Con K (He.ga K k.cn) "KIND" (.str k.word) u
  sub : ∀ k l : Kd, PySem.W.subIn K (.ref (He.ga K k.cn)) (.ref (He.ga K l.cn)) = some (decide (k = l) || decide (l = .first))
  subS : ∀ k : Kd, PySem.W.subIn K (.type "str") (.ref (He.ga K k.cn)) = some false
  kit : ∀ k : Kd, PySem.W.kitOne K (.ref (He.ga K k.cn)) (.ref (He.ga K "Cell")) = some true
  kitS : PySem.W.kitOne K (.type "str") (.ref (He.ga K "Cell")) = some false
  mk0 : ∀ k : Kd, k ≠ .near → Mk0 K (He.ga K k.cn)
  mkN : Mk K (He.ga K "Near") (He.ma K (He.ga K "Near") "__init__")
  noM : NoAttr K (He.ga K "Near") "mark"
theorem Cells.inj {K : PySem.W.Frag} {mg : Str → Option Value} (T : Cells K mg) {k l : Kd} (e : He.ga K k.cn = He.ga K l.cn) : k = l := by
  have h1 := T.sub k l
  have h2 := T.sub l k
  have h3 := T.sub l l
  have h4 := T.sub k k
  rw [e] at h1 h2 h4
  rw [h3] at h1 h2
  cases k <;> cases l <;> first | rfl | (revert h1 h2; decide)
/-- an instance of a cell's class, by its type -/
theorem CellAt.ty {K : PySem.W.Frag} {mg : Str → Option Value} {H : Hp} {a : Addr} {r : Rule} (T : Cells K mg) (c : CellAt K H a r) : TyX K H (.ref a) (.ref (He.ga K r.kd.cn)) := by
  obtain ⟨_, dx, h⟩ := c
  have q := T.isi r.kd
  exact .base (.ins h (T.cls _) q.ha q.hn q.ht q.hm)
/-- how the methods keep their promises, at level n -/
structure CellsOk (P : Program) (w : World) (K : PySem.W.Frag) (mg : Str → Option Value) (base : Heap) (n : Nat) : Prop where
  t : Cells K mg
  call : ∀ k : Kd, FnR P w K mg base CX0 n (He.ma K (He.ga K k.cn) "__call__") (spCall K k)
  eq : ∀ k : Kd, FnR P w K mg base CX0 n (He.ma K (He.ga K k.cn) "__eq__") (spEq K k)
  neg : ∀ k : Kd, FnR P w K mg base CX0 n (He.ma K (He.ga K k.cn) "__neg__") (spNeg K k)
/-- .. the labels alone (what __eq__ itself leans on) -/
def LabelsOk (P : Program) (w : World) (K : PySem.W.Frag) (mg : Str → Option Value) (base : Heap) (n : Nat) : Prop :=
  ∀ k : Kd, ∃ fd ps, FnOk P w K mg base CX0 n (pgA K k.cn "label") fd ps (spLabel K k) ∧ Binds K fd ps []
section
variable {X : Cx} {n : Nat}
/-! ### e.label -/
def tLabel (K : PySem.W.Frag) (ta : TE) : TE := fun σ H Q => ta σ H fun x H1 => ∃ (a : Addr) (r : Rule), x = .ref a ∧ CellAt K H1 a r ∧ Q (.str r.label) H1
theorem pe_label {e : Expr} {ta : TE} {pos : Pos} (T : Cells X.K X.mg) (L : LabelsOk X.prog X.w X.K X.mg X.base n) (hr : Room (n + 1) X.A) (he : PE X e ta) (hab : attributeBase e "label" X.env (eval e X.env) = eval e X.env := by rfl) :
    PE X (.Attribute e "label" pos) (tLabel X.K ta) := by
  refine ⟨fun pins s σ H Q I h => attr_of hab (thn (he.run pins s σ H _ I h) fun u s1 hh => ?_)⟩
  obtain ⟨x, H1, I1, rx, a, r, ex, ca, q⟩ := hh
  subst ex
  obtain rfl : u = Value.ref a := rx
  obtain ⟨fd, ps, F, hb⟩ := L r.kd
  obtain ⟨hok, dx, ea⟩ := id ca
  exact getprop_ok (dvs := []) (E := E0) I1 ea (T.cls r.kd) (T.prop r.kd) F hr hb .nil pass0 ⟨a, r, rfl, rfl, ca, q⟩
/-! ### e.KIND -/
def tKind (K : PySem.W.Frag) (ta : TE) : TE := fun σ H Q => ta σ H fun x H1 => ∃ (a : Addr) (r : Rule), x = .ref a ∧ CellAt K H1 a r ∧ Q (.str r.kd.word) H1
theorem fs_kind (r : Rule) : r.fs.lookup ("KIND" : Str) = none := by
  cases r with
  | near m =>
    have hk : (("KIND" : Str) == "mark") = false := by decide +kernel
    show List.lookup ("KIND" : Str) [(("mark" : Str), V.int m)] = none
    simp [List.lookup, hk]
  | _ => rfl
theorem pe_kind {e : Expr} {ta : TE} {pos : Pos} (T : Cells X.K X.mg) (he : PE X e ta) (hab : attributeBase e "KIND" X.env (eval e X.env) = eval e X.env := by rfl) : PE X (.Attribute e "KIND" pos) (tKind X.K ta) := by
  refine ⟨fun pins s σ H Q I h => attr_of hab (thn (he.run pins s σ H _ I h) fun u s1 hh => ?_)⟩
  obtain ⟨x, H1, I1, rx, a, r, ex, ⟨_, dx, ea⟩, q⟩ := hh
  subst ex
  obtain rfl : u = Value.ref a := rx
  obtain ⟨u0, k⟩ := T.kind r.kd
  exact getcon_ok I1 ea (T.cls r.kd) k (fs_kind r) fun s2 I2 => ⟨_, H1, I2, k.rel, q⟩
/-! ### e(h, c) -/
def tCellCall (K : PySem.W.Frag) (tf : TE) (t : TA) : TE := fun σ H Q => tf σ H fun y H1 => ∃ a : Addr, y = .ref a ∧ t σ H1 fun vs H2 => ∃ (r : Rule) (h c : Int), vs = [.int h, .int c] ∧ CellAt K H2 a r ∧
  ∀ p, H2 p = none → Q (.ref p) (upd H2 p (.tup [.int (r.keep h c).1, .int (r.keep h c).2]))
theorem pe_cellCall {fe e : Expr} {es : List Expr} {tf : TE} {t : TA} {pos : Pos} (hf : PE X fe tf) (T : CellsOk X.prog X.w X.K X.mg X.base n) (hr : Room n X.A) (ha : PA X (e :: es) t)
    (ht : eval (.Call fe (e :: es) [] pos) X.env = (do callWith pos (← eval fe X.env) [] (backTo pos (starEach (e :: es) X.env)) (backToKw pos (keywordEach [] X.env))) := by rfl)
    (he : starEach (e :: es) X.env = (false, eval e X.env) :: starEach es X.env := by rfl) (hpl : (backTo pos (starEach es X.env)).any (·.1) = false := by rfl) : PE X (.Call fe (e :: es) [] pos) (tCellCall X.K tf t) := by
  refine ⟨fun pins s σ H Q I h => Call_ (thn (hf.run pins s σ H _ I h) fun u s1 hh => ?_) ht⟩
  obtain ⟨y, H1, I1, ry, a, ey, q⟩ := hh
  subst ey
  obtain rfl : u = Value.ref a := ry
  refine StX.callO_with (thn (ha.run pos pins s1 σ H1 _ I1 q) fun us s2 hh2 => ?_) he hpl
  obtain ⟨vs, H2, I2, rv, r, h1, c1, ev, ca, q2⟩ := hh2
  subst ev
  obtain ⟨_, dx, ha2⟩ := id ca
  have hi : StX.InsC X H2 a (He.ga X.K r.kd.cn) := .inr ⟨dx, _, ha2⟩
  obtain ⟨ox, od, J, hd⟩ := StX.insC_at I2 hi
  have sc := T.t.call r.kd
  exact ⟨⟨_, ox, od, J, hd⟩, StX.run_callO (E := E0) ⟨sc.at_, sc.fn, sc.fi⟩ (T.call r.kd) hr pass0 I2 hi rv ⟨a, r, h1, c1, rfl, rfl, ca, q2⟩⟩
/-! ### -e -/
def rNegCell (K : PySem.W.Frag) : V → Hp → VK → Prop := fun x H Q => ∃ (a : Addr) (r : Rule), x = .ref a ∧ CellAt K H a r ∧ ∀ p H', H p = none → Same H H' → CellAt K H' p r.neg → Q (.ref p) H'
theorem un_negCell (T : CellsOk X.prog X.w X.K X.mg X.base n) (hr : Room n X.A) : UnR X (unaryOp .USub) (rNegCell X.K) := by
  intro pins s σ H x v Q I rx h
  obtain ⟨a, r, ex, ca, q⟩ := h
  subst ex
  obtain rfl : v = Value.ref a := rx
  obtain ⟨_, dx, ha⟩ := id ca
  obtain ⟨mA, O, _⟩ := ins_get I.hok ha
  obtain ⟨od, J, _⟩ := O.look
  obtain ⟨m, hF⟩ := I.fr
  have sc := T.t.neg r.kd
  exact PySem.W.ksp_neg hF I.ok.mod.kin J sc.at_ sc.fn (wpAny_call (run_fnR (E := E0) (us := [.ref a]) (vs := [.ref a]) (T.neg r.kd) hr pass0 I (.cons rfl .nil) ⟨a, r, rfl, rfl, ca, q⟩))
end
/-! ### x == y where the right one's class is over the left one's: it is asked first -/
section
open PySem.W
variable {prog : Program} {w : World} {A : Around} {E : Value → Shared → Prop} {s : Shared} {K : Frag} {x y C D L f : Addr} {h₀ : Heap} {m : Str → Option Value} {ox oy : Obj} {od oe : Option Obj} {Q : Value → Shared → Prop}
theorem eq_right (hu : A.units < cLine) (X : K.In s.heap) (I : InstAt s.heap x ox C od) (J : InstAt s.heap y oy D oe) (hne : C ≠ D) (hsub : subIn K (.ref D) (.ref C) = some true)
    (hs : findIn K (.ref D) "__eq__" = some (some (.ref f))) (hf : isFn K (.ref f) = true) (h : wpAny (model prog w) A (call (.ref f) [.ref y, .ref x]) (PySem.W.CmpBack Q) E s) :
    wpAny (model prog w) A (richCompare .Eq (.ref x) (.ref y)) Q E s := by
  have one : wpAny (model prog w) A (tryCompare (.ref y) "__eq__" (.ref x)) (fun r s' => ∃ v, r = some v ∧ Q v s') E s := by
    unfold tryCompare
    refine wpAny_bind (ifBound_K X J hs hf (wpAny_mono h (fun v s1 hv => ?_) fun _ _ e => e))
    cases v <;> first | exact hv.elim | exact wpAny_pure ⟨_, rfl, hv⟩
  have hb : (Value.ref C != Value.ref D) = true := by
    simp only [bne_iff_ne, ne_eq]
    intro z
    exact hne (Value.ref.inj z)
  unfold richCompare
  simp only [oneThing_ref]
  refine wpAny_holding (wpAny_bind (wpAny_cRoomFor hu ?_))
  refine wpAny_bind (I.type.here (wpAny_bind (J.type.here ?_)))
  rw [hb]
  simp only [if_true]
  refine wpAny_bind ((looks_subIn X hsub).here ?_)
  simp only [if_true]
  refine wpAny_bind (wpAny_mono one (fun r s1 z => ?_) fun _ _ e => e)
  obtain ⟨v, rfl, hq⟩ := z
  dsimp only
  first
    | exact wpAny_bind (wpAny_rule (wpAny_pure hq))
    | (wp_walk; exact hq)
/-- x != y by object's own, over the class's == -/
theorem ne_bind (self : Value) : bindSpecial (.builtin "object.__ne__") self = pure (.builtin "object.__ne__", [self]) := PySem.F.cmp_object.ne.bind self
theorem ne_plain : plainId "object.__ne__" = true := PySem.F.cmp_object.ne.plain
theorem ne_own (hu : A.units + 1 < cLine) (X : K.In s.heap) (I : InstAt s.heap x ox C od) (J : InstAt s.heap y oy C oe) (hm : mroIn K C (.type "object") = some true)
    (hn : findIn K (.ref C) "__ne__" = some (some (.builtin "object.__ne__"))) (hs : findIn K (.ref C) "__eq__" = some (some (.ref f))) (hf : isFn K (.ref f) = true)
    (h : wpAny (model prog w) A.in1 (call (.ref f) [.ref x, .ref y]) (fun v s' => ∃ b, v = .bool b ∧ Q (.bool (!b)) s') E s) :
    wpAny (model prog w) A (richCompare .NotEq (.ref x) (.ref y)) Q E s := by
  have inner : wpAny (model prog w) A.in1 (Builtin.«object.__ne__» ⟨[.ref x, .ref y], []⟩) (fun fin s' => ∃ b, fin = .done (.ret (.bool (!b))) ∧ Q (.bool (!b)) s') E s := by
    unfold Builtin.«object.__ne__»
    refine wpAny_bind (wpAny_of_eq (a := ((Value.ref x : Value), [Value.ref y])) (by first | rfl | (simp only [slotArgs]; rfl)) ?_)
    refine wpAny_bind (wpAny_cRoomFor hu ?_)
    refine wpAny_bind (ifBound_K X I hs hf (wpAny_mono h (fun v s1 hv => ?_) fun _ _ e => e))
    obtain ⟨b, rfl, q⟩ := hv
    refine wpAny_bind (wpAny_truthy_bool ?_)
    exact wpAny_pure ⟨b, rfl, q⟩
  have isO : Looks (model prog w) s.heap (isInstance (.ref x) (.type "object")) true := I.type.andThen (looks_mroIn X hm)
  have called : wpAny (model prog w) A (call (.builtin "object.__ne__") [.ref x, .ref y]) (fun v s' => ∃ b, v = .bool (!b) ∧ Q (.bool (!b)) s') E s := by
    refine wpAny_call (codeAny_call_builtin ne_plain PySem.F.cmpEntry_ne (@check_slot (model prog w) _ _ _ "object.__ne__" "object" "__ne__" (.ref x) [.ref y] [] _ PySem.F.cmpKind_ne PySem.F.cmpSplit_ne isO (PySem.F.cmpArgs_ne _ _) ?_))
    refine wpAny_mono inner (fun fin s1 z => ?_) fun _ _ e => e
    obtain ⟨b, rfl, q⟩ := z
    exact ⟨b, rfl, q⟩
  have bound : wpAny (model prog w) A (callSpecialIfBound? (.ref x) "__ne__" [.ref y]) (fun r s' => ∃ b, r = some (.bool (!b)) ∧ Q (.bool (!b)) s') E s := by
    simp only [callSpecialIfBound?, bindSpecialIfBound?]
    refine wpAny_holding (wpAny_bind (wpAny_bind (wpAny_bind (I.type.here ((looks_findIn X hn).here ?_)))))
    refine wpAny_bind (wpAny_askSetting (wpAny_ite ?_))
    have fin : wpAny (model prog w) A (call (.builtin "object.__ne__") ([.ref x] ++ [.ref y]) >>= fun v => pure (some v)) (fun r s' => ∃ b, r = some (.bool (!b)) ∧ Q (.bool (!b)) s') E s :=
      wpAny_bind (wpAny_mono called (fun v s1 z => wpAny_pure (by obtain ⟨b, rfl, q⟩ := z; exact ⟨b, rfl, q⟩)) fun _ _ e => e)
    have lk : Looks (model prog w) s.heap (bindSpecial (.builtin "object.__ne__") (.ref x)) (.builtin "object.__ne__", [.ref x]) := Looks.of_pure (ne_bind _)
    split
    · exact wpAny_bind (lk.here (wpAny_pure (by exact fin)))
    · exact wpAny_tryCatch (wpAny_bind (lk.here (wpAny_pure (by exact fin))))
  unfold richCompare
  simp only [oneThing_ref]
  refine wpAny_holding (wpAny_bind (wpAny_cRoomFor (Nat.lt_of_succ_lt hu) ?_))
  refine wpAny_bind (I.type.here (wpAny_bind (J.type.here ?_)))
  rw [show (Value.ref C != Value.ref C) = false from by simp]
  simp only [Bool.false_eq_true, if_false]
  refine wpAny_bind (wpAny_pure ?_)
  simp only [Bool.false_eq_true, if_false]
  refine wpAny_bind ?_
  unfold tryCompare
  refine wpAny_bind (wpAny_mono bound (fun r s1 z => ?_) fun _ _ e => e)
  obtain ⟨b, rfl, q⟩ := z
  exact wpAny_pure (wpAny_pure q)
end
section
variable {X : Cx} {n : Nat}
/-! ### x == y, x != y of cells -/
def rEqCell (K : PySem.W.Frag) : R2 := fun x y H Q => ∃ (a : Addr) (r : Rule), x = .ref a ∧ CellAt K H a r ∧
  ((∃ (b : Addr) (r' : Rule), y = .ref b ∧ CellAt K H b r' ∧ Q (.bl (decide (r.label = r'.label))) H) ∨ ∃ z : Str, y = .str z ∧ Q (.bl false) H)
def rNeCell (K : PySem.W.Frag) : R2 := fun x y H Q => ∃ (a : Addr) (r : Rule) (b : Addr) (r' : Rule), x = .ref a ∧ y = .ref b ∧ r.kd = r'.kd ∧ CellAt K H a r ∧ CellAt K H b r' ∧ Q (.bl (!decide (r.label = r'.label))) H
theorem cell_inst {pins : List (Addr × Obj)} {σ : L2.St} {H : Hp} {s : Shared} {a : Addr} {r : Rule} (I : Inv X pins σ H s) (c : CellAt X.K H a r) : ∃ ox od, PySem.W.InstAt s.heap a ox (He.ga X.K r.kd.cn) od := by
  obtain ⟨_, dx, ha⟩ := c
  obtain ⟨mA, O, _⟩ := ins_get I.hok ha
  obtain ⟨od, J, _⟩ := O.look
  exact ⟨_, _, J⟩
/-- a bool comes back -/
theorem back_of {pins : List (Addr × Obj)} {σ : L2.St} {H : Hp} {s : Shared} {f : Addr} {sp : Sp} {us : List Value} {vs : List V} {Q : VK} (F : FnR X.prog X.w X.K X.mg X.base CX0 n f sp) (hr : Room n X.A) (I : Inv X pins σ H s) (rv : Vals vs us)
    (h : sp vs H (fun v H' => ∃ b, v = .bl b ∧ Q v H') E0) : wpAny (model X.prog X.w) X.A (call (.ref f) us) (fun v s' => ∃ b, v = .bool b ∧ EP X pins σ Q (.bool b) s') X.xe s := by
  refine wpAny_mono (wpAny_call (run_fnR (E := E0) F hr pass0 I rv h)) (fun v s1 z => ?_) fun _ _ e => e
  obtain ⟨y, H1, I1, r1, b, ey, q⟩ := z
  subst ey
  obtain rfl : v = Value.bool b := r1
  exact ⟨b, rfl, .bl b, H1, I1, rfl, q⟩
theorem op_eqCell (T : CellsOk X.prog X.w X.K X.mg X.base n) (hr : Room n X.A) : OpR X (compareOp .Eq) (rEqCell X.K) := by
  intro pins s σ H x y u v Q I rx ry h
  obtain ⟨a, r, ex, ca, h⟩ := h
  subst ex
  obtain rfl : u = Value.ref a := rx
  obtain ⟨ox, od, J⟩ := cell_inst I ca
  obtain ⟨m, hF⟩ := I.fr
  show wpAny (model X.prog X.w) X.A (richCompare .Eq (.ref a) v) (EP X pins σ Q) X.xe s
  rcases h with ⟨b, r', ey, cb, q⟩ | ⟨z, ey, q⟩
  · subst ey
    obtain rfl : v = Value.ref b := ry
    obtain ⟨oy, oe, J'⟩ := cell_inst I cb
    have left : wpAny (model X.prog X.w) X.A (call (.ref (He.ma X.K (He.ga X.K r.kd.cn) "__eq__")) [.ref a, .ref b]) (PySem.W.CmpBack (EP X pins σ Q)) X.xe s := by
      refine wpAny_mono (back_of (Q := Q) (us := [.ref a, .ref b]) (vs := [.ref a, .ref b]) (T.eq r.kd) hr I (.cons rfl (.cons rfl .nil)) ⟨a, r, .ref b, rfl, rfl, ca, .inl ⟨b, r', rfl, cb, _, rfl, q⟩⟩) (fun v s1 z => ?_) fun _ _ e => e
      obtain ⟨b, rfl, z⟩ := z
      exact z
    have right : wpAny (model X.prog X.w) X.A (call (.ref (He.ma X.K (He.ga X.K r'.kd.cn) "__eq__")) [.ref b, .ref a]) (PySem.W.CmpBack (EP X pins σ Q)) X.xe s := by
      have e : decide (r'.label = r.label) = decide (r.label = r'.label) := by
        by_cases e : r.label = r'.label
        · rw [decide_eq_true e, decide_eq_true e.symm]
        · rw [decide_eq_false e, decide_eq_false (fun z => e z.symm)]
      refine wpAny_mono (back_of (Q := Q) (us := [.ref b, .ref a]) (vs := [.ref b, .ref a]) (T.eq r'.kd) hr I (.cons rfl (.cons rfl .nil)) ⟨b, r', .ref a, rfl, rfl, cb, .inl ⟨a, r, rfl, ca, _, rfl, by rw [e]; exact q⟩⟩) (fun v s1 z => ?_) fun _ _ e => e
      obtain ⟨b, rfl, z⟩ := z
      exact z
    have sc := T.t.eq r.kd
    have sd := T.t.eq r'.kd
    by_cases hk : r.kd = r'.kd
    · refine PySem.W.cmp_K (op := .Eq) (tb := .ref (He.ga X.K r'.kd.cn)) hr.units0 hF I.ok.mod.kin J J'.type (by rw [hk]; simp [PySem.W.notFirst]) sc.at_ sc.fn left
    · by_cases h1 : r.kd = .first
      · refine eq_right hr.units0 I.kIn J J' (fun z => hk (T.t.inj z)) ?_ sd.at_ sd.fn right
        have z := T.t.sub r'.kd r.kd
        rw [decide_eq_true h1, Bool.or_true] at z
        exact z
      · refine PySem.W.cmp_K (op := .Eq) (tb := .ref (He.ga X.K r'.kd.cn)) hr.units0 hF I.ok.mod.kin J J'.type ?_ sc.at_ sc.fn left
        have z := T.t.sub r'.kd r.kd
        rw [decide_eq_false (fun e => hk e.symm), decide_eq_false h1] at z
        unfold PySem.W.notFirst
        rw [z]
        simp
  · subst ey
    obtain ⟨t, rfl⟩ := ry
    have left : wpAny (model X.prog X.w) X.A (call (.ref (He.ma X.K (He.ga X.K r.kd.cn) "__eq__")) [.ref a, .str z t]) (PySem.W.CmpBack (EP X pins σ Q)) X.xe s := by
      refine wpAny_mono (back_of (Q := Q) (us := [.ref a, .str z t]) (vs := [.ref a, .str z]) (T.eq r.kd) hr I (.cons rfl (.cons ⟨t, rfl⟩ .nil)) ⟨a, r, .str z, rfl, rfl, ca, .inr ⟨z, rfl, _, rfl, q⟩⟩) (fun v s1 z => ?_) fun _ _ e => e
      obtain ⟨b, rfl, z⟩ := z
      exact z
    have sc := T.t.eq r.kd
    refine PySem.W.cmp_K (op := .Eq) (tb := .type "str") hr.units0 hF I.ok.mod.kin J (PySem.W.Looks.of_pure rfl) ?_ sc.at_ sc.fn left
    unfold PySem.W.notFirst
    rw [T.t.subS r.kd]
    simp
theorem op_neCell (T : CellsOk X.prog X.w X.K X.mg X.base n) (hr : Room (n + 1) X.A) : OpR X (compareOp .NotEq) (rNeCell X.K) := by
  intro pins s σ H x y u v Q I rx ry h
  obtain ⟨a, r, b, r', ex, ey, hk, ca, cb, q⟩ := h
  subst ex ey
  obtain rfl : u = Value.ref a := rx
  obtain rfl : v = Value.ref b := ry
  obtain ⟨ox, od, J⟩ := cell_inst I ca
  obtain ⟨oy, oe, J'⟩ := cell_inst I cb
  rw [← hk] at J'
  have sc := T.t.eq r.kd
  show wpAny (model X.prog X.w) X.A (richCompare .NotEq (.ref a) (.ref b)) (EP X pins σ Q) X.xe s
  refine ne_own (Nat.lt_of_le_of_lt (Nat.add_le_add_left (by decide : 1 ≤ 64) _) hr.units) I.kIn J J' (T.t.isi r.kd).hm (T.t.ne r.kd) sc.at_ sc.fn ?_
  have I1 := I.env0
  have hsp : spEq X.K r.kd [.ref a, .ref b] H (fun v H' => ∃ b, v = .bl b ∧ Q (.bl (!b)) H') E0 := ⟨a, r, .ref b, rfl, rfl, ca, .inl ⟨b, r', rfl, cb, _, rfl, q⟩⟩
  refine wpAny_call (codeAny_mono (T.eq r.kd X.A.in1 X.stack s H [.ref a, .ref b] [.ref a, .ref b] _ E0 hr.in1 I1.in1 (.cons rfl (.cons rfl .nil)) hsp) fun res s1 hq => ?_)
  cases res with
  | error e => exact False.elim hq
  | ok fl =>
    cases fl with
    | ret u =>
      obtain ⟨v, H1, J1, r1, bb, ev, q1⟩ := I.after hq
      subst ev
      obtain rfl : u = Value.bool bb := r1
      exact ⟨bb, rfl, .bl (!bb), H1, J1, rfl, q1⟩
    | next => exact False.elim hq
    | brk => exact False.elim hq
    | cont => exact False.elim hq
end
end SC
set_option maxRecDepth 100000
set_option maxHeartbeats 2000000
/-! # Part C: built-in names, small values, promises of the program's own helpers -/
namespace SC
open PySem PySem.Spec PyProof.Rows L2
/-- the built-in names are still built-in -/
structure Bln (mg : Str → Option Value) : Prop where
  isinstance : mg "isinstance" = none
  int : mg "int" = none
  bool : mg "bool" = none
  abs : mg "abs" = none
  str : mg "str" = none
  len : mg "len" = none
  range : mg "range" = none
  min : mg "min" = none
  max : mg "max" = none
  all : mg "all" = none
  list : mg "list" = none
  tuple : mg "tuple" = none
theorem boot_isinstance' : bootBuiltins "isinstance" = some (.builtin "isinstance") := by decide +kernel
theorem boot_int' : bootBuiltins "int" = some (.type "int") := by decide +kernel
theorem boot_bool' : bootBuiltins "bool" = some (.type "bool") := by decide +kernel
theorem boot_str' : bootBuiltins "str" = some (.type "str") := by decide +kernel
theorem boot_list' : bootBuiltins "list" = some (.type "list") := by decide +kernel
theorem boot_tuple' : bootBuiltins "tuple" = some (.type "tuple") := by decide +kernel
theorem boot_abs' : bootBuiltins "abs" = some (.builtin "abs") := by decide +kernel
theorem boot_len' : bootBuiltins "len" = some (.builtin "len") := by decide +kernel
theorem boot_min' : bootBuiltins "min" = some (.builtin "min") := by decide +kernel
theorem boot_max' : bootBuiltins "max" = some (.builtin "max") := by decide +kernel
theorem boot_all' : bootBuiltins "all" = some (.builtin "all") := by decide +kernel
/-- a value that is no int, by its type's name -/
def oddT : List String := ["bool", "NoneType", "str", "tuple", "list"]
theorem odd_int {K : PySem.W.Frag} {T : String} (h : T ∈ oddT) (hb : T ≠ "bool") : PySem.W.kitOne K (.type T) (.type "int") = some false := by
  simp only [oddT, List.mem_cons, List.mem_singleton, List.not_mem_nil, or_false] at h
  rcases h with rfl | rfl | rfl | rfl | rfl
  · exact absurd rfl hb
  all_goals exact kit_ty (by decide +kernel)
/-- is_within's promise -/
def spWithin (K : PySem.W.Frag) : Sp := fun vs H Q _ => ∃ (v : V) (lo hi : Int), vs = [v, .int lo, .int hi] ∧
  ((∃ i : Int, v = .int i ∧ Q (.bl (decide (lo ≤ i) && decide (i ≤ hi))) H) ∨ ∃ T : String, T ∈ oddT ∧ TyX K H v (.type T) ∧ Q (.bl false) H)
def spNumber (K : PySem.W.Frag) : Sp := fun vs H Q _ => ∃ v : V, vs = [v] ∧
  ((∃ i : Int, v = .int i ∧ Q (.bl (decide (-1000000000 ≤ i) && decide (i ≤ 1000000000))) H) ∨ ∃ T : String, T ∈ oddT ∧ TyX K H v (.type T) ∧ Q (.bl false) H)
/-- Near.__init__ -/
def numOk (i : Int) : Prop := -1000000000 ≤ i ∧ i ≤ 1000000000
def spNearInit (K : PySem.W.Frag) : Sp := fun vs H Q E => ∃ (a dx : Addr) (v : V), vs = [.ref a, v] ∧ H a = some (.ins (He.ga K "Near") dx []) ∧
  ((∃ i : Int, v = .int i ∧ (numOk i → Q .non (upd H a (.ins (He.ga K "Near") dx [("mark", .int i)]))) ∧ (¬ numOk i → E (.ref (He.ga K "InvalidNumber")) none H)) ∨
    ∃ T : String, T ∈ oddT ∧ TyX K H v (.type T) ∧ E (.ref (He.ga K "InvalidNumber")) none H)
/-- check_number, check_index -/
def spCheckNum (K : PySem.W.Frag) : Sp := fun vs H Q E => ∃ v : V, vs = [v] ∧
  ((∃ i : Int, v = .int i ∧ (numOk i → Q .non H) ∧ (¬ numOk i → E (.ref (He.ga K "InvalidNumber")) none H)) ∨ ∃ T : String, T ∈ oddT ∧ TyX K H v (.type T) ∧ E (.ref (He.ga K "InvalidNumber")) none H)
def spCheckIdx (K : PySem.W.Frag) : Sp := fun vs H Q E => ∃ (v : V) (n : Int), vs = [v, .int n] ∧
  ((∃ i : Int, v = .int i ∧ (0 ≤ i ∧ i < n → Q .non H) ∧ (¬ (0 ≤ i ∧ i < n) → E (.ref (He.ga K "UnknownCell")) none H)) ∨ ∃ T : String, T ∈ oddT ∧ TyX K H v (.type T) ∧ E (.ref (He.ga K "UnknownCell")) none H)
/-- what the written part says of an own error without an __init__ -/
structure Err0 (K : PySem.W.Frag) (mg : Str → Option Value) (x : Str) : Prop where
  ex : PySem.W.excIn K (He.ga K x) He.veBase "ValueError.__new__" = true
  kp : PySem.W.keepIn K (.ref (He.ga K x)) = true
  sb : PySem.W.subIn K (.ref (He.ga K x)) (.type "BaseException") = some true
  ty : PySem.W.typeIn K (.ref (He.ga K x)) = some (.type "type")
  gl : mg x = some (.ref (He.ga K x))
end SC
set_option maxRecDepth 100000
set_option maxHeartbeats 2000000
/-! # Part M: numbers as texts -/
namespace SC
open PySem PySem.Spec PyProof.Rows L2 TL
/-- the signs of a number's text -/
def numZ (m : Int) : List Nat := if m < 0 then 45 :: numL m.natAbs else numL m.natAbs
theorem numS_tl (m : Int) : tl (numS m) = numZ m := by
  cases m with
  | ofNat n =>
    have h : ¬ (Int.ofNat n < 0) := by
      have : (0 : Int) ≤ Int.ofNat n := Int.natCast_nonneg n
      omega
    unfold numZ
    rw [if_neg h]
    exact tl_num n
  | negSucc n =>
    have h : Int.negSucc n < 0 := Int.negSucc_lt_zero n
    unfold numZ
    rw [if_pos h]
    unfold numS
    rw [tl_ofString]
    show (("-" ++ Nat.repr (n + 1)) : String).toList.map Char.toNat = 45 :: numL (n + 1)
    rw [String.toList_append, List.map_append, Nat.toList_repr]
    rfl
theorem numZ_len {m : Int} (h : numOk m) : (numZ m).length ≤ 11 := by
  obtain ⟨h1, h2⟩ := h
  have hn : m.natAbs < 10 ^ 10 := by
    have : m.natAbs ≤ 1000000000 := by omega
    omega
  have l := numL_len (k := 10) (by decide) hn
  unfold numZ
  split
  · rw [List.length_cons]
    omega
  · omega
theorem numS_len {m : Int} (h : numOk m) : (numS m).length ≤ 11 := by
  rw [len_tl, numS_tl]
  exact numZ_len h
theorem numS_log {m : Int} (h : numOk m) : m.natAbs.log2 < 1920 := by
  obtain ⟨h1, h2⟩ := h
  have hn : m.natAbs < 2 ^ 1920 := Nat.lt_of_le_of_lt (show m.natAbs ≤ 2 ^ 30 by omega) (Nat.pow_lt_pow_right (by decide) (by decide))
  exact PySem.Flt.log2_lt_of (by decide) hn
theorem numS_read {m : Int} (h : numOk m) : PySem.intText? (numS m) = some m := by
  have hl := numS_len h
  by_cases hm : m < 0
  · have e : (numS m).cps.toList = 45 :: numL m.natAbs := by
      have z := numS_tl m
      unfold numZ at z
      rw [if_pos hm] at z
      exact z
    rw [intText_neg e (numL_digits _) (numL_ne _) (by omega), numL_val]
    congr 1
    omega
  · have e : (numS m).cps.toList = numL m.natAbs := by
      have z := numS_tl m
      unfold numZ at z
      rw [if_neg hm] at z
      exact z
    rw [intText_digits (by rw [e]; exact numL_digits _) (by rw [e]; exact numL_ne _) (by omega), e, numL_val]
    congr 1
    omega
theorem numS_inj {m n : Int} (hm : numOk m) (hn : numOk n) (e : numS m = numS n) : m = n := by
  have h1 := numS_read hm
  rw [e, numS_read hn] at h1
  exact (Option.some.inj h1).symm
/-! ### labels -/
theorem near_tl (m : Int) : tl (("near:" : Str) ++ numS m) = [110, 101, 97, 114, 58] ++ numZ m := by
  rw [tl_append, numS_tl]
  rfl
theorem label_len {r : Rule} (h : r.ok) : r.label.length ≤ 16 := by
  cases r with
  | near m =>
    show (("near:" : Str) ++ numS m).length ≤ 16
    rw [len_tl, near_tl, List.length_append]
    have := numZ_len (m := m) h
    simp only [List.length_cons, List.length_nil]
    omega
  | _ => decide +kernel
theorem label_inj {r r' : Rule} (h : r.ok) (h' : r'.ok) (e : r.label = r'.label) : r = r' := by
  have key : ∀ (m : Int) (k : Kd), k ≠ .near → ("near:" : Str) ++ numS m ≠ k.word := fun m k hk z => by
    have z2 := congrArg tl z
    rw [near_tl] at z2
    cases k <;> first | exact absurd rfl hk | (have z3 := congrArg (fun l => l[0]?) z2; revert z3; simp [Kd.word]; decide +kernel)
  cases r with
  | near m =>
    cases r' with
    | near n =>
      have z : tl (("near:" : Str) ++ numS m) = tl (("near:" : Str) ++ numS n) := congrArg tl e
      rw [near_tl, near_tl] at z
      have z2 := List.append_cancel_left z
      rw [← numS_tl, ← numS_tl] at z2
      rw [numS_inj h h' (ext_tl z2)]
    | first => exact absurd e (key m .first (by decide))
    | last => exact absurd e (key m .last (by decide))
    | less => exact absurd e (key m .less (by decide))
    | greater => exact absurd e (key m .greater (by decide))
  | first =>
    cases r' with
    | near n => exact absurd e.symm (key n .first (by decide))
    | first => rfl
    | last => revert e; decide +kernel
    | less => revert e; decide +kernel
    | greater => revert e; decide +kernel
  | last =>
    cases r' with
    | near n => exact absurd e.symm (key n .last (by decide))
    | last => rfl
    | first => revert e; decide +kernel
    | less => revert e; decide +kernel
    | greater => revert e; decide +kernel
  | less =>
    cases r' with
    | near n => exact absurd e.symm (key n .less (by decide))
    | less => rfl
    | first => revert e; decide +kernel
    | last => revert e; decide +kernel
    | greater => revert e; decide +kernel
  | greater =>
    cases r' with
    | near n => exact absurd e.symm (key n .greater (by decide))
    | greater => rfl
    | first => revert e; decide +kernel
    | last => revert e; decide +kernel
    | less => revert e; decide +kernel
end SC
set_option maxRecDepth 100000
set_option maxHeartbeats 2000000
/-! # Part D: what the laws' own helpers promise -/
namespace SC
open PySem PySem.Spec PyProof.Rows L2 TL
/-- a source of numbers -/
def DOk (ds : List Int) : Prop := ∃ (s b : Int) (rest : List Int), ds = s :: b :: rest ∧ 0 ≤ s ∧ s < 2147483647 ∧ 0 ≤ b ∧ (∀ z ∈ rest, 0 ≤ z) ∧ rest.length ≤ 63
def spRandom (K : PySem.W.Frag) : Sp := fun vs H Q _ => ∃ (a : Addr) (ns : List Int) (salt : Int), vs = [.ref a, .int salt] ∧ SqL K H a (ns.map V.int) ∧ ns.length ≤ 63 ∧ 0 ≤ salt ∧ salt < 2147483647 ∧
  ∀ (p : Addr) (H' : Hp) (ds : List Int), H p = none → Same H H' → DOk ds → H' p = some (.lst (ds.map V.int)) → Q (.ref p) H'
def spBelow : Sp := fun vs H Q _ => ∃ (a : Addr) (L : Int) (ds : List Int), vs = [.ref a, .int L] ∧ 0 < L ∧ L < 18446744073709551616 ∧ H a = some (.lst (ds.map V.int)) ∧ DOk ds ∧
  ∀ (i : Int) (ds' : List Int), 0 ≤ i → i < L → DOk ds' → Q (.int i) (upd H a (.lst (ds'.map V.int)))
theorem lim_div {i L : Int} (h : 0 < L) (h2 : L < 18446744073709551616) : CDivW i L := wide_div (b := 64) h (by omega) (by decide) (by decide)
theorem iteD1 {c A B : Prop} [Decidable c] (hc : c) (h : A) : if decide c = true then A else B := by
  rw [if_pos (decide_eq_true hc)]
  exact h
theorem iteD0 {c A B : Prop} [Decidable c] (hc : ¬ c) (h : B) : if decide c = true then A else B := by
  rw [if_neg (fun z => hc (of_decide_eq_true z))]
  exact h
theorem ixN_at {n j : Nat} (h : j < n) : ixN n (j : Int) = some j := by
  unfold ixN
  rw [if_pos (Int.natCast_nonneg j), if_pos (by omega)]
  rfl
theorem sx_at {n j : Nat} (h : j < n) : seqIndex? (j : Int) n = some j := (ixN_seq (ixN_at h)).1
theorem map_int_at {ns : List Int} {i : Nat} {y : V} (h : (ns.map V.int)[i]? = some y) : ∃ z, ns[i]? = some z ∧ y = V.int z := by
  rw [List.getElem?_map] at h
  cases e : ns[i]? with
  | none =>
    rw [e] at h
    cases h
  | some z =>
    rw [e] at h
    exact ⟨z, rfl, (Option.some.inj h).symm⟩
theorem same_new {H : Hp} {p : Addr} {o : HO} (h : H p = none) : Same H (upd H p o) := fun b u e => by
  rw [upd_ne (ne_of_none e h)]
  exact e
theorem Same.upd {H H' : Hp} {p : Addr} {o : HO} (s : Same H H') (h : H p = none) : Same H (L2.upd H' p o) := fun b u e => by
  rw [upd_ne (ne_of_none e h)]
  exact s b u e
theorem take_more {α : Type} {l : List α} {i : Nat} {z : α} (h : l[i]? = some z) : l.take (i + 1) = l.take i ++ [z] := by
  rw [List.take_succ, h]
  rfl
/-- all but a is as it was -/
def Fr1 (a : Addr) (H H' : Hp) : Prop := ∀ b o, H b = some o → b ≠ a → H' b = some o
theorem Fr1.refl {a : Addr} {H : Hp} : Fr1 a H H := fun _ _ h _ => h
theorem Fr1.trans {a : Addr} {H H1 H2 : Hp} (x : Fr1 a H H1) (y : Fr1 a H1 H2) : Fr1 a H H2 := fun b o h n => y b o (x b o h n) n
theorem Fr1.at {a : Addr} {H : Hp} {o : HO} : Fr1 a H (L2.upd H a o) := fun b u h n => by
  rw [upd_ne n]
  exact h
theorem Fr1.of {a : Addr} {H H' : Hp} (s : Same H H') : Fr1 a H H' := fun b o h _ => s b o h
theorem Fr1.new {a p : Addr} {H H' : Hp} {o : HO} (x : Fr1 a H H') (h : H' p = none) : Fr1 a H (L2.upd H' p o) := x.trans (Fr1.of (same_new h))
theorem Fr1.upd {a p : Addr} {H H' : Hp} {o : HO} (x : Fr1 a H H') (h : H p = none) : Fr1 a H (L2.upd H' p o) := fun b u e n => by
  rw [upd_ne (ne_of_none e h)]
  exact x b u e n
theorem Fr1.free {a p : Addr} {H H' : Hp} {o : HO} (x : Fr1 a H H') (ha : H' a = some o) (h : H' p = none) : H p = none := by
  cases q : H p with
  | none => rfl
  | some u =>
    by_cases e : p = a
    · rw [e, ha] at h
      cases h
    · rw [x p u q e] at h
      cases h
def spRow : Sp := fun vs H Q _ => ∃ (a : Addr) (M : Int) (ds : List Int), vs = [.ref a, .int M] ∧ 0 ≤ M ∧ M ≤ 10000 ∧ H a = some (.lst (ds.map V.int)) ∧ DOk ds ∧
  ∀ (p : Addr) (H' : Hp) (ns ds' : List Int), H p = none → Fr1 a H H' → DOk ds' → H' a = some (.lst (ds'.map V.int)) → H' p = some (.lst (ns.map V.int)) → (ns.length : Int) ≤ M → (∀ z ∈ ns, numOk z) → Q (.ref p) H'
/-! ### equal data, level by level -/
def EqN (K : PySem.W.Frag) : Nat → Hp → V → V → Prop
  | 0, _, x, y => x = y ∧ flatV x = true
  | n + 1, H, x, y => (x = y ∧ flatV x = true) ∨ ∃ (a b : Addr) (xs ys : List V), x = .ref a ∧ y = .ref b ∧ ((H a = some (.lst xs) ∧ H b = some (.lst ys)) ∨ (H a = some (.tup xs) ∧ H b = some (.tup ys))) ∧
      xs.length = ys.length ∧ xs.length ≤ 100000 ∧ ∀ (i : Nat) (u v : V), xs[i]? = some u → ys[i]? = some v → EqN K n H u v
theorem EqN.same {K : PySem.W.Frag} : ∀ {n : Nat} {H H' : Hp} {x y : V}, EqN K n H x y → Same H H' → EqN K n H' x y
  | 0, _, _, _, _, h, _ => h
  | n + 1, H, H', x, y, h, s => by
    rcases h with h | ⟨a, b, xs, ys, h1, h2, h3, h4, h5, h6⟩
    · exact .inl h
    · refine .inr ⟨a, b, xs, ys, h1, h2, ?_, h4, h5, fun i u v hu hv => EqN.same (h6 i u v hu hv) s⟩
      rcases h3 with ⟨h3, h7⟩ | ⟨h3, h7⟩
      · exact .inl ⟨s _ _ h3, s _ _ h7⟩
      · exact .inr ⟨s _ _ h3, s _ _ h7⟩
theorem EqN.succ {K : PySem.W.Frag} : ∀ {n : Nat} {H : Hp} {x y : V}, EqN K n H x y → EqN K (n + 1) H x y
  | 0, _, _, _, h => .inl h
  | n + 1, H, x, y, h => by
    rcases h with h | ⟨a, b, xs, ys, h1, h2, h3, h4, h5, h6⟩
    · exact .inl h
    · exact .inr ⟨a, b, xs, ys, h1, h2, h3, h4, h5, fun i u v hu hv => EqN.succ (h6 i u v hu hv)⟩
theorem eq0 {K : PySem.W.Frag} {n : Nat} {H : Hp} {x : V} (h : flatV x = true := by rfl) : EqN K n H x x := by
  cases n with
  | zero => exact ⟨rfl, h⟩
  | succ n => exact .inl ⟨rfl, h⟩
def spEqual (K : PySem.W.Frag) (n : Nat) : Sp := fun vs H Q _ => ∃ x y : V, vs = [x, y] ∧ EqN K n H x y ∧ ∀ H', Same H H' → Q (.bl true) H'
/-- an item of a list or a tuple -/
def rIxLT (K : PySem.W.Frag) : R2 := fun x y H Q => rIxL K x y H Q ∨ rIxT K x y H Q
theorem ix_lt {X : Cx} : IxR X (rIxLT X.K) := by
  intro value slice pins s σ H x y v u Q I rx ry h hs
  rcases h with h | h
  · exact ix_list value slice pins s σ H x y v u Q I rx ry h hs
  · exact ix_tup value slice pins s σ H x y v u Q I rx ry h hs
theorem cut_near (m : Int) : cutS (("near:" : Str) ++ numS m) (some 5) none = numS m := by
  apply ext_tl
  have e5 : (some (5 : Int)) = some ((5 : Nat) : Int) := rfl
  have hl : (("near:" : Str) ++ numS m).length = 5 + (numZ m).length := by
    rw [len_tl, near_tl, List.length_append]
    rfl
  show ((tl (("near:" : Str) ++ numS m)).drop _).take _ = tl (numS m)
  rw [e5, HT.sIx_nat, HT.sIx_none, hl, near_tl, Nat.min_eq_left (Nat.le_add_right 5 _), numS_tl]
  show (numZ m).take _ = numZ m
  rw [List.take_of_length_le]
  omega
def spKept : Sp := fun vs H Q _ => ∃ (r : Rule) (h c : Int), vs = [.str r.label, .int h, .int c] ∧ r.ok ∧ ∀ (p : Addr) (H' : Hp), H p = none → Same H H' → H' p = some (.tup [.int (r.keep h c).1, .int (r.keep h c).2]) → Q (.ref p) H'
theorem label_is {r r' : Rule} (h : r.ok) (h' : r'.ok) : decide (V.str r.label = V.str r'.label) = decide (r = r') := by
  by_cases e : r = r'
  · subst e
    rw [decide_eq_true rfl, decide_eq_true rfl]
  · rw [decide_eq_false e]
    exact decide_eq_false fun z => e (label_inj h h' (V.str.inj z))
theorem iteN1 {c A B : Prop} [Decidable c] (hc : ¬ c) (h : A) : if (!decide c) = true then A else B := by
  rw [decide_eq_false hc]
  exact iteT h
theorem near_ne (m : Int) {k : Kd} (hk : k ≠ .near) : ¬ V.str (Rule.near m).label = V.str k.word := fun z => by
  have z2 := congrArg tl (V.str.inj z)
  have z3 : tl (("near:" : Str) ++ numS m) = tl k.word := z2
  rw [near_tl] at z3
  cases k <;> first | exact absurd rfl hk | (have z4 := congrArg (fun l => l[0]?) z3; revert z4; simp [Kd.word]; decide +kernel)
theorem min2 {a b m : Int} (hm : m ∈ [a, b]) (hy : ∀ y ∈ [a, b], m ≤ y) : (a ≤ b → m = a) ∧ (b ≤ a → m = b) := by
  have h1 := hy a (by simp)
  have h3 := hy b (by simp)
  have h2 : m = a ∨ m = b := by simpa using hm
  constructor <;> intro h <;> omega
theorem max2 {a b m : Int} (hm : m ∈ [a, b]) (hy : ∀ y ∈ [a, b], y ≤ m) : (a ≤ b → m = b) ∧ (b ≤ a → m = a) := by
  have h1 := hy a (by simp)
  have h3 := hy b (by simp)
  have h2 : m = a ∨ m = b := by simpa using hm
  constructor <;> intro h <;> omega
end SC
set_option maxRecDepth 100000
set_option maxHeartbeats 2000000
/-! # Part E: errors that are caught and told -/
namespace SC
open PySem PySem.Spec PyProof.Rows L2 TL
theorem pe_never {X : Cx} {e : Expr} : PE X e (fun _ _ _ => False) := ⟨fun _ _ _ _ _ _ h => h.elim⟩
/-- the same rule, its reading said by hand -/
theorem peC {X : Cx} {e : Expr} {t : TE} (t' : TE) (h : PE X e t) (q : t = t' := by rfl) : PE X e t' := q ▸ h
theorem ptC {X : Cx} {e : Expr} {t : TT} (t' : TT) (h : PT X e t) (q : t = t' := by rfl) : PT X e t' := q ▸ h
/-- an error in the air of X stands over X's own slots: their number is known -/
theorem takes_len {X : Cx} {W : WX} (t : Takes X W) : Takes X (fun c d σ H => σ.length = X.N.length → W c d σ H) := fun u s' x => by
  obtain ⟨a, B, sI, pins, σ, H, cls, d, e, I, nb, up, sky, na, os, ag, w⟩ := x
  exact t u s' ⟨a, B, sI, pins, σ, H, cls, d, e, I, nb, up, sky, na, os, ag, w I.len⟩
theorem five {α : Type} {l : List α} (h : l.length = 5) : ∃ a b c d e, l = [a, b, c, d, e] := by
  match l, h with
  | [a, b, c, d, e], _ => exact ⟨a, b, c, d, e, rfl⟩
/-! ### xs.count(y), flat items -/
def rCountF (K : PySem.W.Frag) : V → List V → Hp → VK → Prop := fun x xs H Q => ∃ (a : Addr) (ys : List V) (y : V), x = .ref a ∧ xs = [y] ∧ SqL K H a ys ∧ flatV y = true ∧ ys.all flatV = true ∧ Q (.int ((ys.countP fun z => eqV z y : Nat) : Int)) H
theorem count_vals {y : V} : ∀ {ys : List V} {us : List Value}, Vals ys us → ys.all flatV = true → us.countP (eqU y) = ys.countP fun z => eqV z y
  | [], _, .nil, _ => rfl
  | z :: ys, _, .cons r t, h => by
    rw [List.all_cons] at h
    obtain ⟨h1, h2⟩ := He.ba h
    rw [List.countP_cons, List.countP_cons, count_vals t h2, eqU_of r h1]
theorem mt_countF {X : Cx} : MtR X "list.count" (rCountF X.K) := by
  intro pins s σ H x xs v us Q I rx rxs h
  obtain ⟨a, ys, y, ex, exs, hs, fy, fys, q⟩ := h
  subst ex exs
  obtain rfl : v = Value.ref a := rx
  obtain ⟨uy, eu, ry⟩ := rxs.one
  subst eu
  obtain ⟨its, rv, ⟨⟨cls, dd, data, sl⟩, n, ho, hc, hdn, hd⟩, hlen⟩ := I.list hs
  simp only at hc hd
  subst hc hd
  have ec : its.toArray.toList.countP (eqU y) = ys.countP fun z => eqV z y := count_vals rv fys
  refine call_meets PySem.F.slot_list_count ⟨_, ho, rfl⟩ PySem.F.entry_list_count (PySem.F.args_list_count_2 _ _) (SeqAt.list_countAt a its.toArray n dd sl uy (eqU y)) ⟨ho, fun u' hu' => mem_eqAt ry fy rv fys u' (by simpa using hu'), ?_⟩
  refine ⟨.int ((ys.countP fun z => eqV z y : Nat) : Int), H, I.tok _, ⟨s.toks, ?_⟩, q⟩
  rw [← ec]
/-! ### isinstance(e, c), e the caught error, whatever its class -/
def rIsEP (K : PySem.W.Frag) (a : Addr) (cls : Value) (d : Option Addr) : List V → Hp → VK → Prop := fun xs H Q => ∃ (D : Addr) (c : V) (cv : Value) (b : Bool), cls = .ref D ∧ d = none ∧ ExcC K D ∧ xs = [.ref a, c] ∧ (∀ u, RelV c u → u = cv) ∧ PySem.W.kitOne K (.ref D) cv = some b ∧ Q (.bl b) H
theorem call_isEP {X : Cx} {a : Addr} {oe : Obj} {cls : Value} {d : Option Addr} {pn : List (Addr × Obj)} (hz : Zc cls d oe) (hf : ∃ vs, oe.data = .fields vs) : CallR (X.suite a ((a, oe) :: pn)) (.builtin "isinstance") (rIsEP X.K a cls d) := by
  intro pins s σ H xs us Q I r h
  obtain ⟨D, c, cv, b, ec, ed, C, h⟩ := h
  subst ec ed
  exact call_isE C hz hf pins s σ H xs us Q I r ⟨c, cv, b, h⟩
/-- the errors, their classes and the laws' words for them -/
inductive Er where
  | number | chain | cell | row | text | many | contradiction | name | unknown | operation
  deriving DecidableEq
def Er.cn : Er → Str
  | .number => "InvalidNumber"
  | .chain => "InvalidChain"
  | .cell => "UnknownCell"
  | .row => "InvalidRow"
  | .text => "InvalidText"
  | .many => "TooMany"
  | .contradiction => "Contradiction"
  | .name => "InvalidName"
  | .unknown => "UnknownName"
  | .operation => "InvalidOperation"
def Er.word : Er → Str
  | .number => "number"
  | .chain => "chain"
  | .cell => "cell"
  | .row => "row"
  | .text => "text"
  | .many => "many"
  | .contradiction => "contradiction"
  | .name => "name"
  | .unknown => "unknown"
  | .operation => "operation"
def Er.ix : Er → Nat
  | .number => 0
  | .chain => 1
  | .cell => 2
  | .row => 3
  | .text => 4
  | .many => 5
  | .contradiction => 6
  | .name => 7
  | .unknown => 8
  | .operation => 9
def erBs (e : Er) : List V := [.bl (decide (Er.number = e)), .bl (decide (Er.chain = e)), .bl (decide (Er.cell = e)), .bl (decide (Er.row = e)), .bl (decide (Er.text = e)), .bl (decide (Er.many = e)), .bl (decide (Er.contradiction = e)), .bl (decide (Er.name = e)), .bl (decide (Er.unknown = e)), .bl (decide (Er.operation = e))]
def erWs : List V := [.str "number", .str "chain", .str "cell", .str "row", .str "text", .str "many", .str "contradiction", .str "name", .str "unknown", .str "operation"]
theorem er_at (e : Er) : (erBs e)[e.ix]? = some (.bl true) := by cases e <;> rfl
theorem er_word (e : Er) : erWs[e.ix]? = some (.str e.word) := by cases e <;> rfl
theorem er_first (e : Er) (m : Nat) (z : V) (hm : m < e.ix) (hz : (erBs e)[m]? = some z) : eqV z (.bl true) = false := by
  have q : ((List.range e.ix).all fun m => match (erBs e)[m]? with | some z => !eqV z (.bl true) | none => true) = true := by cases e <;> rfl
  have q2 := List.all_eq_true.mp q m (List.mem_range.mpr hm)
  rw [hz] at q2
  simpa using q2
/-- without a field -/
def Er.bare : Er → Bool
  | .chain | .row | .text | .operation => false
  | _ => true
/-- what _law_error_of makes of a call: its error's word and 0 as a new tuple, None where it goes through (errors without a field) -/
def TErr0 (K : PySem.W.Frag) (S : List Er) : (XK → Hp → VK → Prop) → Hp → VK → Prop := fun tl H Q =>
  tl (fun cls d H' => ∃ e : Er, e ∈ S ∧ e.bare = true ∧ cls = .ref (He.ga K e.cn) ∧ d = none ∧ ∀ (p : Addr) (H'' : Hp), H' p = none → Same H' H'' → H'' p = some (.tup [.str e.word, .int 0]) → Q (.ref p) H'') H (fun _ H' => Q .non H')
/-- what the written part says of the errors -/
structure Errs (K : PySem.W.Frag) (mg : Str → Option Value) : Prop where
  glo : ∀ e : Er, mg e.cn = some (.ref (He.ga K e.cn))
  sift : mg "SiftError" = some (.ref (He.ga K "SiftError"))
  ve : mg "ValueError" = none
/-- .. and of one of them without a field -/
structure ErrT (K : PySem.W.Frag) (e : Er) : Prop where
  exm : PySem.W.exmOne K (.ref (He.ga K e.cn)) (.ref (He.ga K "SiftError")) = some true
  exk : ExcC K (He.ga K e.cn)
  kit : ∀ y : Er, PySem.W.kitOne K (.ref (He.ga K e.cn)) (.ref (He.ga K y.cn)) = some (decide (y = e))
  kitV : PySem.W.kitOne K (.ref (He.ga K e.cn)) (.type "ValueError") = some true
theorem eqLst {K : PySem.W.Frag} {n : Nat} {H : Hp} {a b : Addr} {xs : List V} (h : H a = some (.lst xs)) (h' : H b = some (.lst xs)) (hf : xs.all flatV = true) (hl : xs.length ≤ 100000) : EqN K (n + 1) H (.ref a) (.ref b) := by
  refine .inr ⟨a, b, xs, xs, rfl, rfl, .inl ⟨h, h'⟩, rfl, hl, fun i u v hu hv => ?_⟩
  rw [hu] at hv
  rw [← Option.some.inj hv]
  exact eq0 (List.all_eq_true.mp hf u (List.mem_of_getElem? hu))
theorem eqTup {K : PySem.W.Frag} {n : Nat} {H : Hp} {a b : Addr} {xs : List V} (h : H a = some (.tup xs)) (h' : H b = some (.tup xs)) (hf : xs.all flatV = true) (hl : xs.length ≤ 100000) : EqN K (n + 1) H (.ref a) (.ref b) := by
  refine .inr ⟨a, b, xs, xs, rfl, rfl, .inr ⟨h, h'⟩, rfl, hl, fun i u v hu hv => ?_⟩
  rw [hu] at hv
  rw [← Option.some.inj hv]
  exact eq0 (List.all_eq_true.mp hf u (List.mem_of_getElem? hu))
/-- the tables stand where all but a list is as it was -/
theorem tabs_fr {T : List (Addr × Str)} {d : Addr} {H H' : Hp} {xs : List V} (t : LamX.Tabs T H) (hd : H d = some (.lst xs)) (f : Fr1 d H H') : LamX.Tabs T H' := fun p hp => by
  obtain ⟨ps, h1, h2, h3⟩ := t p hp
  have n1 : p.1 ≠ d := ne_of h1 hd (fun z => by cases z)
  refine ⟨ps, f _ _ h1 n1, h2, fun pos cv hc => ?_⟩
  obtain ⟨c, e1, e2⟩ := h3 pos cv hc
  refine ⟨c, e1, f _ _ e2 (ne_of e2 hd fun z => ?_)⟩
  unfold LamX.CodeO at z
  cases z
theorem CellAt.fr {K : PySem.W.Frag} {H H' : Hp} {a d : Addr} {r : Rule} {xs : List V} (c : CellAt K H a r) (hd : H d = some (.lst xs)) (f : Fr1 d H H') : CellAt K H' a r := by
  obtain ⟨h1, dx, h2⟩ := c
  exact ⟨h1, dx, f _ _ h2 (ne_of h2 hd fun z => by cases z)⟩
theorem made_cell {K : PySem.W.Frag} {H : Hp} {x dx : Addr} {r : Rule} (h : r.ok) : CellAt K (upd (upd H dx (.own x)) x (.ins (He.ga K r.kd.cn) dx r.fs)) x r := ⟨h, dx, upd_same⟩
theorem made_same' {H : Hp} {x dx C : Addr} {fs : List (Str × V)} (h1 : H x = none) (h2 : H dx = none) : Same H (upd (upd H dx (.own x)) x (.ins C dx fs)) := fun b o e => by
  rw [upd_ne (ne_of_none e h1), upd_ne (ne_of_none e h2)]
  exact e
theorem boot_VE : bootBuiltins "ValueError" = some (.type "ValueError") := by decide +kernel
end SC
set_option maxRecDepth 100000
set_option maxHeartbeats 2000000
/-! # Part F: rules of our own for chains: enumerate over tuples, C(*xs), statements that are never reached -/
namespace SC
open PySem PySem.Spec PyProof.Rows L2 TL
/-! ### what is never reached -/
theorem ps_never {X : Cx} {st : Stmt} : PS X st (fun _ _ _ => False) := ⟨fun _ _ _ _ _ _ h => h.elim⟩
theorem pss_never {X : Cx} {b : List Stmt} : PSs X b (fun _ _ _ => False) := ⟨fun _ _ _ _ _ _ h => h.elim⟩
/-! ### enumerate(xs), xs a tuple -/
set_option maxHeartbeats 1000000 in
theorem enumB_meets {v : Value} {ob : Obj} {Hh : Heap → Prop} (B : Begins v ob Hh) : Meets (Builtin.«enumerate.__new__» ⟨[.type "enumerate", v], []⟩) (fun _ R s => Hh s.heap ∧
    R (.ok (.ret (.ref (s.heap.push ob).objs.size))) { s with heap := (s.heap.push ob).push { cls := .type "enumerate", data := .fields #[.none, .bool false, .ref s.heap.objs.size, rawInt 0, .none, .none] } }) :=
  .of_wp fun prog w A R s hin => by
    obtain ⟨hp, g, dd, tk, os⟩ := s
    obtain ⟨hin1, hR⟩ := hin
    have hsub := sub_enumerate
    have qq : ∀ {A' : Around} {E' : Value → Shared → Prop} {Q' : Value → Shared → Prop}, Q' (.ref hp.objs.size) ⟨hp.push ob, g, dd, tk, os⟩ → wpAny (model prog w) A' (pyIter v) Q' E' ⟨hp, g, dd, tk, os⟩ :=
      fun z => B.iter prog w _ _ ⟨hp, g, dd, tk, os⟩ _ hin1 z
    wp_walk using qq
    refine wpAny_stack_any fun stk => wpAny_pure ?_
    split
    · rename_i cc _ _ _ _ _
      cases (cc == Value.type "enumerate") <;> (wp_walk using qq; exact ⟨_, rfl, hR⟩)
    · wp_walk using qq
      exact ⟨_, rfl, hR⟩
theorem call_enumB {prog : Program} {w : World} {A : Around} {E : Value → Shared → Prop} {s : Shared} {v : Value} {ob : Obj} {Hh : Heap → Prop} {Q : Value → Shared → Prop} (B : Begins v ob Hh) (hin : Hh s.heap)
    (hq : ∀ hn, IsEnum hn (s.heap.objs.size + 1) s.heap.objs.size 0 .none → hn.get? s.heap.objs.size = some ob → (∀ b o, s.heap.get? b = some o → hn.get? b = some o) → Q (.ref (s.heap.objs.size + 1)) { s with heap := hn }) :
    wpAny (model prog w) A (call (.type "enumerate") [v]) Q E s := by
  refine callType_new F.called_enumerate (by decide) (F.typeCall_enumerate_1 _) (F.newCall_enumerate_1 _) (fun z => F.args_object_init_2 z _) F.entry_enumerate_new (enumB_meets B) ⟨hin, ?_⟩
  have sz : (s.heap.push ob).objs.size = s.heap.objs.size + 1 := Heap.size_push ..
  show _ ∧ _
  rw [sz]
  have ien : IsEnum ((s.heap.push ob).push { cls := .type "enumerate", data := .fields #[.none, .bool false, .ref s.heap.objs.size, rawInt 0, .none, .none] }) (s.heap.objs.size + 1) s.heap.objs.size 0 .none := by
    have z := Heap.get?_push_size (s.heap.push ob) (o := { cls := .type "enumerate", data := .fields #[.none, .bool false, .ref s.heap.objs.size, rawInt 0, .none, .none] }) rfl
    rw [sz] at z
    exact z
  exact ⟨⟨_, ien, rfl⟩, hq _ ien (Heap.get?_push_of_some _ (Heap.get?_push_size _ B.free)) fun b o z => Heap.get?_push_of_some _ (Heap.get?_push_of_some _ z)⟩
/-- the tuple at a, each item in a new pair -/
def IteT (K : PySem.W.Frag) (a : Addr) : It :=
  ⟨fun i H => ∃ (xs : List V) (x : V), SqT K H a xs ∧ xs[i]? = some x, fun i H v H' => ∃ T x, v = .ref T ∧ H T = none ∧ H' = upd H T (.tup [.int (i : Nat), x]) ∧ ∀ xs, SqT K H a xs → xs[i]? = some x, fun i H => ∃ xs : List V, SqT K H a xs ∧ xs.length = i⟩
theorem turn_enumT {P : Program} {w : World} {K : PySem.W.Frag} {elts : List Expr} {kk : Nat} {tpos : Pos} (a e it : Addr) (hai : a ≠ it) (hae : e ≠ a) :
    Turn P w K (.Tuple elts kk tpos) (IteT K a) [e, it] e (fun i h => (∃ old, IsEnum h e it ((i : Nat) : Int) old) ∧ h.IsTupleIter it a i ∧ e ≠ it) where
  mem := by simp
  obj := fun i h st b hb => by
    obtain ⟨⟨old, ien⟩, ⟨o, ho, hcl, hdt⟩, _⟩ := st
    rcases (show b = e ∨ b = it by simpa using hb) with rfl | rfl
    · exact ⟨_, ien, fun v q => nomatch q⟩
    · refine ⟨o, ho, fun v q => ?_⟩
      rw [hdt] at q
      cases q
  keep := fun i h h' st k => by
    obtain ⟨⟨old, ien⟩, iti, hne⟩ := st
    exact ⟨⟨old, k e (by simp) _ ien⟩, iti.at fun o q => k it (by simp) o q, hne⟩
  item := by
    intro X hP hw hK hc i pins s σ H E I hf st hg
    subst hP hw hK
    obtain ⟨⟨old, ien⟩, iti, hne⟩ := st
    obtain ⟨xs, x, hq, hx⟩ := hg
    obtain ⟨its, rv, tp, _⟩ := I.tuple hq
    obtain ⟨u, hu, ru⟩ := rv.get hx
    have le : e < s.heap.objs.size := Heap.lt_size ien
    have li : it < s.heap.objs.size := by
      obtain ⟨_, q, _⟩ := iti
      exact Heap.lt_size q
    have hiu : its.toArray[i]? = some u := by simpa using hu
    have hlt : i < its.toArray.size := by
      rcases Nat.lt_or_ge i its.toArray.size with z | z
      · exact z
      · rw [Array.getElem?_eq_none z] at hiu
        cases hiu
    refine wpAny_pyNext_enum_itemD (Draws.tuple (show X.A.in1.handled = none from I.ok.hd hc) it a hai its.toArray) ien ⟨iti, tp⟩ hlt hne (by simp [hne, hae]) fun y hn tk hy ieo iti2 hT hsz hk => ?_
    have ey : y = u := by
      rw [hiu] at hy
      exact (Option.some.inj hy).symm
    subst ey
    refine ⟨_, rfl, wpAny_letOwnedTupleGo_enum (s := { s with heap := hn, toks := tk + 1 }) ieo fun hm iem sb => ?_⟩
    have tm : hm.get? s.heap.objs.size = some { cls := .type "tuple", data := .seq #[.int i tk, y] } := (sb.2 _ (Nat.ne_of_gt le)).trans hT
    have new : ObjOk X.prog X.w (upd H s.heap.objs.size (.tup [.int (i : Nat), x])) hm s.heap.objs.size (.tup [.int (i : Nat), x]) :=
      ⟨by show 2 ≤ sizeLine; decide, [.int i tk, y], .cons ⟨_, rfl⟩ (.cons ru .nil), ⟨_, tm, rfl, _, rfl⟩⟩
    have Im : Inv X pins σ (upd H s.heap.objs.size (.tup [.int (i : Nat), x])) { s with heap := hm, toks := tk + 1 } :=
      I.turnedNew (ch := [e, it]) (fun b o hb q => (sb.2 b (fun z => hb (by simp [z]))).trans (hk b o (fun z => hb (by simp [z])) (fun z => hb (by simp [z])) q)) hf (Nat.le_refl _) new
    refine ⟨.ref s.heap.objs.size, _, Im, rfl, ⟨_, x, rfl, I.hok.fresh (Nat.le_refl _), rfl, fun zs hz => by rw [I.tuple_inj hz hq]; exact hx⟩, ⟨⟨y, ?_⟩, iti2.1.at fun o q => (sb.2 it (Ne.symm hne)).trans q, hne⟩, fun b hb => ?_⟩
    · rw [show ((i + 1 : Nat) : Int) = (i : Int) + 1 by omega]
      exact iem
    · have lb : b < s.heap.objs.size := by
        rcases (show b = e ∨ b = it by simpa using hb) with rfl | rfl
        · exact le
        · exact li
      rw [upd_ne (Nat.ne_of_lt lb)]
      exact (hf b hb).1
  done := by
    intro X hP hw hK hc i pins s σ H E I hf st hg
    subst hP hw hK
    obtain ⟨⟨old, ien⟩, iti, hne⟩ := st
    obtain ⟨xs, hq, hx⟩ := hg
    obtain ⟨its, rv, tp, _⟩ := I.tuple hq
    obtain ⟨f0, f1, f2, f3, f4, f5⟩ := hf it (by simp)
    have hl := rv.length
    have D := Draws.tuple (prog := X.prog) (w := X.w) (show X.A.in1.handled = none from I.ok.hd hc) it a hai its.toArray
    have ei : its.toArray.size = i := by
      rw [List.size_toArray]
      omega
    rw [← ei] at iti
    exact wpAny_pyNext_enum_endD D ien ⟨iti, tp⟩ fun hn eb => ⟨rfl, I.turned (t' := s.toks) (fun b o hb q => eb b o hb q) f0 f1 f3 f4 f5⟩
  self := fun A i s Q E st h => by
    obtain ⟨⟨_, ien⟩, _⟩ := st
    exact wpAny_pyIter_enum ien h
def iEnumT (K : PySem.W.Frag) (ta : TA) : TI := fun σ H R => ta σ H fun vs H1 => ∃ a xs, vs = [.ref a] ∧ SqT K H1 a xs ∧ R (IteT K a) H1
theorem pi_enumT {X : Cx} {e : Expr} {ta : TA} {p pos tpos : Pos} {elts : List Expr} {kk : Nat} (hg : Gl X "enumerate") (hm : X.mg "enumerate" = none) (ha : PA X [e] ta) (hs : starEach [e] X.env = [(false, eval e X.env)] := by rfl) :
    PI X (.Tuple elts kk tpos) (.Call (.Name "enumerate" p) [e] [] pos) (iEnumT X.K ta) := by
  refine ⟨fun pins s σ H R I h => Call_ (ld_blt I hg hm boot_enumerate (PyProof.Rows.callWith_type1 (thn (ha.run pos pins s σ H _ I h) fun us s1 hh => ?_) hs rfl))⟩
  obtain ⟨vs, H1, I1, r1, a, xs, ex, hq, q⟩ := hh
  subst ex
  obtain ⟨u, eu, ru⟩ := r1.one
  subst eu
  obtain rfl : u = Value.ref a := ru
  obtain ⟨its, rv, tp, hz⟩ := I1.tuple hq
  have la : a < s1.heap.objs.size := by
    obtain ⟨_, z, _⟩ := id tp
    exact Heap.lt_size z
  refine call_enumB (begins_tuple a its.toArray) tp fun hn ien hit hk => wpAny_pyIter_enum ien ?_
  have I2 : Inv X pins σ H1 { s1 with heap := hn } := I1.kept (t' := s1.toks) hk
  refine ⟨s1.heap.objs.size + 1, [s1.heap.objs.size + 1, s1.heap.objs.size], _, _, H1, rfl, I2, turn_enumT a (s1.heap.objs.size + 1) s1.heap.objs.size (Nat.ne_of_lt la) (Nat.ne_of_gt (Nat.lt_succ_of_lt la)), ⟨⟨.none, ien⟩, ⟨_, hit, rfl, rfl⟩, Nat.succ_ne_self _⟩, fun b hb => ?_, q⟩
  have le : s1.heap.objs.size ≤ b := by
    rcases (show b = s1.heap.objs.size + 1 ∨ b = s1.heap.objs.size by simpa using hb) with z | z
    · rw [z]
      exact Nat.le_add_right _ _
    · rw [z]
      exact Nat.le_refl _
  exact I1.fpOk le (I1.hok.fresh le)
/-- a loop over enumerate of a tuple -/
theorem for_enumT {K : PySem.W.Frag} {a : Addr} {xs : List V} {g : TG} {tb : TS} {D : Ends} {σ : L2.St} {H : Hp} (Pv : Nat → L2.St → Hp → Prop) (h0 : Pv 0 σ H) (hq : ∀ i σ H, Pv i σ H → SqT K H a xs)
    (hs : ∀ (i : Nat) (x : V) (T : Addr) (σ : L2.St) (H : Hp), xs[i]? = some x → Pv i σ H → H T = none → g (.ref T) σ (upd H T (.tup [.int (i : Nat), x])) fun σ2 H2 => tb { D with nx := Pv (i + 1), ct := Pv (i + 1), bk := D.nx } σ2 H2) (hd : ∀ σ H, Pv xs.length σ H → D.nx σ H) :
    ∃ W : Nat → Nat → L2.St → Hp → Prop, (∃ m, W 0 m σ H) ∧ ∀ i m σ H, W i m σ H →
      ((IteT K a).stop i H ∧ D.nx σ H) ∨ ((IteT K a).go i H ∧ ∃ N : L2.St → Hp → Prop, (∀ σ' H', N σ' H' → ∃ m', m' < m ∧ W (i + 1) m' σ' H') ∧ ∀ v H', (IteT K a).yld i H v H' → g v σ H' fun σ2 H2 => tb { D with nx := N, ct := N, bk := D.nx } σ2 H2) := by
  refine ⟨fun i m σ H => m = xs.length - i ∧ i ≤ xs.length ∧ Pv i σ H, ⟨xs.length, rfl, Nat.zero_le _, h0⟩, ?_⟩
  rintro i m σ H ⟨rfl, hi, p⟩
  have qx := hq i σ H p
  by_cases hlt : i < xs.length
  · have hx : xs[i]? = some xs[i] := List.getElem?_eq_getElem hlt
    refine .inr ⟨⟨xs, _, qx, hx⟩, Pv (i + 1), fun σ' H' p' => ⟨xs.length - (i + 1), by omega, rfl, hlt, p'⟩, ?_⟩
    rintro v H' ⟨T, x, rfl, hT, rfl, hy⟩
    exact hs i x T σ H (hy xs qx) p hT
  · have e : i = xs.length := by omega
    subst e
    exact .inl ⟨⟨xs, qx, rfl⟩, hd σ H p⟩
/-- a loop over enumerate of a list -/
theorem for_enumL {K : PySem.W.Frag} {a : Addr} {xs : List V} {g : TG} {tb : TS} {D : Ends} {σ : L2.St} {H : Hp} (Pv : Nat → L2.St → Hp → Prop) (h0 : Pv 0 σ H) (hq : ∀ i σ H, Pv i σ H → SqL K H a xs)
    (hs : ∀ (i : Nat) (x : V) (T : Addr) (σ : L2.St) (H : Hp), xs[i]? = some x → Pv i σ H → H T = none → g (.ref T) σ (upd H T (.tup [.int (i : Nat), x])) fun σ2 H2 => tb { D with nx := Pv (i + 1), ct := Pv (i + 1), bk := D.nx } σ2 H2) (hd : ∀ σ H, Pv xs.length σ H → D.nx σ H) :
    ∃ W : Nat → Nat → L2.St → Hp → Prop, (∃ m, W 0 m σ H) ∧ ∀ i m σ H, W i m σ H →
      ((Ite K a).stop i H ∧ D.nx σ H) ∨ ((Ite K a).go i H ∧ ∃ N : L2.St → Hp → Prop, (∀ σ' H', N σ' H' → ∃ m', m' < m ∧ W (i + 1) m' σ' H') ∧ ∀ v H', (Ite K a).yld i H v H' → g v σ H' fun σ2 H2 => tb { D with nx := N, ct := N, bk := D.nx } σ2 H2) := by
  refine ⟨fun i m σ H => m = xs.length - i ∧ i ≤ xs.length ∧ Pv i σ H, ⟨xs.length, rfl, Nat.zero_le _, h0⟩, ?_⟩
  rintro i m σ H ⟨rfl, hi, p⟩
  have qx := hq i σ H p
  by_cases hlt : i < xs.length
  · have hx : xs[i]? = some xs[i] := List.getElem?_eq_getElem hlt
    refine .inr ⟨⟨xs, _, qx, hx⟩, Pv (i + 1), fun σ' H' p' => ⟨xs.length - (i + 1), by omega, rfl, hlt, p'⟩, ?_⟩
    rintro v H' ⟨T, x, rfl, hT, rfl, hy⟩
    exact hs i x T σ H (hy xs qx) p hT
  · have e : i = xs.length := by omega
    subst e
    exact .inl ⟨⟨xs, qx, Nat.le_refl _⟩, hd σ H p⟩
/-! ### C(*xs) -/
def tMakeS (K : PySem.W.Frag) (C : Addr) (sp : Sp) (E : XK) (te : TE) : TE := fun σ H Q => te σ H fun y H1 => ∃ a xs, y = V.ref a ∧ (SqT K H1 a xs ∨ SqL K H1 a xs) ∧ ∀ x dx, H1 x = Option.none → H1 dx = Option.none → dx ≠ x →
  sp (V.ref x :: xs) (upd (upd H1 dx (.own x)) x (.ins C dx [])) (fun v H2 => v = .non ∧ Q (.ref x) H2) E
theorem pe_makeS {X : Cx} {CX : CXT} {k : Nat} {f C : Addr} {sp : Sp} {E : XK} {x : Str} {e : Expr} {te : TE} {p pos spos : Pos} (M : Mk X.K C f) (F : FnR X.prog X.w X.K X.mg X.base CX k f sp) (hr : Room (k + 1) X.A) (hg : Gl X x) (hm : X.mg x = some (.ref C)) (hx : Passes CX X E) (he : PE X e te)
    (hdb : (x == ("__debug__" : Str)) = false := by decide) (hst : starEach [.Starred e spos] X.env = [(true, eval e X.env)] := by rfl) : PE X (.Call (.Name x p) [.Starred e spos] [] pos) (tMakeS X.K C sp E te) := by
  refine ⟨fun pins s σ H Q I h => wpAny_Call_Name_kw (ld_glob I hg hm ?_ hdb)⟩
  refine PySem.W.callWith_S (h₀ := X.base) I.ok.mod.kin M.kp (thn (he.run pins s σ H _ I h) fun v s1 hh => ?_) hst
  obtain ⟨y, H1, I1, ry, a, xs, ey, hxs, q⟩ := hh
  subst ey
  obtain rfl : v = Value.ref a := ry
  exact StX.star_any I1 hxs fun us s2 I2 rv => ⟨I2.kIn, StX.run_makeR M F hr hx I2 rv q⟩
/-- f(*xs), f an expression that gives the class -/
theorem pe_makeSv {X : Cx} {CX : CXT} {k : Nat} {f C : Addr} {sp : Sp} {E : XK} {fe e : Expr} {tf te : TE} {pos spos : Pos} (M : Mk X.K C f) (F : FnR X.prog X.w X.K X.mg X.base CX k f sp) (hr : Room (k + 1) X.A) (hf : PE X fe tf) (hx : Passes CX X E) (he : PE X e te)
    (ht : eval (.Call fe [.Starred e spos] [] pos) X.env = (do callWith pos (← eval fe X.env) [] (backTo pos (starEach [.Starred e spos] X.env)) (backToKw pos (keywordEach [] X.env))) := by rfl)
    (hst : starEach [.Starred e spos] X.env = [(true, eval e X.env)] := by rfl) : PE X (.Call fe [.Starred e spos] [] pos) (fun σ H Q => tf σ H fun z H1 => z = .ref C ∧ tMakeS X.K C sp E te σ H1 Q) := by
  refine ⟨fun pins s σ H Q I h => Call_ (thn (hf.run pins s σ H _ I h) fun z s1 hz => ?_) ht⟩
  obtain ⟨zv, H1, I1, rz, ez, h1⟩ := hz
  subst ez
  obtain rfl : z = Value.ref C := rz
  refine PySem.W.callWith_S (h₀ := X.base) I1.ok.mod.kin M.kp (thn (he.run pins s1 σ H1 _ I1 h1) fun v s2 hh => ?_) hst
  obtain ⟨y, H2, I2, ry, a, xs, ey, hxs, q⟩ := hh
  subst ey
  obtain rfl : v = Value.ref a := ry
  exact StX.star_any I2 hxs fun us s3 I3 rv => ⟨I3.kIn, StX.run_makeR M F hr hx I3 rv q⟩
end SC
set_option maxRecDepth 100000
set_option maxHeartbeats 2000000
/-! # Part G: chains: what stands in the heap, what they promise -/
namespace SC
open PySem PySem.Spec PyProof.Rows L2 TL
/-! ### (z,) * k -/
theorem tuple_mul1 (l : Addr) (items : Array Value) (n : Nat) (dd : Option Addr) (sl : Array (Option Value)) (u : Tok) :
    Meets (Builtin.«tuple.__mul__» ⟨[.ref l, .int 1 u], []⟩) (fun _ R s => s.heap.get? l = some { cls := .type "tuple", dict := dd, data := .seq items n, slots := sl } ∧ R (.ok (.ret (Value.ref l))) s) :=
  .of_wp fun prog w A R s hin => by
    obtain ⟨hp, g, d, tk, os⟩ := s
    obtain ⟨hl, hR⟩ := hin
    have ii := AutoSeq1.idx_int
    wp_walk using AutoSeq1.wpAny_loadPart' hl
    exact ⟨_, rfl, hR⟩
theorem op_rep1 {X : Cx} : OpR X (binaryOp .Mult) (fun x y H Q => ∃ l xs, x = .ref l ∧ y = .int 1 ∧ SqT X.K H l xs ∧ Q (.ref l) H) := by
  intro pins s σ H x y v u Q I rx ry h
  obtain ⟨l, xs, ex, ey, hT, q⟩ := h
  subst ex ey
  obtain rfl : v = Value.ref l := rx
  obtain ⟨t, rfl⟩ := ry
  obtain ⟨its, r, ⟨⟨cls, dd, data, sl⟩, ho, hc, n, hd⟩, hs⟩ := I.tuple hT
  simp only at hc hd
  subst hc hd
  exact wpAny_binaryOp_repeat_ref (T := "tuple") (U := "int") (by decide) ⟨_, ho, rfl⟩ (fun s' => typeIs_int s' 1 t) noFill_tuple_mul F.fills_int_mul F.slot_int_rmul repeat_tuple F.slot_int_index.lookup
    (call_meets F.slot_int_rmul (typeIs_int s 1 t) F.entry_int_rmul (F.args_int_rmul_2 _ _) (int_rmul_tuple 1 t l its.toArray n dd sl)
      ⟨ho, rfl, ⟨_, ho, rfl⟩, call_meets F.slot_tuple_mul ⟨_, ho, rfl⟩ F.entry_tuple_mul (F.args_tuple_mul_2 _ _) (tuple_mul1 l its.toArray n dd sl t) ⟨ho, .ref l, H, I, rfl, q⟩⟩)
def rRepN (K : PySem.W.Frag) : R2 := fun x y H Q => ∃ l k z, x = .ref l ∧ y = .int k ∧ H l = some (.tup [z]) ∧ 1 ≤ k ∧ k ≤ 1000 ∧ ∀ p H', Same H H' → H' p = some (.tup (List.replicate k.toNat z)) → (p = l ∨ H p = none) → Q (.ref p) H'
theorem op_repN {X : Cx} : OpR X (binaryOp .Mult) (rRepN X.K) := by
  intro pins s σ H x y v u Q I rx ry h
  obtain ⟨l, k, z, ex, ey, hl, h1, h2, q⟩ := h
  by_cases hk : k = 1
  · subst hk
    refine op_rep1 pins s σ H x y v u Q I rx ry ⟨l, [z], ex, ey, SqT.of hl, q l H (fun _ _ h => h) hl (.inl rfl)⟩
  · refine op_repT pins s σ H x y v u Q I rx ry ⟨l, k, [z], ex, ey, SqT.of hl, by simp, by omega, h2, by simp, fun p hp => q p _ (same_new hp) ?_ (.inr hp)⟩
    rw [upd_same]
    congr 2
    generalize k.toNat = m
    induction m with
    | zero => rfl
    | succ m ih => rw [List.replicate_succ, List.replicate_succ, List.flatten_cons, ih]; rfl
/-! ### chains in the heap -/
def Cs (K : PySem.W.Frag) (H : Hp) (as : List Addr) (rs : List Rule) : Prop := as.length = rs.length ∧ ∀ (i : Nat) (a : Addr) (r : Rule), as[i]? = some a → rs[i]? = some r → CellAt K H a r
theorem Cs.same {K : PySem.W.Frag} {H H' : Hp} {as : List Addr} {rs : List Rule} (c : Cs K H as rs) (s : Same H H') : Cs K H' as rs := ⟨c.1, fun i a r h1 h2 => (c.2 i a r h1 h2).same s⟩
theorem Cs.fr {K : PySem.W.Frag} {H H' : Hp} {as : List Addr} {rs : List Rule} {d : Addr} {xs : List V} (c : Cs K H as rs) (hd : H d = some (.lst xs)) (f : Fr1 d H H') : Cs K H' as rs := ⟨c.1, fun i a r h1 h2 => (c.2 i a r h1 h2).fr hd f⟩
theorem Cs.nil {K : PySem.W.Frag} {H : Hp} : Cs K H [] [] := ⟨rfl, fun i a r h _ => by simp at h⟩
theorem Cs.snoc {K : PySem.W.Frag} {H : Hp} {as : List Addr} {rs : List Rule} {a : Addr} {r : Rule} (c : Cs K H as rs) (h : CellAt K H a r) : Cs K H (as ++ [a]) (rs ++ [r]) := by
  refine ⟨by simp [c.1], fun i b q h1 h2 => ?_⟩
  by_cases hi : i < as.length
  · rw [List.getElem?_append_left hi] at h1
    rw [List.getElem?_append_left (by rw [← c.1]; exact hi)] at h2
    exact c.2 i b q h1 h2
  · rw [List.getElem?_append_right (by omega)] at h1
    rw [List.getElem?_append_right (by rw [← c.1]; omega)] at h2
    rw [← c.1] at h2
    cases e : i - as.length with
    | zero =>
      rw [e] at h1 h2
      simp at h1 h2
      subst h1 h2
      exact h
    | succ m =>
      rw [e] at h1
      simp at h1
theorem Cs.app {K : PySem.W.Frag} {H : Hp} {as bs : List Addr} {rs qs : List Rule} (c : Cs K H as rs) (d : Cs K H bs qs) : Cs K H (as ++ bs) (rs ++ qs) := by
  refine ⟨by simp [c.1, d.1], fun i b q h1 h2 => ?_⟩
  by_cases hi : i < as.length
  · rw [List.getElem?_append_left hi] at h1
    rw [List.getElem?_append_left (by rw [← c.1]; exact hi)] at h2
    exact c.2 i b q h1 h2
  · rw [List.getElem?_append_right (by omega)] at h1
    rw [List.getElem?_append_right (by rw [← c.1]; omega), ← c.1] at h2
    exact d.2 _ b q h1 h2
theorem Cs.ok {K : PySem.W.Frag} {H : Hp} {as : List Addr} {rs : List Rule} (c : Cs K H as rs) : ∀ r ∈ rs, r.ok := fun r hr => by
  obtain ⟨i, hi, e⟩ := List.getElem_of_mem hr
  have hi2 : i < as.length := by
    rw [c.1]
    exact hi
  have h1 : as[i]? = some as[i] := List.getElem?_eq_getElem hi2
  exact (c.2 i _ r h1 (by rw [List.getElem?_eq_getElem hi, e])).1
def ChC (K : PySem.W.Frag) : Addr := He.ga K "Chain"
def ChainAt (K : PySem.W.Frag) (H : Hp) (c : Addr) (rs : List Rule) : Prop :=
  ∃ (dx t : Addr) (as : List Addr), H c = some (.ins (ChC K) dx [("cells", .ref t)]) ∧ H t = some (.tup (as.map V.ref)) ∧ Cs K H as rs ∧ 1 ≤ rs.length ∧ rs.length ≤ 8
theorem ChainAt.same {K : PySem.W.Frag} {H H' : Hp} {c : Addr} {rs : List Rule} (x : ChainAt K H c rs) (s : Same H H') : ChainAt K H' c rs := by
  obtain ⟨dx, t, as, h1, h2, h3, h4⟩ := x
  exact ⟨dx, t, as, s _ _ h1, s _ _ h2, h3.same s, h4⟩
theorem ChainAt.fr {K : PySem.W.Frag} {H H' : Hp} {c d : Addr} {xs : List V} {rs : List Rule} (x : ChainAt K H c rs) (hd : H d = some (.lst xs)) (f : Fr1 d H H') : ChainAt K H' c rs := by
  obtain ⟨dx, t, as, h1, h2, h3, h4⟩ := x
  exact ⟨dx, t, as, f _ _ h1 (ne_of h1 hd fun z => by cases z), f _ _ h2 (ne_of h2 hd fun z => by cases z), h3.fr hd f, h4⟩
theorem ChainAt.ok {K : PySem.W.Frag} {H : Hp} {c : Addr} {rs : List Rule} (x : ChainAt K H c rs) : ∀ r ∈ rs, r.ok := by
  obtain ⟨dx, t, as, h1, h2, h3, h4⟩ := x
  exact h3.ok
/-! ### what comes of a number, of a row -/
def ov : Option Int → V
  | none => .non
  | some i => .int i
def stepR : List Rule → List (Option Int) → Option Int → List (Option Int) × Option Int
  | r :: rs, none :: hs, c => ((c :: (stepR rs hs none).1), (stepR rs hs none).2)
  | r :: rs, some h :: hs, some c => ((some (r.keep h c).1 :: (stepR rs hs (some (r.keep h c).2)).1), (stepR rs hs (some (r.keep h c).2)).2)
  | _, hs, c => (hs, c)
def runR (rs : List Rule) : List (Option Int) → List Int → List (Option Int) × List (Option Int)
  | hs, [] => ([], hs)
  | hs, n :: ns => ((stepR rs hs (some n)).2 :: (runR rs (stepR rs hs (some n)).1 ns).1, (runR rs (stepR rs hs (some n)).1 ns).2)
def nones (n : Nat) : List (Option Int) := List.replicate n none
/-- filled from the front -/
def Fill (hs : List (Option Int)) : Prop := ∃ (xs : List Int) (n : Nat), hs = xs.map some ++ nones n
/-! ### what the text's own defs promise -/
def NewCh (K : PySem.W.Frag) (H : Hp) (rs : List Rule) (Q : VK) : Prop := ∀ (x : Addr) (H' : Hp), H x = none → Same H H' → ChainAt K H' x rs → Q (.ref x) H'
def txtOf (rs : List Rule) : Str := Txt.join (" " : Str) (rs.map Rule.label)
def spNear (K : PySem.W.Frag) : Sp := fun vs H Q _ => ∃ m : Int, vs = [.str (Rule.near m).label] ∧ numOk m ∧ ∀ (a : Addr) (H' : Hp), H a = none → Same H H' → CellAt K H' a (.near m) → Q (.ref a) H'
def spCellOf (K : PySem.W.Frag) : Sp := fun vs H Q _ => ∃ r : Rule, vs = [.str r.label] ∧ r.ok ∧ ∀ (a : Addr) (H' : Hp), H a = none → Same H H' → CellAt K H' a r → Q (.ref a) H'
def spCheck (K : PySem.W.Frag) : Sp := fun vs H Q _ => ∃ (a : Addr) (ns : List Int) (L : Int), vs = [.ref a, .int L] ∧ H a = some (.lst (ns.map V.int)) ∧ (ns.length : Int) ≤ L ∧ (∀ z ∈ ns, numOk z) ∧ ∀ H', Same H H' → Q .non H'
def spInitB (K : PySem.W.Frag) : Sp := fun vs H Q _ => ∃ (x dx t : Addr) (as : List Addr) (rs : List Rule), vs = [.ref x, .ref t] ∧ H x = some (.ins (ChC K) dx []) ∧ H t = some (.tup (as.map V.ref)) ∧ Cs K H as rs ∧ x ∉ as ∧ 1 ≤ rs.length ∧ rs.length ≤ 8 ∧ ∀ H', Fr1 x H H' → ChainAt K H' x rs → Q .non H'
def spInit (K : PySem.W.Frag) : Sp := fun vs H Q _ => ∃ (x dx : Addr) (as : List Addr) (rs : List Rule), vs = .ref x :: as.map V.ref ∧ H x = some (.ins (ChC K) dx []) ∧ Cs K H as rs ∧ x ∉ as ∧ 1 ≤ rs.length ∧ rs.length ≤ 8 ∧ ∀ H', Fr1 x H H' → ChainAt K H' x rs → Q .non H'
def spParse (K : PySem.W.Frag) : Sp := fun vs H Q _ => ∃ rs : List Rule, vs = [.ref (ChC K), .str (txtOf rs)] ∧ (∀ r ∈ rs, r.ok) ∧ 1 ≤ rs.length ∧ rs.length ≤ 8 ∧ NewCh K H rs Q
def spText (K : PySem.W.Frag) : Sp := fun vs H Q _ => ∃ (c : Addr) (rs : List Rule), vs = [.ref c] ∧ ChainAt K H c rs ∧ ∀ H', Same H H' → Q (.str (txtOf rs)) H'
def spEmpty (K : PySem.W.Frag) : Sp := fun vs H Q _ => ∃ (c : Addr) (rs : List Rule), vs = [.ref c] ∧ ChainAt K H c rs ∧ ∀ (p : Addr) (H' : Hp), H p = none → Same H H' → H' p = some (.tup ((nones rs.length).map ov)) → Q (.ref p) H'
def spStep (K : PySem.W.Frag) : Sp := fun vs H Q _ => ∃ (c h : Addr) (n : Int) (rs : List Rule) (hs : List (Option Int)), vs = [.ref c, .ref h, .int n] ∧ ChainAt K H c rs ∧ H h = some (.tup (hs.map ov)) ∧ hs.length = rs.length ∧ Fill hs ∧
  ∀ (p k : Addr) (H' : Hp), H p = none → H k = none → p ≠ k → Same H H' → H' p = some (.tup [.ref k, ov (stepR rs hs (some n)).2]) → H' k = some (.tup ((stepR rs hs (some n)).1.map ov)) → Q (.ref p) H'
/-- what a row gives: a new pair of a new list and a new tuple -/
def NewRun (H : Hp) (rs : List Rule) (ns : List Int) (Q : VK) : Prop := ∀ (p o h : Addr) (H' : Hp), H p = none → H o = none → H h = none → Same H H' → H' p = some (.tup [.ref o, .ref h]) →
  H' o = some (.lst ((runR rs (nones rs.length) ns).1.map ov)) → H' h = some (.tup ((runR rs (nones rs.length) ns).2.map ov)) → Q (.ref p) H'
def spChCall (K : PySem.W.Frag) : Sp := fun vs H Q _ => ∃ (c a : Addr) (rs : List Rule) (ns : List Int), vs = [.ref c, .ref a] ∧ ChainAt K H c rs ∧ H a = some (.lst (ns.map V.int)) ∧ ns.length ≤ 1000 ∧ (∀ z ∈ ns, numOk z) ∧ NewRun H rs ns Q
def spLen (K : PySem.W.Frag) : Sp := fun vs H Q _ => ∃ (c : Addr) (rs : List Rule), vs = [.ref c] ∧ ChainAt K H c rs ∧ Q (.int rs.length) H
def spItem (K : PySem.W.Frag) : Sp := fun vs H Q _ => ∃ (c : Addr) (rs : List Rule) (i : Nat) (r : Rule), vs = [.ref c, .int i] ∧ ChainAt K H c rs ∧ rs[i]? = some r ∧ ∀ a, CellAt K H a r → Q (.ref a) H
def spShift (K : PySem.W.Frag) : Sp := fun vs H Q _ => ∃ (c d : Addr) (rs qs : List Rule), vs = [.ref c, .ref d] ∧ ChainAt K H c rs ∧ ChainAt K H d qs ∧ rs.length + qs.length ≤ 8 ∧ NewCh K H (rs ++ qs) Q
def spChNeg (K : PySem.W.Frag) : Sp := fun vs H Q _ => ∃ (c : Addr) (rs : List Rule), vs = [.ref c] ∧ ChainAt K H c rs ∧ NewCh K H (rs.map Rule.neg) Q
def spChEq (K : PySem.W.Frag) : Sp := fun vs H Q _ => ∃ (c d : Addr) (rs qs : List Rule), vs = [.ref c, .ref d] ∧ ChainAt K H c rs ∧ ChainAt K H d qs ∧ Q (.bl (decide (rs = qs))) H
/-- what the written part says of Chain -/
structure Chains (K : PySem.W.Frag) (mg : Str → Option Value) : Prop where
  cls : Cls K (ChC K)
  isi : Isi K (ChC K)
  glo : mg "Chain" = some (.ref (ChC K))
  make : Mk K (ChC K) (He.ma K (ChC K) "__init__")
  noC : NoAttr K (ChC K) "cells"
  maxI : ∃ u, Con K (ChC K) "MAX_CELLS" (.int 8) u
  maxC : ∃ u, ClX.CVal K (ChC K) (.type "type") "MAX_CELLS" (.int 8) u
  rd : ClX.CRead K (ChC K) (.type "type")
  par : ClX.CMet K (ChC K) (.type "type") "parse" (cmP K "Chain" "parse") (cgA K "Chain" "parse")
  slf : PySem.W.selfFirst K (ChC K) = true
  kit : PySem.W.kitOne K (.ref (ChC K)) (.ref (ChC K)) = some true
  text : PropOf K (ChC K) "text" (He.ma K (ChC K) "text") (pgA K "Chain" "text")
  empty : PropOf K (ChC K) "empty" (He.ma K (ChC K) "empty") (pgA K "Chain" "empty")
  step : Meth K (ChC K) "step" (He.ma K (ChC K) "step")
  call : Spec K (ChC K) "__call__" (He.ma K (ChC K) "__call__")
  len : Spec K (ChC K) "__len__" (He.ma K (ChC K) "__len__")
  item : Spec K (ChC K) "__getitem__" (He.ma K (ChC K) "__getitem__")
  shift : Spec K (ChC K) "__rshift__" (He.ma K (ChC K) "__rshift__")
  neg : Spec K (ChC K) "__neg__" (He.ma K (ChC K) "__neg__")
  eq : Spec K (ChC K) "__eq__" (He.ma K (ChC K) "__eq__")
  ne : PySem.W.findIn K (.ref (ChC K)) "__ne__" = some (some (.builtin "object.__ne__"))
theorem ChainAt.ty {K : PySem.W.Frag} {mg : Str → Option Value} {H : Hp} {a : Addr} {rs : List Rule} (T : Chains K mg) (c : ChainAt K H a rs) : TyX K H (.ref a) (.ref (ChC K)) := by
  obtain ⟨dx, t, as, h1, _⟩ := c
  exact .base (.ins h1 T.cls T.isi.ha T.isi.hn T.isi.ht T.isi.hm)
end SC
set_option maxRecDepth 100000
set_option maxHeartbeats 2000000
/-! # Part N: labels read back -/
namespace SC
open PySem PySem.Spec PyProof.Rows L2 TL
theorem rem_hit {x y : Str} {z : List Nat} (e : tl x = tl y ++ z) (hy : tl y ≠ []) : tl (Txt.removeprefix x y) = z := by
  have hs : PySem.Builtin.Str.subAt x y 0 = true := by
    rw [PySem.StrLaws.subAt_eq, List.drop_zero]
    show ((tl x).take y.length == tl y) = true
    rw [e, len_tl y, List.take_left]
    simp
  have l1 : x.length = y.length + z.length := by
    rw [len_tl x, e, List.length_append, len_tl y]
  have l2 : 0 < y.length := by
    rw [len_tl y]
    exact List.length_pos_iff.mpr hy
  have e1 : Txt.removeprefix x y = PySem.Builtin.Str.strSub x y.length x.length := by
    unfold Txt.removeprefix
    rw [if_pos hs]
    unfold Txt.affix
    dsimp only
    rw [if_neg (by simp; omega)]
  rw [e1, tl_strSub_end, e, len_tl y, List.drop_left]
theorem rem_miss {x y : Str} (h : (tl x).take (tl y).length ≠ tl y) : Txt.removeprefix x y = x := by
  have hs : PySem.Builtin.Str.subAt x y 0 = false := by
    rw [PySem.StrLaws.subAt_eq, List.drop_zero]
    show ((tl x).take y.length == tl y) = false
    rw [len_tl y]
    simpa using h
  unfold Txt.removeprefix
  rw [hs]
  rfl
theorem minus_tl : tl ("-" : Str) = [45] := by decide +kernel
theorem nearS_tl : tl ("near:" : Str) = [110, 101, 97, 114, 58] := by decide +kernel
theorem rem_near (m : Int) : Txt.removeprefix (Rule.near m).label ("near:" : Str) = numS m := by
  apply ext_tl
  rw [numS_tl]
  refine rem_hit ?_ (by rw [nearS_tl]; simp)
  rw [nearS_tl]
  exact near_tl m
/-- the digits behind the sign -/
theorem rem_minus (m : Int) : tl (Txt.removeprefix (numS m) ("-" : Str)) = numL m.natAbs := by
  by_cases h : m < 0
  · refine rem_hit ?_ (by rw [minus_tl]; simp)
    rw [minus_tl, numS_tl]
    unfold numZ
    rw [if_pos h]
    rfl
  · have e : numZ m = numL m.natAbs := if_neg h
    rw [rem_miss, numS_tl, e]
    rw [numS_tl, e, minus_tl]
    intro z
    have hd := numL_digits m.natAbs
    have hm : (45 : Nat) ∈ numL m.natAbs := by
      have : (45 : Nat) ∈ (numL m.natAbs).take [45].length := by
        rw [z]
        simp
      exact List.mem_of_mem_take this
    have := hd 45 hm
    omega
theorem digit_all {x : Str} {n : Nat} (e : tl x = numL n) : Txt.isascii x = true ∧ Txt.isdigit x = true := by
  have hd := numL_digits n
  have key : ∀ p : Nat → Bool, (∀ c, 48 ≤ c → c ≤ 57 → p c = true) → x.cps.all p = true := fun p hp => by
    rw [← Array.all_toList]
    show (tl x).all p = true
    rw [e, List.all_eq_true]
    intro c hc
    exact hp c (hd c hc).1 (hd c hc).2
  constructor
  · exact key _ fun c h1 h2 => decide_eq_true (by omega)
  · unfold Txt.isdigit
    rw [key _ fun c h1 h2 => ?_]
    · have hl : 0 < x.length := by
        rw [len_tl x, e]
        exact List.length_pos_iff.mpr (numL_ne n)
      simpa using hl
    · rw [PyProof.Rows.cls_isdigit c (by omega)]
      have : c = 48 ∨ c = 49 ∨ c = 50 ∨ c = 51 ∨ c = 52 ∨ c = 53 ∨ c = 54 ∨ c = 55 ∨ c = 56 ∨ c = 57 := by omega
      rcases this with rfl | rfl | rfl | rfl | rfl | rfl | rfl | rfl | rfl | rfl <;> decide +kernel
theorem digit_len {x : Str} {m : Int} (e : tl x = numL m.natAbs) (h : numOk m) : x.length ≤ 10 := by
  rw [len_tl x, e]
  obtain ⟨h1, h2⟩ := h
  exact numL_len (k := 10) (by decide) (by omega)
theorem starts_near (m : Int) : Txt.startswith (Rule.near m).label ("near:" : Str) = true := by
  have l : (Rule.near m).label.length = 5 + (numZ m).length := by
    show (("near:" : Str) ++ numS m).length = _
    rw [len_tl, near_tl, List.length_append]
    rfl
  have hs : PySem.Builtin.Str.subAt (Rule.near m).label ("near:" : Str) 0 = true := by
    rw [PySem.StrLaws.subAt_eq, List.drop_zero]
    show ((tl (("near:" : Str) ++ numS m)).take ("near:" : Str).length == tl ("near:" : Str)) = true
    rw [near_tl, len_tl ("near:" : Str), nearS_tl]
    simp
  unfold Txt.startswith
  rw [hs, l, len_tl ("near:" : Str), nearS_tl]
  simp
theorem space_tl : tl (" " : Str) = [32] := by decide +kernel
theorem label_free {r : Rule} (h : r.ok) : 32 ∉ tl r.label := by
  cases r with
  | near m =>
    show 32 ∉ tl (("near:" : Str) ++ numS m)
    rw [near_tl]
    intro z
    rcases List.mem_append.mp z with z | z
    · simp at z
    · have hd := numL_digits m.natAbs
      unfold numZ at z
      split at z
      · rcases List.mem_cons.mp z with z | z
        · cases z
        · have := hd 32 z
          omega
      · have := hd 32 z
        omega
  | _ => decide +kernel
theorem split_txt {rs : List Rule} (hn : 1 ≤ rs.length) (h : ∀ r ∈ rs, r.ok) : Txt.split (txtOf rs) (" " : Str) = rs.map Rule.label := by
  unfold txtOf
  refine TL.split_join (s := 32) (S := []) space_tl (by decide +kernel) ?_ ?_
  · intro z
    have z2 : rs = [] := List.map_eq_nil_iff.mp z
    rw [z2] at hn
    simp at hn
  · intro p hp
    obtain ⟨r, hr, rfl⟩ := List.mem_map.mp hp
    exact label_free (h r hr)
end SC
set_option maxRecDepth 100000
set_option maxHeartbeats 2000000
/-! # Part P: what chains do, as plain mathematics -/
namespace SC
open PySem PySem.Spec PyProof.Rows L2 TL
theorem step_none : ∀ (rs : List Rule) (hs : List (Option Int)), stepR rs hs none = (hs, none)
  | [], _ => by unfold stepR; rfl
  | _ :: _, [] => by unfold stepR; rfl
  | r :: rs, none :: hs => by
    unfold stepR
    rw [step_none rs hs]
  | r :: rs, some h :: hs => by unfold stepR; rfl
theorem step_cn {r : Rule} {rs : List Rule} {hs : List (Option Int)} {c : Option Int} : stepR (r :: rs) (none :: hs) c = (c :: hs, none) := by
  show (c :: (stepR rs hs none).1, (stepR rs hs none).2) = _
  rw [step_none]
theorem step_cs {r : Rule} {rs : List Rule} {h : Int} {hs : List (Option Int)} {c : Int} : stepR (r :: rs) (some h :: hs) (some c) = (some (r.keep h c).1 :: (stepR rs hs (some (r.keep h c).2)).1, (stepR rs hs (some (r.keep h c).2)).2) := by
  conv => lhs; unfold stepR
theorem step_nil {hs : List (Option Int)} {c : Option Int} : stepR [] hs c = (hs, c) := by unfold stepR; rfl
theorem step_len : ∀ (rs : List Rule) (hs : List (Option Int)) (c : Option Int), (stepR rs hs c).1.length = hs.length
  | [], hs, c => by rw [step_nil]
  | r :: rs, [], c => by cases c <;> (unfold stepR; rfl)
  | r :: rs, none :: hs, c => by rw [step_cn]; rfl
  | r :: rs, some h :: hs, none => by rw [step_none]
  | r :: rs, some h :: hs, some c => by
    rw [step_cs, List.length_cons, step_len rs hs, List.length_cons]
theorem step_app : ∀ (rs : List Rule) (hs : List (Option Int)) (c : Option Int) (rs' : List Rule) (hs' : List (Option Int)), rs.length = hs.length →
    stepR (rs ++ rs') (hs ++ hs') c = ((stepR rs hs c).1 ++ (stepR rs' hs' (stepR rs hs c).2).1, (stepR rs' hs' (stepR rs hs c).2).2)
  | [], [], c, rs', hs', _ => by rw [step_nil, List.nil_append, List.nil_append]; rfl
  | r :: rs, none :: hs, c, rs', hs', _ => by
    rw [List.cons_append, List.cons_append, step_cn, step_cn, step_none]
    rfl
  | r :: rs, some h :: hs, none, rs', hs', _ => by
    rw [step_none, step_none, step_none]
  | r :: rs, some h :: hs, some c, rs', hs', e => by
    rw [List.cons_append, List.cons_append, step_cs, step_cs, step_app rs hs _ rs' hs' (by simpa using e)]
    rfl
  | [], _ :: _, _, _, _, e => by simp at e
  | _ :: _, [], _, _, _, e => by simp at e
/-- all cells hold a number: one comes out -/
theorem step_full : ∀ (rs : List Rule) (xs : List Int) (c : Int), rs.length = xs.length → ∃ (ys : List Int) (d : Int), stepR rs (xs.map some) (some c) = (ys.map some, some d) ∧ ys.length = xs.length
  | [], [], c, _ => ⟨[], c, step_nil, rfl⟩
  | r :: rs, x :: xs, c, e => by
    obtain ⟨ys, d, e1, e2⟩ := step_full rs xs (r.keep x c).2 (by simpa using e)
    refine ⟨(r.keep x c).1 :: ys, d, ?_, by rw [List.length_cons, e2, List.length_cons]⟩
    rw [List.map_cons, step_cs, e1]
    rfl
  | [], _ :: _, _, e => by simp at e
  | _ :: _, [], _, e => by simp at e
/-- an empty cell behind: none comes out, one more cell holds a number -/
theorem step_more {rs : List Rule} {xs : List Int} {n : Nat} {c : Int} (e : rs.length = xs.length + (n + 1)) : ∃ ys : List Int, stepR rs (xs.map some ++ nones (n + 1)) (some c) = (ys.map some ++ nones n, none) ∧ ys.length = xs.length + 1 := by
  obtain ⟨ys, d, e1, e2⟩ := step_full (rs.take xs.length) xs c (by rw [List.length_take]; omega)
  have er : rs = rs.take xs.length ++ rs.drop xs.length := (List.take_append_drop _ _).symm
  cases ed : rs.drop xs.length with
  | nil =>
    have := congrArg List.length ed
    rw [List.length_drop] at this
    simp at this
    omega
  | cons r rest =>
    rw [ed] at er
    rw [er, step_app _ _ _ _ _ (by rw [List.length_take, List.length_map]; omega), e1]
    refine ⟨ys ++ [d], ?_, by rw [List.length_append, e2]; rfl⟩
    show ((ys.map some) ++ (stepR (r :: rest) (none :: nones n) (some d)).1, (stepR (r :: rest) (none :: nones n) (some d)).2) = _
    rw [step_cn, List.map_append]
    simp
theorem step_fill {rs : List Rule} {hs : List (Option Int)} {c : Int} (f : Fill hs) (e : hs.length = rs.length) : Fill (stepR rs hs (some c)).1 := by
  obtain ⟨xs, n, rfl⟩ := f
  rw [List.length_append, List.length_map, nones, List.length_replicate] at e
  cases n with
  | zero =>
    obtain ⟨ys, d, e1, _⟩ := step_full rs xs c (by omega)
    have e0 : xs.map some ++ nones 0 = xs.map some := List.append_nil _
    rw [e0, e1]
    exact ⟨ys, 0, (List.append_nil _).symm⟩
  | succ n =>
    obtain ⟨ys, e1, _⟩ := step_more (rs := rs) (xs := xs) (n := n) (c := c) (by omega)
    rw [e1]
    exact ⟨ys, n, rfl⟩
theorem fill_nones (n : Nat) : Fill (nones n) := ⟨[], n, rfl⟩
theorem nones_len (n : Nat) : (nones n).length = n := List.length_replicate
theorem run_len (rs : List Rule) : ∀ (ns : List Int) (hs : List (Option Int)), (runR rs hs ns).1.length = ns.length ∧ (runR rs hs ns).2.length = hs.length
  | [], hs => ⟨rfl, rfl⟩
  | n :: ns, hs => by
    obtain ⟨h1, h2⟩ := run_len rs ns (stepR rs hs (some n)).1
    constructor
    · show ((stepR rs hs (some n)).2 :: (runR rs (stepR rs hs (some n)).1 ns).1).length = _
      rw [List.length_cons, h1, List.length_cons]
    · show (runR rs (stepR rs hs (some n)).1 ns).2.length = _
      rw [h2, step_len]
theorem run_app (rs : List Rule) : ∀ (ns ms : List Int) (hs : List (Option Int)), runR rs hs (ns ++ ms) = ((runR rs hs ns).1 ++ (runR rs (runR rs hs ns).2 ms).1, (runR rs (runR rs hs ns).2 ms).2)
  | [], ms, hs => rfl
  | n :: ns, ms, hs => by
    show ((stepR rs hs (some n)).2 :: (runR rs (stepR rs hs (some n)).1 (ns ++ ms)).1, (runR rs (stepR rs hs (some n)).1 (ns ++ ms)).2) = _
    rw [run_app rs ns ms]
    rfl
/-- first nothing comes out, then all -/
theorem run_shape (rs : List Rule) : ∀ (ns : List Int) (xs : List Int) (n : Nat), rs.length = xs.length + n → ∃ ds : List Int, (runR rs (xs.map some ++ nones n) ns).1 = nones (min n ns.length) ++ ds.map some ∧ ds.length = ns.length - n
  | [], xs, n, _ => ⟨[], by rw [List.length_nil, Nat.min_zero]; rfl, by simp⟩
  | m :: ns, xs, 0, e => by
    obtain ⟨ys, d, e1, e2⟩ := step_full rs xs m (by omega)
    obtain ⟨ds, e3, e4⟩ := run_shape rs ns ys 0 (by omega)
    refine ⟨d :: ds, ?_, by simp [e4]⟩
    have e0 : xs.map some ++ nones 0 = xs.map some := List.append_nil _
    have e5 : ys.map some ++ nones 0 = ys.map some := List.append_nil _
    rw [e5] at e3
    rw [e0]
    show (stepR rs (xs.map some) (some m)).2 :: (runR rs (stepR rs (xs.map some) (some m)).1 ns).1 = _
    rw [e1, e3]
    simp [nones]
  | m :: ns, xs, n + 1, e => by
    obtain ⟨ys, e1, e2⟩ := step_more (rs := rs) (xs := xs) (n := n) (c := m) e
    obtain ⟨ds, e3, e4⟩ := run_shape rs ns ys n (by omega)
    refine ⟨ds, ?_, by simp [e4]⟩
    show (stepR rs (xs.map some ++ nones (n + 1)) (some m)).2 :: (runR rs (stepR rs (xs.map some ++ nones (n + 1)) (some m)).1 ns).1 = _
    rw [e1, e3, List.length_cons, Nat.add_min_add_right]
    rfl
/-- what one chain lets out goes into the next one -/
def weave : List (Option Int) → List (Option Int) → List (Option Int)
  | none :: o, q => none :: weave o q
  | some _ :: o, z :: q => z :: weave o q
  | _, _ => []
theorem run_comp (rs qs : List Rule) : ∀ (ns : List Int) (hs ks : List (Option Int)), rs.length = hs.length →
    runR (rs ++ qs) (hs ++ ks) ns = (weave (runR rs hs ns).1 (runR qs ks ((runR rs hs ns).1.filterMap id)).1, (runR rs hs ns).2 ++ (runR qs ks ((runR rs hs ns).1.filterMap id)).2)
  | [], hs, ks, _ => rfl
  | n :: ns, hs, ks, e => by
    show ((stepR (rs ++ qs) (hs ++ ks) (some n)).2 :: (runR (rs ++ qs) (stepR (rs ++ qs) (hs ++ ks) (some n)).1 ns).1, (runR (rs ++ qs) (stepR (rs ++ qs) (hs ++ ks) (some n)).1 ns).2) = _
    have er : (runR rs hs (n :: ns)) = ((stepR rs hs (some n)).2 :: (runR rs (stepR rs hs (some n)).1 ns).1, (runR rs (stepR rs hs (some n)).1 ns).2) := rfl
    rw [step_app rs hs (some n) qs ks e, er]
    have el : rs.length = (stepR rs hs (some n)).1.length := by rw [step_len]; exact e
    cases ed : (stepR rs hs (some n)).2 with
    | none =>
      rw [step_none, run_comp rs qs ns _ _ el]
      rfl
    | some d =>
      rw [run_comp rs qs ns _ _ el]
      rfl
theorem weave_front : ∀ (m : Nat) (ds : List Int) (o : List (Option Int)), o.length = ds.length → weave (nones m ++ ds.map some) o = nones m ++ o
  | 0, [], [], _ => rfl
  | 0, d :: ds, z :: o, e => by
    have h := weave_front 0 ds o (by simpa using e)
    show z :: weave (ds.map some) o = z :: o
    rw [show weave (ds.map some) o = o from h]
  | m + 1, ds, o, e => by
    have h := weave_front m ds o e
    show none :: weave (nones m ++ ds.map some) o = none :: (nones m ++ o)
    rw [h]
  | 0, [], _ :: _, e => by simp at e
  | 0, _ :: _, [], e => by simp at e
theorem filter_front (m : Nat) (ds : List Int) : (nones m ++ ds.map some).filterMap id = ds := by
  rw [List.filterMap_append]
  have h1 : (nones m).filterMap id = [] := by
    induction m with
    | zero => rfl
    | succ m ih =>
      show (none :: nones m).filterMap id = []
      simpa using ih
  have h2 : (ds.map some).filterMap id = ds := by simp
  rw [h1, h2]
  rfl
end SC
set_option maxRecDepth 100000
set_option maxHeartbeats 2000000
/-! # Part Q: tuples of cells, equal or not; a chain's own operators -/
namespace SC
open PySem PySem.Spec PyProof.Rows L2 TL
section
variable {prog : Program} {w : World} {A : Around} {R : Result → Shared → Prop}
/-- == of two tuples, whatever comes out: J i s: the first i items were equal -/
theorem tuple_eqB (l b : Addr) (xs ys : Array Value) (n n2 : Nat) (dd dd2 : Option Addr) (sl sl2 : Array (Option Value)) (J : Nat → Shared → Prop) (Bd : Shared → Prop)
    (turn : ∀ i (h1 : i < xs.size) (h2 : i < ys.size) s, J i s → wpAny (model prog w) A.in1 (eqBool xs[i] ys[i]) (fun r s' => (r = true ∧ J (i + 1) s') ∨ (r = false ∧ Bd s')) (fun e s' => R (.error e) s') s)
    (fin : ∀ s, J (min xs.size ys.size) s → R (.ok (.ret (.bool (xs.size == ys.size)))) s) (bad : ∀ s, Bd s → R (.ok (.ret (.bool false))) s)
    {s : Shared} (hl : s.heap.get? l = some { cls := .type "tuple", dict := dd, data := .seq xs n, slots := sl }) (hb : s.heap.get? b = some { cls := .type "tuple", dict := dd2, data := .seq ys n2, slots := sl2 }) (h : J 0 s) :
    wpAny (model prog w) A.in1 (Builtin.«tuple.__eq__» ⟨[.ref l, .ref b], []⟩) (GQ.FinOf prog w A R) (fun e s' => R (.error e) s') s := by
  have ss := AutoSeq1.sub_tuple_tuple
  have hZ : (xs.toList.zip ys.toList).length = min xs.size ys.size := by simp
  have hJ := h
  obtain ⟨hp, g, d, tk, os⟩ := s
  wp_walk using AutoSeq1.wpAny_loadPart' hl, AutoSeq1.wpAny_loadPart' hb, wpAny_forIn_list _ (fun rest z s' => z.1 = none ∧ ∃ i, rest = (xs.toList.zip ys.toList).drop i ∧ i ≤ min xs.size ys.size ∧ J i s') _
  case turn =>
    rintro ⟨y, x⟩ rest z s' ⟨hz1, i, hz, hi, hI⟩
    have hlt : i < (xs.toList.zip ys.toList).length := by
      rcases Nat.lt_or_ge i (xs.toList.zip ys.toList).length with q | q
      · exact q
      · rw [List.drop_of_length_le q] at hz
        cases hz
    have h1 : i < xs.size := by rw [hZ] at hlt; omega
    have h2 : i < ys.size := by rw [hZ] at hlt; omega
    rw [List.drop_eq_getElem_cons hlt] at hz
    injection hz with hyx hrest
    have hy : y = xs[i] := by simpa using congrArg Prod.fst hyx
    have hx : x = ys[i] := by simpa using congrArg Prod.snd hyx
    subst hy hx
    refine wpAny_bind (wpAny_mono (turn i h1 h2 s' hI) (fun r s2 q2 => ?_) fun _ _ e => e)
    rcases q2 with ⟨hr, q2⟩ | ⟨hr, q2⟩
    · subst hr
      wp_walk
      exact ⟨rfl, i + 1, hrest, by omega, q2⟩
    · subst hr
      wp_walk
      exact bad s2 q2
  case fin =>
    rintro ⟨z1, z2⟩ s' ⟨hz1, i, hz, hi, hI⟩
    simp only at hz1
    subst hz1
    have hge : min xs.size ys.size ≤ i := by
      rcases Nat.lt_or_ge i (xs.toList.zip ys.toList).length with q | q
      · rw [List.drop_eq_getElem_cons q] at hz
        cases hz
      · exact hZ ▸ q
    have ei : i = min xs.size ys.size := by omega
    have hR := fin s' (ei ▸ hI)
    wp_walk
    simpa [Builtin.Tuple.tupleCompareSizes] using hR
  case h => exact ⟨rfl, 0, rfl, Nat.zero_le _, hJ⟩
end
section
variable {X : Cx} {n : Nat}
/-- two cells at one place have one rule -/
theorem CellAt.uniq {K : PySem.W.Frag} {mg : Str → Option Value} {H : Hp} {a : Addr} {r r' : Rule} (T : Cells K mg) (c : CellAt K H a r) (c' : CellAt K H a r') : r = r' := by
  obtain ⟨_, dx, h1⟩ := c
  obtain ⟨_, dy, h2⟩ := c'
  rw [h1] at h2
  have z := Option.some.inj h2
  injection z with z1 z2 z3
  have hk : r.kd = r'.kd := T.inj z1
  cases r with
  | near m =>
    cases r' with
    | near m' =>
      have z4 : [(("mark" : Str), V.int m)] = [(("mark" : Str), V.int m')] := z3
      injection z4 with z5 _
      injection z5 with _ z6
      rw [V.int.inj z6]
    | _ => cases hk
  | _ => cases r' <;> first | rfl | cases hk
theorem env_at {pins : List (Addr × Obj)} {σ : L2.St} {H : Hp} {s : Shared} {A : Around} (sb : Sub X n A) (I : Inv X pins σ H s) : Env0 X.prog X.w X.K X.mg X.base A X.stack s H := by
  have e := I.env0
  exact ⟨by rw [sb.fr]; exact e.frames, e.mod, e.bs, e.bsz, e.funs, e.frf, e.hok, e.bare⟩
/-- == of two cells, below the running body -/
theorem cell_rc {A : Around} {pins : List (Addr × Obj)} {σ : L2.St} {H : Hp} {s : Shared} {a b : Addr} {r r' : Rule} (T : CellsOk X.prog X.w X.K X.mg X.base n) (sb : Sub X n A) (I : Inv X pins σ H s) (ca : CellAt X.K H a r) (cb : CellAt X.K H b r') :
    wpAny (model X.prog X.w) A (richCompare .Eq (.ref a) (.ref b)) (fun v s' => v = .bool (decide (r.label = r'.label)) ∧ Inv X pins σ H s') X.xe s := by
  obtain ⟨ox, od, J⟩ := cell_inst I ca
  obtain ⟨oy, oe, J'⟩ := cell_inst I cb
  obtain ⟨m, hF⟩ := I.fr
  have one : ∀ {x y : Addr} {p q : Rule}, CellAt X.K H x p → CellAt X.K H y q → decide (p.label = q.label) = decide (r.label = r'.label) →
      wpAny (model X.prog X.w) A (call (.ref (He.ma X.K (He.ga X.K p.kd.cn) "__eq__")) [.ref x, .ref y]) (PySem.W.CmpBack (fun v s' => v = .bool (decide (r.label = r'.label)) ∧ Inv X pins σ H s')) X.xe s := fun {x y p q} cx cy e => by
    have hsp : spEq X.K p.kd [.ref x, .ref y] H (fun v H' => v = .bl (decide (p.label = q.label)) ∧ H' = H) E0 := ⟨x, p, .ref y, rfl, rfl, cx, .inl ⟨y, q, rfl, cy, rfl, rfl⟩⟩
    refine wpAny_mono (wpAny_call (SlX.run_at (us := [.ref x, .ref y]) (ws := [.ref x, .ref y]) (T.eq p.kd) sb.room (env_at sb I) pass0 I (.cons rfl (.cons rfl .nil)) hsp)) (fun v s1 z => ?_) fun _ _ e => e
    obtain ⟨yv, H1, I1, r1, ey, eH⟩ := z
    subst ey eH
    obtain rfl : v = Value.bool _ := r1
    rw [e]
    exact ⟨rfl, I1⟩
  have left := one ca cb rfl
  have right := one cb ca (by
    by_cases e : r.label = r'.label
    · rw [decide_eq_true e, decide_eq_true e.symm]
    · rw [decide_eq_false e, decide_eq_false fun z => e z.symm])
  have sc := T.t.eq r.kd
  have sd := T.t.eq r'.kd
  by_cases hk : r.kd = r'.kd
  · exact PySem.W.cmp_K (op := .Eq) (tb := .ref (He.ga X.K r'.kd.cn)) sb.room.units0 hF I.ok.mod.kin J J'.type (by rw [hk]; simp [PySem.W.notFirst]) sc.at_ sc.fn left
  · by_cases h1 : r.kd = .first
    · refine eq_right sb.room.units0 I.kIn J J' (fun z => hk (T.t.inj z)) ?_ sd.at_ sd.fn right
      have z := T.t.sub r'.kd r.kd
      rw [decide_eq_true h1, Bool.or_true] at z
      exact z
    · refine PySem.W.cmp_K (op := .Eq) (tb := .ref (He.ga X.K r'.kd.cn)) sb.room.units0 hF I.ok.mod.kin J J'.type ?_ sc.at_ sc.fn left
      have z := T.t.sub r'.kd r.kd
      rw [decide_eq_false (fun e => hk e.symm), decide_eq_false h1] at z
      unfold PySem.W.notFirst
      rw [z]
      simp
theorem cell_eqB {A : Around} {pins : List (Addr × Obj)} {σ : L2.St} {H : Hp} {s : Shared} {a b : Addr} {r r' : Rule} (T : CellsOk X.prog X.w X.K X.mg X.base n) (sb : Sub X n A) (I : Inv X pins σ H s) (ca : CellAt X.K H a r) (cb : CellAt X.K H b r') :
    wpAny (model X.prog X.w) A (eqBool (.ref a) (.ref b)) (fun v s' => v = decide (r = r') ∧ Inv X pins σ H s') X.xe s := by
  by_cases hab : a = b
  · subst hab
    obtain rfl := ca.uniq T.t cb
    rw [decide_eq_true rfl]
    exact SeqAt.EqAt.same (A := A) (s := s) (.ref a) X.prog X.w X.xe _ ⟨rfl, I⟩
  · refine GQ.eqBool_refG hab (wpAny_mono (cell_rc T sb I ca cb) (fun v s1 z => ?_) fun _ _ e => e)
    obtain ⟨ev, I1⟩ := z
    refine ⟨_, ev, ?_, I1⟩
    by_cases e : r = r'
    · rw [decide_eq_true e, decide_eq_true (by rw [e])]
    · rw [decide_eq_false e, decide_eq_false fun z => e (label_inj ca.1 cb.1 z)]
/-- two tuples of cells -/
def rTupC (K : PySem.W.Frag) : R2 := fun x y H Q => ∃ (t u : Addr) (as bs : List Addr) (rs qs : List Rule), x = .ref t ∧ y = .ref u ∧ H t = some (.tup (as.map V.ref)) ∧ H u = some (.tup (bs.map V.ref)) ∧ Cs K H as rs ∧ Cs K H bs qs ∧ Q (.bl (decide (rs = qs))) H
theorem vals_ref : ∀ {as : List Addr} {us : List Value}, Vals (as.map V.ref) us → us = as.map Value.ref
  | [], _, .nil => rfl
  | a :: as, _, .cons r t => by
    rw [vals_ref t]
    obtain rfl := (show _ = Value.ref a from r)
    rfl
theorem op_eqTC (T : CellsOk X.prog X.w X.K X.mg X.base n) (hr : Room (n + 1) X.A) : OpR X (compareOp .Eq) (rTupC X.K) := by
  intro pins s σ H x y v u Q I rx ry h
  obtain ⟨t, t2, as, bs, rs, qs, ex, ey, ht, hu, ca, cb, q⟩ := h
  subst ex ey
  obtain rfl : v = Value.ref t := rx
  obtain rfl : u = Value.ref t2 := ry
  show wpAny (model X.prog X.w) X.A (richCompare .Eq (.ref t) (.ref t2)) (EP X pins σ Q) X.xe s
  obtain ⟨its, r1, ⟨⟨c1, d1, dt1, l1⟩, ho, hc, n1, hd⟩, _⟩ := I.tuple (SqT.of ht)
  obtain ⟨its2, r2, ⟨⟨c2, d2, dt2, l2⟩, ho2, hc2, n2, hd2⟩, _⟩ := I.tuple (SqT.of hu)
  simp only at hc hd hc2 hd2
  subst hc hd hc2 hd2
  obtain rfl := vals_ref r1
  obtain rfl := vals_ref r2
  have sb : Sub X (n + 1) X.A := ⟨hr, rfl⟩
  refine wpAny_richCompare_same_room (op := .Eq) ⟨_, ho, rfl⟩ ⟨_, ho2, rfl⟩ F.slot_tuple_eq (GQ.call_here F.slot_tuple_eq ⟨_, ho, rfl⟩ F.entry_tuple_eq (F.args_tuple_eq_2 _ _) ?_) sb.room.units0
  refine tuple_eqB (R := wants (fun v s' => v ≠ .notImplemented ∧ EP X pins σ Q v s') X.xe) t t2 _ _ n1 n2 d1 d2 l1 l2 (fun i s' => Inv X pins σ H s' ∧ rs.take i = qs.take i ∧ i ≤ rs.length ∧ i ≤ qs.length) (fun s' => Inv X pins σ H s' ∧ rs ≠ qs) (fun i h1 h2 s1 z => ?_) (fun s1 z => ?_) (fun s1 z => ?_) ho ho2 ⟨I, rfl, Nat.zero_le _, Nat.zero_le _⟩
  · obtain ⟨I1, et, l1, l2⟩ := z
    have k1 : i < as.length := by simpa using h1
    have k2 : i < bs.length := by simpa using h2
    have m1 : as[i]? = some as[i] := List.getElem?_eq_getElem k1
    have m2 : bs[i]? = some bs[i] := List.getElem?_eq_getElem k2
    have j1 : i < rs.length := by rw [← ca.1]; exact k1
    have j2 : i < qs.length := by rw [← cb.1]; exact k2
    have o1 : rs[i]? = some rs[i] := List.getElem?_eq_getElem j1
    have o2 : qs[i]? = some qs[i] := List.getElem?_eq_getElem j2
    have g1 : (as.map Value.ref).toArray[i] = Value.ref as[i] := by simp
    have g2 : (bs.map Value.ref).toArray[i] = Value.ref bs[i] := by simp
    rw [g1, g2]
    refine wpAny_mono (cell_eqB T sb.in1 I1 (ca.2 i _ _ m1 o1) (cb.2 i _ _ m2 o2)) (fun r s2 z => ?_) fun _ _ e => e
    obtain ⟨er, I2⟩ := z
    by_cases e : rs[i] = qs[i]
    · rw [decide_eq_true e] at er
      refine .inl ⟨er, I2, ?_, by omega, by omega⟩
      rw [take_more o1, take_more o2, et, e]
    · rw [decide_eq_false e] at er
      refine .inr ⟨er, I2, fun z => e ?_⟩
      subst z
      rfl
  · obtain ⟨I1, et, l1, l2⟩ := z
    refine ⟨(fun z => nomatch z), .bl _, H, I1, rfl, ?_⟩
    have e : ((as.map Value.ref).toArray.size == (bs.map Value.ref).toArray.size) = decide (rs = qs) := by
      have s1 : (as.map Value.ref).toArray.size = rs.length := by simp [ca.1]
      have s2 : (bs.map Value.ref).toArray.size = qs.length := by simp [cb.1]
      rw [s1, s2] at et l1 l2 ⊢
      by_cases e : rs.length = qs.length
      · rw [e, Nat.min_self] at et
        rw [← e, List.take_length] at et
        rw [e, List.take_length] at et
        rw [et]
        simp
      · rw [decide_eq_false fun z => e (by rw [z])]
        simpa using e
    rw [e]
    exact q
  · obtain ⟨I1, e⟩ := z
    refine ⟨(fun z => nomatch z), .bl false, H, I1, rfl, ?_⟩
    rw [decide_eq_false e] at q
    exact q
/-! ### what a chain's methods promise, at level n; its operators -/
structure ChainOk (P : Program) (w : World) (K : PySem.W.Frag) (mg : Str → Option Value) (base : Heap) (n : Nat) : Prop where
  t : Chains K mg
  text : ∃ fd ps, FnOk P w K mg base CX0 n (pgA K "Chain" "text") fd ps (spText K) ∧ Binds K fd ps []
  empty : ∃ fd ps, FnOk P w K mg base CX0 n (pgA K "Chain" "empty") fd ps (spEmpty K) ∧ Binds K fd ps []
  call : FnR P w K mg base CX0 n (He.ma K (ChC K) "__call__") (spChCall K)
  len : FnR P w K mg base CX0 n (He.ma K (ChC K) "__len__") (spLen K)
  item : FnR P w K mg base CX0 n (He.ma K (ChC K) "__getitem__") (spItem K)
  shift : FnR P w K mg base CX0 n (He.ma K (ChC K) "__rshift__") (spShift K)
  neg : FnR P w K mg base CX0 n (He.ma K (ChC K) "__neg__") (spChNeg K)
  eq : FnR P w K mg base CX0 n (He.ma K (ChC K) "__eq__") (spChEq K)
theorem chain_inst {pins : List (Addr × Obj)} {σ : L2.St} {H : Hp} {s : Shared} {a : Addr} {rs : List Rule} (I : Inv X pins σ H s) (c : ChainAt X.K H a rs) : ∃ ox od, PySem.W.InstAt s.heap a ox (ChC X.K) od := by
  obtain ⟨dx, t, as, ha, _⟩ := c
  obtain ⟨mA, O, _⟩ := ins_get I.hok ha
  obtain ⟨od, J, _⟩ := O.look
  exact ⟨_, _, J⟩
/-- x >> y -/
def rShift (K : PySem.W.Frag) : R2 := fun x y H Q => ∃ (c d : Addr) (rs qs : List Rule), x = .ref c ∧ y = .ref d ∧ ChainAt K H c rs ∧ ChainAt K H d qs ∧ rs.length + qs.length ≤ 8 ∧ NewCh K H (rs ++ qs) Q
theorem op_shift (T : ChainOk X.prog X.w X.K X.mg X.base n) (hr : Room n X.A) : OpR X (binaryOp .RShift) (rShift X.K) := by
  intro pins s σ H x y v u Q I rx ry h
  obtain ⟨c, d, rs, qs, ex, ey, cc, cd, hl, q⟩ := h
  subst ex ey
  obtain rfl : v = Value.ref c := rx
  obtain rfl : u = Value.ref d := ry
  obtain ⟨ox, od, J⟩ := chain_inst I cc
  obtain ⟨oy, oe, J'⟩ := chain_inst I cd
  obtain ⟨m, hF⟩ := I.fr
  refine PySem.W.binop_K (op := .RShift) hF I.ok.mod.kin J J'.type T.t.slf T.t.shift.at_ T.t.shift.fn ?_
  refine wpAny_mono (wpAny_call (run_fnR (E := E0) (us := [.ref c, .ref d]) (vs := [.ref c, .ref d]) T.shift hr pass0 I (.cons rfl (.cons rfl .nil)) ⟨c, d, rs, qs, rfl, cc, cd, hl, q⟩)) (fun v s1 z => ?_) fun _ _ e => e
  obtain ⟨zv, H1, I1, rz, qz⟩ := z
  exact SlX.cmpback rz ⟨zv, H1, I1, rz, qz⟩
/-- -x -/
def rChNeg (K : PySem.W.Frag) : V → Hp → VK → Prop := fun x H Q => ∃ (c : Addr) (rs : List Rule), x = .ref c ∧ ChainAt K H c rs ∧ NewCh K H (rs.map Rule.neg) Q
theorem un_chneg (T : ChainOk X.prog X.w X.K X.mg X.base n) (hr : Room n X.A) : UnR X (unaryOp .USub) (rChNeg X.K) := by
  intro pins s σ H x v Q I rx h
  obtain ⟨c, rs, ex, cc, q⟩ := h
  subst ex
  obtain rfl : v = Value.ref c := rx
  obtain ⟨ox, od, J⟩ := chain_inst I cc
  obtain ⟨m, hF⟩ := I.fr
  exact PySem.W.ksp_neg hF I.ok.mod.kin J T.t.neg.at_ T.t.neg.fn (wpAny_call (run_fnR (E := E0) (us := [.ref c]) (vs := [.ref c]) T.neg hr pass0 I (.cons rfl .nil) ⟨c, rs, rfl, cc, q⟩))
/-- x == y, x != y -/
def rChEq (K : PySem.W.Frag) : R2 := fun x y H Q => ∃ (c d : Addr) (rs qs : List Rule), x = .ref c ∧ y = .ref d ∧ ChainAt K H c rs ∧ ChainAt K H d qs ∧ Q (.bl (decide (rs = qs))) H
theorem op_cheq (T : ChainOk X.prog X.w X.K X.mg X.base n) (hr : Room n X.A) : OpR X (compareOp .Eq) (rChEq X.K) := by
  intro pins s σ H x y v u Q I rx ry h
  obtain ⟨c, d, rs, qs, ex, ey, cc, cd, q⟩ := h
  subst ex ey
  obtain rfl : v = Value.ref c := rx
  obtain rfl : u = Value.ref d := ry
  obtain ⟨ox, od, J⟩ := chain_inst I cc
  obtain ⟨oy, oe, J'⟩ := chain_inst I cd
  obtain ⟨m, hF⟩ := I.fr
  show wpAny (model X.prog X.w) X.A (richCompare .Eq (.ref c) (.ref d)) (EP X pins σ Q) X.xe s
  refine PySem.W.cmp_K (op := .Eq) (tb := .ref (ChC X.K)) hr.units0 hF I.ok.mod.kin J J'.type (by simp [PySem.W.notFirst]) T.t.eq.at_ T.t.eq.fn ?_
  refine wpAny_mono (wpAny_call (run_fnR (E := E0) (us := [.ref c, .ref d]) (vs := [.ref c, .ref d]) T.eq hr pass0 I (.cons rfl (.cons rfl .nil)) ⟨c, d, rs, qs, rfl, cc, cd, q⟩)) (fun v s1 z => ?_) fun _ _ e => e
  obtain ⟨zv, H1, I1, rz, qz⟩ := z
  exact SlX.cmpback rz ⟨zv, H1, I1, rz, qz⟩
def rChNe (K : PySem.W.Frag) : R2 := fun x y H Q => ∃ (c d : Addr) (rs qs : List Rule), x = .ref c ∧ y = .ref d ∧ ChainAt K H c rs ∧ ChainAt K H d qs ∧ Q (.bl (!decide (rs = qs))) H
theorem op_chne (T : ChainOk X.prog X.w X.K X.mg X.base n) (hr : Room (n + 1) X.A) : OpR X (compareOp .NotEq) (rChNe X.K) := by
  intro pins s σ H x y v u Q I rx ry h
  obtain ⟨c, d, rs, qs, ex, ey, cc, cd, q⟩ := h
  subst ex ey
  obtain rfl : v = Value.ref c := rx
  obtain rfl : u = Value.ref d := ry
  obtain ⟨ox, od, J⟩ := chain_inst I cc
  obtain ⟨oy, oe, J'⟩ := chain_inst I cd
  show wpAny (model X.prog X.w) X.A (richCompare .NotEq (.ref c) (.ref d)) (EP X pins σ Q) X.xe s
  refine ne_own (Nat.lt_of_le_of_lt (Nat.add_le_add_left (by decide : 1 ≤ 64) _) hr.units) I.kIn J J' T.t.isi.hm T.t.ne T.t.eq.at_ T.t.eq.fn ?_
  have sb : Sub X n X.A.in1 := ⟨hr.in1, rfl⟩
  have hsp : spChEq X.K [.ref c, .ref d] H (fun v H' => v = .bl (decide (rs = qs)) ∧ Q (.bl (!decide (rs = qs))) H') E0 := ⟨c, d, rs, qs, rfl, cc, cd, rfl, q⟩
  refine wpAny_mono (wpAny_call (SlX.run_at (us := [.ref c, .ref d]) (ws := [.ref c, .ref d]) T.eq sb.room (env_at sb I) pass0 I (.cons rfl (.cons rfl .nil)) hsp)) (fun v s1 z => ?_) fun _ _ e => e
  obtain ⟨yv, H1, I1, r1, ey, qz⟩ := z
  subst ey
  obtain rfl : v = Value.bool _ := r1
  exact ⟨_, rfl, .bl _, H1, I1, rfl, qz⟩
/-- x[i] -/
def rChIx (K : PySem.W.Frag) : R2 := fun x y H Q => ∃ (c : Addr) (rs : List Rule) (i : Nat) (r : Rule), x = .ref c ∧ y = .int i ∧ ChainAt K H c rs ∧ rs[i]? = some r ∧ ∀ a, CellAt K H a r → Q (.ref a) H
theorem pe_ixC {a b : Expr} {ta tb : TE} {pos : Pos} (T : ChainOk X.prog X.w X.K X.mg X.base n) (hr : Room (n + 1) X.A) (ha : PE X a ta) (hb : PE X b tb)
    (hsl : ∀ v u, subscripted b true v u = runValue (.builtin "lifetime.subscript" ⟨[v, u], []⟩) := by intro _ _; with_unfolding_all rfl) : PE X (.Subscript a b pos) (tOp (rChIx X.K) ta tb) := by
  refine ⟨fun pins s0 σ H0 Q I0 h0 => Subscript_ (binT ha hb I0 h0 fun v u s x y H I rx ry h => ?_)⟩
  obtain ⟨c, rs, i, r, ex, ey, cc, hi, q⟩ := h
  subst ex ey
  obtain rfl : v = Value.ref c := rx
  obtain ⟨ox, od, J⟩ := chain_inst I cc
  obtain ⟨m, hF⟩ := I.fr
  have sb : Sub X n X.A.in1 := ⟨hr.in1, rfl⟩
  obtain ⟨tk, rfl⟩ := ry
  refine PySem.W.sub_K hF I.ok.mod.kin J T.t.item.at_ T.t.item.fi T.t.item.fn ?_ (hsl _ _)
  exact wpAny_call (SlX.run_at (us := [.ref c, .int i tk]) (ws := [.ref c, .int i]) T.item sb.room (env_at sb I) pass0 (E := E0) I (.cons rfl (.cons ⟨tk, rfl⟩ .nil)) ⟨c, rs, i, r, rfl, cc, hi, q⟩)
/-- len(x) -/
theorem call_lenC (T : ChainOk X.prog X.w X.K X.mg X.base n) (hr : Room (n + 1) X.A) : CallR X (.builtin "len") (fun xs H Q => ∃ (c : Addr) (rs : List Rule), xs = [.ref c] ∧ ChainAt X.K H c rs ∧ Q (.int rs.length) H) := by
  intro pins s σ H xs us Q I r h
  obtain ⟨c, rs, ex, cc, q⟩ := h
  subst ex
  obtain ⟨u, eu, ru⟩ := r.one
  subst eu
  obtain rfl : u = Value.ref c := ru
  obtain ⟨ox, od, J⟩ := chain_inst I cc
  obtain ⟨m, hF⟩ := I.fr
  have sb : Sub X n X.A.in1 := ⟨hr.in1, rfl⟩
  have h8 : rs.length ≤ 8 := by
    obtain ⟨_, _, _, _, _, _, _, z⟩ := cc
    exact z
  refine PySem.W.len_K hF I.ok.mod.kin J T.t.len.at_ T.t.len.fn ?_
  have hsp : spLen X.K [.ref c] H (fun v H' => v = .int rs.length ∧ Q (.int rs.length) H') E0 := ⟨c, rs, rfl, cc, rfl, q⟩
  refine wpAny_mono (wpAny_call (SlX.run_at (us := [.ref c]) (ws := [.ref c]) T.len sb.room (env_at sb I) pass0 I (.cons rfl .nil) hsp)) (fun v s1 z => ?_) fun _ _ e => e
  obtain ⟨yv, H1, I1, r1, ey, qz⟩ := z
  subst ey
  obtain ⟨tk, rfl⟩ := r1
  exact ⟨⟨by omega, by omega⟩, .int rs.length, H1, I1.tok _, ⟨_, rfl⟩, qz⟩
end
end SC
set_option maxRecDepth 100000
set_option maxHeartbeats 2000000
/-! # Part R: lists and tuples of numbers and None, of labels, compared as data -/
namespace SC
open PySem PySem.Spec PyProof.Rows L2 TL
def oD : Option Int → PyData
  | none => .none
  | some i => .int i
theorem dp_ov {K : PySem.W.Frag} {H : Hp} : ∀ os : List (Option Int), DpAll K H (os.map ov) (os.map oD)
  | [] => .nil
  | none :: os => .cons .non (dp_ov os)
  | some i :: os => .cons (.int i) (dp_ov os)
theorem lay_ov : ∀ os : List (Option Int), PyData.canLayAll0 (os.map oD) = true ∧ PyData.depthAll (os.map oD) = 0
  | [] => ⟨by unfold PyData.canLayAll0; rfl, by unfold PyData.depthAll; rfl⟩
  | o :: os => by
    obtain ⟨h1, h2⟩ := lay_ov os
    have a1 : PyData.canLay0 (oD o) = true := by cases o <;> (unfold oD PyData.canLay0; rfl)
    have a2 : PyData.depth (oD o) = 0 := by cases o <;> (unfold oD PyData.depth; rfl)
    constructor
    · rw [List.map_cons]
      unfold PyData.canLayAll0
      rw [a1, h1]
      rfl
    · rw [List.map_cons]
      unfold PyData.depthAll
      rw [a2, h2]
      rfl
theorem shp_list (os : List (Option Int)) : SeqAt.shaped (.list (os.map oD)) = true := by
  obtain ⟨h1, h2⟩ := lay_ov os
  unfold SeqAt.shaped PyData.canLay0 PyData.depth
  rw [h1, h2]
  rfl
theorem shp_tup (os : List (Option Int)) : SeqAt.shaped (.tuple (os.map oD)) = true := by
  obtain ⟨h1, h2⟩ := lay_ov os
  unfold SeqAt.shaped PyData.canLay0 PyData.depth
  rw [h1, h2]
  rfl
theorem shp_pair (os ps : List (Option Int)) : SeqAt.shaped (.tuple [.list (os.map oD), .tuple (ps.map oD)]) = true := by
  obtain ⟨h1, h2⟩ := lay_ov os
  obtain ⟨h3, h4⟩ := lay_ov ps
  have c : PyData.canLay0 (.tuple [.list (os.map oD), .tuple (ps.map oD)]) = true := by
    simp only [PyData.canLay0, PyData.canLayAll0, h1, h3]
    rfl
  have d : PyData.depth (.tuple [.list (os.map oD), .tuple (ps.map oD)]) = 2 := by
    simp only [PyData.depth, PyData.depthAll, h2, h4]
    rfl
  unfold SeqAt.shaped
  rw [c, d]
  rfl
theorem eqv_self {d : PyData} (h : SeqAt.shaped d = true) : PyData.eqv d d = true := SeqAt.eqv_refl d (SeqAt.canLay_of_shaped h)
/-! ### labels -/
def lD (rs : List Rule) : List PyData := rs.map fun r => .str r.label
theorem dp_lb {K : PySem.W.Frag} {H : Hp} : ∀ rs : List Rule, DpAll K H ((rs.map Rule.label).map V.str) (lD rs)
  | [] => .nil
  | r :: rs => .cons (.str _) (dp_lb rs)
theorem label_small {r : Rule} : PyData.strOk r.label = true := by
  have key : ∀ c ∈ tl r.label, c < 1114112 := by
    cases r with
    | near m =>
      show ∀ c ∈ tl (("near:" : Str) ++ numS m), c < 1114112
      rw [near_tl]
      intro c hc
      rcases List.mem_append.mp hc with z | z
      · simp at z
        omega
      · have hd := numL_digits m.natAbs
        unfold numZ at z
        split at z
        · rcases List.mem_cons.mp z with z | z
          · omega
          · have := hd c z
            omega
        · have := hd c z
          omega
    | _ => decide +kernel
  unfold PyData.strOk
  rw [← Array.all_toList, List.all_eq_true]
  exact fun c hc => decide_eq_true (key c hc)
theorem lay_lb : ∀ rs : List Rule, PyData.canLayAll0 (lD rs) = true ∧ PyData.depthAll (lD rs) = 0
  | [] => ⟨by unfold lD PyData.canLayAll0; rfl, by unfold lD PyData.depthAll; rfl⟩
  | r :: rs => by
    obtain ⟨h1, h2⟩ := lay_lb rs
    constructor
    · show PyData.canLayAll0 (.str r.label :: lD rs) = true
      unfold PyData.canLayAll0 PyData.canLay0
      rw [h1, label_small]
      rfl
    · show PyData.depthAll (.str r.label :: lD rs) = 0
      unfold PyData.depthAll PyData.depth
      rw [h2]
      rfl
theorem shp_lb (rs : List Rule) : SeqAt.shaped (.list (lD rs)) = true := by
  obtain ⟨h1, h2⟩ := lay_lb rs
  unfold SeqAt.shaped PyData.canLay0 PyData.depth
  rw [h1, h2]
  rfl
theorem eqv_lb : ∀ {rs qs : List Rule}, (∀ r ∈ rs, r.ok) → (∀ r ∈ qs, r.ok) → PyData.eqvAll (lD rs) (lD qs) = decide (rs = qs)
  | [], [], _, _ => by unfold lD PyData.eqvAll; rfl
  | [], q :: qs, _, _ => by
    show PyData.eqvAll [] (.str q.label :: lD qs) = _
    unfold PyData.eqvAll
    simp
  | r :: rs, [], _, _ => by
    show PyData.eqvAll (.str r.label :: lD rs) [] = _
    unfold PyData.eqvAll
    simp
  | r :: rs, q :: qs, h, h' => by
    show PyData.eqvAll (.str r.label :: lD rs) (.str q.label :: lD qs) = _
    have ih := eqv_lb (fun z hz => h z (List.mem_cons_of_mem _ hz)) (fun z hz => h' z (List.mem_cons_of_mem _ hz))
    unfold PyData.eqvAll PyData.eqv
    rw [ih]
    by_cases e : r = q
    · subst e
      simp
    · have ne : (r.label == q.label) = false := by
        simp only [beq_eq_false_iff_ne, ne_eq]
        exact fun z => e (label_inj (h r List.mem_cons_self) (h' q List.mem_cons_self) z)
      rw [ne, decide_eq_false fun z => e (List.cons.inj z).1]
      rfl
end SC
set_option maxRecDepth 100000
set_option maxHeartbeats 2000000
/-! # Part S: chains one behind another, as mathematics -/
namespace SC
open PySem PySem.Spec PyProof.Rows L2 TL
/-- the numbers that came out -/
def outsOf (rs : List Rule) (ns : List Int) : List Int := (runR rs (nones rs.length) ns).1.filterMap id
theorem keep_pred {P : Int → Prop} (r : Rule) {h c : Int} (hh : P h) (hc : P c) : P (r.keep h c).1 ∧ P (r.keep h c).2 := by
  cases r with
  | first => exact ⟨hh, hc⟩
  | last => exact ⟨hc, hh⟩
  | less =>
    unfold Rule.keep
    dsimp only
    split
    · exact ⟨hc, hh⟩
    · exact ⟨hh, hc⟩
  | greater =>
    unfold Rule.keep
    dsimp only
    split
    · exact ⟨hc, hh⟩
    · exact ⟨hh, hc⟩
  | near m =>
    unfold Rule.keep
    dsimp only
    split
    · exact ⟨hc, hh⟩
    · exact ⟨hh, hc⟩
theorem step_pred {P : Int → Prop} : ∀ (rs : List Rule) (hs : List (Option Int)) (c : Option Int), (∀ x, some x ∈ hs → P x) → (∀ x, c = some x → P x) →
    (∀ x, some x ∈ (stepR rs hs c).1 → P x) ∧ ∀ x, (stepR rs hs c).2 = some x → P x
  | [], hs, c, h1, h2 => by
    rw [step_nil]
    exact ⟨h1, h2⟩
  | r :: rs, [], c, h1, h2 => by
    have e : stepR (r :: rs) [] c = ([], c) := by cases c <;> (unfold stepR; rfl)
    rw [e]
    exact ⟨h1, h2⟩
  | r :: rs, none :: hs, c, h1, h2 => by
    rw [step_cn]
    refine ⟨fun x hx => ?_, fun x hx => by cases hx⟩
    rcases List.mem_cons.mp hx with z | z
    · exact h2 x z.symm
    · exact h1 x (List.mem_cons_of_mem _ z)
  | r :: rs, some h :: hs, none, h1, h2 => by
    rw [step_none]
    exact ⟨h1, fun x hx => by cases hx⟩
  | r :: rs, some h :: hs, some c, h1, h2 => by
    rw [step_cs]
    have kp := keep_pred (P := P) r (h1 h List.mem_cons_self) (h2 c rfl)
    obtain ⟨a1, a2⟩ := step_pred rs hs (some (r.keep h c).2) (fun x hx => h1 x (List.mem_cons_of_mem _ hx)) (fun x hx => by cases hx; exact kp.2)
    refine ⟨fun x hx => ?_, a2⟩
    rcases List.mem_cons.mp hx with z | z
    · cases z
      exact kp.1
    · exact a1 x z
theorem run_pred {P : Int → Prop} (rs : List Rule) : ∀ (ns : List Int) (hs : List (Option Int)), (∀ x, some x ∈ hs → P x) → (∀ x ∈ ns, P x) → ∀ x, some x ∈ (runR rs hs ns).1 → P x
  | [], hs, _, _, x, hx => by cases hx
  | n :: ns, hs, h1, h2, x, hx => by
    obtain ⟨a1, a2⟩ := step_pred rs hs (some n) h1 (fun y hy => by cases hy; exact h2 n List.mem_cons_self)
    have hx : some x ∈ (stepR rs hs (some n)).2 :: (runR rs (stepR rs hs (some n)).1 ns).1 := hx
    rcases List.mem_cons.mp hx with z | z
    · exact a2 x z.symm
    · exact run_pred rs ns _ a1 (fun y hy => h2 y (List.mem_cons_of_mem _ hy)) x z
theorem outs_num {rs : List Rule} {ns : List Int} (h : ∀ z ∈ ns, numOk z) : ∀ z ∈ outsOf rs ns, numOk z := fun z hz => by
  unfold outsOf at hz
  rw [List.mem_filterMap] at hz
  obtain ⟨o, ho, e⟩ := hz
  have e2 : o = some z := e
  rw [e2] at ho
  refine run_pred (P := numOk) rs ns _ (fun x hx => ?_) h z ho
  unfold nones at hx
  rw [List.mem_replicate] at hx
  cases hx.2
theorem outs_len (rs : List Rule) (ns : List Int) : (outsOf rs ns).length ≤ ns.length := by
  unfold outsOf
  have h := List.length_filterMap_le id (runR rs (nones rs.length) ns).1
  rw [(run_len rs ns (nones rs.length)).1] at h
  exact h
theorem nones_add (m n : Nat) : nones (m + n) = nones m ++ nones n := by
  unfold nones
  rw [List.replicate_append_replicate]
theorem run_join (rs qs : List Rule) (ns : List Int) :
    (runR (rs ++ qs) (nones (rs ++ qs).length) ns).1 = nones (ns.length - (outsOf rs ns).length) ++ (runR qs (nones qs.length) (outsOf rs ns)).1 ∧
    (runR (rs ++ qs) (nones (rs ++ qs).length) ns).2 = (runR rs (nones rs.length) ns).2 ++ (runR qs (nones qs.length) (outsOf rs ns)).2 := by
  obtain ⟨ds, e1, e2⟩ := run_shape rs ns [] rs.length (by simp)
  have e1 : (runR rs (nones rs.length) ns).1 = nones (min rs.length ns.length) ++ ds.map some := e1
  have eo : outsOf rs ns = ds := by
    unfold outsOf
    rw [e1, filter_front]
  have ec := run_comp rs qs ns (nones rs.length) (nones qs.length) (nones_len _).symm
  rw [List.length_append, nones_add, ec]
  have e3 : (runR rs (nones rs.length) ns).1.filterMap id = ds := eo
  rw [e3, eo]
  constructor
  · show weave (runR rs (nones rs.length) ns).1 _ = _
    rw [e1, weave_front _ _ _ (run_len qs ds (nones qs.length)).1, e2]
    congr 2
    omega
  · rfl
theorem run_twice (rs : List Rule) (ns : List Int) : (runR rs (nones rs.length) (ns ++ ns)).1.take ns.length = (runR rs (nones rs.length) ns).1 := by
  rw [run_app]
  have l := (run_len rs ns (nones rs.length)).1
  show ((runR rs (nones rs.length) ns).1 ++ _).take ns.length = _
  rw [← l, List.take_left]
end SC
set_option maxRecDepth 100000
set_option maxHeartbeats 2000000
/-! # Part T: chains of one rule; opposite chains; nothing is lost -/
namespace SC
open PySem PySem.Spec PyProof.Rows L2 TL
/-! ### less: the smallest ones in order -/
def insL (c : Int) : List Int → List Int
  | [] => [c]
  | x :: xs => if c < x then c :: insL x xs else x :: insL c xs
theorem insL_len : ∀ (xs : List Int) (c : Int), (insL c xs).length = xs.length + 1
  | [], c => rfl
  | x :: xs, c => by
    unfold insL
    split
    · rw [List.length_cons, insL_len xs, List.length_cons]
    · rw [List.length_cons, insL_len xs, List.length_cons]
theorem insL_perm : ∀ (xs : List Int) (c : Int), (insL c xs).Perm (c :: xs)
  | [], c => List.Perm.refl _
  | x :: xs, c => by
    unfold insL
    split
    · exact (insL_perm xs x).cons c
    · exact ((insL_perm xs c).cons x).trans (List.Perm.swap c x xs)
theorem insL_low : ∀ (xs : List Int) (c y : Int), y ≤ c → (∀ z ∈ xs, y ≤ z) → ∀ z ∈ insL c xs, y ≤ z := fun xs c y h1 h2 z hz => by
  rcases List.mem_cons.mp ((insL_perm xs c).mem_iff.mp hz) with e | e
  · rw [e]
    exact h1
  · exact h2 z e
theorem insL_rise : ∀ (xs : List Int) (c : Int), xs.Pairwise (· ≤ ·) → (insL c xs).Pairwise (· ≤ ·)
  | [], c, _ => List.pairwise_singleton _ c
  | x :: xs, c, h => by
    obtain ⟨h1, h2⟩ := List.pairwise_cons.mp h
    unfold insL
    split
    · rename_i hc
      exact List.pairwise_cons.mpr ⟨insL_low xs x c (by omega) fun z hz => by have := h1 z hz; omega, insL_rise xs x h2⟩
    · rename_i hc
      exact List.pairwise_cons.mpr ⟨insL_low xs c x (by omega) h1, insL_rise xs c h2⟩
theorem insL_take : ∀ (k : Nat) (xs : List Int) (c : Int), (insL c (xs.take k)).take k = (insL c xs).take k
  | 0, xs, c => by rw [List.take_zero, List.take_zero]
  | k + 1, [], c => rfl
  | k + 1, x :: xs, c => by
    rw [List.take_succ_cons]
    unfold insL
    split
    · rw [List.take_succ_cons, List.take_succ_cons, insL_take k xs x]
    · rw [List.take_succ_cons, List.take_succ_cons, insL_take k xs c]
def heldL (k : Nat) (xs : List Int) : List (Option Int) := (xs.take k).map some ++ nones (k - xs.length)
theorem step_less : ∀ (k : Nat) (xs : List Int) (c : Int), (stepR (List.replicate k Rule.less) (heldL k xs) (some c)).1 = heldL k (insL c xs)
  | 0, xs, c => by
    rw [List.replicate_zero, step_nil]
    unfold heldL
    rw [List.take_zero, List.take_zero, Nat.zero_sub, Nat.zero_sub]
  | k + 1, [], c => by
    have e1 : heldL (k + 1) [] = none :: nones k := rfl
    have e2 : heldL (k + 1) [c] = some c :: nones k := by
      unfold heldL
      simp
    rw [e1, List.replicate_succ, step_cn]
    show some c :: nones k = heldL (k + 1) [c]
    rw [e2]
  | k + 1, x :: xs, c => by
    have e1 : heldL (k + 1) (x :: xs) = some x :: heldL k xs := by
      unfold heldL
      rw [List.take_succ_cons, List.length_cons, Nat.add_sub_add_right]
      rfl
    rw [e1, List.replicate_succ, step_cs]
    unfold insL
    split
    · rename_i hc
      have ek : Rule.less.keep x c = (c, x) := if_pos hc
      rw [ek]
      dsimp only
      rw [step_less k xs x]
      unfold heldL
      rw [List.take_succ_cons, List.length_cons, Nat.add_sub_add_right]
      rfl
    · rename_i hc
      have ek : Rule.less.keep x c = (x, c) := if_neg hc
      rw [ek]
      dsimp only
      rw [step_less k xs c]
      unfold heldL
      rw [List.take_succ_cons, List.length_cons, Nat.add_sub_add_right]
      rfl
def sortL (ns : List Int) : List Int := ns.foldl (fun xs c => insL c xs) []
theorem run_less (k : Nat) : ∀ (ns xs : List Int), (runR (List.replicate k Rule.less) (heldL k xs) ns).2 = heldL k (ns.foldl (fun xs c => insL c xs) xs)
  | [], xs => rfl
  | n :: ns, xs => by
    show (runR _ (stepR (List.replicate k Rule.less) (heldL k xs) (some n)).1 ns).2 = _
    rw [step_less, run_less k ns]
    rfl
theorem sort_perm : ∀ (ns xs : List Int), (ns.foldl (fun xs c => insL c xs) xs).Perm (ns ++ xs)
  | [], xs => List.Perm.refl _
  | n :: ns, xs => by
    show (ns.foldl (fun xs c => insL c xs) (insL n xs)).Perm _
    refine (sort_perm ns (insL n xs)).trans ?_
    refine ((insL_perm xs n).append_left ns).trans ?_
    exact List.perm_middle
theorem sort_rise : ∀ (ns xs : List Int), xs.Pairwise (· ≤ ·) → (ns.foldl (fun xs c => insL c xs) xs).Pairwise (· ≤ ·)
  | [], xs, h => h
  | n :: ns, xs, h => sort_rise ns (insL n xs) (insL_rise xs n h)
/-- two rising lists of the same numbers are one -/
theorem rise_one : ∀ {xs ys : List Int}, xs.Perm ys → xs.Pairwise (· ≤ ·) → ys.Pairwise (· ≤ ·) → xs = ys
  | [], ys, p, _, _ => p.nil_eq
  | x :: xs, [], p, _, _ => by
    have := p.length_eq
    simp at this
  | x :: xs, y :: ys, p, h1, h2 => by
    obtain ⟨a1, a2⟩ := List.pairwise_cons.mp h1
    obtain ⟨b1, b2⟩ := List.pairwise_cons.mp h2
    have e : x = y := by
      have m1 : x ∈ y :: ys := p.mem_iff.mp List.mem_cons_self
      have m2 : y ∈ x :: xs := p.mem_iff.mpr List.mem_cons_self
      rcases List.mem_cons.mp m1 with z | z
      · exact z
      · rcases List.mem_cons.mp m2 with u | u
        · exact u.symm
        · have := b1 x z
          have := a1 y u
          omega
    subst e
    rw [rise_one (p.cons_inv) a2 b2]
/-- a chain of `less` holds the smallest numbers in order -/
theorem less_holds {k : Nat} {ns ms : List Int} (p : ms.Perm ns) (h : ms.Pairwise (· ≤ ·)) : (runR (List.replicate k Rule.less) (nones k) ns).2 = (ms.take k).map some ++ nones (k - ms.length) := by
  have e0 : heldL k [] = nones k := by
    unfold heldL
    simp
  have r := run_less k ns []
  rw [e0] at r
  have q := sort_perm ns []
  rw [List.append_nil] at q
  rw [r, rise_one (q.trans p.symm) (sort_rise ns [] List.Pairwise.nil) h]
  rfl
/-! ### opposite chains -/
def ng : Option Int → Option Int
  | none => none
  | some i => some (-i)
theorem keep_neg (r : Rule) (h c : Int) : r.neg.keep (-h) (-c) = (-(r.keep h c).1, -(r.keep h c).2) := by
  cases r with
  | first => rfl
  | last => rfl
  | less =>
    show (if -h < -c then (-c, -h) else (-h, -c)) = (-(if c < h then (c, h) else (h, c)).1, -(if c < h then (c, h) else (h, c)).2)
    by_cases e : c < h
    · rw [if_pos e, if_pos (by omega)]
    · rw [if_neg e, if_neg (by omega)]
  | greater =>
    show (if -c < -h then (-c, -h) else (-h, -c)) = (-(if h < c then (c, h) else (h, c)).1, -(if h < c then (c, h) else (h, c)).2)
    by_cases e : h < c
    · rw [if_pos e, if_pos (by omega)]
    · rw [if_neg e, if_neg (by omega)]
  | near m =>
    show (if absI (-c - -m) < absI (-h - -m) then (-c, -h) else (-h, -c)) = (-(if absI (c - m) < absI (h - m) then (c, h) else (h, c)).1, -(if absI (c - m) < absI (h - m) then (c, h) else (h, c)).2)
    have ab : ∀ i j : Int, absI (-i - -j) = absI (i - j) := fun i j => by
      unfold absI
      split <;> split <;> omega
    rw [ab, ab]
    by_cases e : absI (c - m) < absI (h - m)
    · rw [if_pos e, if_pos e]
    · rw [if_neg e, if_neg e]
theorem step_neg : ∀ (rs : List Rule) (hs : List (Option Int)) (c : Option Int), stepR (rs.map Rule.neg) (hs.map ng) (ng c) = ((stepR rs hs c).1.map ng, ng (stepR rs hs c).2)
  | [], hs, c => by
    rw [List.map_nil, step_nil, step_nil]
  | r :: rs, [], c => by
    cases c <;> (unfold stepR; rfl)
  | r :: rs, none :: hs, c => by
    rw [List.map_cons, List.map_cons, step_cn]
    show stepR (r.neg :: rs.map Rule.neg) (none :: hs.map ng) (ng c) = _
    rw [step_cn]
    rfl
  | r :: rs, some h :: hs, none => by
    show stepR _ _ none = _
    rw [step_none, step_none]
    rfl
  | r :: rs, some h :: hs, some c => by
    rw [List.map_cons, List.map_cons, step_cs]
    show stepR (r.neg :: rs.map Rule.neg) (some (-h) :: hs.map ng) (some (-c)) = _
    rw [step_cs, keep_neg]
    have ih := step_neg rs hs (some (r.keep h c).2)
    have ih : stepR (rs.map Rule.neg) (hs.map ng) (some (-(r.keep h c).2)) = _ := ih
    dsimp only
    rw [ih]
    rfl
theorem run_neg (rs : List Rule) : ∀ (ns : List Int) (hs : List (Option Int)), runR (rs.map Rule.neg) (hs.map ng) (ns.map fun z => -z) = ((runR rs hs ns).1.map ng, (runR rs hs ns).2.map ng)
  | [], hs => rfl
  | n :: ns, hs => by
    have s := step_neg rs hs (some n)
    have s : stepR (rs.map Rule.neg) (hs.map ng) (some (-n)) = _ := s
    show ((stepR (rs.map Rule.neg) (hs.map ng) (some (-n))).2 :: (runR (rs.map Rule.neg) (stepR (rs.map Rule.neg) (hs.map ng) (some (-n))).1 (ns.map fun z => -z)).1, (runR (rs.map Rule.neg) (stepR (rs.map Rule.neg) (hs.map ng) (some (-n))).1 (ns.map fun z => -z)).2) = _
    rw [s]
    dsimp only
    rw [run_neg rs ns]
    rfl
theorem nones_ng (n : Nat) : (nones n).map ng = nones n := by
  unfold nones
  rw [List.map_replicate]
  rfl
end SC
set_option maxRecDepth 100000
set_option maxHeartbeats 2000000
/-! # Part U: nothing is lost; `greater`, `last` and `first` -/
namespace SC
open PySem PySem.Spec PyProof.Rows L2 TL
/-! ### nothing is lost -/
def opL : Option Int → List Int
  | none => []
  | some i => [i]
def fl (os : List (Option Int)) : List Int := os.filterMap id
theorem fl_cons (o : Option Int) (os : List (Option Int)) : fl (o :: os) = opL o ++ fl os := by
  cases o <;> rfl
theorem fl_app (os ps : List (Option Int)) : fl (os ++ ps) = fl os ++ fl ps := List.filterMap_append
theorem keep_perm (r : Rule) (h c : Int) : [(r.keep h c).1, (r.keep h c).2].Perm [h, c] := by
  have key : r.keep h c = (h, c) ∨ r.keep h c = (c, h) := by
    cases r with
    | first => exact .inl rfl
    | last => exact .inr rfl
    | less =>
      by_cases e : c < h
      · exact .inr (if_pos e)
      · exact .inl (if_neg e)
    | greater =>
      by_cases e : h < c
      · exact .inr (if_pos e)
      · exact .inl (if_neg e)
    | near m =>
      by_cases e : absI (c - m) < absI (h - m)
      · exact .inr (if_pos e)
      · exact .inl (if_neg e)
  rcases key with e | e
  · rw [e]
  · rw [e]
    exact List.Perm.swap h c []
theorem step_perm : ∀ (rs : List Rule) (hs : List (Option Int)) (c : Option Int), (fl (stepR rs hs c).1 ++ opL (stepR rs hs c).2).Perm (fl hs ++ opL c)
  | [], hs, c => by
    rw [step_nil]
  | r :: rs, [], c => by
    have e : stepR (r :: rs) [] c = ([], c) := by cases c <;> (unfold stepR; rfl)
    rw [e]
  | r :: rs, none :: hs, c => by
    rw [step_cn, fl_cons, fl_cons]
    show (opL c ++ fl hs ++ []).Perm ([] ++ fl hs ++ opL c)
    rw [List.append_nil, List.nil_append]
    exact List.perm_append_comm
  | r :: rs, some h :: hs, none => by
    rw [step_none]
  | r :: rs, some h :: hs, some c => by
    rw [step_cs, fl_cons, fl_cons]
    have ih := step_perm rs hs (some (r.keep h c).2)
    show ((r.keep h c).1 :: (fl (stepR rs hs (some (r.keep h c).2)).1 ++ opL (stepR rs hs (some (r.keep h c).2)).2)).Perm (h :: (fl hs ++ [c]))
    refine (ih.cons _).trans ?_
    show ((r.keep h c).1 :: (fl hs ++ [(r.keep h c).2])).Perm (h :: (fl hs ++ [c]))
    have k := keep_perm r h c
    have a1 : ((r.keep h c).1 :: (fl hs ++ [(r.keep h c).2])).Perm ([(r.keep h c).1, (r.keep h c).2] ++ fl hs) := List.Perm.cons _ List.perm_append_comm
    have a2 : ([h, c] ++ fl hs).Perm (h :: (fl hs ++ [c])) := List.Perm.cons _ List.perm_append_comm
    exact (a1.trans (k.append_right _)).trans a2
theorem run_perm (rs : List Rule) : ∀ (ns : List Int) (hs : List (Option Int)), (fl (runR rs hs ns).1 ++ fl (runR rs hs ns).2).Perm (ns ++ fl hs)
  | [], hs => List.Perm.refl _
  | n :: ns, hs => by
    have s := step_perm rs hs (some n)
    have ih := run_perm rs ns (stepR rs hs (some n)).1
    show (fl ((stepR rs hs (some n)).2 :: (runR rs (stepR rs hs (some n)).1 ns).1) ++ fl (runR rs (stepR rs hs (some n)).1 ns).2).Perm (n :: ns ++ fl hs)
    rw [fl_cons, List.append_assoc]
    refine (ih.append_left _).trans ?_
    have b1 : (opL (stepR rs hs (some n)).2 ++ (ns ++ fl (stepR rs hs (some n)).1)).Perm (ns ++ (fl (stepR rs hs (some n)).1 ++ opL (stepR rs hs (some n)).2)) := by
      refine List.perm_append_comm.trans ?_
      rw [List.append_assoc]
    refine b1.trans ((s.append_left ns).trans ?_)
    show (ns ++ (fl hs ++ [n])).Perm (n :: (ns ++ fl hs))
    rw [← List.append_assoc]
    exact List.perm_append_comm
theorem fl_nones (n : Nat) : fl (nones n) = [] := by
  induction n with
  | zero => rfl
  | succ n ih =>
    show fl (none :: nones n) = []
    rw [fl_cons, ih]
    rfl
/-! ### greater -/
theorem neg_ng (os : List (Option Int)) : (os.map ng).map ng = os := by
  rw [List.map_map]
  have e : (ng ∘ ng) = id := funext fun o => by
    cases o with
    | none => rfl
    | some i => show some (- -i) = some i; rw [Int.neg_neg]
  rw [e, List.map_id]
theorem greater_holds {k : Nat} {ns ms : List Int} (p : ms.Perm ns) (h : ms.Pairwise (· ≤ ·)) : (runR (List.replicate k Rule.greater) (nones k) ns).2 = (ms.reverse.take k).map some ++ nones (k - ms.length) := by
  have e1 : (List.replicate k Rule.greater).map Rule.neg = List.replicate k Rule.less := by
    rw [List.map_replicate]
    rfl
  have r := run_neg (List.replicate k Rule.greater) ns (nones k)
  rw [e1, nones_ng] at r
  have pm : (ms.reverse.map fun z => -z).Perm (ns.map fun z => -z) := ((List.reverse_perm ms).trans p).map _
  have hm : (ms.reverse.map fun z => -z).Pairwise (· ≤ ·) := by
    rw [List.pairwise_map, List.pairwise_reverse]
    exact h.imp fun hab => by omega
  have l := less_holds (k := k) pm hm
  rw [r] at l
  have l2 := congrArg (List.map ng) l
  rw [neg_ng] at l2
  rw [l2, List.map_append, nones_ng, ← List.map_take, List.map_map, List.map_map, List.length_map, List.length_reverse]
  congr 1
  refine List.map_congr_left fun z _ => ?_
  show some (- -z) = some z
  rw [Int.neg_neg]
/-! ### last -/
theorem step_last : ∀ (k : Nat) (xs : List Int) (c : Int), 0 < k → stepR (List.replicate k Rule.last) (heldL k xs) (some c) = (heldL k (c :: xs), xs[k - 1]?)
  | 0, _, _, h => by omega
  | k + 1, [], c, _ => by
    have e1 : heldL (k + 1) [] = none :: nones k := rfl
    rw [e1, List.replicate_succ, step_cn]
    unfold heldL
    simp
  | 1, x :: xs, c, _ => by
    have e1 : heldL 1 (x :: xs) = [some x] := by
      unfold heldL
      simp [nones]
    have e2 : heldL 1 (c :: x :: xs) = [some c] := by
      unfold heldL
      simp [nones]
    rw [e1, e2, List.replicate_succ, step_cs]
    show (some c :: (stepR [] [] (some x)).1, (stepR [] [] (some x)).2) = _
    rw [step_nil]
    rfl
  | k + 2, x :: xs, c, _ => by
    have e1 : ∀ ys : List Int, heldL (k + 2) (x :: ys) = some x :: heldL (k + 1) ys := fun ys => by
      unfold heldL
      rw [List.take_succ_cons, List.length_cons, show k + 2 - (ys.length + 1) = k + 1 - ys.length by omega]
      rfl
    have e2 : heldL (k + 2) (c :: x :: xs) = some c :: heldL (k + 1) (x :: xs) := by
      unfold heldL
      rw [List.take_succ_cons, List.length_cons (a := c), show k + 2 - ((x :: xs).length + 1) = k + 1 - (x :: xs).length by omega]
      rfl
    rw [e1, e2, List.replicate_succ, step_cs]
    show (some c :: (stepR (List.replicate (k + 1) Rule.last) (heldL (k + 1) xs) (some x)).1, (stepR (List.replicate (k + 1) Rule.last) (heldL (k + 1) xs) (some x)).2) = _
    rw [step_last (k + 1) xs x (by omega)]
    rfl
theorem heldL_nil (k : Nat) : heldL k [] = nones k := by
  unfold heldL
  simp
theorem run_last {k : Nat} (hk : 0 < k) : ∀ (m : Nat) (ns : List Int), ns.length = m → runR (List.replicate k Rule.last) (nones k) ns = (nones (min k ns.length) ++ (ns.take (ns.length - k)).map some, heldL k ns.reverse)
  | 0, ns, e => by
    have : ns = [] := List.eq_nil_of_length_eq_zero e
    subst this
    show (([] : List (Option Int)), nones k) = _
    rw [List.reverse_nil, heldL_nil]
    simp [nones]
  | m + 1, ns, e => by
    have hne : ns ≠ [] := fun z => by
      rw [z] at e
      simp at e
    have es : ns = ns.dropLast ++ [ns.getLast hne] := (List.dropLast_concat_getLast hne).symm
    generalize hd : ns.dropLast = ds at es
    generalize ns.getLast hne = c at es
    have ld : ds.length = m := by
      rw [← hd, List.length_dropLast, e]
      rfl
    subst es
    rw [run_app, run_last hk m ds ld]
    show (_ ++ [(stepR (List.replicate k Rule.last) (heldL k ds.reverse) (some c)).2], (stepR (List.replicate k Rule.last) (heldL k ds.reverse) (some c)).1) = _
    rw [step_last k ds.reverse c hk]
    have e2 : (ds ++ [c]).reverse = c :: ds.reverse := by simp
    rw [e2]
    congr 1
    show nones (min k ds.length) ++ (ds.take (ds.length - k)).map some ++ [ds.reverse[k - 1]?] = nones (min k (ds ++ [c]).length) ++ ((ds ++ [c]).take ((ds ++ [c]).length - k)).map some
    rw [List.length_append, List.length_singleton]
    by_cases hlt : ds.length < k
    · have a1 : ds.reverse[k - 1]? = none := List.getElem?_eq_none (by rw [List.length_reverse]; omega)
      rw [a1, show ds.length - k = 0 by omega, show ds.length + 1 - k = 0 by omega, List.take_zero, List.take_zero, Nat.min_eq_right (by omega), Nat.min_eq_right (by omega), nones_add]
      simp [nones]
    · have hk1 : ds.length - k < ds.length := by omega
      have a1 : ds.reverse[k - 1]? = some ds[ds.length - k] := by
        rw [List.getElem?_reverse (by omega), show ds.length - 1 - (k - 1) = ds.length - k by omega, List.getElem?_eq_getElem hk1]
      rw [a1, show ds.length + 1 - k = (ds.length - k) + 1 by omega, Nat.min_eq_left (by omega), Nat.min_eq_left (by omega), List.append_assoc]
      congr 1
      rw [List.take_append_of_le_length (by omega), take_more (List.getElem?_eq_getElem hk1), List.map_append]
      rfl
end SC
set_option maxRecDepth 100000
set_option maxHeartbeats 2000000
/-! # Part V: what laws over rows share (K31Law has its own copy of these) -/
namespace SC
open PySem PySem.Spec PyProof.Rows L2 TL
/-- what a row gave: a pair of a list and a tuple -/
def Res (H : Hp) (p : Addr) (rs : List Rule) (ns : List Int) : Prop := ∃ o h : Addr, H p = some (.tup [.ref o, .ref h]) ∧ H o = some (.lst ((runR rs (nones rs.length) ns).1.map ov)) ∧ H h = some (.tup ((runR rs (nones rs.length) ns).2.map ov))
theorem Res.same {H H' : Hp} {p : Addr} {rs : List Rule} {ns : List Int} (r : Res H p rs ns) (s : Same H H') : Res H' p rs ns := by
  obtain ⟨o, h, h1, h2, h3⟩ := r
  exact ⟨o, h, s _ _ h1, s _ _ h2, s _ _ h3⟩
theorem rep_flat {α : Type} (z : α) : ∀ m : Nat, (List.replicate m [z]).flatten = List.replicate m z
  | 0 => rfl
  | m + 1 => by
    rw [List.replicate_succ, List.replicate_succ, List.flatten_cons, rep_flat z m]
    rfl
theorem cut_take (xs : List V) (n : Nat) : cutV xs none (some (n : Int)) = xs.take n := by
  unfold cutV
  rw [HT.sIx_none, HT.sIx_nat, List.drop_zero, Nat.sub_zero, List.take_eq_take_iff]
  omega
theorem ChainAt.ins {X : Cx} {K : PySem.W.Frag} {H : Hp} {c : Addr} {rs : List Rule} (k : ChainAt K H c rs) : StX.InsC X H c (ChC K) := by
  obtain ⟨dx, t, as, h, _⟩ := k
  exact .inr ⟨dx, _, h⟩
theorem filter_take {os : List (Option Int)} {i : Nat} {z : Option Int} (h : os[i]? = some z) : ((os.take (i + 1)).filterMap id) = (os.take i).filterMap id ++ (match z with | some x => [x] | none => []) := by
  rw [take_more h, List.filterMap_append]
  cases z <;> rfl
/-- the shape of what comes out: first nothing, then all -/
theorem outs_shape (rs : List Rule) (ns : List Int) : ∃ ds : List Int, (runR rs (nones rs.length) ns).1 = nones (min rs.length ns.length) ++ ds.map some ∧ ds.length = ns.length - rs.length := run_shape rs ns [] rs.length (by simp)
theorem outs_take (rs : List Rule) (ns : List Int) : (runR rs (nones rs.length) ns).1.take rs.length = nones (min rs.length ns.length) := by
  obtain ⟨ds, e1, e2⟩ := outs_shape rs ns
  rw [e1]
  by_cases h : rs.length ≤ ns.length
  · rw [Nat.min_eq_left h, List.take_append_of_le_length (by rw [nones_len]; omega), List.take_of_length_le (by rw [nones_len]; omega)]
  · have e3 : ds = [] := List.eq_nil_of_length_eq_zero (by omega)
    subst e3
    rw [Nat.min_eq_right (by omega), List.map_nil, List.append_nil, List.take_of_length_le (by rw [nones_len]; omega)]
theorem outs_drop (rs : List Rule) (ns : List Int) : ∃ ds : List Int, (runR rs (nones rs.length) ns).1.drop rs.length = ds.map some := by
  obtain ⟨ds, e1, e2⟩ := outs_shape rs ns
  rw [e1]
  by_cases h : rs.length ≤ ns.length
  · refine ⟨ds, ?_⟩
    rw [Nat.min_eq_left h]
    have := List.drop_left (l₁ := nones rs.length) (l₂ := ds.map some)
    rw [nones_len] at this
    exact this
  · have e3 : ds = [] := List.eq_nil_of_length_eq_zero (by omega)
    subst e3
    refine ⟨[], ?_⟩
    rw [List.map_nil, List.append_nil, List.drop_of_length_le (by rw [nones_len]; omega)]
end SC
set_option maxRecDepth 100000
set_option maxHeartbeats 2000000
/-! # Part X: data. What stands in the heap, as one value; readings of expressions that only look and make new things -/
namespace SC
open PySem PySem.Spec PyProof.Rows L2 TL
inductive D where
  | non | bl (b : Bool) | int (i : Int) | str (s : Str) | lst (l : List D) | tup (l : List D) | chain (rs : List Rule) | cell (r : Rule)
mutual
def Rp (K : PySem.W.Frag) (H : Hp) : D → V → Prop
  | .non, v => v = .non
  | .bl b, v => v = .bl b
  | .int i, v => v = .int i
  | .str s, v => v = .str s
  | .lst l, v => ∃ a vs, v = .ref a ∧ H a = some (.lst vs) ∧ RpL K H l vs
  | .tup l, v => ∃ a vs, v = .ref a ∧ H a = some (.tup vs) ∧ RpL K H l vs
  | .chain rs, v => ∃ a, v = .ref a ∧ ChainAt K H a rs
  | .cell r, v => ∃ a, v = .ref a ∧ CellAt K H a r
def RpL (K : PySem.W.Frag) (H : Hp) : List D → List V → Prop
  | [], vs => vs = []
  | d :: ds, vs => ∃ v vs', vs = v :: vs' ∧ Rp K H d v ∧ RpL K H ds vs'
end
section
variable {K : PySem.W.Frag} {H H' : Hp}
mutual
theorem Rp.same (s : Same H H') : ∀ (d : D) {v : V}, Rp K H d v → Rp K H' d v
  | .non, _, h => h
  | .bl _, _, h => h
  | .int _, _, h => h
  | .str _, _, h => h
  | .lst l, _, h => by
    obtain ⟨a, vs, h1, h2, h3⟩ := h
    exact ⟨a, vs, h1, s _ _ h2, RpL.same s l h3⟩
  | .tup l, _, h => by
    obtain ⟨a, vs, h1, h2, h3⟩ := h
    exact ⟨a, vs, h1, s _ _ h2, RpL.same s l h3⟩
  | .chain rs, _, h => by
    obtain ⟨a, h1, h2⟩ := h
    exact ⟨a, h1, h2.same s⟩
  | .cell r, _, h => by
    obtain ⟨a, h1, h2⟩ := h
    exact ⟨a, h1, h2.same s⟩
theorem RpL.same (s : Same H H') : ∀ (l : List D) {vs : List V}, RpL K H l vs → RpL K H' l vs
  | [], _, h => h
  | d :: ds, _, h => by
    obtain ⟨v, vs', h1, h2, h3⟩ := h
    exact ⟨v, vs', h1, Rp.same s d h2, RpL.same s ds h3⟩
end
theorem RpL.len : ∀ {l : List D} {vs : List V}, RpL K H l vs → vs.length = l.length
  | [], _, h => by cases h; rfl
  | d :: ds, _, h => by
    obtain ⟨v, vs', rfl, h2, h3⟩ := h
    rw [List.length_cons, List.length_cons, h3.len]
theorem RpL.get : ∀ {l : List D} {vs : List V} {i : Nat} {d : D}, RpL K H l vs → l[i]? = some d → ∃ v, vs[i]? = some v ∧ Rp K H d v
  | [], _, _, _, _, e => by simp at e
  | d :: ds, _, 0, _, h, e => by
    obtain ⟨v, vs', rfl, h2, h3⟩ := h
    simp at e
    subst e
    exact ⟨v, rfl, h2⟩
  | d :: ds, _, i + 1, x, h, e => by
    obtain ⟨v, vs', rfl, h2, h3⟩ := h
    obtain ⟨u, e1, e2⟩ := RpL.get (i := i) (d := x) h3 (by simpa using e)
    exact ⟨u, by simpa using e1, e2⟩
theorem RpL.get' {l : List D} {vs : List V} {i : Nat} {v : V} (h : RpL K H l vs) (e : vs[i]? = some v) : ∃ d, l[i]? = some d ∧ Rp K H d v := by
  have hi : i < l.length := by
    rw [← h.len]
    rcases Nat.lt_or_ge i vs.length with z | z
    · exact z
    · rw [List.getElem?_eq_none z] at e
      cases e
  obtain ⟨u, e1, e2⟩ := h.get (List.getElem?_eq_getElem hi)
  rw [e] at e1
  cases e1
  exact ⟨_, List.getElem?_eq_getElem hi, e2⟩
theorem RpL.app : ∀ {l m : List D} {vs us : List V}, RpL K H l vs → RpL K H m us → RpL K H (l ++ m) (vs ++ us)
  | [], _, _, _, h, g => by cases h; exact g
  | d :: ds, m, _, us, h, g => by
    obtain ⟨v, vs', rfl, h2, h3⟩ := h
    exact ⟨v, vs' ++ us, rfl, h2, h3.app g⟩
theorem RpL.one {d : D} {v : V} (h : Rp K H d v) : RpL K H [d] [v] := ⟨v, [], rfl, h, rfl⟩
theorem RpL.snoc {l : List D} {vs : List V} {d : D} {v : V} (h : RpL K H l vs) (g : Rp K H d v) : RpL K H (l ++ [d]) (vs ++ [v]) := h.app (.one g)
theorem RpL.drop : ∀ (n : Nat) {l : List D} {vs : List V}, RpL K H l vs → RpL K H (l.drop n) (vs.drop n)
  | 0, _, _, h => h
  | n + 1, [], _, h => by cases h; exact rfl
  | n + 1, d :: ds, _, h => by
    obtain ⟨v, vs', rfl, h2, h3⟩ := h
    exact h3.drop n
theorem RpL.take : ∀ (n : Nat) {l : List D} {vs : List V}, RpL K H l vs → RpL K H (l.take n) (vs.take n)
  | 0, l, vs, h => by rw [List.take_zero, List.take_zero]; exact rfl
  | n + 1, [], _, h => by cases h; exact rfl
  | n + 1, d :: ds, _, h => by
    obtain ⟨v, vs', rfl, h2, h3⟩ := h
    exact ⟨v, vs'.take n, rfl, h2, h3.take n⟩
theorem RpL.rev : ∀ {l : List D} {vs : List V}, RpL K H l vs → RpL K H l.reverse vs.reverse
  | [], _, h => by cases h; exact rfl
  | d :: ds, _, h => by
    obtain ⟨v, vs', rfl, h2, h3⟩ := h
    rw [List.reverse_cons, List.reverse_cons]
    exact h3.rev.snoc h2
theorem RpL.rep {l : List D} {vs : List V} (h : RpL K H l vs) : ∀ n : Nat, RpL K H (List.replicate n l).flatten (List.replicate n vs).flatten
  | 0 => rfl
  | n + 1 => by
    rw [List.replicate_succ, List.replicate_succ, List.flatten_cons, List.flatten_cons]
    exact h.app (RpL.rep h n)
/-- ints, texts, numbers or None -/
def dO : Option Int → D
  | none => .non
  | some i => .int i
theorem rp_dO {o : Option Int} {v : V} : Rp K H (dO o) v ↔ v = ov o := by
  cases o <;> exact Iff.rfl
theorem rp_ints : ∀ {ns : List Int} {vs : List V}, RpL K H (ns.map D.int) vs ↔ vs = ns.map V.int
  | [], vs => Iff.rfl
  | n :: ns, vs => by
    constructor
    · rintro ⟨v, vs', rfl, h2, h3⟩
      rw [rp_ints.mp h3]
      cases h2
      rfl
    · rintro rfl
      exact ⟨_, _, rfl, rfl, rp_ints.mpr rfl⟩
theorem rp_strs : ∀ {ns : List Str} {vs : List V}, RpL K H (ns.map D.str) vs ↔ vs = ns.map V.str
  | [], vs => Iff.rfl
  | n :: ns, vs => by
    constructor
    · rintro ⟨v, vs', rfl, h2, h3⟩
      rw [rp_strs.mp h3]
      cases h2
      rfl
    · rintro rfl
      exact ⟨_, _, rfl, rfl, rp_strs.mpr rfl⟩
theorem rp_opts : ∀ {ns : List (Option Int)} {vs : List V}, RpL K H (ns.map dO) vs ↔ vs = ns.map ov
  | [], vs => Iff.rfl
  | n :: ns, vs => by
    constructor
    · rintro ⟨v, vs', rfl, h2, h3⟩
      rw [rp_opts.mp h3, rp_dO.mp h2]
      rfl
    · rintro rfl
      exact ⟨_, _, rfl, rp_dO.mpr rfl, rp_opts.mpr rfl⟩
end
/-! ### what may change stands apart -/
def wo (M : List Addr) (H : Hp) : Hp := fun b => if b ∈ M then none else H b
/-- what may change: no tuple, no chain, no cell -/
def Mut (K : PySem.W.Frag) : HO → Prop
  | .tup _ => False
  | .ins C _ _ => C ≠ ChC K ∧ ∀ k : Kd, C ≠ He.ga K k.cn
  | _ => True
def Gd (K : PySem.W.Frag) (M : List Addr) (H : Hp) : Prop := ∀ m ∈ M, ∃ o, H m = some o ∧ Mut K o
section
variable {K : PySem.W.Frag} {M : List Addr} {H H1 H2 : Hp}
theorem wo_le : Same (wo M H) H := fun b o h => by
  unfold wo at h
  split at h
  · cases h
  · exact h
theorem wo_at {b : Addr} (h : b ∉ M) : wo M H b = H b := if_neg h
theorem wo_some {b : Addr} {o : HO} (h : wo M H b = some o) : b ∉ M ∧ H b = some o := by
  by_cases e : b ∈ M
  · unfold wo at h
    rw [if_pos e] at h
    cases h
  · rw [wo_at e] at h
    exact ⟨e, h⟩
theorem swo (s : Same H H1) : Same (wo M H) (wo M H1) := fun b o h => by
  obtain ⟨e, h⟩ := wo_some h
  rw [wo_at e]
  exact s _ _ h
theorem Gd.same (g : Gd K M H) (s : Same H H1) : Gd K M H1 := fun m hm => by
  obtain ⟨o, h1, h2⟩ := g m hm
  exact ⟨o, s _ _ h1, h2⟩
theorem Gd.out (g : Gd K M H) {p : Addr} (h : H p = none) : p ∉ M := fun hp => by
  obtain ⟨o, h1, _⟩ := g p hp
  rw [h] at h1
  cases h1
theorem Gd.nil : Gd K [] H := fun m hm => by cases hm
theorem Gd.cons {m : Addr} {o : HO} (g : Gd K M H) (h : H m = some o) (ho : Mut K o) : Gd K (m :: M) H := fun x hx => by
  rcases List.mem_cons.mp hx with rfl | hx
  · exact ⟨o, h, ho⟩
  · exact g x hx
theorem Gd.lst {m : Addr} {xs : List V} (g : Gd K M H) (h : H m = some (.lst xs)) : Gd K (m :: M) H := g.cons h trivial
theorem Gd.tl {m : Addr} (g : Gd K (m :: M) H) : Gd K M H := fun x hx => g x (List.mem_cons_of_mem _ hx)
theorem Gd.at {m : Addr} {o : HO} (g : Gd K M H) (ho : Mut K o) : Gd K M (upd H m o) := fun x hx => by
  by_cases e : x = m
  · rw [e]
    exact ⟨o, upd_same, ho⟩
  · rw [upd_ne e]
    exact g x hx
theorem cell_wo {a : Addr} {r : Rule} (g : Gd K M H) (c : CellAt K H a r) : CellAt K (wo M H) a r := by
  obtain ⟨h1, dx, h2⟩ := c
  refine ⟨h1, dx, ?_⟩
  rw [wo_at]
  · exact h2
  · intro hm
    obtain ⟨o, e1, e2⟩ := g a hm
    rw [h2] at e1
    cases e1
    exact e2.2 _ rfl
theorem chain_wo {a : Addr} {rs : List Rule} (g : Gd K M H) (c : ChainAt K H a rs) : ChainAt K (wo M H) a rs := by
  obtain ⟨dx, t, as, h1, h2, h3, h4⟩ := c
  refine ⟨dx, t, as, ?_, ?_, ⟨h3.1, fun i b r e1 e2 => cell_wo g (h3.2 i b r e1 e2)⟩, h4⟩
  · rw [wo_at]
    · exact h1
    · intro hm
      obtain ⟨o, e1, e2⟩ := g a hm
      rw [h1] at e1
      cases e1
      exact e2.1 rfl
  · rw [wo_at]
    · exact h2
    · intro hm
      obtain ⟨o, e1, e2⟩ := g t hm
      rw [h2] at e1
      cases e1
      exact e2
theorem wo_upd {m : Addr} {o : HO} (h : m ∈ M) : wo M (upd H m o) = wo M H := by
  funext b
  by_cases e : b ∈ M
  · unfold wo
    rw [if_pos e, if_pos e]
  · rw [wo_at e, wo_at e, upd_ne (fun z => e (by rw [z]; exact h))]
/-- all but what may change is as it was -/
def Fm (M : List Addr) (H H' : Hp) : Prop := Same (wo M H) (wo M H')
theorem Fm.of (s : Same H H1) : Fm M H H1 := (swo s)
theorem Fm.refl : Fm M H H := Same.refl _
theorem Fm.trans (a : Fm M H H1) (b : Fm M H1 H2) : Fm M H H2 := Same.trans a b
theorem Fm.at {m : Addr} {o : HO} (h : m ∈ M) : Fm M H (upd H m o) := by
  unfold Fm
  rw [wo_upd h]
  exact Same.refl _
theorem Fm.of1 {d : Addr} (h : d ∈ M) (f : Fr1 d H H1) : Fm M H H1 := fun b o e => by
  obtain ⟨e1, e2⟩ := wo_some e
  rw [wo_at e1]
  exact f b o e2 (fun z => e1 (by rw [z]; exact h))
theorem Rp.fm {d : D} {v : V} (r : Rp K (wo M H) d v) (f : Fm M H H1) : Rp K (wo M H1) d v := Rp.same f d r
theorem Rp.here {d : D} {v : V} (r : Rp K (wo M H) d v) : Rp K H d v := Rp.same wo_le d r
theorem wo_sub {N : List Addr} (h : ∀ x ∈ N, x ∈ M) : Same (wo M H) (wo N H) := fun b o e => by
  obtain ⟨e1, e2⟩ := wo_some e
  rw [wo_at (fun z => e1 (h b z))]
  exact e2
end
/-! ### readings that give one value -/
def Rd (K : PySem.W.Frag) (M : List Addr) (t : TE) (σ : L2.St) (H : Hp) (d : D) : Prop :=
  ∀ H1, Same H H1 → Gd K M H1 → ∀ Q : VK, (∀ v H2, Same H1 H2 → Gd K M H2 → Rp K (wo M H2) d v → Q v H2) → t σ H1 Q
def RdA (K : PySem.W.Frag) (M : List Addr) (t : TA) (σ : L2.St) (H : Hp) (ds : List D) : Prop :=
  ∀ H1, Same H H1 → Gd K M H1 → ∀ Q : List V → Hp → Prop, (∀ vs H2, Same H1 H2 → Gd K M H2 → RpL K (wo M H2) ds vs → Q vs H2) → t σ H1 Q
def RdT (K : PySem.W.Frag) (M : List Addr) (t : TT) (σ : L2.St) (H : Hp) (b : Bool) : Prop :=
  ∀ H1, Same H H1 → Gd K M H1 → ∀ Q : Bool → Hp → Prop, (∀ H2, Same H1 H2 → Gd K M H2 → Q b H2) → t σ H1 Q
def RdO (K : PySem.W.Frag) (M : List Addr) (t : TO) (σ : L2.St) (H : Hp) (o : Option Int) : Prop :=
  ∀ H1, Same H H1 → Gd K M H1 → ∀ Q : Option Int → Hp → Prop, (∀ H2, Same H1 H2 → Gd K M H2 → Q o H2) → t σ H1 Q
section
variable {K : PySem.W.Frag} {M : List Addr} {σ : L2.St} {H : Hp} {t ta tb tc : TE} {d da db : D}
theorem Rd.up (h : Rd K M t σ H d) {H' : Hp} (s : Same H H') : Rd K M t σ H' d := fun H1 s1 => h H1 (s.trans s1)
theorem RdT.up {t : TT} {b : Bool} (h : RdT K M t σ H b) {H' : Hp} (s : Same H H') : RdT K M t σ H' b := fun H1 s1 => h H1 (s.trans s1)
theorem rd_var {i : Nat} {v : V} (e : σ[i]? = some (some v)) (r : Rp K (wo M H) d v) : Rd K M (tVar i) σ H d := fun H1 s1 g Q k => ⟨v, e, k v H1 (Same.refl _) g (Rp.same (swo s1) d r)⟩
theorem rd_int {i : Int} : Rd K M (tC (.int i)) σ H (.int i) := fun H1 s1 g Q k => k _ H1 (Same.refl _) g rfl
theorem rd_str {s : Str} : Rd K M (tC (.str s)) σ H (.str s) := fun H1 s1 g Q k => k _ H1 (Same.refl _) g rfl
theorem rd_bl {b : Bool} : Rd K M (tC (.bl b)) σ H (.bl b) := fun H1 s1 g Q k => k _ H1 (Same.refl _) g rfl
theorem rd_non : Rd K M (tC .non) σ H .non := fun H1 s1 g Q k => k _ H1 (Same.refl _) g rfl
/-- two parts, then what is made of them -/
theorem rd_op {r : R2} (ha : Rd K M ta σ H da) (hb : Rd K M tb σ H db) (hr : ∀ x y H1 Q, Gd K M H1 → Rp K (wo M H1) da x → Rp K (wo M H1) db y → (∀ v H2, Same H1 H2 → Gd K M H2 → Rp K (wo M H2) d v → Q v H2) → r x y H1 Q) : Rd K M (tOp r ta tb) σ H d :=
  fun H1 s1 g Q k => ha H1 s1 g _ fun x H2 s2 g2 rx => hb H2 (s1.trans s2) g2 _ fun y H3 s3 g3 ry => hr x y H3 Q g3 (Rp.same (swo s3) da rx) ry fun v H4 s4 g4 r4 => k v H4 ((s2.trans s3).trans s4) g4 r4
theorem rd_cb {r : List V → Hp → VK → Prop} {t : TA} {ds : List D} (ha : RdA K M t σ H ds) (hr : ∀ xs H1 Q, Gd K M H1 → RpL K (wo M H1) ds xs → (∀ v H2, Same H1 H2 → Gd K M H2 → Rp K (wo M H2) d v → Q v H2) → r xs H1 Q) : Rd K M (tCB r t) σ H d :=
  fun H1 s1 g Q k => ha H1 s1 g _ fun xs H2 s2 g2 rx => hr xs H2 Q g2 rx fun v H3 s3 g3 r3 => k v H3 (s2.trans s3) g3 r3
theorem rda_nil : RdA K M tNil σ H [] := fun H1 s1 g Q k => k [] H1 (Same.refl _) g rfl
theorem rda_cons {t : TE} {u : TA} {ds : List D} (h : Rd K M t σ H d) (hu : RdA K M u σ H ds) : RdA K M (tCons t u) σ H (d :: ds) :=
  fun H1 s1 g Q k => h H1 s1 g _ fun v H2 s2 g2 r2 => hu H2 (s1.trans s2) g2 _ fun vs H3 s3 g3 r3 => k (v :: vs) H3 (s2.trans s3) g3 ⟨v, vs, rfl, Rp.same (swo s3) d r2, r3⟩
theorem rda_one (h : Rd K M t σ H d) : RdA K M (tCons t tNil) σ H [d] := rda_cons h rda_nil
theorem rda_two {u : TE} {e : D} (h : Rd K M t σ H d) (hu : Rd K M u σ H e) : RdA K M (tCons t (tCons u tNil)) σ H [d, e] := rda_cons h (rda_one hu)
/-- a new object -/
theorem new_lst {H1 : Hp} {Q : VK} {l : List D} {vs : List V} {p : Addr} (g : Gd K M H1) (hp : H1 p = none) (r : RpL K (wo M H1) l vs) (k : ∀ v H2, Same H1 H2 → Gd K M H2 → Rp K (wo M H2) (.lst l) v → Q v H2) : Q (.ref p) (upd H1 p (.lst vs)) := by
  have s : Same H1 (upd H1 p (.lst vs)) := same_new hp
  refine k _ _ s (g.same s) ⟨p, vs, rfl, ?_, RpL.same (swo s) l r⟩
  rw [wo_at (g.out hp), upd_same]
theorem new_tup {H1 : Hp} {Q : VK} {l : List D} {vs : List V} {p : Addr} (g : Gd K M H1) (hp : H1 p = none) (r : RpL K (wo M H1) l vs) (k : ∀ v H2, Same H1 H2 → Gd K M H2 → Rp K (wo M H2) (.tup l) v → Q v H2) : Q (.ref p) (upd H1 p (.tup vs)) := by
  have s : Same H1 (upd H1 p (.tup vs)) := same_new hp
  refine k _ _ s (g.same s) ⟨p, vs, rfl, ?_, RpL.same (swo s) l r⟩
  rw [wo_at (g.out hp), upd_same]
theorem rd_i0 {f : Int → Int → V} {i j : Int} (hf : ∀ H v, v = f i j → Rp K H d v) (ha : Rd K M ta σ H (.int i)) (hb : Rd K M tb σ H (.int j)) : Rd K M (tOp (rI0 f) ta tb) σ H d :=
  rd_op ha hb fun x y H1 Q g hx hy k => ⟨i, j, hx, hy, k _ H1 (Same.refl _) g (hf _ _ rfl)⟩
theorem rd_add {i j : Int} (ha : Rd K M ta σ H (.int i)) (hb : Rd K M tb σ H (.int j)) : Rd K M (tOp (rI0 fun i j => .int (i + j)) ta tb) σ H (.int (i + j)) := rd_i0 (fun _ _ e => e) ha hb
theorem rd_sub {i j : Int} (ha : Rd K M ta σ H (.int i)) (hb : Rd K M tb σ H (.int j)) : Rd K M (tOp (rI0 fun i j => .int (i - j)) ta tb) σ H (.int (i - j)) := rd_i0 (fun _ _ e => e) ha hb
theorem rd_lt {i j : Int} (ha : Rd K M ta σ H (.int i)) (hb : Rd K M tb σ H (.int j)) : Rd K M (tOp (rI0 fun i j => .bl (decide (i < j))) ta tb) σ H (.bl (decide (i < j))) := rd_i0 (fun _ _ e => e) ha hb
theorem rd_le {i j : Int} (ha : Rd K M ta σ H (.int i)) (hb : Rd K M tb σ H (.int j)) : Rd K M (tOp (rI0 fun i j => .bl (decide (i ≤ j))) ta tb) σ H (.bl (decide (i ≤ j))) := rd_i0 (fun _ _ e => e) ha hb
theorem rd_gt {i j : Int} (ha : Rd K M ta σ H (.int i)) (hb : Rd K M tb σ H (.int j)) : Rd K M (tOp (rI0 fun i j => .bl (decide (j < i))) ta tb) σ H (.bl (decide (j < i))) := rd_i0 (fun _ _ e => e) ha hb
theorem rd_ge {i j : Int} (ha : Rd K M ta σ H (.int i)) (hb : Rd K M tb σ H (.int j)) : Rd K M (tOp (rI0 fun i j => .bl (decide (j ≤ i))) ta tb) σ H (.bl (decide (j ≤ i))) := rd_i0 (fun _ _ e => e) ha hb
theorem rd_rI {C : Int → Int → Prop} {f : Int → Int → V} {i j : Int} (hc : C i j) (hf : ∀ H v, v = f i j → Rp K H d v) (ha : Rd K M ta σ H (.int i)) (hb : Rd K M tb σ H (.int j)) : Rd K M (tOp (rI C f) ta tb) σ H d :=
  rd_op ha hb fun x y H1 Q g hx hy k => ⟨i, j, hx, hy, hc, k _ H1 (Same.refl _) g (hf _ _ rfl)⟩
theorem rd_mul {i j : Int} (hc : CMul i j) (ha : Rd K M ta σ H (.int i)) (hb : Rd K M tb σ H (.int j)) : Rd K M (tOp (rI CMul fun i j => .int (i * j)) ta tb) σ H (.int (i * j)) := rd_rI hc (fun _ _ e => e) ha hb
theorem rd_pow {i j : Int} (hc : CPow i j) (ha : Rd K M ta σ H (.int i)) (hb : Rd K M tb σ H (.int j)) : Rd K M (tOp (rI CPow fun i j => .int (i ^ j.toNat)) ta tb) σ H (.int (i ^ j.toNat)) := rd_rI hc (fun _ _ e => e) ha hb
theorem rd_mod {i j : Int} (hc : 0 < j) (ha : Rd K M ta σ H (.int i)) (hb : Rd K M tb σ H (.int j)) : Rd K M (tOp (rI (fun _ j => 0 < j) fun i j => .int (i % j)) ta tb) σ H (.int (i % j)) := rd_rI hc (fun _ _ e => e) ha hb
theorem rd_eqF (hf : ∀ H x y, Rp K H da x → Rp K H db y → flatV x = true ∧ flatV y = true) {b : Bool} (h : ∀ H x y, Rp K H da x → Rp K H db y → ∀ H1 Q, Q (.bl b) H1 → rEq x y H1 Q) (ha : Rd K M ta σ H da) (hb : Rd K M tb σ H db) : Rd K M (tOp rEq ta tb) σ H (.bl b) :=
  rd_op ha hb fun x y H1 Q g hx hy k => h _ x y hx hy H1 Q (k _ H1 (Same.refl _) g rfl)
/-- lists -/
theorem rd_cat {l m : List D} (hl : l.length + m.length ≤ sizeLine) (ha : Rd K M ta σ H (.lst l)) (hb : Rd K M tb σ H (.lst m)) : Rd K M (tOp rCat ta tb) σ H (.lst (l ++ m)) :=
  rd_op ha hb fun x y H1 Q g hx hy k => by
    obtain ⟨a, vs, rfl, h1, r1⟩ := hx
    obtain ⟨b, us, rfl, h2, r2⟩ := hy
    refine ⟨a, b, vs, us, rfl, rfl, wo_le _ _ h1, wo_le _ _ h2, by rw [r1.len, r2.len]; exact hl, fun p hp => new_lst g hp (r1.app r2) k⟩
theorem rd_rep {l : List D} {n : Int} (h1 : -(2 ^ 63) ≤ n) (h2 : n < 2 ^ 63) (hl : l.length * n.toNat ≤ sizeLine) (ha : Rd K M ta σ H (.lst l)) (hb : Rd K M tb σ H (.int n)) : Rd K M (tOp rRep ta tb) σ H (.lst (List.replicate n.toNat l).flatten) :=
  rd_op ha hb fun x y H1 Q g hx hy k => by
    obtain ⟨a, vs, rfl, e1, r1⟩ := hx
    exact ⟨a, n, vs, rfl, hy, wo_le _ _ e1, h1, h2, by rw [r1.len]; exact hl, fun p hp => new_lst g hp (r1.rep _) k⟩
theorem rd_lst {t : TA} {ds : List D} (hl : ds.length ≤ sizeLine) (h : RdA K M t σ H ds) : Rd K M (tLst t) σ H (.lst ds) :=
  fun H1 s1 g Q k => h H1 s1 g _ fun vs H2 s2 g2 r2 => ⟨by rw [r2.len]; exact hl, fun p hp => new_lst g2 hp r2 fun v H3 s3 => k v H3 (s2.trans s3)⟩
theorem rd_tup {t : TA} {ds : List D} (hl : ds.length ≤ sizeLine) (h : RdA K M t σ H ds) : Rd K M (tTup t) σ H (.tup ds) :=
  fun H1 s1 g Q k => h H1 s1 g _ fun vs H2 s2 g2 r2 => ⟨by rw [r2.len]; exact hl, fun p hp => new_tup g2 hp r2 fun v H3 s3 => k v H3 (s2.trans s3)⟩
theorem rd_ixL {l : List D} {i : Int} (hi : atI l i = some d) (ha : Rd K M ta σ H (.lst l)) (hb : Rd K M tb σ H (.int i)) : Rd K M (tOp (rIxL K) ta tb) σ H d :=
  rd_op ha hb fun x y H1 Q g hx hy k => by
    obtain ⟨a, vs, rfl, e1, r1⟩ := hx
    unfold atI at hi
    cases e : ixN l.length i with
    | none => rw [e] at hi; cases hi
    | some j =>
      rw [e] at hi
      obtain ⟨v, ev, rv⟩ := r1.get hi
      refine ⟨a, vs, i, v, rfl, hy, SqL.of (wo_le _ _ e1), ?_, k v H1 (Same.refl _) g rv⟩
      unfold atI
      rw [r1.len, e]
      exact ev
theorem rd_ixT {l : List D} {i : Int} (hi : atI l i = some d) (ha : Rd K M ta σ H (.tup l)) (hb : Rd K M tb σ H (.int i)) : Rd K M (tOp (rIxT K) ta tb) σ H d :=
  rd_op ha hb fun x y H1 Q g hx hy k => by
    obtain ⟨a, vs, rfl, e1, r1⟩ := hx
    unfold atI at hi
    cases e : ixN l.length i with
    | none => rw [e] at hi; cases hi
    | some j =>
      rw [e] at hi
      obtain ⟨v, ev, rv⟩ := r1.get hi
      refine ⟨a, vs, i, v, rfl, hy, SqT.of (wo_le _ _ e1), ?_, k v H1 (Same.refl _) g rv⟩
      unfold atI
      rw [r1.len, e]
      exact ev
/-- parts of a list -/
def cutD (l : List D) (lo hi : Option Int) : List D := (l.drop (HT.sIx l.length 0 lo)).take (HT.sIx l.length l.length hi - HT.sIx l.length 0 lo)
theorem RpL.cut {l : List D} {vs : List V} {lo hi : Option Int} (h : RpL K H l vs) : RpL K H (cutD l lo hi) (cutV vs lo hi) := by
  unfold cutD cutV
  rw [h.len]
  exact (h.drop _).take _
theorem rdo_none : RdO K M tNoPart σ H none := fun H1 s1 g Q k => k H1 (Same.refl _) g
theorem rdo_some {i : Int} (h : Rd K M t σ H (.int i)) : RdO K M (tPart t) σ H (some i) := fun H1 s1 g Q k => h H1 s1 g _ fun v H2 s2 g2 r2 => ⟨i, r2, k H2 s2 g2⟩
theorem rd_slL {l : List D} {tl th : TO} {lo hi : Option Int} (ha : Rd K M ta σ H (.lst l)) (h1 : RdO K M tl σ H lo) (h2 : RdO K M th σ H hi) : Rd K M (tSl (rSlL K) ta tl th) σ H (.lst (cutD l lo hi)) :=
  fun H1 s1 g Q k => ha H1 s1 g _ fun x H2 s2 g2 rx => h1 H2 (s1.trans s2) g2 _ fun H3 s3 g3 => h2 H3 ((s1.trans s2).trans s3) g3 _ fun H4 s4 g4 => by
    obtain ⟨a, vs, rfl, e1, r1⟩ := Rp.same (swo (s3.trans s4)) _ rx
    exact ⟨a, vs, rfl, SqL.of (wo_le _ _ e1), fun p hp => new_lst g4 hp r1.cut fun v H5 s5 => k v H5 (((s2.trans s3).trans s4).trans s5)⟩
theorem rd_slT {l : List D} {tl th : TO} {lo hi : Option Int} (ha : Rd K M ta σ H (.tup l)) (h1 : RdO K M tl σ H lo) (h2 : RdO K M th σ H hi) : Rd K M (tSl (rSlA K) ta tl th) σ H (.tup (cutD l lo hi)) :=
  fun H1 s1 g Q k => ha H1 s1 g _ fun x H2 s2 g2 rx => h1 H2 (s1.trans s2) g2 _ fun H3 s3 g3 => h2 H3 ((s1.trans s2).trans s3) g3 _ fun H4 s4 g4 => by
    obtain ⟨a, vs, rfl, e1, r1⟩ := Rp.same (swo (s3.trans s4)) _ rx
    refine ⟨a, vs, rfl, SqT.of (wo_le _ _ e1), fun z => k _ H4 ((s2.trans s3).trans s4) g4 ⟨a, vs, rfl, e1, ?_⟩, fun _ p hp => new_tup g4 hp r1.cut fun v H5 s5 => k v H5 (((s2.trans s3).trans s4).trans s5)⟩
    have e : cutV vs lo hi = vs := by
      unfold cutV
      rw [z.1, z.2, List.drop_zero, Nat.sub_zero, List.take_length]
    have r2 := r1.cut (lo := lo) (hi := hi)
    rw [e] at r2
    exact r2
theorem cut_to (l : List D) (n : Nat) : cutD l none (some (n : Int)) = l.take n := by
  unfold cutD
  rw [HT.sIx_none, HT.sIx_nat, List.drop_zero, Nat.sub_zero, List.take_eq_take_iff]
  omega
theorem cut_from (l : List D) (n : Nat) : cutD l (some (n : Int)) none = l.drop n := by
  unfold cutD
  rw [HT.sIx_none, HT.sIx_nat]
  by_cases h : n ≤ l.length
  · rw [Nat.min_eq_left h, List.take_of_length_le (by rw [List.length_drop]; omega)]
  · rw [Nat.min_eq_right (by omega), List.drop_of_length_le (Nat.le_refl _), List.drop_of_length_le (by omega)]
    simp
theorem rd_revL {l : List D} (ha : Rd K M ta σ H (.lst l)) : Rd K M (tRevL K ta) σ H (.lst l.reverse) :=
  fun H1 s1 g Q k => ha H1 s1 g _ fun x H2 s2 g2 rx => by
    obtain ⟨a, vs, rfl, e1, r1⟩ := rx
    exact ⟨a, vs, rfl, SqL.of (wo_le _ _ e1), fun p hp => new_lst g2 hp r1.rev fun v H5 s5 => k v H5 (s2.trans s5)⟩
theorem rd_catT {l m : List D} (hl : l.length + m.length ≤ sizeLine) (ha : Rd K M ta σ H (.tup l)) (hb : Rd K M tb σ H (.tup m)) : Rd K M (tOp (rCatA K) ta tb) σ H (.tup (l ++ m)) :=
  rd_op ha hb fun x y H1 Q g hx hy k => by
    obtain ⟨a, vs, rfl, h1, r1⟩ := hx
    obtain ⟨b, us, rfl, h2, r2⟩ := hy
    refine ⟨a, b, vs, us, rfl, rfl, SqT.of (wo_le _ _ h1), SqT.of (wo_le _ _ h2), by rw [r1.len, r2.len]; exact hl, fun e => ?_, fun _ e => ?_, fun _ _ p hp => new_tup g hp (r1.app r2) k⟩
    · refine k _ H1 (Same.refl _) g ⟨b, us, rfl, h2, ?_⟩
      have z := r1.app r2
      rw [e, List.nil_append] at z
      exact z
    · refine k _ H1 (Same.refl _) g ⟨a, vs, rfl, h1, ?_⟩
      have z := r1.app r2
      rw [e, List.append_nil] at z
      exact z
/-- calls of built-ins -/
theorem rp1 {ds : D} {xs : List V} (h : RpL K H [ds] xs) : ∃ v, xs = [v] ∧ Rp K H ds v := by
  obtain ⟨v, vs, rfl, h1, h2⟩ := h
  cases h2
  exact ⟨v, rfl, h1⟩
theorem rd_lenL {t : TA} {l : List D} (h : RdA K M t σ H [.lst l]) : Rd K M (tCB (fun xs H Q => ∃ p ys, xs = [.ref p] ∧ (SqL K H p ys ∨ SqT K H p ys) ∧ Q (.int ys.length) H) t) σ H (.int l.length) :=
  rd_cb h fun xs H1 Q g hx k => by
    obtain ⟨v, rfl, a, vs, rfl, e1, r1⟩ := rp1 hx
    exact ⟨a, vs, rfl, .inl (SqL.of (wo_le _ _ e1)), k _ H1 (Same.refl _) g (by rw [r1.len]; exact rfl)⟩
theorem rd_lenT {t : TA} {l : List D} (h : RdA K M t σ H [.tup l]) : Rd K M (tCB (fun xs H Q => ∃ p ys, xs = [.ref p] ∧ (SqL K H p ys ∨ SqT K H p ys) ∧ Q (.int ys.length) H) t) σ H (.int l.length) :=
  rd_cb h fun xs H1 Q g hx k => by
    obtain ⟨v, rfl, a, vs, rfl, e1, r1⟩ := rp1 hx
    exact ⟨a, vs, rfl, .inr (SqT.of (wo_le _ _ e1)), k _ H1 (Same.refl _) g (by rw [r1.len]; exact rfl)⟩
theorem rd_listL {t : TA} {l : List D} (h : RdA K M t σ H [.lst l]) : Rd K M (tCB (fun xs H Q => ∃ p ys, xs = [.ref p] ∧ (SqL K H p ys ∨ SqT K H p ys) ∧ ∀ l, H l = none → Q (.ref l) (upd H l (.lst ys))) t) σ H (.lst l) :=
  rd_cb h fun xs H1 Q g hx k => by
    obtain ⟨v, rfl, a, vs, rfl, e1, r1⟩ := rp1 hx
    exact ⟨a, vs, rfl, .inl (SqL.of (wo_le _ _ e1)), fun p hp => new_lst g hp r1 k⟩
theorem rd_listT {t : TA} {l : List D} (h : RdA K M t σ H [.tup l]) : Rd K M (tCB (fun xs H Q => ∃ p ys, xs = [.ref p] ∧ (SqL K H p ys ∨ SqT K H p ys) ∧ ∀ l, H l = none → Q (.ref l) (upd H l (.lst ys))) t) σ H (.lst l) :=
  rd_cb h fun xs H1 Q g hx k => by
    obtain ⟨v, rfl, a, vs, rfl, e1, r1⟩ := rp1 hx
    exact ⟨a, vs, rfl, .inr (SqT.of (wo_le _ _ e1)), fun p hp => new_lst g hp r1 k⟩
theorem rd_tupleL {t : TA} {l : List D} (h : RdA K M t σ H [.lst l]) : Rd K M (tCB (fun xs H Q => ∃ p ys, xs = [.ref p] ∧ ((SqL K H p ys ∧ ∀ l, H l = none → Q (.ref l) (upd H l (.tup ys))) ∨ (SqT K H p ys ∧ Q (.ref p) H))) t) σ H (.tup l) :=
  rd_cb h fun xs H1 Q g hx k => by
    obtain ⟨v, rfl, a, vs, rfl, e1, r1⟩ := rp1 hx
    exact ⟨a, vs, rfl, .inl ⟨SqL.of (wo_le _ _ e1), fun p hp => new_tup g hp r1 k⟩⟩
/-- the ascending order of numbers -/
theorem sort_one {ns ms : List Int} (p : ms.Perm ns) (h : ms.Pairwise (· ≤ ·)) : ms = sortL ns := by
  refine rise_one (p.trans ?_) h (sort_rise ns [] List.Pairwise.nil)
  have := (sort_perm ns []).symm
  rwa [List.append_nil] at this
theorem rd_sorted {t : TA} {ns : List Int} (h : RdA K M t σ H [.lst (ns.map D.int)]) : Rd K M (tCB (rSortedI K) t) σ H (.lst ((sortL ns).map D.int)) :=
  rd_cb h fun xs H1 Q g hx k => by
    obtain ⟨v, rfl, a, vs, rfl, e1, r1⟩ := rp1 hx
    rw [rp_ints.mp r1] at e1
    refine ⟨a, ns, rfl, SqL.of (wo_le _ _ e1), fun ms p hp hs hn => ?_⟩
    rw [sort_one hp hs]
    exact new_lst g hn (rp_ints.mpr rfl) k
theorem min_one {ns : List Int} {m : Int} (h1 : m ∈ ns) (h2 : ∀ y ∈ ns, m ≤ y) {k : Int} (g1 : k ∈ ns) (g2 : ∀ y ∈ ns, k ≤ y) : m = k := by
  have := h2 k g1
  have := g2 m h1
  omega
theorem rd_min {t : TA} {ns : List Int} {m : Int} (h1 : m ∈ ns) (h2 : ∀ y ∈ ns, m ≤ y) (h : RdA K M t σ H [.lst (ns.map D.int)]) : Rd K M (tCB (rMin K) t) σ H (.int m) :=
  rd_cb h fun xs H1 Q g hx k => by
    obtain ⟨v, rfl, a, vs, rfl, e1, r1⟩ := rp1 hx
    rw [rp_ints.mp r1] at e1
    refine ⟨a, ns, rfl, SqL.of (wo_le _ _ e1), List.length_pos_of_mem h1, fun z z1 z2 => ?_⟩
    rw [min_one z1 z2 h1 h2]
    exact k _ H1 (Same.refl _) g rfl
theorem max_one {ns : List Int} {m : Int} (h1 : m ∈ ns) (h2 : ∀ y ∈ ns, y ≤ m) {k : Int} (g1 : k ∈ ns) (g2 : ∀ y ∈ ns, y ≤ k) : m = k := by
  have := h2 k g1
  have := g2 m h1
  omega
theorem rd_max {t : TA} {ns : List Int} {m : Int} (h1 : m ∈ ns) (h2 : ∀ y ∈ ns, y ≤ m) (h : RdA K M t σ H [.lst (ns.map D.int)]) : Rd K M (tCB (rMax K) t) σ H (.int m) :=
  rd_cb h fun xs H1 Q g hx k => by
    obtain ⟨v, rfl, a, vs, rfl, e1, r1⟩ := rp1 hx
    rw [rp_ints.mp r1] at e1
    refine ⟨a, ns, rfl, SqL.of (wo_le _ _ e1), List.length_pos_of_mem h1, fun z z1 z2 => ?_⟩
    rw [max_one z1 z2 h1 h2]
    exact k _ H1 (Same.refl _) g rfl
/-- the smaller and the greater one of two, as min([a, b]) and max([a, b]) -/
theorem rd_min2 {t : TA} {i j : Int} (h : RdA K M t σ H [.lst [.int i, .int j]]) : Rd K M (tCB (rMin K) t) σ H (.int (min i j)) := by
  refine rd_min (ns := [i, j]) (m := min i j) ?_ ?_ h
  · have : min i j = i ∨ min i j = j := by omega
    simpa using this
  · intro y hy
    have : y = i ∨ y = j := by simpa using hy
    omega
theorem rd_max2 {t : TA} {i j : Int} (h : RdA K M t σ H [.lst [.int i, .int j]]) : Rd K M (tCB (rMax K) t) σ H (.int (max i j)) := by
  refine rd_max (ns := [i, j]) (m := max i j) ?_ ?_ h
  · have : max i j = i ∨ max i j = j := by omega
    simpa using this
  · intro y hy
    have : y = i ∨ y = j := by simpa using hy
    omega
/-- tests -/
theorem rdt_cmp {r : R2} {b : Bool} (h : Rd K M (tOp r ta tb) σ H (.bl b)) : RdT K M (tTest (tOp r ta tb)) σ H b := fun H1 s1 g Q k => h H1 s1 g _ fun v H2 s2 g2 r2 => ⟨b, r2, k H2 s2 g2⟩
theorem rdt_val {b : Bool} (h : Rd K M t σ H (.bl b)) : RdT K M (tB t) σ H b := fun H1 s1 g Q k => h H1 s1 g _ fun v H2 s2 g2 r2 => ⟨b, r2, k H2 s2 g2⟩
theorem rdt_not {t : TT} {b : Bool} (h : RdT K M t σ H b) : RdT K M (tNot t) σ H (!b) := fun H1 s1 g Q k => h H1 s1 g _ fun H2 s2 g2 => k H2 s2 g2
theorem rdt_or {t u : TT} {a b : Bool} (h : RdT K M t σ H a) (h' : a = false → RdT K M u σ H b) (hb : a = true → b = true) : RdT K M (tOr t u) σ H b := fun H1 s1 g Q k => h H1 s1 g _ fun H2 s2 g2 => by
  cases a with
  | true => rw [hb rfl] at k; exact iteT (k H2 s2 g2)
  | false => exact iteF (h' rfl H2 (s1.trans s2) g2 _ fun H3 s3 => k H3 (s2.trans s3))
/-- neither: how laws ask -/
theorem rdt_nor {t u : TT} (h : RdT K M t σ H false) (h' : RdT K M u σ H false) : RdT K M (tOr t u) σ H false := rdt_or h (fun _ => h') (fun z => by cases z)
theorem rd_if {t : TT} {b : Bool} {da db : D} (h : RdT K M t σ H b) (ha : b = true → Rd K M ta σ H d) (hb : b = false → Rd K M tb σ H d) : Rd K M (tIf t ta tb) σ H d := fun H1 s1 g Q k => h H1 s1 g _ fun H2 s2 g2 => by
  cases b with
  | true => exact iteT (ha rfl H2 (s1.trans s2) g2 _ fun v H3 s3 => k v H3 (s2.trans s3))
  | false => exact iteF (hb rfl H2 (s1.trans s2) g2 _ fun v H3 s3 => k v H3 (s2.trans s3))
end
end SC
set_option maxRecDepth 100000
set_option maxHeartbeats 2000000
/-! # Part Y: slots, statement by statement, comprehensions, == of data, chains as data -/
namespace SC
open PySem PySem.Spec PyProof.Rows L2 TL
/-! ### slots -/
inductive Sl where
  | any | dat (d : D) | val (v : V)
def SlOk (K : PySem.W.Frag) (M : List Addr) (H : Hp) : Sl → Option V → Prop
  | .any, _ => True
  | .dat d, o => ∃ v, o = some v ∧ Rp K (wo M H) d v
  | .val v, o => o = some v
def Env (K : PySem.W.Frag) (M : List Addr) (σ : L2.St) (H : Hp) (ρ : List Sl) : Prop := σ.length = ρ.length ∧ ∀ (i : Nat) (s : Sl) (o : Option V), ρ[i]? = some s → σ[i]? = some o → SlOk K M H s o
section
variable {K : PySem.W.Frag} {M M' : List Addr} {σ : L2.St} {H H' : Hp} {ρ : List Sl}
theorem SlOk.le {s : Sl} {o : Option V} (h : SlOk K M H s o) (f : Same (wo M H) (wo M' H')) : SlOk K M' H' s o := by
  cases s with
  | any => trivial
  | dat d =>
    obtain ⟨v, h1, h2⟩ := h
    exact ⟨v, h1, Rp.same f d h2⟩
  | val v => exact h
theorem Env.le (E : Env K M σ H ρ) (f : Same (wo M H) (wo M' H')) : Env K M' σ H' ρ := ⟨E.1, fun i s o h1 h2 => (E.2 i s o h1 h2).le f⟩
theorem Env.fm (E : Env K M σ H ρ) (f : Fm M H H') : Env K M σ H' ρ := E.le f
theorem Env.same (E : Env K M σ H ρ) (s : Same H H') : Env K M σ H' ρ := E.le (swo s)
theorem Env.look (E : Env K M σ H ρ) {i : Nat} {s : Sl} (h : ρ[i]? = some s) : ∃ o, σ[i]? = some o ∧ SlOk K M H s o := by
  have hi : i < σ.length := by
    rw [E.1]
    rcases Nat.lt_or_ge i ρ.length with z | z
    · exact z
    · rw [List.getElem?_eq_none z] at h
      cases h
  exact ⟨_, List.getElem?_eq_getElem hi, E.2 i s _ h (List.getElem?_eq_getElem hi)⟩
theorem Env.dat (E : Env K M σ H ρ) {i : Nat} {d : D} (h : ρ[i]? = some (.dat d)) : ∃ v, σ[i]? = some (some v) ∧ Rp K (wo M H) d v := by
  obtain ⟨o, e1, v, rfl, e2⟩ := E.look h
  exact ⟨v, e1, e2⟩
theorem Env.val (E : Env K M σ H ρ) {i : Nat} {v : V} (h : ρ[i]? = some (.val v)) : σ[i]? = some (some v) := by
  obtain ⟨o, e1, e2⟩ := E.look h
  cases e2
  exact e1
/-- a name whose value is data -/
theorem Env.rd (E : Env K M σ H ρ) {i : Nat} {d : D} (h : ρ[i]? = some (.dat d)) : Rd K M (tVar i) σ H d := by
  obtain ⟨v, e1, e2⟩ := E.dat h
  exact rd_var e1 e2
theorem Env.put (E : Env K M σ H ρ) {i : Nat} {s : Sl} {o : Option V} (h : SlOk K M H s o) : Env K M (σ.set i o) H (ρ.set i s) := by
  refine ⟨by rw [List.length_set, List.length_set]; exact E.1, fun j s' o' h1 h2 => ?_⟩
  by_cases e : i = j
  · subst e
    by_cases hi : i < ρ.length
    · rw [List.getElem?_set_self hi] at h1
      rw [List.getElem?_set_self (by rw [E.1]; exact hi)] at h2
      cases h1
      cases h2
      exact h
    · rw [List.getElem?_eq_none (by rw [List.length_set]; omega)] at h1
      cases h1
  · rw [List.getElem?_set_ne e] at h1 h2
    exact E.2 j s' o' h1 h2
theorem Env.set (E : Env K M σ H ρ) {i : Nat} {d : D} {v : V} (r : Rp K (wo M H) d v) : Env K M (σ.set i (some v)) H (ρ.set i (.dat d)) := E.put ⟨v, rfl, r⟩
theorem Env.setv (E : Env K M σ H ρ) {i : Nat} {v : V} : Env K M (σ.set i (some v)) H (ρ.set i (.val v)) := E.put rfl
theorem Env.none (E : Env K M σ H ρ) {i : Nat} : Env K M (σ.set i Option.none) H (ρ.set i .any) := E.put trivial
theorem Env.wipe (E : Env K M σ H ρ) {i : Nat} : Env K M (L2.wipe σ [i]) H (ρ.set i .any) := E.none
/-- forget -/
theorem Env.drop (E : Env K M σ H ρ) {ρ' : List Sl} (hl : ρ.length = ρ'.length) (h : ∀ (i : Nat) (s : Sl), ρ'[i]? = some s → s = Sl.any ∨ ρ[i]? = some s) : Env K M σ H ρ' := by
  refine ⟨E.1.trans hl, fun i s o h1 h2 => ?_⟩
  rcases h i s h1 with rfl | e
  · trivial
  · exact E.2 i s o e h2
theorem wipe_one {i : Nat} {x : Option V} : L2.wipe ((L2.wipe σ [i]).set i x) [i] = L2.wipe σ [i] := by
  show (((σ.set i Option.none).set i x).set i Option.none) = σ.set i Option.none
  rw [List.set_set, List.set_set]
end
/-- lists of slots, forgetting: by comparing the lists -/
inductive Fgt : List Sl → List Sl → Prop
  | nil : Fgt [] []
  | any {s : Sl} {l m : List Sl} : Fgt l m → Fgt (s :: l) (.any :: m)
  | keep {s : Sl} {l m : List Sl} : Fgt l m → Fgt (s :: l) (s :: m)
theorem Fgt.len : ∀ {l m : List Sl}, Fgt l m → l.length = m.length
  | _, _, .nil => rfl
  | _, _, .any h => by rw [List.length_cons, List.length_cons, h.len]
  | _, _, .keep h => by rw [List.length_cons, List.length_cons, h.len]
theorem Fgt.at : ∀ {l m : List Sl}, Fgt l m → ∀ (i : Nat) (s : Sl), m[i]? = some s → s = .any ∨ l[i]? = some s
  | _, _, .nil, i, s, h => by simp at h
  | _, _, .any f, 0, s, h => by simp at h; exact .inl h.symm
  | _, _, .any f, i + 1, s, h => by simpa using f.at i s (by simpa using h)
  | _, _, .keep f, 0, s, h => .inr (by simpa using h)
  | _, _, .keep f, i + 1, s, h => by simpa using f.at i s (by simpa using h)
theorem Env.fgt {K : PySem.W.Frag} {M : List Addr} {σ : L2.St} {H : Hp} {ρ ρ' : List Sl} (E : Env K M σ H ρ) (f : Fgt ρ ρ') : Env K M σ H ρ' := E.drop f.len f.at
/-! ### statement by statement -/
def wpS (X : Cx) (b : List Stmt) : TS := fun D σ H => ∀ (pins : List (Addr × Obj)) (s : Shared), Inv X pins σ H s → wpAny (model X.prog X.w) X.A (execs b X.env) (SP X pins D) X.xe s
theorem wpS_ok {X : Cx} {b : List Stmt} : PSs X b (wpS X b) := ⟨fun pins s σ H D I h => h pins s I⟩
theorem wp_cons {X : Cx} {st : Stmt} {b : List Stmt} {t : TS} {D : Ends} {σ : L2.St} {H : Hp} (h : PS X st t) (q : t { D with nx := wpS X b D } σ H) : wpS X (st :: b) D σ H := fun pins s I =>
  (pss_cons h (wpS_ok (X := X) (b := b))).run pins s σ H D I q
theorem wp_one {X : Cx} {st : Stmt} {t : TS} {D : Ends} {σ : L2.St} {H : Hp} (h : PS X st t) (q : t D σ H) : wpS X [st] D σ H := fun pins s I => (pss_one h).run pins s σ H D I q
theorem wp_nil {X : Cx} {D : Ends} {σ : L2.St} {H : Hp} (q : D.nx σ H) : wpS X [] D σ H := fun pins s I => (pss_nil (X := X)).run pins s σ H D I q
section
variable {K : PySem.W.Frag} {M : List Addr} {σ : L2.St} {H : Hp} {t ta tb tc : TE} {d da db : D}
/-- x = e -/
theorem use_set {i : Nat} {D : Ends} (h : Rd K M t σ H d) (g : Gd K M H) (k : ∀ v H2, Same H H2 → Gd K M H2 → Rp K (wo M H2) d v → D.nx (σ.set i (some v)) H2) : tAsg t (gName i) D σ H := h H (Same.refl _) g _ fun v H2 s g2 r => k v H2 s g2 r
theorem use_ret {D : Ends} (h : Rd K M t σ H d) (g : Gd K M H) (k : ∀ v H2, Same H H2 → Gd K M H2 → Rp K (wo M H2) d v → D.rt v H2) : tRet t D σ H := h H (Same.refl _) g _ k
/-- if test: .. -/
theorem use_if {tt : TT} {b : Bool} {u w : TS} {D : Ends} (h : RdT K M tt σ H b) (g : Gd K M H) (k : ∀ H2, Same H H2 → Gd K M H2 → if b = true then u D σ H2 else w D σ H2) : tIfS tt u w D σ H := h H (Same.refl _) g _ k
theorem use_if0 {tt : TT} {u : TS} {D : Ends} (h : RdT K M tt σ H false) (g : Gd K M H) (k : ∀ H2, Same H H2 → Gd K M H2 → D.nx σ H2) : tIfS tt u tNext D σ H := h H (Same.refl _) g _ fun H2 s g2 => iteF (k H2 s g2)
/-- a, b = pair -/
theorem use_tup2 {i j : Nat} {D : Ends} {x y : SC.D} (h : Rd K M t σ H (.tup [x, y])) (g : Gd K M H) (k : ∀ v u H2, Same H H2 → Gd K M H2 → Rp K (wo M H2) x v → Rp K (wo M H2) y u → D.nx ((σ.set i (some v)).set j (some u)) H2) :
    tAsg t (gTup K 2 (gCons (gName i) (gCons (gName j) gNil))) D σ H := h H (Same.refl _) g _ fun w H2 s g2 r => by
  obtain ⟨a, vs, rfl, e, v, vs1, rfl, r1, u, vs2, rfl, r2, r3⟩ := r
  cases r3
  exact ⟨a, [v, u], rfl, SqT.of (wo_le _ _ e), rfl, _, _, rfl, _, _, rfl, rfl, k v u H2 s g2 r1 r2⟩
/-! ### comprehensions -/
theorem wo_cons {a : Addr} {H1 H2 : Hp} (h0 : H1 a = none) (s : Same H1 H2) : Same (wo M H1) (wo (a :: M) H2) := fun b o e => by
  obtain ⟨e1, e2⟩ := wo_some e
  rw [wo_at (fun z => by
    rcases List.mem_cons.mp z with z | z
    · rw [z, h0] at e2
      cases e2
    · exact e1 z)]
  exact s _ _ e2
theorem rp_at {l : List D} {vs : List V} {i : Nat} {v : V} (h : RpL K H l vs) (e : vs[i]? = some v) : ∃ x, l[i]? = some x ∧ Rp K H x v := h.get' e
theorem fm_take {l : List SC.D} {f : SC.D → Option SC.D} {i : Nat} {x : SC.D} (h : l[i]? = some x) : (l.take (i + 1)).filterMap f = (l.take i).filterMap f ++ (match f x with | some y => [y] | none => []) := by
  rw [take_more h, List.filterMap_append]
  cases e : f x <;> simp [List.filterMap, e]
/-- one turn of a comprehension: the item is x, and f x is taken (or not) -/
def Turns (K : PySem.W.Frag) (M : List Addr) (σ : L2.St) (H : Hp) (i : Nat) (tt : TT) (te : TE) (x : D) (y : Option D) : Prop :=
  ∀ (M' : List Addr) (H' : Hp) (v : V), Same H H' → Same (wo M H) (wo M' H') → Gd K M' H' → Rp K (wo M' H') x v →
    ∃ b : Bool, RdT K M' tt ((L2.wipe σ [i]).set i (some v)) H' b ∧ (b = true → ∃ z, y = some z ∧ Rd K M' te ((L2.wipe σ [i]).set i (some v)) H' z) ∧ (b = false → y = none)
/-- the body of all comprehensions whose parts only look -/
theorem lc_turn {i : Nat} {tt : TT} {te : TE} {l : List D} {f : D → Option D} {H1 H3 : Hp} {D0 : Addr} {n : Nat} {x : D} {v : V} (hT : Turns K M σ H1 i tt te x (f x)) (hlen : l.length < sizeLine) (hD0 : H1 D0 = none) (hx : l[n]? = some x)
    (s3 : Same H1 H3) (g3 : Gd K (D0 :: M) H3) (rv : Rp K (wo (D0 :: M) H3) x v) {acc : List V} (hD : H3 D0 = some (.lst acc)) (ra : RpL K (wo (D0 :: M) H3) ((l.take n).filterMap f) acc) {N : Hp → Prop}
    (k : ∀ H4 acc', Same H1 H4 → Gd K (D0 :: M) H4 → H4 D0 = some (.lst acc') → RpL K (wo (D0 :: M) H4) ((l.take (n + 1)).filterMap f) acc' → N H4) :
    gName i v (L2.wipe σ [i]) H3 fun σ2 H2 => L2.wipe σ2 [i] = L2.wipe σ [i] ∧ tt σ2 H2 fun b H3 => if b = true then te σ2 H3 fun y H4 => ∃ acc, H4 D0 = some (.lst acc) ∧ acc.length < sizeLine ∧ N (upd H4 D0 (.lst (acc ++ [y]))) else N H3 := by
  obtain ⟨b, h1, h2, h3⟩ := hT (D0 :: M) H3 v s3 (wo_cons hD0 s3) g3 rv
  refine ⟨wipe_one, h1 H3 (Same.refl _) g3 _ fun H4 s4 g4 => ?_⟩
  have ft := fm_take (f := f) hx
  cases b with
  | true =>
    obtain ⟨z, e, hz⟩ := h2 rfl
    refine iteT (hz H4 s4 g4 _ fun y H5 s5 g5 r5 => ?_)
    have hD5 := s5 _ _ (s4 _ _ hD)
    have r6 : RpL K (wo (D0 :: M) H5) ((l.take n).filterMap f) acc := RpL.same (swo (s4.trans s5)) _ ra
    refine ⟨acc, hD5, ?_, ?_⟩
    · rw [r6.len]
      refine Nat.lt_of_le_of_lt (List.length_filterMap_le _ _) (Nat.lt_of_le_of_lt ?_ hlen)
      rw [List.length_take]
      exact Nat.min_le_right _ _
    · refine k _ (acc ++ [y]) ?_ (g5.at trivial) upd_same ?_
      · intro b o hb
        rw [upd_ne (ne_of_none hb hD0)]
        exact s5 _ _ (s4 _ _ (s3 _ _ hb))
      · rw [wo_upd List.mem_cons_self, ft, e]
        exact r6.snoc r5
  | false =>
    refine iteF (k H4 acc (s3.trans s4) g4 (s4 _ _ hD) ?_)
    rw [ft, h3 rfl]
    simp only [List.append_nil]
    exact RpL.same (swo s4) _ ra
/-- what is made is released -/
theorem lc_done {l' : List D} {H4 : Hp} {D0 : Addr} {acc : List V} (hD0 : D0 ∉ M) (hD : H4 D0 = some (.lst acc)) (ra : RpL K (wo (D0 :: M) H4) l' acc) : Rp K (wo M H4) (.lst l') (.ref D0) :=
  ⟨D0, acc, rfl, by rw [wo_at hD0]; exact hD, RpL.same (wo_sub fun x hx => List.mem_cons_of_mem _ hx) _ ra⟩
theorem rd_lcL {tl : TE} {tt : TT} {te : TE} {i : Nat} {l : List D} (f : D → Option D) (hl : Rd K M tl σ H (.lst l)) (hlen : l.length < sizeLine) (hT : ∀ x ∈ l, ∀ H', Same H H' → Turns K M σ H' i tt te x (f x)) :
    Rd K M (tLc (iList K tl) (gName i) tt te [i]) σ H (.lst (l.filterMap f)) := fun H1 s1 g Q k => hl H1 s1 g _ fun x H2 s2 g2 rx => by
  obtain ⟨a, vs, rfl, e1, r1⟩ := rx
  have ea := wo_le _ _ e1
  have nM := (wo_some e1).1
  refine ⟨a, rfl, ⟨vs, SqL.of ea⟩, fun D0 hD0 => ?_⟩
  have hD0M := g2.out hD0
  refine lc_list (K := K) (a := a) (xs := vs) (fun n H3 => ∃ acc, Same H2 H3 ∧ Gd K (D0 :: M) H3 ∧ H3 D0 = some (.lst acc) ∧ RpL K (wo (D0 :: M) H3) ((l.take n).filterMap f) acc) ?_ ?_ ?_ ?_
  · exact ⟨[], same_new hD0, (g2.same (same_new hD0)).lst upd_same, upd_same, rfl⟩
  · rintro n H3 _ ⟨acc, s3, _⟩
    exact SqL.of (s3 _ _ ea)
  · rintro n v H3 hi ⟨acc, s3, g3, hD, ra⟩
    obtain ⟨x, hx, rv⟩ := r1.get' hi
    exact lc_turn (hT x (List.mem_of_getElem? hx) H2 (s1.trans s2)) hlen hD0 hx s3 g3 (Rp.same (wo_cons hD0 s3) _ rv) hD ra fun H4 acc' s4 g4 h4 r4 => ⟨acc', s4, g4, h4, r4⟩
  · rintro H3 ⟨acc, s3, g3, hD, ra⟩
    rw [r1.len, List.take_length] at ra
    exact k _ H3 (s2.trans s3) g3.tl (lc_done hD0M hD ra)
theorem rd_lcT {tl : TE} {tt : TT} {te : TE} {i : Nat} {l : List D} (f : D → Option D) (hl : Rd K M tl σ H (.tup l)) (hlen : l.length < sizeLine) (hT : ∀ x ∈ l, ∀ H', Same H H' → Turns K M σ H' i tt te x (f x)) :
    Rd K M (tLc (iTup K tl) (gName i) tt te [i]) σ H (.lst (l.filterMap f)) := fun H1 s1 g Q k => hl H1 s1 g _ fun x H2 s2 g2 rx => by
  obtain ⟨a, vs, rfl, e1, r1⟩ := rx
  have ea := wo_le _ _ e1
  refine ⟨a, rfl, ⟨vs, SqT.of ea⟩, fun D0 hD0 => ?_⟩
  have hD0M := g2.out hD0
  refine lc_tup (K := K) (a := a) (xs := vs) (fun n H3 => ∃ acc, Same H2 H3 ∧ Gd K (D0 :: M) H3 ∧ H3 D0 = some (.lst acc) ∧ RpL K (wo (D0 :: M) H3) ((l.take n).filterMap f) acc) ?_ ?_ ?_ ?_
  · exact ⟨[], same_new hD0, (g2.same (same_new hD0)).lst upd_same, upd_same, rfl⟩
  · rintro n H3 _ ⟨acc, s3, _⟩
    exact SqT.of (s3 _ _ ea)
  · rintro n v H3 hi ⟨acc, s3, g3, hD, ra⟩
    obtain ⟨x, hx, rv⟩ := r1.get' hi
    exact lc_turn (hT x (List.mem_of_getElem? hx) H2 (s1.trans s2)) hlen hD0 hx s3 g3 (Rp.same (wo_cons hD0 s3) _ rv) hD ra fun H4 acc' s4 g4 h4 r4 => ⟨acc', s4, g4, h4, r4⟩
  · rintro H3 ⟨acc, s3, g3, hD, ra⟩
    rw [r1.len, List.take_length] at ra
    exact k _ H3 (s2.trans s3) g3.tl (lc_done hD0M hD ra)
/-- over range(n) -/
def rngD (n : Nat) : List D := (List.range n).map fun j : Nat => D.int (j : Int)
theorem rng_at {n j : Nat} (h : j < n) : (rngD n)[j]? = some (.int (j : Int)) := by
  unfold rngD
  rw [List.getElem?_map, List.getElem?_range h]
  rfl
theorem rng_len (n : Nat) : (rngD n).length = n := by
  unfold rngD
  rw [List.length_map, List.length_range]
theorem rd_lcR {ta : TA} {tt : TT} {te : TE} {i : Nat} {n : Nat} (f : D → Option D) (hl : RdA K M ta σ H [.int n]) (hlen : n < sizeLine) (hT : ∀ j, j < n → ∀ H', Same H H' → Turns K M σ H' i tt te (.int j) (f (.int j))) :
    Rd K M (tLc (iRng1 ta) (gName i) tt te [i]) σ H (.lst ((rngD n).filterMap f)) := fun H1 s1 g Q k => hl H1 s1 g _ fun xs H2 s2 g2 rx => by
  obtain ⟨v, rfl, rv⟩ := rp1 rx
  cases rv
  have hs : sizeLine < 2 ^ 62 := by decide
  refine ⟨n, rfl, by omega, by omega, fun D0 hD0 => ?_⟩
  have hD0M := g2.out hD0
  have en : ((n : Int)).toNat = n := Int.toNat_natCast n
  rw [en]
  refine lc_range (lo := 0) (n := n) (fun m H3 => ∃ acc, Same H2 H3 ∧ Gd K (D0 :: M) H3 ∧ H3 D0 = some (.lst acc) ∧ RpL K (wo (D0 :: M) H3) (((rngD n).take m).filterMap f) acc) ?_ ?_ ?_
  · exact ⟨[], same_new hD0, (g2.same (same_new hD0)).lst upd_same, upd_same, rfl⟩
  · rintro m H3 hm ⟨acc, s3, g3, hD, ra⟩
    rw [Int.zero_add]
    exact lc_turn (hT m hm H2 (s1.trans s2)) (by rw [rng_len]; exact hlen) hD0 (rng_at hm) s3 g3 rfl hD ra fun H4 acc' s4 g4 h4 r4 => ⟨acc', s4, g4, h4, r4⟩
  · rintro H3 ⟨acc, s3, g3, hD, ra⟩
    rw [List.take_of_length_le (by rw [rng_len]; exact Nat.le_refl _)] at ra
    exact k _ H3 (s2.trans s3) g3.tl (lc_done hD0M hD ra)
theorem rdt_yes : RdT K M tYes σ H true := fun H1 s1 g Q k => k H1 (Same.refl _) g
/-- [e for x in ..] -/
theorem turns_map {i : Nat} {te : TE} {x y : D} (h : ∀ M' H' v, Same H H' → Same (wo M H) (wo M' H') → Gd K M' H' → Rp K (wo M' H') x v → Rd K M' te ((L2.wipe σ [i]).set i (some v)) H' y) : Turns K M σ H i tYes te x (some y) :=
  fun M' H' v s f g r => ⟨true, rdt_yes, fun _ => ⟨y, rfl, h M' H' v s f g r⟩, fun z => by cases z⟩
theorem turns_if {i : Nat} {tt : TT} {te : TE} {x y : D} {b : Bool} (ht : ∀ M' H' v, Same H H' → Same (wo M H) (wo M' H') → Gd K M' H' → Rp K (wo M' H') x v → RdT K M' tt ((L2.wipe σ [i]).set i (some v)) H' b)
    (h : b = true → ∀ M' H' v, Same H H' → Same (wo M H) (wo M' H') → Gd K M' H' → Rp K (wo M' H') x v → Rd K M' te ((L2.wipe σ [i]).set i (some v)) H' y) : Turns K M σ H i tt te x (if b = true then some y else none) :=
  fun M' H' v s f g r => ⟨b, ht M' H' v s f g r, fun z => ⟨y, by rw [if_pos z], h z M' H' v s f g r⟩, fun z => by rw [z]; rfl⟩
/-! ### x is None -/
def isN : D → Bool
  | .non => true
  | _ => false
theorem rp_isN {x : D} {v : V} (h : Rp K H x v) : decide (v = V.non) = isN x := by
  cases x with
  | non => cases h; rfl
  | bl b => cases h; rfl
  | int i => cases h; rfl
  | str s => cases h; rfl
  | lst l => obtain ⟨a, vs, rfl, _⟩ := h; rfl
  | tup l => obtain ⟨a, vs, rfl, _⟩ := h; rfl
  | chain rs => obtain ⟨a, rfl, _⟩ := h; rfl
  | cell r => obtain ⟨a, rfl, _⟩ := h; rfl
theorem rd_isN (ha : Rd K M ta σ H d) (hb : Rd K M tb σ H .non) : Rd K M (tOp (fun x y H Q => y = .non ∧ Q (.bl (decide (x = .non))) H) ta tb) σ H (.bl (isN d)) :=
  rd_op ha hb fun x y H1 Q g hx hy k => ⟨hy, k _ H1 (Same.refl _) g (by rw [rp_isN hx]; rfl)⟩
theorem rd_notN (ha : Rd K M ta σ H d) (hb : Rd K M tb σ H .non) : Rd K M (tOp (fun x y H Q => y = .non ∧ Q (.bl (!decide (x = .non))) H) ta tb) σ H (.bl (!isN d)) :=
  rd_op ha hb fun x y H1 Q g hx hy k => ⟨hy, k _ H1 (Same.refl _) g (by rw [rp_isN hx]; rfl)⟩
theorem isN_dO {o : Option Int} : isN (dO o) = o.isNone := by cases o <;> rfl
/-- [x for x in .. if x is not None] -/
theorem somes_map (os : List (Option Int)) : (os.map dO).filterMap (fun x => if (!isN x) = true then some x else none) = (os.filterMap id).map D.int := by
  induction os with
  | nil => rfl
  | cons o os ih => cases o <;> simp_all [dO, isN, List.filterMap]
theorem nones_map (os : List (Option Int)) : (os.map dO).filterMap (fun x => if (isN x) = true then some x else none) = List.replicate (os.countP Option.isNone) D.non := by
  induction os with
  | nil => rfl
  | cons o os ih => cases o <;> simp_all [dO, isN, List.filterMap, List.replicate_succ]
/-! ### == and != of data -/
mutual
def toPy : D → PyData
  | .non => .none
  | .bl b => .bool b
  | .int i => .int i
  | .str s => .str s
  | .lst l => .list (toPyL l)
  | .tup l => .tuple (toPyL l)
  | .chain _ => .none
  | .cell _ => .none
def toPyL : List D → List PyData
  | [] => []
  | x :: xs => toPy x :: toPyL xs
end
/-- data without chains, of texts that are texts, nested at most n deep -/
inductive Ok : Nat → D → Prop
  | non {n : Nat} : Ok n .non
  | bl {n : Nat} {b : Bool} : Ok n (.bl b)
  | int {n : Nat} {i : Int} : Ok n (.int i)
  | str {n : Nat} {s : Str} (h : PyData.strOk s = true) : Ok n (.str s)
  | lst {n : Nat} {l : List D} (h : ∀ x ∈ l, Ok n x) : Ok (n + 1) (.lst l)
  | tup {n : Nat} {l : List D} (h : ∀ x ∈ l, Ok n x) : Ok (n + 1) (.tup l)
mutual
theorem Ok.dp (h : ∀ b, H b = H b) : ∀ (x : D) {n : Nat} {v : V}, Ok n x → Rp K H x v → Dp K H v (toPy x)
  | .non, _, _, _, r => by cases r; exact .non
  | .bl b, _, _, _, r => by cases r; exact .bl b
  | .int i, _, _, _, r => by cases r; exact .int i
  | .str s, _, _, _, r => by cases r; exact .str s
  | .lst l, _, _, o, r => by
    cases o with
    | lst ho =>
      obtain ⟨a, vs, rfl, e, rl⟩ := r
      exact .lst (SqL.of e) (Ok.dpL h l ho rl)
  | .tup l, _, _, o, r => by
    cases o with
    | tup ho =>
      obtain ⟨a, vs, rfl, e, rl⟩ := r
      exact .tup (SqT.of e) (Ok.dpL h l ho rl)
  | .chain _, _, _, o, _ => by cases o
  | .cell _, _, _, o, _ => by cases o
theorem Ok.dpL (h : ∀ b, H b = H b) : ∀ (l : List D) {n : Nat} {vs : List V}, (∀ x ∈ l, Ok n x) → RpL K H l vs → DpAll K H vs (toPyL l)
  | [], _, _, _, r => by cases r; exact .nil
  | x :: xs, _, _, o, r => by
    obtain ⟨v, vs', rfl, r1, r2⟩ := r
    exact .cons (Ok.dp h x (o x List.mem_cons_self) r1) (Ok.dpL h xs (fun y hy => o y (List.mem_cons_of_mem _ hy)) r2)
end
mutual
theorem Ok.lay : ∀ (x : D) {n : Nat}, Ok n x → PyData.canLay0 (toPy x) = true ∧ (toPy x).depth ≤ n
  | .non, _, _ => ⟨rfl, Nat.zero_le _⟩
  | .bl b, _, _ => ⟨rfl, Nat.zero_le _⟩
  | .int i, _, _ => ⟨rfl, Nat.zero_le _⟩
  | .str s, _, o => by
    cases o with
    | str h =>
      refine ⟨?_, Nat.zero_le _⟩
      simp only [toPy, PyData.canLay0]
      exact h
  | .lst l, _, o => by
    cases o with
    | lst ho =>
      obtain ⟨h1, h2⟩ := Ok.layL l ho
      refine ⟨?_, ?_⟩
      · simp only [toPy, PyData.canLay0]
        exact h1
      · simp only [toPy, PyData.depth]
        omega
  | .tup l, _, o => by
    cases o with
    | tup ho =>
      obtain ⟨h1, h2⟩ := Ok.layL l ho
      refine ⟨?_, ?_⟩
      · simp only [toPy, PyData.canLay0]
        exact h1
      · simp only [toPy, PyData.depth]
        omega
  | .chain _, _, o => by cases o
  | .cell _, _, o => by cases o
theorem Ok.layL : ∀ (l : List D) {n : Nat}, (∀ x ∈ l, Ok n x) → PyData.canLayAll0 (toPyL l) = true ∧ PyData.depthAll (toPyL l) ≤ n
  | [], _, _ => ⟨by simp only [toPyL, PyData.canLayAll0], by simp only [toPyL, PyData.depthAll]; exact Nat.zero_le _⟩
  | x :: xs, _, o => by
    obtain ⟨h1, h2⟩ := Ok.lay x (o x List.mem_cons_self)
    obtain ⟨h3, h4⟩ := Ok.layL xs fun y hy => o y (List.mem_cons_of_mem _ hy)
    refine ⟨?_, ?_⟩
    · simp only [toPyL, PyData.canLayAll0, h1, h3, Bool.and_self]
    · simp only [toPyL, PyData.depthAll]
      omega
end
theorem Ok.shaped {x : D} {n : Nat} (o : Ok n x) (hn : n ≤ 64) : SeqAt.shaped (toPy x) = true := by
  obtain ⟨h1, h2⟩ := Ok.lay x o
  unfold SeqAt.shaped
  rw [h1, decide_eq_true (Nat.le_trans h2 hn)]
  rfl
def eqD (x y : D) : Bool := PyData.eqv (toPy x) (toPy y)
theorem eqD_self {x : D} {n : Nat} (o : Ok n x) (hn : n ≤ 64) : eqD x x = true := eqv_self (o.shaped hn)
theorem rd_eqD {n m : Nat} (o : Ok n da) (hn : n ≤ 64) (p : Ok m db) (hm : m ≤ 64) (ha : Rd K M ta σ H da) (hb : Rd K M tb σ H db) : Rd K M (tOp (rEqD K) ta tb) σ H (.bl (eqD da db)) :=
  rd_op ha hb fun x y H1 Q g hx hy k => ⟨toPy da, toPy db, Ok.dp (fun _ => rfl) da o hx.here, Ok.dp (fun _ => rfl) db p hy.here, o.shaped hn, p.shaped hm, k _ H1 (Same.refl _) g rfl⟩
theorem rd_neD {n m : Nat} (o : Ok n da) (hn : n ≤ 64) (p : Ok m db) (hm : m ≤ 64) (ha : Rd K M ta σ H da) (hb : Rd K M tb σ H db) : Rd K M (tOp (rNeD K) ta tb) σ H (.bl (!eqD da db)) :=
  rd_op ha hb fun x y H1 Q g hx hy k => ⟨toPy da, toPy db, Ok.dp (fun _ => rfl) da o hx.here, Ok.dp (fun _ => rfl) db p hy.here, o.shaped hn, p.shaped hm, k _ H1 (Same.refl _) g rfl⟩
/-- what is asked to be the same is the same -/
theorem rdt_ne0 {n : Nat} (e : da = db) (o : Ok n da) (hn : n ≤ 64) (ha : Rd K M ta σ H da) (hb : Rd K M tb σ H db) : RdT K M (tTest (tOp (rNeD K) ta tb)) σ H false := by
  subst e
  have h := rd_neD o hn o hn ha hb
  rw [eqD_self o hn] at h
  exact rdt_cmp h
theorem ok_ints {ns : List Int} : Ok 1 (.lst (ns.map D.int)) := .lst fun x hx => by
  obtain ⟨i, _, rfl⟩ := List.mem_map.mp hx
  exact .int
theorem ok_dO {o : Option Int} {n : Nat} : Ok n (dO o) := by cases o <;> constructor
theorem ok_opts {os : List (Option Int)} : Ok 1 (.lst (os.map dO)) := .lst fun x hx => by
  obtain ⟨i, _, rfl⟩ := List.mem_map.mp hx
  exact ok_dO
theorem ok_optsT {os : List (Option Int)} : Ok 1 (.tup (os.map dO)) := .tup fun x hx => by
  obtain ⟨i, _, rfl⟩ := List.mem_map.mp hx
  exact ok_dO
/-- flat == and != -/
theorem rd_eqI {i j : Int} (ha : Rd K M ta σ H (.int i)) (hb : Rd K M tb σ H (.int j)) : Rd K M (tOp rEq ta tb) σ H (.bl (decide (i = j))) :=
  rd_op ha hb fun x y H1 Q g hx hy k => by
    cases hx
    cases hy
    refine ⟨rfl, k _ H1 (Same.refl _) g ?_⟩
    show V.bl (decide (V.int i = V.int j)) = V.bl (decide (i = j))
    simp
theorem rd_neI {i j : Int} (ha : Rd K M ta σ H (.int i)) (hb : Rd K M tb σ H (.int j)) : Rd K M (tOp rNe ta tb) σ H (.bl (!decide (i = j))) :=
  rd_op ha hb fun x y H1 Q g hx hy k => by
    cases hx
    cases hy
    refine ⟨rfl, k _ H1 (Same.refl _) g ?_⟩
    show V.bl (!decide (V.int i = V.int j)) = V.bl (!decide (i = j))
    simp
theorem rd_eqS {i j : Str} (ha : Rd K M ta σ H (.str i)) (hb : Rd K M tb σ H (.str j)) : Rd K M (tOp rEq ta tb) σ H (.bl (decide (i = j))) :=
  rd_op ha hb fun x y H1 Q g hx hy k => by
    cases hx
    cases hy
    refine ⟨rfl, k _ H1 (Same.refl _) g ?_⟩
    show V.bl (decide (V.str i = V.str j)) = V.bl (decide (i = j))
    simp
theorem rd_neS {i j : Str} (ha : Rd K M ta σ H (.str i)) (hb : Rd K M tb σ H (.str j)) : Rd K M (tOp rNe ta tb) σ H (.bl (!decide (i = j))) :=
  rd_op ha hb fun x y H1 Q g hx hy k => by
    cases hx
    cases hy
    refine ⟨rfl, k _ H1 (Same.refl _) g ?_⟩
    show V.bl (!decide (V.str i = V.str j)) = V.bl (!decide (i = j))
    simp
/-! ### chains -/
theorem new_chain {H1 : Hp} {Q : VK} {rs : List Rule} (g : Gd K M H1) (k : ∀ v H2, Same H1 H2 → Gd K M H2 → Rp K (wo M H2) (.chain rs) v → Q v H2) : NewCh K H1 rs Q :=
  fun x H2 hx s c => k _ H2 s (g.same s) ⟨x, rfl, chain_wo (g.same s) c⟩
def runD (rs : List Rule) (ns : List Int) : D := .tup [.lst ((runR rs (nones rs.length) ns).1.map dO), .tup ((runR rs (nones rs.length) ns).2.map dO)]
theorem new_run {H1 : Hp} {Q : VK} {rs : List Rule} {ns : List Int} (g : Gd K M H1) (k : ∀ v H2, Same H1 H2 → Gd K M H2 → Rp K (wo M H2) (runD rs ns) v → Q v H2) : NewRun H1 rs ns Q :=
  fun p o h H2 hp ho hh s e1 e2 e3 => by
    refine k _ H2 s (g.same s) ⟨p, _, rfl, by rw [wo_at (g.out hp)]; exact e1, _, _, rfl, ⟨o, _, rfl, by rw [wo_at (g.out ho)]; exact e2, rp_opts.mpr rfl⟩, _, _, rfl, ⟨h, _, rfl, by rw [wo_at (g.out hh)]; exact e3, rp_opts.mpr rfl⟩, rfl⟩
theorem rd_chcall {X : Cx} {tf : TE} {t : TA} {rs : List Rule} {ns : List Int} (hl : ns.length ≤ 1000) (hz : ∀ z ∈ ns, numOk z) (hf : Rd K M tf σ H (.chain rs)) (ha : RdA K M t σ H [.lst (ns.map D.int)]) :
    Rd K M (StX.tCallO X (ChC K) (spChCall K) E0 tf t) σ H (runD rs ns) := fun H1 s1 g Q k => hf H1 s1 g _ fun x H2 s2 g2 rx => by
  obtain ⟨c, rfl, cc⟩ := rx
  refine ⟨c, rfl, ha H2 (s1.trans s2) g2 _ fun xs H3 s3 g3 r3 => ?_⟩
  obtain ⟨v, rfl, a, vs, rfl, e1, r1⟩ := rp1 r3
  rw [rp_ints.mp r1] at e1
  have c3 : ChainAt K H3 c rs := (cc.same wo_le).same s3
  exact ⟨c3.ins, c, a, rs, ns, rfl, c3, wo_le _ _ e1, hl, hz, new_run g3 fun v H4 s4 => k v H4 ((s2.trans s3).trans s4)⟩
theorem rd_chneg {tf : TE} {rs : List Rule} (hf : Rd K M tf σ H (.chain rs)) : Rd K M (tUn (rChNeg K) tf) σ H (.chain (rs.map Rule.neg)) := fun H1 s1 g Q k => hf H1 s1 g _ fun x H2 s2 g2 rx => by
  obtain ⟨c, rfl, cc⟩ := rx
  exact ⟨c, rs, rfl, cc.same wo_le, new_chain g2 fun v H3 s3 => k v H3 (s2.trans s3)⟩
theorem rd_shift {rs qs : List Rule} (hl : rs.length + qs.length ≤ 8) (ha : Rd K M ta σ H (.chain rs)) (hb : Rd K M tb σ H (.chain qs)) : Rd K M (tOp (rShift K) ta tb) σ H (.chain (rs ++ qs)) :=
  rd_op ha hb fun x y H1 Q g hx hy k => by
    obtain ⟨c, rfl, cc⟩ := hx
    obtain ⟨e, rfl, ce⟩ := hy
    exact ⟨c, e, rs, qs, rfl, rfl, cc.same wo_le, ce.same wo_le, hl, new_chain g k⟩
theorem rd_cheq {rs qs : List Rule} (ha : Rd K M ta σ H (.chain rs)) (hb : Rd K M tb σ H (.chain qs)) : Rd K M (tOp (rChEq K) ta tb) σ H (.bl (decide (rs = qs))) :=
  rd_op ha hb fun x y H1 Q g hx hy k => by
    obtain ⟨c, rfl, cc⟩ := hx
    obtain ⟨e, rfl, ce⟩ := hy
    exact ⟨c, e, rs, qs, rfl, rfl, cc.same wo_le, ce.same wo_le, k _ H1 (Same.refl _) g rfl⟩
theorem rd_chne {rs qs : List Rule} (ha : Rd K M ta σ H (.chain rs)) (hb : Rd K M tb σ H (.chain qs)) : Rd K M (tOp (rChNe K) ta tb) σ H (.bl (!decide (rs = qs))) :=
  rd_op ha hb fun x y H1 Q g hx hy k => by
    obtain ⟨c, rfl, cc⟩ := hx
    obtain ⟨e, rfl, ce⟩ := hy
    exact ⟨c, e, rs, qs, rfl, rfl, cc.same wo_le, ce.same wo_le, k _ H1 (Same.refl _) g rfl⟩
theorem rd_chlen {t : TA} {rs : List Rule} (h : RdA K M t σ H [.chain rs]) : Rd K M (tCB (fun xs H Q => ∃ (c : Addr) (rs : List Rule), xs = [.ref c] ∧ ChainAt K H c rs ∧ Q (.int rs.length) H) t) σ H (.int rs.length) :=
  rd_cb h fun xs H1 Q g hx k => by
    obtain ⟨v, rfl, c, rfl, cc⟩ := rp1 hx
    exact ⟨c, rs, rfl, cc.same wo_le, k _ H1 (Same.refl _) g rfl⟩
theorem rd_chix {rs : List Rule} {i : Nat} {r : Rule} (hi : rs[i]? = some r) (ha : Rd K M ta σ H (.chain rs)) (hb : Rd K M tb σ H (.int i)) : Rd K M (tOp (rChIx K) ta tb) σ H (.cell r) :=
  rd_op ha hb fun x y H1 Q g hx hy k => by
    obtain ⟨c, rfl, cc⟩ := hx
    exact ⟨c, rs, i, r, rfl, hy, cc.same wo_le, hi, fun a ca => k _ H1 (Same.refl _) g ⟨a, rfl, cell_wo g ca⟩⟩
theorem rd_label {tf : TE} {r : Rule} (hf : Rd K M tf σ H (.cell r)) : Rd K M (tLabel K tf) σ H (.str r.label) := fun H1 s1 g Q k => hf H1 s1 g _ fun x H2 s2 g2 rx => by
  obtain ⟨c, rfl, cc⟩ := rx
  exact ⟨c, r, rfl, cc.same wo_le, k _ H2 s2 g2 rfl⟩
theorem rd_chtext {tf : TE} {rs : List Rule} (hf : Rd K M tf σ H (.chain rs)) : Rd K M (tProp (ChC K) (spText K) [] E0 tf) σ H (.str (txtOf rs)) := fun H1 s1 g Q k => hf H1 s1 g _ fun x H2 s2 g2 rx => by
  obtain ⟨c, rfl, cc⟩ := rx
  have c2 := cc.same wo_le
  obtain ⟨dx, t, as, h1, h2, h3, h4⟩ := id c2
  exact ⟨c, dx, _, rfl, h1, c, rs, rfl, c2, fun H3 s3 => k _ H3 (s2.trans s3) (g2.same s3) rfl⟩
theorem rd_chempty {tf : TE} {rs : List Rule} (hf : Rd K M tf σ H (.chain rs)) : Rd K M (tProp (ChC K) (spEmpty K) [] E0 tf) σ H (.tup ((nones rs.length).map dO)) := fun H1 s1 g Q k => hf H1 s1 g _ fun x H2 s2 g2 rx => by
  obtain ⟨c, rfl, cc⟩ := rx
  have c2 := cc.same wo_le
  obtain ⟨dx, t, as, h1, h2, h3, h4⟩ := id c2
  exact ⟨c, dx, _, rfl, h1, c, rs, rfl, c2, fun p H3 hp s3 e3 => k _ H3 (s2.trans s3) (g2.same s3) ⟨p, _, rfl, by rw [wo_at (g2.out hp)]; exact e3, rp_opts.mpr rfl⟩⟩
end
end SC
set_option maxRecDepth 100000
set_option maxHeartbeats 2000000
/-! # Part Z: calls of defs that only look, small comprehensions -/
namespace SC
open PySem PySem.Spec PyProof.Rows L2 TL
/-- labels as values -/
def lbV (rs : List Rule) : List V := (rs.map Rule.label).map V.str
def spLabels : Sp := fun vs H Q _ => ∃ (d : Addr) (M : Int) (ds : List Int), vs = [.ref d, .int M] ∧ 0 < M ∧ M ≤ 8 ∧ H d = some (.lst (ds.map V.int)) ∧ DOk ds ∧
  ∀ (p : Addr) (H' : Hp) (rs : List Rule) (ds' : List Int), H p = none → Fr1 d H H' → DOk ds' → H' d = some (.lst (ds'.map V.int)) → H' p = some (.lst (lbV rs)) → 1 ≤ rs.length → (rs.length : Int) ≤ M → (∀ r ∈ rs, r.ok) → Q (.ref p) H'
def spChainOf (K : PySem.W.Frag) : Sp := fun vs H Q _ => ∃ (p : Addr) (rs : List Rule), vs = [.ref p] ∧ H p = some (.lst (lbV rs)) ∧ (∀ r ∈ rs, r.ok) ∧ 1 ≤ rs.length ∧ rs.length ≤ 8 ∧ NewCh K H rs Q
def lbD (rs : List Rule) : List D := (rs.map Rule.label).map D.str
theorem line_big : 16777216 = sizeLine := by decide
section
variable {K : PySem.W.Frag} {M : List Addr} {σ : L2.St} {H : Hp} {t ta tb tc : TE} {d da db : D}
theorem rp_lbs {rs : List Rule} {vs : List V} : RpL K H (lbD rs) vs ↔ vs = lbV rs := rp_strs
theorem rp_new {p : Addr} {l : List D} {vs : List V} (hp : p ∉ M) (h : H p = some (.lst vs)) (r : RpL K (wo M H) l vs) : Rp K (wo M H) (.lst l) (.ref p) := ⟨p, vs, rfl, by rw [wo_at hp]; exact h, r⟩
theorem rp_newT {p : Addr} {l : List D} {vs : List V} (hp : p ∉ M) (h : H p = some (.tup vs)) (r : RpL K (wo M H) l vs) : Rp K (wo M H) (.tup l) (.ref p) := ⟨p, vs, rfl, by rw [wo_at hp]; exact h, r⟩
theorem ok_lbs {rs : List Rule} : Ok 1 (.lst (lbD rs)) := .lst fun x hx => by
  obtain ⟨s, hs, rfl⟩ := List.mem_map.mp hx
  obtain ⟨r, _, rfl⟩ := List.mem_map.mp hs
  exact .str label_small
/-- _law_chain(labels) -/
theorem rd_chainOf {u : TA} {rs : List Rule} (hok : ∀ r ∈ rs, r.ok) (h1 : 1 ≤ rs.length) (h8 : rs.length ≤ 8) (h : RdA K M u σ H [.lst (lbD rs)]) : Rd K M (tCall (spChainOf K) [] E0 u) σ H (.chain rs) :=
  fun H1 s1 g Q k => h H1 s1 g _ fun xs H2 s2 g2 r2 => by
    obtain ⟨v, rfl, a, vs, rfl, e1, r1⟩ := rp1 r2
    rw [rp_lbs.mp r1] at e1
    exact ⟨a, rs, rfl, wo_le _ _ e1, hok, h1, h8, new_chain g2 fun v H3 s3 => k v H3 (s2.trans s3)⟩
/-- the own name of a comprehension -/
theorem rd_own {i : Nat} {v : V} {x : D} (hi : i < σ.length) (r : Rp K (wo M H) x v) : Rd K M (tVar i) ((L2.wipe σ [i]).set i (some v)) H x :=
  rd_var (by rw [List.getElem?_set_self (by rw [L2.wipe_length]; exact hi)]) r
theorem turns_some {i : Nat} {x : D} (hi : i < σ.length) : Turns K M σ H i (tTest (tOp (fun x y H Q => y = .non ∧ Q (.bl (!decide (x = .non))) H) (tVar i) (tC .non))) (tVar i) x (if (!isN x) = true then some x else none) :=
  turns_if (fun M' H' v s f g r => rdt_cmp (rd_notN (rd_own hi r) rd_non)) (fun _ M' H' v s f g r => rd_own hi r)
theorem turns_none {i : Nat} {x : D} (hi : i < σ.length) : Turns K M σ H i (tTest (tOp (fun x y H Q => y = .non ∧ Q (.bl (decide (x = .non))) H) (tVar i) (tC .non))) (tVar i) x (if (isN x) = true then some x else none) :=
  turns_if (fun M' H' v s f g r => rdt_cmp (rd_isN (rd_own hi r) rd_non)) (fun _ M' H' v s f g r => rd_own hi r)
/-- [x for x in xs if x is not None], numbers and None -/
theorem rd_somesL {tl : TE} {i : Nat} {os : List (Option Int)} (hi : i < σ.length) (hl : os.length < sizeLine) (h : Rd K M tl σ H (.lst (os.map dO))) :
    Rd K M (tLc (iList K tl) (gName i) (tTest (tOp (fun x y H Q => y = .non ∧ Q (.bl (!decide (x = .non))) H) (tVar i) (tC .non))) (tVar i) [i]) σ H (.lst ((os.filterMap id).map D.int)) := by
  have z := rd_lcL (K := K) (M := M) (i := i) (fun x => if (!isN x) = true then some x else none) h (by rw [List.length_map]; exact hl) fun x _ H' _ => turns_some (K := K) (M := M) (σ := σ) (H := H') (i := i) (x := x) hi
  rw [somes_map] at z
  exact z
theorem rd_somesT {tl : TE} {i : Nat} {os : List (Option Int)} (hi : i < σ.length) (hl : os.length < sizeLine) (h : Rd K M tl σ H (.tup (os.map dO))) :
    Rd K M (tLc (iTup K tl) (gName i) (tTest (tOp (fun x y H Q => y = .non ∧ Q (.bl (!decide (x = .non))) H) (tVar i) (tC .non))) (tVar i) [i]) σ H (.lst ((os.filterMap id).map D.int)) := by
  have z := rd_lcT (K := K) (M := M) (i := i) (fun x => if (!isN x) = true then some x else none) h (by rw [List.length_map]; exact hl) fun x _ H' _ => turns_some (K := K) (M := M) (σ := σ) (H := H') (i := i) (x := x) hi
  rw [somes_map] at z
  exact z
/-- [f(x) for x in xs], xs numbers; or numbers and None -/
theorem map_some {α β γ : Type} (l : List α) (f : α → β) (g : β → Option γ) (k : α → γ) (h : ∀ x ∈ l, g (f x) = some (k x)) : (l.map f).filterMap g = l.map k := by
  induction l with
  | nil => rfl
  | cons x xs ih =>
    rw [List.map_cons, List.filterMap_cons, h x List.mem_cons_self, List.map_cons, ih fun y hy => h y (List.mem_cons_of_mem _ hy)]
theorem rd_mapL {α : Type} {tl : TE} {i : Nat} {te : TE} (l : List α) (f : α → D) (k : α → D) (hl : l.length < sizeLine) (h : Rd K M tl σ H (.lst (l.map f)))
    (ht : ∀ x ∈ l, ∀ H1, Same H H1 → ∀ M' H' v, Same H1 H' → Same (wo M H1) (wo M' H') → Gd K M' H' → Rp K (wo M' H') (f x) v → Rd K M' te ((L2.wipe σ [i]).set i (some v)) H' (k x)) :
    Rd K M (tLc (iList K tl) (gName i) tYes te [i]) σ H (.lst (l.map k)) := fun H1 s1 g Q kk => h H1 s1 g _ fun x H2 s2 g2 rx => by
  obtain ⟨a, vs, rfl, e1, r1⟩ := rx
  have ea := wo_le _ _ e1
  refine ⟨a, rfl, ⟨vs, SqL.of ea⟩, fun D0 hD0 => ?_⟩
  have hD0M := g2.out hD0
  refine lc_list (K := K) (a := a) (xs := vs) (fun n H3 => ∃ acc, Same H2 H3 ∧ Gd K (D0 :: M) H3 ∧ H3 D0 = some (.lst acc) ∧ RpL K (wo (D0 :: M) H3) ((l.take n).map k) acc) ?_ ?_ ?_ ?_
  · exact ⟨[], same_new hD0, (g2.same (same_new hD0)).lst upd_same, upd_same, rfl⟩
  · rintro n H3 _ ⟨acc, s3, _⟩
    exact SqL.of (s3 _ _ ea)
  · rintro n v H3 hi ⟨acc, s3, g3, hD, ra⟩
    obtain ⟨x, hx, rv⟩ := r1.get' hi
    rw [List.getElem?_map] at hx
    cases q : l[n]? with
    | none => rw [q] at hx; cases hx
    | some z =>
      rw [q] at hx
      cases hx
      have rv3 := Rp.same (wo_cons (M := M) hD0 s3) _ rv
      refine ⟨wipe_one, ?_⟩
      simp only [tYes, if_true]
      refine ht z (List.mem_of_getElem? q) H2 (s1.trans s2) (D0 :: M) H3 v s3 (wo_cons hD0 s3) g3 rv3 H3 (Same.refl _) g3 _ fun y H5 s5 g5 r5 => ?_
      have r6 : RpL K (wo (D0 :: M) H5) ((l.take n).map k) acc := RpL.same (swo s5) _ ra
      refine ⟨acc, s5 _ _ hD, ?_, acc ++ [y], ?_, g5.at trivial, upd_same, ?_⟩
      · rw [r6.len, List.length_map, List.length_take]
        omega
      · intro b o hb
        rw [upd_ne (ne_of_none hb hD0)]
        exact s5 _ _ (s3 _ _ hb)
      · rw [wo_upd List.mem_cons_self, take_more q, List.map_append]
        exact r6.snoc r5
  · rintro H3 ⟨acc, s3, g3, hD, ra⟩
    rw [r1.len, List.length_map, List.take_length] at ra
    exact kk _ H3 (s2.trans s3) g3.tl (lc_done hD0M hD ra)
theorem rd_mapT {α : Type} {tl : TE} {i : Nat} {te : TE} (l : List α) (f : α → D) (k : α → D) (hl : l.length < sizeLine) (h : Rd K M tl σ H (.tup (l.map f)))
    (ht : ∀ x ∈ l, ∀ H1, Same H H1 → ∀ M' H' v, Same H1 H' → Same (wo M H1) (wo M' H') → Gd K M' H' → Rp K (wo M' H') (f x) v → Rd K M' te ((L2.wipe σ [i]).set i (some v)) H' (k x)) :
    Rd K M (tLc (iTup K tl) (gName i) tYes te [i]) σ H (.lst (l.map k)) := fun H1 s1 g Q kk => h H1 s1 g _ fun x H2 s2 g2 rx => by
  obtain ⟨a, vs, rfl, e1, r1⟩ := rx
  have ea := wo_le _ _ e1
  refine ⟨a, rfl, ⟨vs, SqT.of ea⟩, fun D0 hD0 => ?_⟩
  have hD0M := g2.out hD0
  refine lc_tup (K := K) (a := a) (xs := vs) (fun n H3 => ∃ acc, Same H2 H3 ∧ Gd K (D0 :: M) H3 ∧ H3 D0 = some (.lst acc) ∧ RpL K (wo (D0 :: M) H3) ((l.take n).map k) acc) ?_ ?_ ?_ ?_
  · exact ⟨[], same_new hD0, (g2.same (same_new hD0)).lst upd_same, upd_same, rfl⟩
  · rintro n H3 _ ⟨acc, s3, _⟩
    exact SqT.of (s3 _ _ ea)
  · rintro n v H3 hi ⟨acc, s3, g3, hD, ra⟩
    obtain ⟨x, hx, rv⟩ := r1.get' hi
    rw [List.getElem?_map] at hx
    cases q : l[n]? with
    | none => rw [q] at hx; cases hx
    | some z =>
      rw [q] at hx
      cases hx
      have rv3 := Rp.same (wo_cons (M := M) hD0 s3) _ rv
      refine ⟨wipe_one, ?_⟩
      simp only [tYes, if_true]
      refine ht z (List.mem_of_getElem? q) H2 (s1.trans s2) (D0 :: M) H3 v s3 (wo_cons hD0 s3) g3 rv3 H3 (Same.refl _) g3 _ fun y H5 s5 g5 r5 => ?_
      have r6 : RpL K (wo (D0 :: M) H5) ((l.take n).map k) acc := RpL.same (swo s5) _ ra
      refine ⟨acc, s5 _ _ hD, ?_, acc ++ [y], ?_, g5.at trivial, upd_same, ?_⟩
      · rw [r6.len, List.length_map, List.length_take]
        omega
      · intro b o hb
        rw [upd_ne (ne_of_none hb hD0)]
        exact s5 _ _ (s3 _ _ hb)
      · rw [wo_upd List.mem_cons_self, take_more q, List.map_append]
        exact r6.snoc r5
  · rintro H3 ⟨acc, s3, g3, hD, ra⟩
    rw [r1.len, List.length_map, List.take_length] at ra
    exact kk _ H3 (s2.trans s3) g3.tl (lc_done hD0M hD ra)
/-- None if x is None else f(x) -/
theorem rd_optI {i : Nat} {o : Option Int} {te : TE} {f : Int → Int} (hv : Rd K M (tVar i) σ H (dO o)) (h : ∀ z, o = some z → Rd K M te σ H (.int (f z))) :
    Rd K M (tIf (tTest (tOp (fun x y H Q => y = .non ∧ Q (.bl (decide (x = .non))) H) (tVar i) (tC .non))) (tC .non) te) σ H (dO (o.map f)) := by
  cases o with
  | none => exact rd_if (da := .non) (db := .non) (rdt_cmp (rd_isN hv rd_non)) (fun _ => rd_non) (fun z => by cases z)
  | some z => exact rd_if (da := .non) (db := .non) (rdt_cmp (rd_isN hv rd_non)) (fun z => by cases z) (fun _ => h z rfl)
theorem rep_one {α : Type} (z : α) (n : Nat) : (List.replicate n [z]).flatten = List.replicate n z := rep_flat z n
/-- count(None) of numbers and None -/
theorem rd_countN {to : TE} {u : TA} {os : List (Option Int)} (h : Rd K M to σ H (.lst (os.map dO))) (hu : RdA K M u σ H [.non]) : Rd K M (tBM K "list" (rCountF K) to u) σ H (.int (os.countP Option.isNone : Nat)) :=
  fun H1 s1 g Q k => h H1 s1 g _ fun x H2 s2 g2 rx => by
    obtain ⟨a, vs, rfl, e1, r1⟩ := rx
    have e := rp_opts.mp r1
    subst e
    refine ⟨.inl ⟨rfl, _, SqL.of (wo_le _ _ e1)⟩, hu H2 (s1.trans s2) g2 _ fun xs H3 s3 g3 r3 => ?_⟩
    obtain ⟨v, rfl, rv⟩ := rp1 r3
    cases rv
    have fl : ∀ l : List (Option Int), (l.map ov).all flatV = true := fun l => by
      rw [List.all_eq_true]
      intro y hy
      obtain ⟨o, _, rfl⟩ := List.mem_map.mp hy
      cases o <;> rfl
    have ct : ∀ l : List (Option Int), (l.map ov).countP (fun z => eqV z .non) = l.countP Option.isNone := fun l => by
      rw [List.countP_map]
      congr 1
      funext o
      cases o <;> rfl
    refine ⟨a, os.map ov, .non, rfl, rfl, SqL.of (s3 _ _ (wo_le _ _ e1)), rfl, fl os, k _ H3 (s2.trans s3) g3 ?_⟩
    show V.int _ = V.int _
    rw [ct os]
end
end SC
set_option maxRecDepth 100000
set_option maxHeartbeats 2000000
/-! # Part W: a def of the text by its name -/
namespace SC
open PySem PySem.Spec PyProof.Rows L2 TL
def Fu (P : Program) (w : World) (K : PySem.W.Frag) (mg : Str → Option Value) (base : Heap) (CX : CXT) (k : Nat) (x : Str) (ps : List Str) (sp : Sp) : Prop :=
  ∃ g gd, FnOk P w K mg base CX k g gd ps sp ∧ Binds K gd ps [] ∧ PySem.W.keepIn K (.ref g) = true ∧ mg x = some (.ref g)
theorem Fu.mk {P : Program} {w : World} {K : PySem.W.Frag} {mg : Str → Option Value} {base : Heap} {CX : CXT} {k : Nat} {x : Str} {ps : List Str} {sp : Sp} {g : Addr} {gd : FuncData} (F : FnOk P w K mg base CX k g gd ps sp) (b : Binds K gd ps []) (h : PySem.W.keepIn K (.ref g) = true) (m : mg x = some (.ref g)) : Fu P w K mg base CX k x ps sp := ⟨g, gd, F, b, h, m⟩
theorem pe_fu {X : Cx} {CX : CXT} {k n : Nat} {x : Str} {ps : List Str} {sp : Sp} {E : XK} {e : Expr} {es : List Expr} {t : TA} {p pos : Pos} (F : Fu X.prog X.w X.K X.mg X.base CX k x ps sp) (hr : Room n X.A) (hn : k ≤ n) (hg : Gl X x) (hx : Passes CX X E)
    (ha : PA X (e :: es) t) (hdb : (x == ("__debug__" : Str)) = false := by decide) (he : starEach (e :: es) X.env = (false, eval e X.env) :: starEach es X.env := by rfl) (hpl : (backTo pos (starEach es X.env)).any (·.1) = false := by rfl) :
    PE X (.Call (.Name x p) (e :: es) [] pos) (tCall sp [] E t) := by
  obtain ⟨g, gd, F, b, h, m⟩ := F
  exact pe_call F (hr.mono hn) hg m h b .nil hx ha hdb he hpl
section
variable {K : PySem.W.Frag} {M : List Addr} {σ : L2.St} {H : Hp} {t ta tb tc : TE} {d da db : D}
/-- a, b = x, y -/
theorem use_par {i j : Nat} {u : TA} {D : Ends} {x y : SC.D} (h : RdA K M u σ H [x, y]) (g : Gd K M H) (k : ∀ v w H2, Same H H2 → Gd K M H2 → Rp K (wo M H2) x v → Rp K (wo M H2) y w → D.nx ((σ.set i (some v)).set j (some w)) H2) : tPar i j u D σ H :=
  h H (Same.refl _) g _ fun vs H2 s g2 r => by
    obtain ⟨v, vs1, rfl, r1, w, vs2, rfl, r2, r3⟩ := r
    cases r3
    exact ⟨v, w, rfl, k v w H2 s g2 r1 r2⟩
/-- a < b < c -/
theorem rdt_chain {r r' : R2} {b c : Bool} {y : SC.D} (h1 : Rd K M ta σ H da) (h2 : Rd K M tb σ H y) (h3 : Rd K M tc σ H db)
    (hr : ∀ x z H1 Q, Gd K M H1 → Rp K (wo M H1) da x → Rp K (wo M H1) y z → (∀ H2, Same H1 H2 → Gd K M H2 → Q (.bl b) H2) → r x z H1 Q) (hr' : ∀ x z H1 Q, Gd K M H1 → Rp K (wo M H1) y x → Rp K (wo M H1) db z → (∀ H2, Same H1 H2 → Gd K M H2 → Q (.bl c) H2) → r' x z H1 Q) :
    Rd K M (tChain r r' ta tb tc) σ H (.bl (b && c)) := fun H1 s1 g Q k => h1 H1 s1 g _ fun x H2 s2 g2 rx => h2 H2 (s1.trans s2) g2 _ fun z H3 s3 g3 rz => hr x z H3 _ g3 (Rp.same (swo s3) _ rx) rz fun H4 s4 g4 => ⟨b, rfl, by
      cases b with
      | false => exact iteF (k _ H4 ((s2.trans s3).trans s4) g4 rfl)
      | true => exact iteT (h3 H4 (((s1.trans s2).trans s3).trans s4) g4 _ fun q H5 s5 g5 rq => hr' z q H5 _ g5 (Rp.same (swo (s4.trans s5)) _ rz) rq fun H6 s6 g6 => k _ H6 ((((s2.trans s3).trans s4).trans s5).trans s6) g6 rfl)⟩
theorem rd_ltlt {i j l : Int} (h1 : Rd K M ta σ H (.int i)) (h2 : Rd K M tb σ H (.int j)) (h3 : Rd K M tc σ H (.int l)) : Rd K M (tChain (rI0 fun i j => .bl (decide (i < j))) (rI0 fun i j => .bl (decide (i < j))) ta tb tc) σ H (.bl (decide (i < j) && decide (j < l))) :=
  rdt_chain h1 h2 h3 (fun x z H1 Q g hx hz k => ⟨i, j, hx, hz, k H1 (Same.refl _) g⟩) (fun x z H1 Q g hx hz k => ⟨j, l, hx, hz, k H1 (Same.refl _) g⟩)
theorem Rd.cast {d' : SC.D} (e : d = d') (h : Rd K M t σ H d) : Rd K M t σ H d' := e ▸ h
theorem RdA.cast {u : TA} {l l' : List SC.D} (e : l = l') (h : RdA K M u σ H l) : RdA K M u σ H l' := e ▸ h
theorem rdt_test {b : Bool} (h : Rd K M t σ H (.bl b)) : RdT K M (tTest t) σ H b := fun H1 s1 g Q k => h H1 s1 g _ fun v H2 s2 g2 r2 => ⟨b, r2, k H2 s2 g2⟩
theorem RdT.cast {tt : TT} {b b' : Bool} (e : b = b') (h : RdT K M tt σ H b) : RdT K M tt σ H b' := e ▸ h
/-! lists of one kind -/
section
variable {α : Type} {f : α → SC.D} {xs ys : List α} {n : Nat}
theorem rd_takeM (ha : Rd K M ta σ H (.lst (xs.map f))) (hb : Rd K M tb σ H (.int n)) : Rd K M (tSl (rSlL K) ta tNoPart (tPart tb)) σ H (.lst ((xs.take n).map f)) :=
  (rd_slL ha rdo_none (rdo_some hb)).cast (by rw [cut_to, List.map_take])
theorem rd_dropM (ha : Rd K M ta σ H (.lst (xs.map f))) (hb : Rd K M tb σ H (.int n)) : Rd K M (tSl (rSlL K) ta (tPart tb) tNoPart) σ H (.lst ((xs.drop n).map f)) :=
  (rd_slL ha (rdo_some hb) rdo_none).cast (by rw [cut_from, List.map_drop])
theorem rd_takeT (ha : Rd K M ta σ H (.tup (xs.map f))) (hb : Rd K M tb σ H (.int n)) : Rd K M (tSl (rSlA K) ta tNoPart (tPart tb)) σ H (.tup ((xs.take n).map f)) :=
  (rd_slT ha rdo_none (rdo_some hb)).cast (by rw [cut_to, List.map_take])
theorem rd_dropT (ha : Rd K M ta σ H (.tup (xs.map f))) (hb : Rd K M tb σ H (.int n)) : Rd K M (tSl (rSlA K) ta (tPart tb) tNoPart) σ H (.tup ((xs.drop n).map f)) :=
  (rd_slT ha (rdo_some hb) rdo_none).cast (by rw [cut_from, List.map_drop])
theorem rd_revM (ha : Rd K M ta σ H (.lst (xs.map f))) : Rd K M (tRevL K ta) σ H (.lst (xs.reverse.map f)) := (rd_revL ha).cast (by rw [List.map_reverse])
theorem rd_catM (hl : xs.length + ys.length ≤ sizeLine) (ha : Rd K M ta σ H (.lst (xs.map f))) (hb : Rd K M tb σ H (.lst (ys.map f))) : Rd K M (tOp rCat ta tb) σ H (.lst ((xs ++ ys).map f)) :=
  (rd_cat (by rw [List.length_map, List.length_map]; exact hl) ha hb).cast (by rw [List.map_append])
theorem rd_catTM (hl : xs.length + ys.length ≤ sizeLine) (ha : Rd K M ta σ H (.tup (xs.map f))) (hb : Rd K M tb σ H (.tup (ys.map f))) : Rd K M (tOp (rCatA K) ta tb) σ H (.tup ((xs ++ ys).map f)) :=
  (rd_catT (by rw [List.length_map, List.length_map]; exact hl) ha hb).cast (by rw [List.map_append])
theorem rd_lenM {u : TA} (h : RdA K M u σ H [.lst (xs.map f)]) : Rd K M (tCB (fun xs H Q => ∃ p ys, xs = [.ref p] ∧ (SqL K H p ys ∨ SqT K H p ys) ∧ Q (.int ys.length) H) u) σ H (.int xs.length) := (rd_lenL h).cast (by rw [List.length_map])
theorem rd_lenTM {u : TA} (h : RdA K M u σ H [.tup (xs.map f)]) : Rd K M (tCB (fun xs H Q => ∃ p ys, xs = [.ref p] ∧ (SqL K H p ys ∨ SqT K H p ys) ∧ Q (.int ys.length) H) u) σ H (.int xs.length) := (rd_lenT h).cast (by rw [List.length_map])
theorem rd_repM {x : α} (hn : n ≤ sizeLine) (ha : Rd K M ta σ H (.lst [f x])) (hb : Rd K M tb σ H (.int n)) : Rd K M (tOp rRep ta tb) σ H (.lst ((List.replicate n x).map f)) := by
  have hs : sizeLine < 2 ^ 62 := by decide
  refine (rd_rep (n := (n : Int)) (by omega) (by omega) ?_ ha hb).cast ?_
  · rw [Int.toNat_natCast, List.length_singleton, Nat.one_mul]
    exact hn
  · rw [Int.toNat_natCast, rep_flat, List.map_replicate]
theorem rd_atM {x : α} (hx : xs[n]? = some x) (ha : Rd K M ta σ H (.lst (xs.map f))) (hb : Rd K M tb σ H (.int n)) : Rd K M (tOp (rIxL K) ta tb) σ H (f x) :=
  rd_ixL (atI_nat (j := n) (by rw [List.getElem?_map, hx]; rfl)) ha hb
theorem rd_atT {x : α} (hx : xs[n]? = some x) (ha : Rd K M ta σ H (.tup (xs.map f))) (hb : Rd K M tb σ H (.int n)) : Rd K M (tOp (rIxT K) ta tb) σ H (f x) :=
  rd_ixT (atI_nat (j := n) (by rw [List.getElem?_map, hx]; rfl)) ha hb
end
theorem ints_opts (ns : List Int) : ns.map D.int = (ns.map some).map dO := by
  rw [List.map_map]
  rfl
theorem nones_opts (n : Nat) : List.replicate n D.non = (nones n).map dO := by
  unfold nones
  rw [List.map_replicate]
  rfl
theorem rd_opts {ns : List Int} (h : Rd K M t σ H (.lst (ns.map D.int))) : Rd K M t σ H (.lst ((ns.map some).map dO)) := h.cast (by rw [ints_opts])
/-- a random number: what is left of the source -/
theorem use_below {u : TA} {lim : Int} {dd : Addr} {ds : List Int} {Q : VK} {H1 : Hp} (h0 : 0 < lim) (h1 : lim < 18446744073709551616) (hd : H1 dd = some (.lst (ds.map V.int))) (hD : DOk ds) (k : ∀ (i : Nat) (ds' : List Int), (i : Int) < lim → DOk ds' → Q (.int i) (upd H1 dd (.lst (ds'.map V.int)))) :
    spBelow [.ref dd, .int lim] H1 Q E0 := ⟨dd, lim, ds, rfl, h0, h1, hd, hD, fun i ds' a b c => by
      have e : ((i.toNat : Nat) : Int) = i := Int.toNat_of_nonneg a
      have z := k i.toNat ds' (by omega) c
      rw [e] at z
      exact z⟩
theorem rd_t0 {x y : SC.D} (ha : Rd K M ta σ H (.tup [x, y])) (hb : Rd K M tb σ H (.int 0)) : Rd K M (tOp (rIxT K) ta tb) σ H x := rd_ixT rfl ha hb
theorem rd_t1 {x y : SC.D} (ha : Rd K M ta σ H (.tup [x, y])) (hb : Rd K M tb σ H (.int 1)) : Rd K M (tOp (rIxT K) ta tb) σ H y := rd_ixT rfl ha hb
/-- what a row gives, its first and its second part -/
theorem rd_run0 {X : Cx} {tf : TE} {u : TA} {rs : List Rule} {ns : List Int} (hl : ns.length ≤ 1000) (hz : ∀ z ∈ ns, numOk z) (hf : Rd K M tf σ H (.chain rs)) (ha : RdA K M u σ H [.lst (ns.map D.int)]) :
    Rd K M (tOp (rIxT K) (StX.tCallO X (ChC K) (spChCall K) E0 tf u) (tC (.int 0))) σ H (.lst ((runR rs (nones rs.length) ns).1.map dO)) := rd_t0 (rd_chcall hl hz hf ha) rd_int
theorem rd_run1 {X : Cx} {tf : TE} {u : TA} {rs : List Rule} {ns : List Int} (hl : ns.length ≤ 1000) (hz : ∀ z ∈ ns, numOk z) (hf : Rd K M tf σ H (.chain rs)) (ha : RdA K M u σ H [.lst (ns.map D.int)]) :
    Rd K M (tOp (rIxT K) (StX.tCallO X (ChC K) (spChCall K) E0 tf u) (tC (.int 1))) σ H (.tup ((runR rs (nones rs.length) ns).2.map dO)) := rd_t1 (rd_chcall hl hz hf ha) rd_int
end
end SC
set_option maxRecDepth 100000
set_option maxHeartbeats 2000000
/-! # Part O: lists of random things; more readings -/
namespace SC
open PySem PySem.Spec PyProof.Rows L2 TL
/-- a source of random numbers stands at dd -/
def Src (dd : Addr) (H : Hp) : Prop := ∃ ds : List Int, DOk ds ∧ H dd = some (.lst (ds.map V.int))
theorem Src.same {dd : Addr} {H H' : Hp} (h : Src dd H) (s : Same H H') : Src dd H' := by
  obtain ⟨ds, h1, h2⟩ := h
  exact ⟨ds, h1, s _ _ h2⟩
section
variable {K : PySem.W.Frag} {M : List Addr} {σ : L2.St} {H : Hp} {t ta tb tc : TE} {d da db : D}
/-- _law_below(d, lim), read -/
theorem use_rand {dd : Addr} {lim : Int} {Q : VK} {vs : List V} (e : vs = [.ref dd, .int lim]) (h0 : 0 < lim) (h1 : lim < 18446744073709551616) (hs : Src dd H) (g : Gd K M H) (hm : dd ∈ M)
    (k : ∀ (i : Nat) (H' : Hp), (i : Int) < lim → Fm M H H' → Fr1 dd H H' → Gd K M H' → Src dd H' → Q (.int i) H') : spBelow vs H Q E0 := by
  obtain ⟨ds, hD, hd⟩ := hs
  refine ⟨dd, lim, ds, e, h0, h1, hd, hD, fun i ds' a b c => ?_⟩
  obtain ⟨n, rfl⟩ := Int.eq_ofNat_of_zero_le a
  exact k n _ b (Fm.at hm) Fr1.at (g.at trivial) ⟨ds', c, upd_same⟩
/-- one random thing after another, in a comprehension over range(n) -/
theorem lc_rand {α : Type} {n i : Nat} {te : TE} {H1 : Hp} {D0 dd : Addr} {Qd : Hp → Prop} (P : α → Prop) (f : α → D) (hD0 : H1 D0 = none) (hs : Src dd H1) (hM : dd ∈ M) (hn : n < sizeLine) (g : Gd K M H1)
    (turn : ∀ (m : Nat) (H' : Hp), m < n → Fm M H1 H' → Gd K (D0 :: M) H' → Src dd H' → ∀ Q : VK, (∀ (x : α) (v : V) (H'' : Hp), P x → Fm (D0 :: M) H' H'' → Fr1 dd H' H'' → Gd K (D0 :: M) H'' → Src dd H'' → Rp K (wo (D0 :: M) H'') (f x) v → Q v H'') →
      te ((L2.wipe σ [i]).set i (some (.int (m : Int)))) H' Q)
    (done : ∀ (H' : Hp) (xs : List α), xs.length = n → (∀ x ∈ xs, P x) → Fm M H1 H' → Gd K M H' → Src dd H' → Rp K (wo M H') (.lst (xs.map f)) (.ref D0) → Qd H') :
    ∃ W : Nat → Nat → Hp → Prop, (∃ m, W 0 m (upd H1 D0 (.lst []))) ∧ ∀ k m H, W k m H →
      ((Itr 0 n).stop k H ∧ Qd H) ∨ ((Itr 0 n).go k H ∧ ∃ Nx : Hp → Prop, (∀ H', Nx H' → ∃ m', m' < m ∧ W (k + 1) m' H') ∧ ∀ x H', (Itr 0 n).yld k H x H' → gName i x (L2.wipe σ [i]) H' fun σ2 H2 => L2.wipe σ2 [i] = L2.wipe σ [i] ∧ tYes σ2 H2 fun b H3 =>
        if b = true then te σ2 H3 fun y H4 => ∃ acc, H4 D0 = some (.lst acc) ∧ acc.length < sizeLine ∧ Nx (upd H4 D0 (.lst (acc ++ [y]))) else Nx H3) := by
  have nD : D0 ∉ M := g.out hD0
  have ndd : dd ≠ D0 := fun e => nD (e ▸ hM)
  refine lc_range (lo := 0) (n := n) (fun m H3 => ∃ (xs : List α) (acc : List V), xs.length = m ∧ (∀ x ∈ xs, P x) ∧ Fm M H1 H3 ∧ Gd K (D0 :: M) H3 ∧ Src dd H3 ∧ H3 D0 = some (.lst acc) ∧ RpL K (wo (D0 :: M) H3) (xs.map f) acc) ?_ ?_ ?_
  · refine ⟨[], [], rfl, (fun x hx => by cases hx), Fm.of (same_new hD0), (g.same (same_new hD0)).lst upd_same, hs.same (same_new hD0), upd_same, rfl⟩
  · rintro m H3 hm ⟨xs, acc, hl, hp, f3, g3, s3, hD, ra⟩
    rw [Int.zero_add]
    refine ⟨wipe_one, ?_⟩
    simp only [tYes, if_true]
    refine turn m H3 hm f3 g3 s3 _ fun x v H4 px f4 r4 g4 s4 rv => ?_
    have hD4 : H4 D0 = some (.lst acc) := r4 _ _ hD (Ne.symm ndd)
    have ra4 : RpL K (wo (D0 :: M) H4) (xs.map f) acc := RpL.same f4 _ ra
    refine ⟨acc, hD4, ?_, xs ++ [x], acc ++ [v], by rw [List.length_append, hl]; rfl, ?_, ?_, g4.at trivial, ?_, upd_same, ?_⟩
    · rw [ra4.len, List.length_map, hl]
      omega
    · intro y hy
      rcases List.mem_append.mp hy with hy | hy
      · exact hp y hy
      · rw [List.mem_singleton.mp hy]
        exact px
    · intro b o hb
      obtain ⟨e1, e2⟩ := wo_some (f3 b o hb)
      have nb : b ≠ D0 := fun z => by
        have hb' := wo_le _ _ hb
        rw [z, hD0] at hb'
        cases hb'
      rw [wo_at e1, upd_ne nb]
      exact r4 _ _ e2 (fun z => e1 (z ▸ hM))
    · obtain ⟨ds, h1, h2⟩ := s4
      exact ⟨ds, h1, by rw [upd_ne ndd]; exact h2⟩
    · rw [wo_upd List.mem_cons_self, List.map_append]
      exact ra4.snoc rv
  · rintro H3 ⟨xs, acc, hl, hp, f3, g3, s3, hD, ra⟩
    exact done H3 xs hl hp f3 g3.tl s3 (lc_done nD hD ra)
/-- more readings -/
theorem rd_lstA {u : TA} {ds : List SC.D} (h : RdA K M u σ H ds) (hl : decide (ds.length ≤ sizeLine) = true := by rfl) : Rd K M (tLst u) σ H (.lst ds) := rd_lst (of_decide_eq_true hl) h
theorem rd_tupA {u : TA} {ds : List SC.D} (h : RdA K M u σ H ds) (hl : decide (ds.length ≤ sizeLine) = true := by rfl) : Rd K M (tTup u) σ H (.tup ds) := rd_tup (of_decide_eq_true hl) h
theorem rd_addS {i j : Str} (hl : i.length + j.length ≤ sizeLine) (ha : Rd K M ta σ H (.str i)) (hb : Rd K M tb σ H (.str j)) : Rd K M (tOp (fun x y H Q => ∃ i j, x = .str i ∧ y = .str j ∧ i.length + j.length ≤ sizeLine ∧ Q (.str (i ++ j)) H) ta tb) σ H (.str (i ++ j)) :=
  rd_op ha hb fun x y H1 Q g hx hy k => ⟨i, j, hx, hy, hl, k _ H1 (Same.refl _) g rfl⟩
theorem rd_strI {u : TA} {i : Int} (hl : i.natAbs.log2 < 1920) (h : RdA K M u σ H [.int i]) : Rd K M (tCB (fun xs H Q => ∃ i : Int, xs = [.int i] ∧ i.natAbs.log2 < 1920 ∧ Q (.str (toString i)) H) u) σ H (.str (numS i)) :=
  rd_cb h fun xs H1 Q g hx k => by
    obtain ⟨v, rfl, rv⟩ := rp1 hx
    cases rv
    exact ⟨i, rfl, hl, k _ H1 (Same.refl _) g rfl⟩
theorem rd_minP {u : TA} {i j : Int} (h : RdA K M u σ H [.int i, .int j]) : Rd K M (tCB (fun xs H Q => ∃ i j, xs = [.int i, .int j] ∧ Q (.int (if j < i then j else i)) H) u) σ H (.int (min i j)) :=
  rd_cb h fun xs H1 Q g hx k => by
    obtain ⟨v, vs, rfl, r1, w, vs2, rfl, r2, r3⟩ := hx
    cases r1
    cases r2
    cases r3
    refine ⟨i, j, rfl, k _ H1 (Same.refl _) g ?_⟩
    show V.int _ = V.int _
    congr 1
    split <;> omega
/-- Chain.parse(text) -/
theorem rd_parse {u : TA} {rs : List Rule} (hok : ∀ r ∈ rs, r.ok) (h1 : 1 ≤ rs.length) (h8 : rs.length ≤ 8) (h : RdA K M u σ H [.str (txtOf rs)]) : Rd K M (ClX.tCMeth (ChC K) (spParse K) E0 (tC (.ref (ChC K))) u) σ H (.chain rs) :=
  fun H1 s1 g Q k => ⟨rfl, h H1 s1 g _ fun xs H2 s2 g2 r2 => by
    obtain ⟨v, rfl, rv⟩ := rp1 r2
    cases rv
    exact ⟨rs, rfl, hok, h1, h8, new_chain g2 fun v H3 s3 => k v H3 (s2.trans s3)⟩⟩
theorem use_tup3 {i j l : Nat} {D : Ends} {x y z : SC.D} (h : Rd K M t σ H (.tup [x, y, z])) (g : Gd K M H) (k : ∀ v u w H2, Same H H2 → Gd K M H2 → Rp K (wo M H2) x v → Rp K (wo M H2) y u → Rp K (wo M H2) z w → D.nx (((σ.set i (some v)).set j (some u)).set l (some w)) H2) :
    tAsg t (gTup K 3 (gCons (gName i) (gCons (gName j) (gCons (gName l) gNil)))) D σ H := h H (Same.refl _) g _ fun w H2 s g2 r => by
  obtain ⟨a, vs, rfl, e, v, vs1, rfl, r1, u, vs2, rfl, r2, q, vs3, rfl, r3, r4⟩ := r
  cases r4
  exact ⟨a, [v, u, q], rfl, SqT.of (wo_le _ _ e), rfl, _, _, rfl, _, _, rfl, _, _, rfl, rfl, k v u q H2 s g2 r1 r2 r3⟩
end
/-! rules whose readings name K, not the block they stand in -/
abbrev rLenS (K : PySem.W.Frag) : List V → Hp → VK → Prop := fun xs H Q => ∃ p ys, xs = [.ref p] ∧ (SqL K H p ys ∨ SqT K H p ys) ∧ Q (.int ys.length) H
abbrev rListOf (K : PySem.W.Frag) : List V → Hp → VK → Prop := fun xs H Q => ∃ p ys, xs = [.ref p] ∧ (SqL K H p ys ∨ SqT K H p ys) ∧ ∀ l, H l = none → Q (.ref l) (upd H l (.lst ys))
abbrev rTupOf (K : PySem.W.Frag) : List V → Hp → VK → Prop := fun xs H Q => ∃ p ys, xs = [.ref p] ∧ ((SqL K H p ys ∧ ∀ l, H l = none → Q (.ref l) (upd H l (.tup ys))) ∨ (SqT K H p ys ∧ Q (.ref p) H))
abbrev rLenC (K : PySem.W.Frag) : List V → Hp → VK → Prop := fun xs H Q => ∃ (c : Addr) (rs : List Rule), xs = [.ref c] ∧ ChainAt K H c rs ∧ Q (.int rs.length) H
abbrev rJoin (K : PySem.W.Frag) : V → List V → Hp → VK → Prop := fun x xs H Q => ∃ a p, ∃ ys : List Str, x = .str a ∧ xs = [.ref p] ∧ (SqL K H p (ys.map V.str) ∨ SqT K H p (ys.map V.str)) ∧
  (ys.map Str.length).sum + a.length * ys.length ≤ sizeLine ∧ Q (.str (Txt.join a ys)) H
/-- c(e, ..), c an instance of C -/
def tCallC (C : Addr) (sp : Sp) (E : XK) (tf : TE) (t : TA) : TE := fun σ H Q => tf σ H fun y H1 => ∃ a, y = V.ref a ∧ t σ H1 fun vs H2 => (∃ dx fs, H2 a = some (.ins C dx fs)) ∧ sp (V.ref a :: vs) H2 Q E
theorem pe_callC {X : Cx} {CX : CXT} {k : Nat} {C g : Addr} {sp : Sp} {E : XK} {fe e : Expr} {es : List Expr} {tf : TE} {t : TA} {pos : Pos} (hf : PE X fe tf) (c : StX.CallO X.K C g) (F : FnR X.prog X.w X.K X.mg X.base CX k g sp) (hr : Room k X.A) (hx : Passes CX X E) (ha : PA X (e :: es) t)
    (ht : eval (.Call fe (e :: es) [] pos) X.env = (do callWith pos (← eval fe X.env) [] (backTo pos (starEach (e :: es) X.env)) (backToKw pos (keywordEach [] X.env))) := by rfl)
    (he : starEach (e :: es) X.env = (false, eval e X.env) :: starEach es X.env := by rfl) (hpl : (backTo pos (starEach es X.env)).any (·.1) = false := by rfl) : PE X (.Call fe (e :: es) [] pos) (tCallC C sp E tf t) := by
  refine ⟨fun pins s σ H Q I h => Call_ (thn (hf.run pins s σ H _ I h) fun u s1 hh => ?_) ht⟩
  obtain ⟨y, H1, I1, ry, a, ey, q⟩ := hh
  subst ey
  obtain rfl : u = Value.ref a := ry
  refine StX.callO_with (thn (ha.run pos pins s1 σ H1 _ I1 q) fun us s2 hh2 => ?_) he hpl
  obtain ⟨vs, H2, I2, rv, ⟨dx, fs, hi⟩, q2⟩ := hh2
  have hi' : StX.InsC X H2 a C := .inr ⟨dx, fs, hi⟩
  obtain ⟨ox, od, J, hd⟩ := StX.insC_at I2 hi'
  exact ⟨⟨_, ox, od, J, hd⟩, StX.run_callO c F hr hx I2 hi' rv q2⟩
section
variable {K : PySem.W.Frag} {M : List Addr} {σ : L2.St} {H : Hp}
theorem rd_chcallC {tf : TE} {t : TA} {rs : List Rule} {ns : List Int} (hl : ns.length ≤ 1000) (hz : ∀ z ∈ ns, numOk z) (hf : Rd K M tf σ H (.chain rs)) (ha : RdA K M t σ H [.lst (ns.map D.int)]) :
    Rd K M (tCallC (ChC K) (spChCall K) E0 tf t) σ H (runD rs ns) := fun H1 s1 g Q k => hf H1 s1 g _ fun x H2 s2 g2 rx => by
  obtain ⟨c, rfl, cc⟩ := rx
  refine ⟨c, rfl, ha H2 (s1.trans s2) g2 _ fun xs H3 s3 g3 r3 => ?_⟩
  obtain ⟨v, rfl, a, vs, rfl, e1, r1⟩ := rp1 r3
  rw [rp_ints.mp r1] at e1
  have c3 : ChainAt K H3 c rs := (cc.same wo_le).same s3
  obtain ⟨dx, tt, as, h1, _⟩ := id c3
  exact ⟨⟨dx, _, h1⟩, c, a, rs, ns, rfl, c3, wo_le _ _ e1, hl, hz, new_run g3 fun v H4 s4 => k v H4 ((s2.trans s3).trans s4)⟩
theorem rd_run0C {tf : TE} {u : TA} {rs : List Rule} {ns : List Int} (hl : ns.length ≤ 1000) (hz : ∀ z ∈ ns, numOk z) (hf : Rd K M tf σ H (.chain rs)) (ha : RdA K M u σ H [.lst (ns.map D.int)]) :
    Rd K M (tOp (rIxT K) (tCallC (ChC K) (spChCall K) E0 tf u) (tC (.int 0))) σ H (.lst ((runR rs (nones rs.length) ns).1.map dO)) := rd_t0 (rd_chcallC hl hz hf ha) rd_int
theorem rd_run1C {tf : TE} {u : TA} {rs : List Rule} {ns : List Int} (hl : ns.length ≤ 1000) (hz : ∀ z ∈ ns, numOk z) (hf : Rd K M tf σ H (.chain rs)) (ha : RdA K M u σ H [.lst (ns.map D.int)]) :
    Rd K M (tOp (rIxT K) (tCallC (ChC K) (spChCall K) E0 tf u) (tC (.int 1))) σ H (.tup ((runR rs (nones rs.length) ns).2.map dO)) := rd_t1 (rd_chcallC hl hz hf ha) rd_int
end
theorem pe_labelK {X : Cx} {K : PySem.W.Frag} {n : Nat} {e : Expr} {ta : TE} {pos : Pos} (hK : X.K = K) (T : Cells X.K X.mg) (L : LabelsOk X.prog X.w X.K X.mg X.base n) (hr : Room (n + 1) X.A) (he : PE X e ta) (hab : attributeBase e "label" X.env (eval e X.env) = eval e X.env := by rfl) :
    PE X (.Attribute e "label" pos) (tLabel K ta) := hK ▸ pe_label T L hr he hab
theorem pe_ixCK {X : Cx} {K : PySem.W.Frag} {n : Nat} {a b : Expr} {ta tb : TE} {pos : Pos} (hK : X.K = K) (T : ChainOk X.prog X.w X.K X.mg X.base n) (hr : Room (n + 1) X.A) (ha : PE X a ta) (hb : PE X b tb) (hsl : ∀ v u, subscripted b true v u = runValue (Code.builtin "lifetime.subscript" ⟨[v, u], []⟩) := by intro _ _; with_unfolding_all rfl) : PE X (.Subscript a b pos) (tOp (rChIx K) ta tb) := hK ▸ pe_ixC T hr ha hb hsl
theorem pe_revLK {X : Cx} {K : PySem.W.Frag} {e : Expr} {te : TE} {k : Nat} {p1 p2 p3 pos : Pos} (hK : X.K = K) (he : PE X e te) : PE X (.Subscript e (.Slice none none (some (.UnaryOp .USub (.Constant (.int 1) k p1) p2)) p3) pos) (tRevL K te) := hK ▸ pe_revL he
theorem pi_listK {X : Cx} {K : PySem.W.Frag} {tg l : Expr} {tl : TE} (hK : X.K = K) (hl : PE X l tl) : PI X tg l (iList K tl) := hK ▸ pi_list hl
theorem pi_tupK {X : Cx} {K : PySem.W.Frag} {tg l : Expr} {tl : TE} (hK : X.K = K) (hl : PE X l tl) : PI X tg l (iTup K tl) := hK ▸ pi_tup hl
theorem pe_cellCallK {X : Cx} {K : PySem.W.Frag} {n : Nat} {fe e : Expr} {es : List Expr} {tf : TE} {t : TA} {pos : Pos} (hK : X.K = K) (hf : PE X fe tf) (T : CellsOk X.prog X.w X.K X.mg X.base n) (hr : Room n X.A) (ha : PA X (e :: es) t)
    (ht : eval (.Call fe (e :: es) [] pos) X.env = (do callWith pos (← eval fe X.env) [] (backTo pos (starEach (e :: es) X.env)) (backToKw pos (keywordEach [] X.env))) := by rfl)
    (he : starEach (e :: es) X.env = (false, eval e X.env) :: starEach es X.env := by rfl) (hpl : (backTo pos (starEach es X.env)).any (·.1) = false := by rfl) : PE X (.Call fe (e :: es) [] pos) (tCellCall K tf t) := hK ▸ pe_cellCall hf T hr ha ht he hpl
theorem env_start {K : PySem.W.Frag} {M : List Addr} {H : Hp} {N : List Str} {vs : List V} : Env K M (start N vs) H (vs.map Sl.val ++ List.replicate (N.length - vs.length) Sl.any) := by
  refine ⟨by unfold L2.start; simp, fun i s o h1 h2 => ?_⟩
  by_cases hi : i < vs.length
  · rw [List.getElem?_append_left (by rw [List.length_map]; exact hi), List.getElem?_map, List.getElem?_eq_getElem hi] at h1
    unfold L2.start at h2
    rw [List.getElem?_append_left (by rw [List.length_map]; exact hi), List.getElem?_map, List.getElem?_eq_getElem hi] at h2
    cases h1
    cases h2
    exact rfl
  · rw [List.getElem?_append_right (by rw [List.length_map]; omega)] at h1
    rw [(List.mem_replicate.mp (List.mem_of_getElem? h1)).2]
    trivial
/-! ### chains of first cells; stretched numbers; rules that agree -/
theorem step_first : ∀ (k : Nat) (xs : List Int) (c : Int), stepR (List.replicate k Rule.first) (heldL k xs) (some c) = (heldL k (xs ++ [c]), if xs.length < k then none else some c)
  | 0, xs, c => by
    rw [List.replicate_zero, step_nil]
    simp [heldL, nones]
  | k + 1, [], c => by
    have e : heldL (k + 1) [] = none :: nones k := by simp [heldL, nones, List.replicate_succ]
    rw [e, List.replicate_succ, step_cn]
    simp [heldL, nones]
  | k + 1, x :: xs, c => by
    have e : heldL (k + 1) (x :: xs) = some x :: heldL k xs := by simp [heldL]
    have e2 : heldL (k + 1) (x :: xs ++ [c]) = some x :: heldL k (xs ++ [c]) := by simp [heldL]
    have ek : Rule.first.keep x c = (x, c) := rfl
    rw [e, e2, List.replicate_succ, step_cs, ek, step_first k xs c]
    simp
theorem run_firsts (k : Nat) : ∀ (ns xs : List Int), runR (List.replicate k Rule.first) (heldL k xs) ns = (nones (min (k - xs.length) ns.length) ++ (ns.drop (k - xs.length)).map some, heldL k (xs ++ ns))
  | [], xs => by simp [runR, nones]
  | n :: ns, xs => by
    unfold runR
    rw [step_first, run_firsts k ns (xs ++ [n])]
    rw [List.length_append, List.length_singleton, List.append_assoc]
    by_cases h : xs.length < k
    · have e1 : k - xs.length = (k - (xs.length + 1)) + 1 := by omega
      simp only [if_pos h]
      rw [e1, List.drop_succ_cons, List.length_cons, Nat.succ_min_succ]
      simp [nones, List.replicate_succ]
    · have e1 : k - xs.length = 0 := by omega
      have e2 : k - (xs.length + 1) = 0 := by omega
      simp only [if_neg h]
      rw [e1, e2]
      simp [nones]
theorem run_first (k : Nat) (ns : List Int) : runR (List.replicate k Rule.first) (nones k) ns = (nones (min k ns.length) ++ (ns.drop k).map some, heldL k ns) := by
  have h := run_firsts k ns []
  rw [heldL_nil] at h
  simpa using h
theorem step_map {f : Int → Int} : ∀ (rs : List Rule) (hs : List (Option Int)) (c : Option Int), (∀ r ∈ rs, ∀ h c, r.keep (f h) (f c) = (f (r.keep h c).1, f (r.keep h c).2)) →
    stepR rs (hs.map (Option.map f)) (c.map f) = ((stepR rs hs c).1.map (Option.map f), (stepR rs hs c).2.map f)
  | [], hs, c, _ => by rw [step_nil, step_nil]
  | r :: rs, [], c, _ => by
    unfold stepR
    rfl
  | r :: rs, none :: hs, c, hk => by
    rw [List.map_cons, Option.map_none, step_cn, step_cn]
    rfl
  | r :: rs, some h :: hs, none, hk => by
    rw [Option.map_none, step_none, step_none]
    rfl
  | r :: rs, some h :: hs, some c, hk => by
    have e := hk r List.mem_cons_self h c
    have ih := step_map rs hs (some (r.keep h c).2) fun q hq => hk q (List.mem_cons_of_mem _ hq)
    rw [Option.map_some] at ih
    rw [List.map_cons, Option.map_some, Option.map_some, step_cs, step_cs, e, ih]
    rfl
theorem run_map {f : Int → Int} (rs : List Rule) (hk : ∀ r ∈ rs, ∀ h c, r.keep (f h) (f c) = (f (r.keep h c).1, f (r.keep h c).2)) : ∀ (ns : List Int) (hs : List (Option Int)),
    runR rs (hs.map (Option.map f)) (ns.map f) = ((runR rs hs ns).1.map (Option.map f), (runR rs hs ns).2.map (Option.map f))
  | [], hs => by
    unfold runR
    rfl
  | n :: ns, hs => by
    have e := step_map rs hs (some n) hk
    rw [Option.map_some] at e
    have ih := run_map rs hk ns (stepR rs hs (some n)).1
    rw [List.map_cons]
    unfold runR
    rw [e]
    simp only [ih, List.map_cons]
theorem nones_om (f : Int → Int) (n : Nat) : (nones n).map (Option.map f) = nones n := by
  unfold nones
  rw [List.map_replicate]
  rfl
/-- no mark -/
def Rule.plain : Rule → Prop
  | .near _ => False
  | _ => True
theorem keep_stretch {r : Rule} (hp : r.plain) {t m : Int} (ht : 0 < t) (h c : Int) : r.keep (t * h + m) (t * c + m) = (t * (r.keep h c).1 + m, t * (r.keep h c).2 + m) := by
  have e1 : (t * c + m < t * h + m) ↔ c < h := by
    constructor
    · intro z
      exact Int.lt_of_mul_lt_mul_left (by omega) (Int.le_of_lt ht)
    · intro z
      have := Int.mul_lt_mul_of_pos_left z ht
      omega
  have e2 : (t * h + m < t * c + m) ↔ h < c := by
    constructor
    · intro z
      exact Int.lt_of_mul_lt_mul_left (by omega) (Int.le_of_lt ht)
    · intro z
      have := Int.mul_lt_mul_of_pos_left z ht
      omega
  cases r with
  | near m => exact hp.elim
  | first => rfl
  | last => rfl
  | less =>
    unfold Rule.keep
    simp only [e1]
    split <;> rfl
  | greater =>
    unfold Rule.keep
    simp only [e2]
    split <;> rfl
/-- rules that agree on some numbers -/
def Agree (P : Int → Prop) : List Rule → List Rule → Prop
  | [], [] => True
  | r :: rs, q :: qs => (∀ h c, P h → P c → r.keep h c = q.keep h c) ∧ Agree P rs qs
  | _, _ => False
theorem step_agree {P : Int → Prop} : ∀ (rs qs : List Rule) (hs : List (Option Int)) (c : Option Int), Agree P rs qs → (∀ x, some x ∈ hs → P x) → (∀ x, c = some x → P x) → stepR rs hs c = stepR qs hs c
  | [], [], hs, c, _, _, _ => rfl
  | [], q :: qs, _, _, h, _, _ => h.elim
  | r :: rs, [], _, _, h, _, _ => h.elim
  | r :: rs, q :: qs, [], c, _, _, _ => by unfold stepR; rfl
  | r :: rs, q :: qs, none :: hs, c, _, _, _ => by rw [step_cn, step_cn]
  | r :: rs, q :: qs, some h :: hs, none, _, _, _ => by rw [step_none, step_none]
  | r :: rs, q :: qs, some h :: hs, some c, ha, hp, hc => by
    have e := ha.1 h c (hp h List.mem_cons_self) (hc c rfl)
    have kp := keep_pred (P := P) r (hp h List.mem_cons_self) (hc c rfl)
    have ih := step_agree rs qs hs (some (r.keep h c).2) ha.2 (fun x hx => hp x (List.mem_cons_of_mem _ hx)) (fun x hx => by cases hx; exact kp.2)
    rw [step_cs, step_cs, ← e, ih]
theorem run_agree {P : Int → Prop} (rs qs : List Rule) (ha : Agree P rs qs) : ∀ (ns : List Int) (hs : List (Option Int)), (∀ x, some x ∈ hs → P x) → (∀ x ∈ ns, P x) → runR rs hs ns = runR qs hs ns
  | [], _, _, _ => by unfold runR; rfl
  | n :: ns, hs, hp, hn => by
    have e := step_agree rs qs hs (some n) ha hp (fun x hx => by cases hx; exact hn n List.mem_cons_self)
    have sp := step_pred (P := P) rs hs (some n) hp (fun x hx => by cases hx; exact hn n List.mem_cons_self)
    unfold runR
    rw [← e, run_agree rs qs ha ns _ sp.1 fun x hx => hn x (List.mem_cons_of_mem _ hx)]
theorem near_top {h c : Int} (h1 : numOk h) (h2 : numOk c) : (Rule.near 1000000000).keep h c = Rule.greater.keep h c := by
  show (if absI (c - 1000000000) < absI (h - 1000000000) then (c, h) else (h, c)) = (if h < c then (c, h) else (h, c))
  have := h1.2
  have := h2.2
  have e : (absI (c - 1000000000) < absI (h - 1000000000)) ↔ h < c := by
    unfold absI
    split <;> split <;> omega
  simp only [e]
theorem near_low {h c : Int} (h1 : numOk h) (h2 : numOk c) : (Rule.near (-1000000000)).keep h c = Rule.less.keep h c := by
  show (if absI (c - -1000000000) < absI (h - -1000000000) then (c, h) else (h, c)) = (if c < h then (c, h) else (h, c))
  have := h1.1
  have := h2.1
  have e : (absI (c - -1000000000) < absI (h - -1000000000)) ↔ c < h := by
    unfold absI
    split <;> split <;> omega
  simp only [e]
end SC
set_option maxRecDepth 100000
set_option maxHeartbeats 2000000
/-! # Part I: defs that take data and give data -/
namespace SC
open PySem PySem.Spec PyProof.Rows L2 TL
/-- a def whose arguments are data: R tells what it gives -/
def spP (K : PySem.W.Frag) (R : List D → D → Prop) : Sp := fun vs H Q _ => ∃ (M : List Addr) (ds : List D) (d : D), R ds d ∧ Gd K M H ∧ RpL K (wo M H) ds vs ∧ ∀ v H2, Same H H2 → Gd K M H2 → Rp K (wo M H2) d v → Q v H2
section
variable {K : PySem.W.Frag} {M : List Addr} {σ : L2.St} {H : Hp} {t ta tb tc : TE} {d da db : D}
theorem rd_P {R : List SC.D → SC.D → Prop} {u : TA} {ds : List SC.D} (hR : R ds d) (h : RdA K M u σ H ds) : Rd K M (tCall (spP K R) [] E0 u) σ H d :=
  fun H1 s1 g Q k => h H1 s1 g _ fun xs H2 s2 g2 r2 => ⟨M, ds, d, hR, g2, by rw [List.append_nil]; exact r2, fun v H3 s3 g3 r3 => k v H3 (s2.trans s3) g3 r3⟩
theorem env_dats : ∀ {ds : List SC.D} {vs : List V} {n : Nat}, RpL K (wo M H) ds vs → Env K M (vs.map some ++ List.replicate n none) H (ds.map Sl.dat ++ List.replicate n Sl.any) := fun {ds vs n} r => by
  refine ⟨by simp [r.len], fun i s o h1 h2 => ?_⟩
  by_cases hi : i < ds.length
  · rw [List.getElem?_append_left (by rw [List.length_map]; exact hi), List.getElem?_map] at h1
    rw [List.getElem?_append_left (by rw [List.length_map, r.len]; exact hi), List.getElem?_map] at h2
    obtain ⟨v, e1, e2⟩ := r.get (List.getElem?_eq_getElem hi)
    rw [List.getElem?_eq_getElem hi] at h1
    rw [e1] at h2
    cases h1
    cases h2
    exact ⟨v, rfl, e2⟩
  · rw [List.getElem?_append_right (by rw [List.length_map]; omega)] at h1
    rw [(List.mem_replicate.mp (List.mem_of_getElem? h1)).2]
    trivial
theorem env_startD {N : List Str} {ds : List SC.D} {vs : List V} (r : RpL K (wo M H) ds vs) : Env K M (L2.start N vs) H (ds.map Sl.dat ++ List.replicate (N.length - ds.length) Sl.any) := by
  have e := env_dats (n := N.length - ds.length) r
  unfold L2.start
  rw [r.len]
  exact e
/-- what may change, one more -/
theorem Env.more {ρ : List Sl} {m : Addr} {H1 : Hp} (E : Env K M σ H ρ) (h0 : H m = Option.none) (s : Same H H1) : Env K (m :: M) σ H1 ρ := E.le (wo_cons h0 s)
theorem Env.less {ρ : List Sl} {m : Addr} (E : Env K (m :: M) σ H ρ) : Env K M σ H ρ := E.le (wo_sub fun x hx => List.mem_cons_of_mem _ hx)
theorem Env.asD {ρ : List Sl} {i : Nat} {v : V} (E : Env K M σ H ρ) (h : ρ[i]? = some (.val v)) (r : Rp K (wo M H) d v) : Env K M σ H (ρ.set i (.dat d)) := by
  refine ⟨by rw [List.length_set]; exact E.1, fun j s o h1 h2 => ?_⟩
  by_cases e : i = j
  · subst e
    have hi : i < ρ.length := by
      rcases Nat.lt_or_ge i ρ.length with z | z
      · exact z
      · rw [List.getElem?_eq_none z] at h
        cases h
    rw [List.getElem?_set_self hi] at h1
    cases h1
    have e2 := E.val h
    rw [e2] at h2
    cases h2
    exact ⟨v, rfl, r⟩
  · rw [List.getElem?_set_ne e] at h1
    exact E.2 j s o h1 h2
theorem rp_optL {L : Addr} {zs : List (Option Int)} (hL : H L = some (.lst (zs.map ov))) (hM : L ∉ M) : Rp K (wo M H) (.lst (zs.map dO)) (.ref L) := ⟨L, _, rfl, by rw [wo_at hM]; exact hL, rp_opts.mpr rfl⟩
theorem use_asg {gt : TG} {D : Ends} (h : Rd K M t σ H d) (g : Gd K M H) (k : ∀ v H2, Same H H2 → Gd K M H2 → Rp K (wo M H2) d v → gt v σ H2 D.nx) : tAsg t gt D σ H := h H (Same.refl _) g _ k
theorem use_forR {u : TA} {gt : TG} {tb : TS} {D : Ends} {n : Nat} (h : RdA K M u σ H [.int n]) (g : Gd K M H) (hn : n < 2 ^ 62) (k : ∀ H2, Same H H2 → Gd K M H2 → ∃ W : Nat → Nat → L2.St → Hp → Prop, (∃ m, W 0 m σ H2) ∧ ∀ i m σ H, W i m σ H →
    ((Itr 0 n).stop i H ∧ D.nx σ H) ∨ ((Itr 0 n).go i H ∧ ∃ N : L2.St → Hp → Prop, (∀ σ' H', N σ' H' → ∃ m', m' < m ∧ W (i + 1) m' σ' H') ∧ ∀ x H', (Itr 0 n).yld i H x H' → gt x σ H' fun σ2 H2 => tb { D with nx := N, ct := N, bk := D.nx } σ2 H2)) : tFor (iRng1 u) gt tb D σ H :=
  h H (Same.refl _) g _ fun xs H2 s g2 r => by
    obtain ⟨v, rfl, rv⟩ := rp1 r
    cases rv
    refine ⟨(n : Int), rfl, by omega, by omega, ?_⟩
    rw [Int.toNat_natCast]
    exact k H2 s g2
theorem use_forL {tl : TE} {gt : TG} {tb : TS} {D : Ends} {l : List SC.D} (h : Rd K M tl σ H (.lst l)) (g : Gd K M H) (k : ∀ a vs H2, Same H H2 → Gd K M H2 → wo M H2 a = some (.lst vs) → RpL K (wo M H2) l vs → ∃ W : Nat → Nat → L2.St → Hp → Prop, (∃ m, W 0 m σ H2) ∧ ∀ i m σ H, W i m σ H →
    ((Itl K a).stop i H ∧ D.nx σ H) ∨ ((Itl K a).go i H ∧ ∃ N : L2.St → Hp → Prop, (∀ σ' H', N σ' H' → ∃ m', m' < m ∧ W (i + 1) m' σ' H') ∧ ∀ x H', (Itl K a).yld i H x H' → gt x σ H' fun σ2 H2 => tb { D with nx := N, ct := N, bk := D.nx } σ2 H2)) : tFor (iList K tl) gt tb D σ H :=
  h H (Same.refl _) g _ fun x H2 s g2 r => by
    obtain ⟨a, vs, rfl, e, rl⟩ := r
    exact ⟨a, rfl, ⟨vs, SqL.of (wo_le _ _ e)⟩, k a vs H2 s g2 e rl⟩
theorem use_expr {D : Ends} (h : Rd K M t σ H d) (g : Gd K M H) (k : ∀ v H2, Same H H2 → Gd K M H2 → Rp K (wo M H2) d v → D.nx σ H2) : tDrop t D σ H := h H (Same.refl _) g _ k
/-- _law_kept -/
theorem rd_kept {u : TA} {r : Rule} {h c : Int} (ho : r.ok) (ha : RdA K M u σ H [.str r.label, .int h, .int c]) : Rd K M (tCall spKept [] E0 u) σ H (.tup [.int (r.keep h c).1, .int (r.keep h c).2]) :=
  fun H1 s1 g Q k => ha H1 s1 g _ fun xs H2 s2 g2 r2 => by
    obtain ⟨v, vs, rfl, r1, v2, vs2, rfl, r2, v3, vs3, rfl, r3, r4⟩ := r2
    cases r1
    cases r2
    cases r3
    cases r4
    refine ⟨r, h, c, rfl, ho, fun p H3 hp s3 e3 => k _ H3 (s2.trans s3) (g2.same s3) ⟨p, _, rfl, by rw [wo_at (g2.out hp)]; exact e3, _, _, rfl, rfl, _, _, rfl, rfl, rfl⟩⟩
end
/-! ### what the laws' own step and run give -/
def RStep (ds : List D) (d : D) : Prop := ∃ (rs : List Rule) (hs : List (Option Int)) (n : Int), ds = [.lst (lbD rs), .lst (hs.map dO), .int n] ∧ (∀ r ∈ rs, r.ok) ∧ hs.length = rs.length ∧ rs.length ≤ 8 ∧ d = .tup [.lst ((stepR rs hs (some n)).1.map dO), dO (stepR rs hs (some n)).2]
def RRun (ds : List D) (d : D) : Prop := ∃ (rs : List Rule) (ns : List Int), ds = [.lst (lbD rs), .lst (ns.map D.int)] ∧ (∀ r ∈ rs, r.ok) ∧ rs.length ≤ 8 ∧ ns.length ≤ 1000 ∧ d = .tup [.lst ((runR rs (nones rs.length) ns).1.map dO), .lst ((runR rs (nones rs.length) ns).2.map dO)]
/-- the cells ahead of an empty one are full -/
theorem step_pre {rs : List Rule} {hs : List (Option Int)} {n : Int} {i : Nat} {r : Rule} {h m : Int} {ys : List Int} (e : hs.length = rs.length) (hr : rs[i]? = some r) (hz : hs[i]? = some (some h)) (p : stepR (rs.take i) (hs.take i) (some n) = (ys.map some, some m)) :
    stepR (rs.take (i + 1)) (hs.take (i + 1)) (some n) = ((ys ++ [(r.keep h m).1]).map some, some (r.keep h m).2) := by
  rw [take_more hr, take_more hz, step_app _ _ _ _ _ (by rw [List.length_take, List.length_take, e]), p]
  show ((ys.map some ++ (stepR [r] [some h] (some m)).1), (stepR [r] [some h] (some m)).2) = _
  rw [step_cs, step_nil, List.map_append]
  rfl
theorem step_end {rs : List Rule} {hs : List (Option Int)} {n m : Int} {i : Nat} {ys : List Int} (e : hs.length = rs.length) (hi : i < rs.length) (hz : hs[i]? = some none) (p : stepR (rs.take i) (hs.take i) (some n) = (ys.map some, some m)) :
    stepR rs hs (some n) = (ys.map some ++ [some m] ++ hs.drop (i + 1), none) := by
  have e1 : rs = rs.take i ++ rs.drop i := (List.take_append_drop i rs).symm
  have e2 : hs = hs.take i ++ hs.drop i := (List.take_append_drop i hs).symm
  have e3 : rs.drop i = rs[i] :: rs.drop (i + 1) := List.drop_eq_getElem_cons hi
  have hi2 : i < hs.length := by omega
  have e4 : hs.drop i = hs[i] :: hs.drop (i + 1) := List.drop_eq_getElem_cons hi2
  have e5 : hs[i] = none := by
    rw [List.getElem?_eq_getElem hi2] at hz
    exact Option.some.inj hz
  have sa := step_app (rs.take i) (hs.take i) (some n) (rs.drop i) (hs.drop i) (by rw [List.length_take, List.length_take, e])
  rw [← e1, ← e2, p] at sa
  rw [sa, e3, e4, e5]
  show (ys.map some ++ (stepR (rs[i] :: rs.drop (i + 1)) (none :: hs.drop (i + 1)) (some m)).1, (stepR (rs[i] :: rs.drop (i + 1)) (none :: hs.drop (i + 1)) (some m)).2) = _
  rw [step_cn]
  simp
theorem set_mid {α : Type} (xs ys : List α) (y z : α) : (xs ++ y :: ys).set xs.length z = xs ++ z :: ys := by
  induction xs with
  | nil => rfl
  | cons x xs ih => simp
end SC
set_option maxRecDepth 100000
set_option maxHeartbeats 2000000
/-! # Part K: del xs[i:] -/
namespace SC
open PySem PySem.Spec PyProof.Rows L2 TL
theorem zip_take {α : Type} (sel : Nat → Bool) (a : Nat) (f : α × Nat → Option α) (hf : ∀ p, f p = if sel p.2 = true then none else some p.1) : ∀ (l : List α) (n : Nat), (∀ k, n ≤ k → k < n + l.length → sel k = decide (a ≤ k)) → (l.zipIdx n).filterMap f = l.take (a - n)
  | [], n, _ => by simp
  | x :: xs, n, h => by
    have h0 := h n (Nat.le_refl _) (by simp)
    have ih := zip_take sel a f hf xs (n + 1) fun k h1 h2 => h k (by omega) (by rw [List.length_cons]; omega)
    rw [List.zipIdx_cons, List.filterMap_cons, hf, ih]
    by_cases e : a ≤ n
    · have e1 : a - n = 0 := by omega
      have e2 : a - (n + 1) = 0 := by omega
      simp only [h0, decide_eq_true e, if_true, e1, e2, List.take_zero]
    · have e1 : a - n = (a - (n + 1)) + 1 := by omega
      simp only [h0, decide_eq_false e, Bool.false_eq_true, if_false, e1, List.take_succ_cons]
theorem bounds_from {a n : Nat} (ha : a ≤ n) : sliceBounds (some (a : Int)) none none n = ((a : Int), (n : Int), 1) := by
  simp only [sliceBounds, Option.getD_none]
  have h1 : ¬ ((a : Int) < 0) := by omega
  simp only [h1, if_false, show (1 : Int) > 0 by decide, if_true]
  congr 1
  omega
section
variable {prog : Program} {w : World} {A : Around} {E : Value → Shared → Prop} {s : Shared}
set_option maxRecDepth 100000 in
theorem delItem_slice {l sl : Addr} {items : Array Value} {n : Nat} {vl : Value} {a : Nat} {Q : Unit → Shared → Prop} (e : s.heap.get? l = some { cls := .type "list", data := .seq items n }) (hs : s.heap.IsSliceOf sl vl .none .none) (pl : IsPart vl (some (a : Int))) (ha : a ≤ items.size)
    (hsz : items.size ≤ sizeLine) (h : ∀ f : Array Value → Array Value, f items = (items.toList.take a).toArray → Q () { s with heap := s.heap.update l (Obj.mapSeq f) }) : wpAny (model prog w) A (delItem (.ref l) (.ref sl)) Q E s := by
  have hl : s.heap.IsList l items := PySem.IsL.isList e
  obtain ⟨os, hos, hcs, hds⟩ := id hs
  have hTs : s.TypeIs (.ref sl) "slice" := ⟨os, hos, hcs⟩
  have hstep : ¬ ((rawPart none == rawInt 0) = true) := Bool.false_ne_true
  refine wpAny_delItem_slot hl.typeIs (by decide) F.slot_list_delitem (wpAny_call_entry F.slot_list_delitem hl.typeIs F.entry_list_delitem ?_ (F.args_list_delitem_2 _ _))
  show wpAny _ _ (Builtin.List.listSubscript? (.ref sl) >>= _) _ _ s
  refine wpAny_bind ?_
  unfold Builtin.List.listSubscript?
  refine wpAny_bind (wpAny_specialOf hTs slice_no_index ?_)
  simp only [Option.isNone_none, if_true]
  refine wpAny_pure ?_
  show wpAny _ _ (typeOf (.ref sl) >>= _) _ _ s
  refine wpAny_bind (wpAny_typeOf hTs ?_)
  first
    | rw [if_neg (by decide)]
    | refine PySem.W.KFB.if_not (by decide) ?_
  rw [listSliceParts_eq]
  refine wpAny_bind (wpAny_bind (wpAny_field hos hds (x := .none) rfl (wpAny_bind (wpAny_listPart .none ?_))))
  rw [if_neg hstep]
  refine wpAny_bind (wpAny_field hos hds (x := vl) rfl (wpAny_bind (wpAny_listPart pl ?_)))
  refine wpAny_bind (wpAny_field hos hds (x := .none) rfl (wpAny_bind (wpAny_listPart .none (wpAny_pure ?_))))
  refine wpAny_bind (m := Builtin.List.listItems (.ref l)) ?_
  unfold Builtin.List.listItems
  refine wpAny_bind (wpAny_seqItems e rfl (wpAny_pure ?_))
  refine wpAny_bind (wpAny_of_eq ((sliceIndices_raw (some (a : Int)) none none items.size (by simp)).trans (congrArg (pure : Int × Int × Int → Sem (Int × Int × Int)) (bounds_from ha))) ?_)
  refine wpAny_bind (wpAny_rule ?_)
  have key : ∀ (F : Array Value → Array Value) (sel : Nat → Bool) (fm : Value × Nat → Option Value), (∀ xs, F xs = (xs.toList.zipIdx.filterMap fm).toArray) → (∀ p, fm p = if sel p.2 = true then none else some p.1) → (∀ k, k < items.size → sel k = decide (a ≤ k)) → F items = (items.toList.take a).toArray := fun F sel fm h1 h2 h3 => by
    rw [h1, zip_take sel a fm h2 items.toList 0 fun k _ hk => h3 k (by simpa using hk), Nat.sub_zero]
  have sz : ∀ F : Array Value → Array Value, F items = (items.toList.take a).toArray → (F items).size ≤ sizeLine + 1 := fun F hF => by
    rw [hF, List.size_toArray, List.length_take]
    have : items.toList.length = items.size := by simp
    omega
  show wpAny _ _ (updateSeq l _ >>= _) _ _ s
  have hsel : ∀ k : Nat, k < items.size → (decide ((a : Int) ≤ (k : Int)) && decide ((k : Int) < (items.size : Int)) && (((k : Int) - (a : Int)) % 1 == 0)) = decide (a ≤ k) := fun k hk => by
    have e1 : (((k : Int) - (a : Int)) % 1 == 0) = true := by rw [Int.emod_one]; rfl
    rw [e1, Bool.and_true, decide_eq_true (by omega : (k : Int) < (items.size : Int)), Bool.and_true]
    by_cases z : a ≤ k
    · rw [decide_eq_true z, decide_eq_true (by omega)]
    · rw [decide_eq_false z, decide_eq_false (by omega)]
  refine wpAny_bind (wpAny_updateSeq (hz := hsz) (_hz' := sz _ (key _ (fun k => (decide ((a : Int) ≤ (k : Int)) && decide ((k : Int) < (items.size : Int)) && (((k : Int) - (a : Int)) % 1 == 0))) _ (fun _ => rfl) (fun _ => rfl) hsel)) e rfl ?_)
  refine wpAny_bind (wpAny_letGo ?_)
  exact wpAny_pure ⟨.none, rfl, h _ (key _ (fun k => (decide ((a : Int) ≤ (k : Int)) && decide ((k : Int) < (items.size : Int)) && (((k : Int) - (a : Int)) % 1 == 0))) _ (fun _ => rfl) (fun _ => rfl) hsel)⟩
end
section
variable {X : Cx}
/-- del xs[i:] of a list -/
def tDelS (to tl : TE) : TS := fun D σ H => to σ H fun x H1 => tl σ H1 fun y H2 => ∃ (l : Addr) (xs : List V) (k : Nat), x = .ref l ∧ y = .int k ∧ H2 l = some (.lst xs) ∧ k ≤ xs.length ∧ D.nx σ (upd H2 l (.lst (xs.take k)))
theorem ps_delS {o lo : Expr} {to tl : TE} {tpos p2 pos : Pos} (ho : PE X o to) (hl : PE X lo tl) : PS X (.Delete [.Subscript o (.Slice (some lo) none none p2) tpos] pos) (tDelS to tl) := by
  refine ⟨fun pins s σ H D I h => ?_⟩
  refine wpAny_Delete (wpAny_deleteEach_cons (wpAny_delete_Subscript (thn (ho.run pins s σ H _ I h) fun u s1 ⟨x, H1, I1, rx, q1⟩ => ?_)))
  refine wpAny_Slice ?_
  rw [evalPart_some]
  refine thn (hl.run pins s1 σ H1 _ I1 q1) fun iv s2 ⟨y, H2, I2, ry, q2⟩ => ?_
  rw [evalPart_none]
  refine wpAny_pure ?_
  refine wpAny_pure ?_
  obtain ⟨l, xs, k, ex, ey, hH, hk, q2⟩ := q2
  subst ex ey
  cases (show u = Value.ref l from rx)
  obtain ⟨t, rfl⟩ := (show ∃ t, iv = Value.int k t from ry)
  have I4 : Inv X pins σ H2 { s2 with heap := s2.heap.push { cls := .type "slice", data := .fields #[.int k t, .none, .none] } } := I2.kept (t' := s2.toks) fun b ob q => Heap.get?_push_of_some _ q
  obtain ⟨z, its, n, r, hlen, e⟩ := I4.lstM hH
  refine delItem_slice (a := k) e (Heap.IsSliceOf.new ..) (.int _ _) (by rw [List.size_toArray]; omega) (by rw [List.size_toArray]; omega) fun f hf => ?_
  refine wpAny_deleteEach_nil ⟨σ, _, ?_, q2⟩
  refine I4.lset (its' := its.take k) (t' := s2.toks) hH e ?_ (r.take k) ?_
  · rw [hf]
  · rw [List.length_take]
    omega
end
end SC
set_option maxRecDepth 100000
set_option maxHeartbeats 2000000
/-! # Part L: worktops -/
namespace SC
open PySem PySem.Spec PyProof.Rows L2 TL
def StC (K : PySem.W.Frag) : Addr := He.ga K "Step"
def WkC (K : PySem.W.Frag) : Addr := He.ga K "Worktop"
structure Wk (K : PySem.W.Frag) (mg : Str → Option Value) : Prop where
  clsS : Cls K (StC K)
  mkS : Mk K (StC K) (He.ma K (StC K) "__init__")
  gloS : mg "Step" = some (.ref (StC K))
  nWord : NoAttr K (StC K) "word"
  nChain : NoAttr K (StC K) "chain"
  nNums : NoAttr K (StC K) "numbers"
  nOut : NoAttr K (StC K) "out"
  cls : Cls K (WkC K)
  mkW : Mk K (WkC K) (He.ma K (WkC K) "__init__")
  glo : mg "Worktop" = some (.ref (WkC K))
  nSteps : NoAttr K (WkC K) "steps"
  nDone : NoAttr K (WkC K) "done"
  nSaved : NoAttr K (WkC K) "saved"
  now : Meth K (WkC K) "now" (He.ma K (WkC K) "now")
  advance : Meth K (WkC K) "advance" (He.ma K (WkC K) "advance")
  put : Meth K (WkC K) "put" (He.ma K (WkC K) "put")
  take : Meth K (WkC K) "take" (He.ma K (WkC K) "take")
  swap : Meth K (WkC K) "swap" (He.ma K (WkC K) "swap")
  undo : Meth K (WkC K) "undo" (He.ma K (WkC K) "undo")
  redo : Meth K (WkC K) "redo" (He.ma K (WkC K) "redo")
  save : Meth K (WkC K) "save" (He.ma K (WkC K) "save")
  restore : Meth K (WkC K) "restore" (He.ma K (WkC K) "restore")
  execute : Meth K (WkC K) "execute" (He.ma K (WkC K) "execute")
  batch : Meth K (WkC K) "batch" (He.ma K (WkC K) "batch")
  chainNow : PropOf K (WkC K) "chain_now" (He.ma K (WkC K) "chain_now") (pgA K "Worktop" "chain_now")
  held : PropOf K (WkC K) "held" (He.ma K (WkC K) "held") (pgA K "Worktop" "held")
  letOut : PropOf K (WkC K) "let_out" (He.ma K (WkC K) "let_out") (pgA K "Worktop" "let_out")
  operations : PropOf K (WkC K) "operations" (He.ma K (WkC K) "operations") (pgA K "Worktop" "operations")
  neC : WkC K ≠ ChC K
  neK : ∀ k : Kd, WkC K ≠ He.ga K k.cn
theorem wk_neC {K : PySem.W.Frag} {mg : Str → Option Value} (h : PySem.W.kitOne K (Cn.v K (.g "Worktop")) (Cn.v K (.g "Chain")) = some false) (T : Chains K mg) : WkC K ≠ ChC K := fun e => by
  have h2 : PySem.W.kitOne K (.ref (WkC K)) (.ref (ChC K)) = some false := h
  rw [e, T.kit] at h2
  cases h2
theorem wk_neK {K : PySem.W.Frag} {mg : Str → Option Value} (h : PySem.W.kitOne K (Cn.v K (.g "Worktop")) (Cn.v K (.g "Cell")) = some false) (T : Cells K mg) : ∀ k : Kd, WkC K ≠ He.ga K k.cn := fun k e => by
  have h2 : PySem.W.kitOne K (.ref (WkC K)) (.ref (He.ga K "Cell")) = some false := h
  rw [e, T.kit k] at h2
  cases h2
/-- a step of a worktop -/
structure St1 where
  word : Str
  rs : List Rule
  hs : List (Option Int)
  out : Option Int
def St1.fs (s : St1) (c t : Addr) : List (Str × V) := [("word", .str s.word), ("chain", .ref c), ("numbers", .ref t), ("out", ov s.out)]
def StepAt (K : PySem.W.Frag) (H : Hp) (a : Addr) (s : St1) : Prop :=
  ∃ (dx c t : Addr), H a = some (.ins (StC K) dx (s.fs c t)) ∧ ChainAt K H c s.rs ∧ H t = some (.tup (s.hs.map ov)) ∧ s.hs.length = s.rs.length ∧ Fill s.hs
theorem StepAt.same {K : PySem.W.Frag} {H H' : Hp} {a : Addr} {s : St1} (h : StepAt K H a s) (e : Same H H') : StepAt K H' a s := by
  obtain ⟨dx, c, t, h1, h2, h3, h4⟩ := h
  exact ⟨dx, c, t, e _ _ h1, h2.same e, e _ _ h3, h4⟩
def Steps (K : PySem.W.Frag) (H : Hp) (as : List Addr) (ss : List St1) : Prop := as.length = ss.length ∧ ∀ (i : Nat) (a : Addr) (s : St1), as[i]? = some a → ss[i]? = some s → StepAt K H a s
theorem Steps.same {K : PySem.W.Frag} {H H' : Hp} {as : List Addr} {ss : List St1} (h : Steps K H as ss) (e : Same H H') : Steps K H' as ss := ⟨h.1, fun i a s h1 h2 => (h.2 i a s h1 h2).same e⟩
theorem Steps.take {K : PySem.W.Frag} {H : Hp} {as : List Addr} {ss : List St1} (h : Steps K H as ss) (n : Nat) : Steps K H (as.take n) (ss.take n) := by
  refine ⟨by rw [List.length_take, List.length_take, h.1], fun i a s h1 h2 => ?_⟩
  rw [List.getElem?_take] at h1 h2
  split at h1
  · rename_i z
    rw [if_pos z] at h2
    exact h.2 i a s h1 h2
  · cases h1
theorem Steps.snoc {K : PySem.W.Frag} {H : Hp} {as : List Addr} {ss : List St1} {a : Addr} {s : St1} (h : Steps K H as ss) (g : StepAt K H a s) : Steps K H (as ++ [a]) (ss ++ [s]) := by
  refine ⟨by simp [h.1], fun i b q h1 h2 => ?_⟩
  by_cases hi : i < as.length
  · rw [List.getElem?_append_left hi] at h1
    rw [List.getElem?_append_left (by rw [← h.1]; exact hi)] at h2
    exact h.2 i b q h1 h2
  · rw [List.getElem?_append_right (by omega)] at h1
    rw [List.getElem?_append_right (by rw [← h.1]; omega), ← h.1] at h2
    cases e : i - as.length with
    | zero =>
      rw [e] at h1 h2
      simp at h1 h2
      subst h1 h2
      exact g
    | succ m =>
      rw [e] at h1
      simp at h1
/-- a worktop: its list of steps at L, its snapshots at S -/
def wkFs (L S : Addr) (i : Nat) : List (Str × V) := [("steps", .ref L), ("done", .int i), ("saved", .ref S)]
structure WtAt (K : PySem.W.Frag) (M : List Addr) (H : Hp) (wt L S : Addr) (ss : List St1) (i : Nat) : Prop where
  obj : ∃ dx, H wt = some (.ins (WkC K) dx (wkFs L S i))
  lst : ∃ as, H L = some (.lst (as.map V.ref)) ∧ Steps K (wo M H) as ss
  lt : i < ss.length
  few : ss.length ≤ 100000
  mw : wt ∈ M
  ml : L ∈ M
  ne : wt ≠ L
/-- all but the worktop and its list is as it was -/
def FrW (wt L : Addr) (H H' : Hp) : Prop := ∀ b o, H b = some o → b ≠ wt → b ≠ L → H' b = some o
theorem FrW.fm {K : PySem.W.Frag} {M : List Addr} {H H' : Hp} {wt L : Addr} (f : FrW wt L H H') (h1 : wt ∈ M) (h2 : L ∈ M) : Fm M H H' := fun b o e => by
  obtain ⟨e1, e2⟩ := wo_some e
  rw [wo_at e1]
  exact f b o e2 (fun z => e1 (z ▸ h1)) (fun z => e1 (z ▸ h2))
theorem FrW.of {H H' : Hp} {wt L : Addr} (s : Same H H') : FrW wt L H H' := fun b o h _ _ => s b o h
theorem FrW.trans {H H1 H2 : Hp} {wt L : Addr} (x : FrW wt L H H1) (y : FrW wt L H1 H2) : FrW wt L H H2 := fun b o h n1 n2 => y b o (x b o h n1 n2) n1 n2
theorem FrW.atL {H : Hp} {wt L : Addr} {o : HO} : FrW wt L H (upd H L o) := fun b u h _ n => by rw [upd_ne n]; exact h
theorem FrW.atW {H : Hp} {wt L : Addr} {o : HO} : FrW wt L H (upd H wt o) := fun b u h n _ => by rw [upd_ne n]; exact h
theorem WtAt.same {K : PySem.W.Frag} {M : List Addr} {H H' : Hp} {wt L S : Addr} {ss : List St1} {i : Nat} (x : WtAt K M H wt L S ss i) (s : Same H H') : WtAt K M H' wt L S ss i := by
  obtain ⟨⟨dx, h1⟩, ⟨as, h2, h3⟩, h4, h5, h6, h7, h8⟩ := x
  exact ⟨⟨dx, s _ _ h1⟩, ⟨as, s _ _ h2, h3.same (swo s)⟩, h4, h5, h6, h7, h8⟩
theorem WtAt.fr {K : PySem.W.Frag} {M : List Addr} {H H' : Hp} {wt L S d : Addr} {ss : List St1} {i : Nat} (x : WtAt K M H wt L S ss i) (f : Fr1 d H H') (hd : d ∈ M) (n1 : wt ≠ d) (n2 : L ≠ d) : WtAt K M H' wt L S ss i := by
  obtain ⟨⟨dx, h1⟩, ⟨as, h2, h3⟩, h4, h5, h6, h7, h8⟩ := x
  exact ⟨⟨dx, f _ _ h1 n1⟩, ⟨as, f _ _ h2 n2, h3.same (Fm.of1 hd f)⟩, h4, h5, h6, h7, h8⟩
theorem mut_wk {K : PySem.W.Frag} {mg : Str → Option Value} {dx : Addr} {fs : List (Str × V)} (T : Wk K mg) : Mut K (.ins (WkC K) dx fs) := ⟨T.neC, T.neK⟩
theorem look_steps {L S : Addr} {i : Nat} : (wkFs L S i).lookup ("steps" : Str) = some (.ref L) := by simp [wkFs, List.lookup]
theorem look_done {L S : Addr} {i : Nat} : (wkFs L S i).lookup ("done" : Str) = some (.int i) := by
  have h1 : (("done" : Str) == "steps") = false := by decide +kernel
  simp [wkFs, List.lookup, h1]
theorem look_saved {L S : Addr} {i : Nat} : (wkFs L S i).lookup ("saved" : Str) = some (.ref S) := by
  have h1 : (("saved" : Str) == "steps") = false := by decide +kernel
  have h2 : (("saved" : Str) == "done") = false := by decide +kernel
  simp [wkFs, List.lookup, h1, h2]
theorem wk_no {L S : Addr} {i : Nat} {m : Str} (h1 : (m == ("steps" : Str)) = false) (h2 : (m == ("done" : Str)) = false) (h3 : (m == ("saved" : Str)) = false) : (wkFs L S i).lookup m = none := by
  simp [wkFs, List.lookup, h1, h2, h3]
theorem st_word {s : St1} {c t : Addr} : (s.fs c t).lookup ("word" : Str) = some (.str s.word) := by simp [St1.fs, List.lookup]
theorem st_chain {s : St1} {c t : Addr} : (s.fs c t).lookup ("chain" : Str) = some (.ref c) := by
  have h1 : (("chain" : Str) == "word") = false := by decide +kernel
  simp [St1.fs, List.lookup, h1]
theorem st_nums {s : St1} {c t : Addr} : (s.fs c t).lookup ("numbers" : Str) = some (.ref t) := by
  have h1 : (("numbers" : Str) == "word") = false := by decide +kernel
  have h2 : (("numbers" : Str) == "chain") = false := by decide +kernel
  simp [St1.fs, List.lookup, h1, h2]
theorem st_out {s : St1} {c t : Addr} : (s.fs c t).lookup ("out" : Str) = some (ov s.out) := by
  have h1 : (("out" : Str) == "word") = false := by decide +kernel
  have h2 : (("out" : Str) == "chain") = false := by decide +kernel
  have h3 : (("out" : Str) == "numbers") = false := by decide +kernel
  simp [St1.fs, List.lookup, h1, h2, h3]
theorem put_done {L S : Addr} {i j : Nat} {v : V} (e : v = .int j) : putF ("done" : Str) v (wkFs L S i) = wkFs L S j := by
  subst e
  have h1 : ¬ (("steps" : Str) = "done") := by decide +kernel
  simp [wkFs, putF, h1]
/-! ### promises -/
def spStInit (K : PySem.W.Frag) : Sp := fun vs H Q _ => ∃ (x dx : Addr) (v1 v2 v3 v4 : V), vs = [.ref x, v1, v2, v3, v4] ∧ H x = some (.ins (StC K) dx []) ∧ Q .non (upd H x (.ins (StC K) dx [("word", v1), ("chain", v2), ("numbers", v3), ("out", v4)]))
def spWkInit (K : PySem.W.Frag) : Sp := fun vs H Q _ => ∃ (x dx c : Addr) (rs : List Rule), vs = [.ref x, .ref c] ∧ H x = some (.ins (WkC K) dx []) ∧ ChainAt K H c rs ∧
  ∀ (L S y : Addr) (H' : Hp), H L = none → H S = none → H y = none → L ≠ S → Fr1 x H H' → H' x = some (.ins (WkC K) dx (wkFs L S 0)) → H' L = some (.lst [.ref y]) → H' S = some (.dK []) → StepAt K H' y ⟨"", rs, nones rs.length, none⟩ → Q .non H'
theorem tup_wo {K : PySem.W.Frag} {M : List Addr} {H : Hp} {t : Addr} {xs : List V} (g : Gd K M H) (h : H t = some (.tup xs)) : wo M H t = some (.tup xs) := by
  rw [wo_at]
  · exact h
  · intro hm
    obtain ⟨o, e1, e2⟩ := g t hm
    rw [h] at e1
    cases e1
    exact e2
theorem step_wo {K : PySem.W.Frag} {M : List Addr} {H : Hp} {a : Addr} {s : St1} (g : Gd K M H) (h : StepAt K H a s) (ha : a ∉ M) : StepAt K (wo M H) a s := by
  obtain ⟨dx, c, t, h1, h2, h3, h4⟩ := h
  exact ⟨dx, c, t, by rw [wo_at ha]; exact h1, chain_wo g h2, tup_wo g h3, h4⟩
/-- a new worktop -/
theorem wt_new {K : PySem.W.Frag} {mg : Str → Option Value} {M : List Addr} {H0 H' : Hp} {x dx dx' L S y : Addr} {s0 : St1} (W : Wk K mg) (g : Gd K M H0) (f : ∀ b o, H0 b = some o → H' b = some o) (h0 : H0 x = none) (hL : H0 L = none) (hS : H0 S = none) (hy : H0 y = none) (hyx : y ≠ x)
    (e1 : H' x = some (.ins (WkC K) dx (wkFs L S 0))) (e2 : H' L = some (.lst [.ref y])) (e3 : H' S = some (.dK [])) (st : StepAt K H' y s0) : Gd K (x :: L :: S :: M) H' ∧ WtAt K (x :: L :: S :: M) H' x L S [s0] 0 := by
  have g' : Gd K (x :: L :: S :: M) H' := (((g.same f).cons e3 trivial).cons e2 trivial).cons e1 (mut_wk W)
  obtain ⟨dy, c, t, y1, _⟩ := id st
  have yM : y ∉ x :: L :: S :: M := fun z => by
    rcases List.mem_cons.mp z with z | z
    · exact hyx z
    · rcases List.mem_cons.mp z with z | z
      · rw [z, e2] at y1
        cases y1
      · rcases List.mem_cons.mp z with z | z
        · rw [z, e3] at y1
          cases y1
        · exact g.out hy z
  refine ⟨g', ⟨dx, e1⟩, ⟨[y], e2, rfl, fun i a s h1 h2 => ?_⟩, by simp, by simp, List.mem_cons_self, List.mem_cons_of_mem _ List.mem_cons_self, fun z => ?_⟩
  · match i, h1, h2 with
    | 0, h1, h2 =>
      cases h1
      cases h2
      exact step_wo g' st yM
    | i + 1, h1, h2 => simp at h1
  · rw [z, e2] at e1
    cases e1
def spNow (K : PySem.W.Frag) : Sp := fun vs H Q _ => ∃ (M : List Addr) (wt L S : Addr) (ss : List St1) (i : Nat) (s : St1), vs = [.ref wt] ∧ WtAt K M H wt L S ss i ∧ ss[i]? = some s ∧ ∀ a, StepAt K (wo M H) a s → Q (.ref a) H
def spAdvance (K : PySem.W.Frag) : Sp := fun vs H Q _ => ∃ (M : List Addr) (wt L S c t : Addr) (ss : List St1) (i : Nat) (s : St1), vs = [.ref wt, .str s.word, .ref c, .ref t, ov s.out] ∧ Gd K M H ∧ WtAt K M H wt L S ss i ∧ ss.length < 100000 ∧ ChainAt K (wo M H) c s.rs ∧ wo M H t = some (.tup (s.hs.map ov)) ∧ s.hs.length = s.rs.length ∧ Fill s.hs ∧
  ∀ H', FrW wt L H H' → Gd K M H' → WtAt K M H' wt L S (ss.take (i + 1) ++ [s]) (i + 1) → Q .non H'
/-- what put makes of a step -/
def putSt (s : St1) (n : Int) : St1 := ⟨"put", s.rs, (stepR s.rs s.hs (some n)).1, (stepR s.rs s.hs (some n)).2⟩
def spPut (K : PySem.W.Frag) : Sp := fun vs H Q _ => ∃ (M : List Addr) (wt L S : Addr) (ss : List St1) (i : Nat) (s : St1) (n : Int), vs = [.ref wt, .int n] ∧ numOk n ∧ Gd K M H ∧ WtAt K M H wt L S ss i ∧ ss.length < 100000 ∧ ss[i]? = some s ∧
  ∀ H', FrW wt L H H' → Gd K M H' → WtAt K M H' wt L S (ss.take (i + 1) ++ [putSt s n]) (i + 1) → Q (ov (putSt s n).out) H'
def spHeld (K : PySem.W.Frag) : Sp := fun vs H Q _ => ∃ (M : List Addr) (wt L S : Addr) (ss : List St1) (i : Nat) (s : St1), vs = [.ref wt] ∧ WtAt K M H wt L S ss i ∧ ss[i]? = some s ∧ ∀ v, Rp K (wo M H) (.tup (s.hs.map dO)) v → Q v H
def spLetOut (K : PySem.W.Frag) : Sp := fun vs H Q _ => ∃ (M : List Addr) (wt L S : Addr) (ss : List St1) (i : Nat), vs = [.ref wt] ∧ Gd K M H ∧ WtAt K M H wt L S ss i ∧ ∀ v H', Same H H' → Gd K M H' → Rp K (wo M H') (.lst (((ss.take (i + 1)).filterMap St1.out).map D.int)) v → Q v H'
theorem pe_fldK {X : Cx} {K : PySem.W.Frag} {e : Expr} {f : Str} {ta : TE} {pos : Pos} (hK : X.K = K) (ha : PE X e ta) (hb : attributeBase e f X.env (eval e X.env) = eval e X.env := by rfl) : PE X (.Attribute e f pos) (tFld K ta f) := hK ▸ pe_fld ha hb
def spChainNow (K : PySem.W.Frag) : Sp := fun vs H Q _ => ∃ (M : List Addr) (wt L S : Addr) (ss : List St1) (i : Nat) (s : St1), vs = [.ref wt] ∧ WtAt K M H wt L S ss i ∧ ss[i]? = some s ∧ ∀ v, Rp K (wo M H) (.chain s.rs) v → Q v H
def spOps (K : PySem.W.Frag) : Sp := fun vs H Q _ => ∃ (M : List Addr) (wt L S : Addr) (ss : List St1) (i : Nat), vs = [.ref wt] ∧ Gd K M H ∧ WtAt K M H wt L S ss i ∧ ∀ v H', Same H H' → Gd K M H' → Rp K (wo M H') (.lst ((((ss.take (i + 1)).drop 1).map St1.word).map D.str)) v → Q v H'
def spUndo (K : PySem.W.Frag) : Sp := fun vs H Q _ => ∃ (M : List Addr) (wt L S : Addr) (ss : List St1) (i : Nat), vs = [.ref wt] ∧ Gd K M H ∧ WtAt K M H wt L S ss i ∧ (i = 0 → Q (.bl false) H) ∧ (0 < i → ∀ H', FrW wt L H H' → Gd K M H' → WtAt K M H' wt L S ss (i - 1) → Q (.bl true) H')
def spRedo (K : PySem.W.Frag) : Sp := fun vs H Q _ => ∃ (M : List Addr) (wt L S : Addr) (ss : List St1) (i : Nat), vs = [.ref wt] ∧ Gd K M H ∧ WtAt K M H wt L S ss i ∧ (i + 1 = ss.length → Q (.bl false) H) ∧ (i + 1 < ss.length → ∀ H', FrW wt L H H' → Gd K M H' → WtAt K M H' wt L S ss (i + 1) → Q (.bl true) H')
theorem steps_cut {as : List Addr} {lo hi : Option Int} : cutV (as.map V.ref) lo hi = ((as.drop (HT.sIx as.length 0 lo)).take (HT.sIx as.length as.length hi - HT.sIx as.length 0 lo)).map V.ref := by
  unfold cutV
  rw [List.length_map, ← List.map_drop, ← List.map_take]
theorem cutV_to {α : Type} (f : α → V) (xs : List α) (n : Nat) : cutV (xs.map f) none (some (n : Int)) = (xs.take n).map f := by
  rw [cut_take, List.map_take]
theorem Steps.drop {K : PySem.W.Frag} {H : Hp} {as : List Addr} {ss : List St1} (h : Steps K H as ss) (n : Nat) : Steps K H (as.drop n) (ss.drop n) := by
  refine ⟨by rw [List.length_drop, List.length_drop, h.1], fun i a s h1 h2 => ?_⟩
  rw [List.getElem?_drop] at h1 h2
  exact h.2 _ a s h1 h2
theorem Steps.at {K : PySem.W.Frag} {H : Hp} {as : List Addr} {ss : List St1} (h : Steps K H as ss) {i : Nat} {a : Addr} (e : as[i]? = some a) : ∃ s, ss[i]? = some s ∧ StepAt K H a s := by
  have hi : i < ss.length := by
    rw [← h.1]
    rcases Nat.lt_or_ge i as.length with z | z
    · exact z
    · rw [List.getElem?_eq_none z] at e
      cases e
  exact ⟨_, List.getElem?_eq_getElem hi, h.2 i a _ e (List.getElem?_eq_getElem hi)⟩
end SC
set_option maxRecDepth 100000
set_option maxHeartbeats 2000000
/-! # Part Eq: _law_equal of data -/
namespace SC
open PySem PySem.Spec PyProof.Rows L2 TL
inductive OkS : Nat → D → Prop
  | non {n : Nat} : OkS n .non
  | bl {n : Nat} {b : Bool} : OkS n (.bl b)
  | int {n : Nat} {i : Int} : OkS n (.int i)
  | str {n : Nat} {s : Str} : OkS n (.str s)
  | lst {n : Nat} {l : List D} (hl : l.length ≤ 100000) (h : ∀ x ∈ l, OkS n x) : OkS (n + 1) (.lst l)
  | tup {n : Nat} {l : List D} (hl : l.length ≤ 100000) (h : ∀ x ∈ l, OkS n x) : OkS (n + 1) (.tup l)
section
variable {K : PySem.W.Frag} {M : List Addr} {σ : L2.St} {H : Hp}
theorem eqn_of : ∀ {n : Nat} {d : D} {x y : V}, OkS n d → Rp K H d x → Rp K H d y → EqN K n H x y
  | _, _, _, _, .non, h1, h2 => by cases h1; cases h2; exact eq0
  | _, _, _, _, .bl, h1, h2 => by cases h1; cases h2; exact eq0
  | _, _, _, _, .int, h1, h2 => by cases h1; cases h2; exact eq0
  | _, _, _, _, .str, h1, h2 => by cases h1; cases h2; exact eq0
  | _, _, _, _, .lst (n := n) (l := l) hl ho, h1, h2 => by
    obtain ⟨a, xs, rfl, e1, r1⟩ := h1
    obtain ⟨b, ys, rfl, e2, r2⟩ := h2
    refine .inr ⟨a, b, xs, ys, rfl, rfl, .inl ⟨e1, e2⟩, by rw [r1.len, r2.len], by rw [r1.len]; exact hl, fun i u v hu hv => ?_⟩
    obtain ⟨z, hz, rz⟩ := r1.get' hu
    obtain ⟨z2, hz2, rz2⟩ := r2.get' hv
    rw [hz] at hz2
    cases hz2
    exact eqn_of (ho z (List.mem_of_getElem? hz)) rz rz2
  | _, _, _, _, .tup (n := n) (l := l) hl ho, h1, h2 => by
    obtain ⟨a, xs, rfl, e1, r1⟩ := h1
    obtain ⟨b, ys, rfl, e2, r2⟩ := h2
    refine .inr ⟨a, b, xs, ys, rfl, rfl, .inr ⟨e1, e2⟩, by rw [r1.len, r2.len], by rw [r1.len]; exact hl, fun i u v hu hv => ?_⟩
    obtain ⟨z, hz, rz⟩ := r1.get' hu
    obtain ⟨z2, hz2, rz2⟩ := r2.get' hv
    rw [hz] at hz2
    cases hz2
    exact eqn_of (ho z (List.mem_of_getElem? hz)) rz rz2
/-- _law_equal(x, y) of the same data -/
theorem rd_equal {u : TA} {n : Nat} {d e : D} (he : d = e) (o : OkS n d) (h : RdA K M u σ H [d, e]) : Rd K M (tCall (spEqual K n) [] E0 u) σ H (.bl true) := by
  subst he
  exact fun H1 s1 g Q k => h H1 s1 g _ fun xs H2 s2 g2 r2 => by
    obtain ⟨v, vs, rfl, r1, v2, vs2, rfl, r3, r4⟩ := r2
    cases r4
    exact ⟨v, v2, rfl, eqn_of o (r1.here) (r3.here), fun H3 s3 => k _ H3 (s2.trans s3) (g2.same s3) rfl⟩
theorem oks_dO {o : Option Int} {n : Nat} : OkS n (dO o) := by cases o <;> constructor
theorem oks_opts {os : List (Option Int)} {n : Nat} (h : os.length ≤ 100000) : OkS (n + 1) (.lst (os.map dO)) := .lst (by rw [List.length_map]; exact h) fun x hx => by
  obtain ⟨i, _, rfl⟩ := List.mem_map.mp hx
  exact oks_dO
theorem oks_optsT {os : List (Option Int)} {n : Nat} (h : os.length ≤ 100000) : OkS (n + 1) (.tup (os.map dO)) := .tup (by rw [List.length_map]; exact h) fun x hx => by
  obtain ⟨i, _, rfl⟩ := List.mem_map.mp hx
  exact oks_dO
theorem oks_ints {ns : List Int} {n : Nat} (h : ns.length ≤ 100000) : OkS (n + 1) (.lst (ns.map D.int)) := .lst (by rw [List.length_map]; exact h) fun x hx => by
  obtain ⟨i, _, rfl⟩ := List.mem_map.mp hx
  exact .int
theorem oks_two {a b : D} {n : Nat} (h1 : OkS n a) (h2 : OkS n b) : OkS (n + 1) (.lst [a, b]) := .lst (by show 2 ≤ 100000; decide) fun x hx => by
  rcases List.mem_cons.mp hx with rfl | hx
  · exact h1
  · rw [List.mem_singleton.mp hx]
    exact h2
/-- worktop.held -/
theorem rd_held {tf : TE} {wt L S : Addr} {ss : List St1} {i : Nat} {s : St1} (hw : WtAt K M H wt L S ss i) (hi : ss[i]? = some s) (hf : ∀ H1, Same H H1 → ∀ Q : VK, Q (.ref wt) H1 → tf σ H1 Q) :
    Rd K M (tProp (WkC K) (spHeld K) [] E0 tf) σ H (.tup (s.hs.map dO)) := fun H1 s1 g Q k => hf H1 s1 _ (by
  have w1 := hw.same s1
  obtain ⟨⟨dx, h1⟩, _⟩ := id w1
  exact ⟨wt, dx, _, rfl, h1, M, wt, L, S, ss, i, s, rfl, w1, hi, fun v r => k v H1 (Same.refl _) g r⟩)
theorem rd_letout {tf : TE} {wt L S : Addr} {ss : List St1} {i : Nat} (hw : WtAt K M H wt L S ss i) (hf : ∀ H1, Same H H1 → ∀ Q : VK, Q (.ref wt) H1 → tf σ H1 Q) :
    Rd K M (tProp (WkC K) (spLetOut K) [] E0 tf) σ H (.lst (((ss.take (i + 1)).filterMap St1.out).map D.int)) := fun H1 s1 g Q k => hf H1 s1 _ (by
  have w1 := hw.same s1
  obtain ⟨⟨dx, h1⟩, _⟩ := id w1
  exact ⟨wt, dx, _, rfl, h1, M, wt, L, S, ss, i, rfl, g, w1, fun v H2 s2 g2 r => k v H2 s2 g2 r⟩)
theorem rd_ops {tf : TE} {wt L S : Addr} {ss : List St1} {i : Nat} (hw : WtAt K M H wt L S ss i) (hf : ∀ H1, Same H H1 → ∀ Q : VK, Q (.ref wt) H1 → tf σ H1 Q) :
    Rd K M (tProp (WkC K) (spOps K) [] E0 tf) σ H (.lst ((((ss.take (i + 1)).drop 1).map St1.word).map D.str)) := fun H1 s1 g Q k => hf H1 s1 _ (by
  have w1 := hw.same s1
  obtain ⟨⟨dx, h1⟩, _⟩ := id w1
  exact ⟨wt, dx, _, rfl, h1, M, wt, L, S, ss, i, rfl, g, w1, fun v H2 s2 g2 r => k v H2 s2 g2 r⟩)
theorem rd_chainnow {tf : TE} {wt L S : Addr} {ss : List St1} {i : Nat} {s : St1} (hw : WtAt K M H wt L S ss i) (hi : ss[i]? = some s) (hf : ∀ H1, Same H H1 → ∀ Q : VK, Q (.ref wt) H1 → tf σ H1 Q) :
    Rd K M (tProp (WkC K) (spChainNow K) [] E0 tf) σ H (.chain s.rs) := fun H1 s1 g Q k => hf H1 s1 _ (by
  have w1 := hw.same s1
  obtain ⟨⟨dx, h1⟩, _⟩ := id w1
  exact ⟨wt, dx, _, rfl, h1, M, wt, L, S, ss, i, s, rfl, w1, hi, fun v r => k v H1 (Same.refl _) g r⟩)
/-- the name of a worktop -/
theorem wk_var {i : Nat} {v : V} (e : σ[i]? = some (some v)) : ∀ H1, Same H H1 → ∀ Q : VK, Q v H1 → tVar i σ H1 Q := fun H1 _ Q q => ⟨v, e, q⟩
/-- cell(a, b) -/
theorem rd_cellcall {tf : TE} {u : TA} {r : Rule} {h c : Int} (hf : Rd K M tf σ H (.cell r)) (ha : RdA K M u σ H [.int h, .int c]) : Rd K M (tCellCall K tf u) σ H (.tup [.int (r.keep h c).1, .int (r.keep h c).2]) := fun H1 s1 g Q k => hf H1 s1 g _ fun x H2 s2 g2 rx => by
  obtain ⟨a, rfl, ca⟩ := rx
  refine ⟨a, rfl, ha H2 (s1.trans s2) g2 _ fun vs H3 s3 g3 r3 => ?_⟩
  obtain ⟨v, vs1, rfl, r1, v2, vs2, rfl, r2, r4⟩ := r3
  cases r1
  cases r2
  cases r4
  exact ⟨r, h, c, rfl, (ca.same wo_le).same s3, fun p hp => new_tup (l := [.int (r.keep h c).1, .int (r.keep h c).2]) g3 hp ⟨_, _, rfl, rfl, _, _, rfl, rfl, rfl⟩ fun v H4 s4 => k v H4 ((s2.trans s3).trans s4)⟩
theorem ok_pair {a b : Int} : Ok 1 (.tup [.int a, .int b]) := .tup fun x hx => by
  rcases List.mem_cons.mp hx with rfl | hx
  · exact .int
  · rw [List.mem_singleton.mp hx]
    exact .int
end
theorem StepAt.fr {K : PySem.W.Frag} {H H' : Hp} {a d : Addr} {s : St1} {xs : List V} (h : StepAt K H a s) (hd : H d = some (.lst xs)) (f : Fr1 d H H') : StepAt K H' a s := by
  obtain ⟨dx, c, t, h1, h2, h3, h4⟩ := h
  exact ⟨dx, c, t, f _ _ h1 (ne_of h1 hd fun z => by cases z), h2.fr hd f, f _ _ h3 (ne_of h3 hd fun z => by cases z), h4⟩
theorem WtAt.frL {K : PySem.W.Frag} {M : List Addr} {H : Hp} {wt L S d : Addr} {ss : List St1} {i : Nat} {xs ys : List V} (x : WtAt K M H wt L S ss i) (hd : H d = some (.lst xs)) (nd : d ∉ M) : WtAt K M (upd H d (.lst ys)) wt L S ss i := by
  obtain ⟨⟨dx, h1⟩, ⟨as, h2, h3⟩, h4, h5, h6, h7, h8⟩ := x
  have n1 : wt ≠ d := fun z => nd (z ▸ h6)
  have n2 : L ≠ d := fun z => nd (z ▸ h7)
  have hw : wo M H d = some (.lst xs) := by rw [wo_at nd]; exact hd
  have fw : Fr1 d (wo M H) (wo M (upd H d (.lst ys))) := fun b o hb nb => by
    obtain ⟨b1, b2⟩ := wo_some hb
    rw [wo_at b1, upd_ne nb]
    exact b2
  exact ⟨⟨dx, by rw [upd_ne n1]; exact h1⟩, ⟨as, by rw [upd_ne n2]; exact h2, h3.1, fun j a s e1 e2 => (h3.2 j a s e1 e2).fr hw fw⟩, h4, h5, h6, h7, h8⟩
theorem run_pre (rs : List Rule) (hs : List (Option Int)) (ns : List Int) (i : Nat) : (runR rs hs (ns.take i)).1 = (runR rs hs ns).1.take i := by
  by_cases h : i ≤ ns.length
  · have z := run_app rs (ns.take i) (ns.drop i) hs
    rw [List.take_append_drop] at z
    have z1 : (runR rs hs ns).1 = (runR rs hs (ns.take i)).1 ++ (runR rs (runR rs hs (ns.take i)).2 (ns.drop i)).1 := congrArg Prod.fst z
    rw [z1]
    have kl := (run_len rs (ns.take i) hs).1
    rw [List.length_take, Nat.min_eq_left h] at kl
    exact (List.take_left' kl).symm
  · rw [List.take_of_length_le (by omega), List.take_of_length_le (by rw [(run_len rs ns hs).1]; omega)]
end SC
set_option maxRecDepth 100000
set_option maxHeartbeats 2000000
/-! # Part T2: steps of worktops, read; take and swap -/
namespace SC
open PySem PySem.Spec PyProof.Rows L2 TL
section
variable {K : PySem.W.Frag} {mg : Str → Option Value} {M : List Addr} {σ : L2.St} {H : Hp}
theorem rd_stnums {i : Nat} {a : Addr} {s : St1} (W : Wk K mg) (e : σ[i]? = some (some (.ref a))) (h : StepAt K (wo M H) a s) : Rd K M (tFld K (tVar i) "numbers") σ H (.tup (s.hs.map dO)) := fun H1 s1 g Q k => by
  obtain ⟨dx, c, t, h1, h2, h3, h4⟩ := h.same (swo s1)
  exact ⟨_, e, a, _, dx, _, _, rfl, wo_le _ _ h1, W.clsS, W.nNums, st_nums, k _ H1 (Same.refl _) g ⟨t, _, rfl, h3, rp_opts.mpr rfl⟩⟩
theorem rd_stchain {i : Nat} {a : Addr} {s : St1} (W : Wk K mg) (e : σ[i]? = some (some (.ref a))) (h : StepAt K (wo M H) a s) : Rd K M (tFld K (tVar i) "chain") σ H (.chain s.rs) := fun H1 s1 g Q k => by
  obtain ⟨dx, c, t, h1, h2, h3, h4⟩ := h.same (swo s1)
  exact ⟨_, e, a, _, dx, _, _, rfl, wo_le _ _ h1, W.clsS, W.nChain, st_chain, k _ H1 (Same.refl _) g ⟨c, rfl, h2⟩⟩
theorem use_callE {sp : Sp} {E : XK} {u : TA} {D : Ends} {ds : List SC.D} (h : RdA K M u σ H ds) (g : Gd K M H) (k : ∀ vs H2, Same H H2 → Gd K M H2 → RpL K (wo M H2) ds vs → sp (vs ++ []) H2 (fun _ H3 => D.nx σ H3) E) : tDrop (tCall sp [] E u) D σ H := h H (Same.refl _) g _ fun vs H2 s g2 r => k vs H2 s g2 r
end
def takeSt (s : St1) (k : Nat) : St1 := ⟨"take", s.rs, s.hs.take k ++ s.hs.drop (k + 1) ++ [none], none⟩
theorem take_fill {hs : List (Option Int)} {k : Nat} {v : Int} (f : Fill hs) (h : hs[k]? = some (some v)) : Fill (hs.take k ++ hs.drop (k + 1) ++ [none]) := by
  obtain ⟨xs, n, rfl⟩ := f
  have hk : k < xs.length := by
    rcases Nat.lt_or_ge k xs.length with z | z
    · exact z
    · rw [List.getElem?_append_right (by rw [List.length_map]; exact z)] at h
      have := List.mem_of_getElem? h
      unfold nones at this
      rw [List.mem_replicate] at this
      cases this.2
  refine ⟨xs.take k ++ xs.drop (k + 1), n + 1, ?_⟩
  rw [List.take_append_of_le_length (by rw [List.length_map]; omega), List.drop_append_of_le_length (by rw [List.length_map]; omega), ← List.map_take, ← List.map_drop, List.map_append]
  have e : nones (n + 1) = nones n ++ [none] := by unfold nones; rw [List.replicate_succ']
  rw [e]
  simp
theorem take_len {hs : List (Option Int)} {k : Nat} {o : Option Int} (h : hs[k]? = some o) : (hs.take k ++ hs.drop (k + 1) ++ [none]).length = hs.length := by
  have hk : k < hs.length := by
    rcases Nat.lt_or_ge k hs.length with z | z
    · exact z
    · rw [List.getElem?_eq_none z] at h
      cases h
  rw [List.length_append, List.length_append, List.length_take, List.length_drop, List.length_singleton]
  omega
def spTake (K : PySem.W.Frag) : Sp := fun vs H Q _ => ∃ (M : List Addr) (wt L S : Addr) (ss : List St1) (i : Nat) (s : St1) (k : Nat) (v : Int), vs = [.ref wt, .int k] ∧ Gd K M H ∧ WtAt K M H wt L S ss i ∧ ss.length < 100000 ∧ ss[i]? = some s ∧ s.hs[k]? = some (some v) ∧
  ∀ H', FrW wt L H H' → Gd K M H' → WtAt K M H' wt L S (ss.take (i + 1) ++ [takeSt s k]) (i + 1) → Q (.int v) H'
/-- two neighbours exchanged -/
def swp {α : Type} (l : List α) (k : Nat) : List α := match l[k]?, l[k + 1]? with
  | some x, some y => (l.set k y).set (k + 1) x
  | _, _ => l
def swapSt (s : St1) (k : Nat) : St1 := ⟨"swap", swp s.rs k, s.hs, none⟩
def spSwap (K : PySem.W.Frag) : Sp := fun vs H Q _ => ∃ (M : List Addr) (wt L S : Addr) (ss : List St1) (i : Nat) (s : St1) (k : Nat) (x y : Rule), vs = [.ref wt, .int k] ∧ Gd K M H ∧ WtAt K M H wt L S ss i ∧ ss.length < 100000 ∧ ss[i]? = some s ∧ s.rs[k]? = some x ∧ s.rs[k + 1]? = some y ∧
  ∀ v H', FrW wt L H H' → Gd K M H' → WtAt K M H' wt L S (ss.take (i + 1) ++ [swapSt s k]) (i + 1) → Rp K (wo M H') (.tup [.str y.label, .str x.label]) v → Q v H'
end SC
set_option maxRecDepth 100000
set_option maxHeartbeats 2000000
/-! # Part Su: a def whose only captured name is __class__, and super().__init__(e) in it -/
namespace SC
open PySem PySem.Spec PyProof.Rows L2 TL NdefX
/-- statements read where they are the running def's own -/
structure PSsA (X : Cx) (whole body : List Stmt) (t : TS) : Prop where
  run : ∀ (pins : List (Addr × Obj)) (s : Shared) (σ : L2.St) (H : Hp) (D : Ends), Inv X pins σ H s → t D σ H → _root_.PySem.wpAt (model X.prog X.w) X.A (.func whole X.env) (execs body X.env) (SP X pins D) X.xe s
section
variable {CX : CXT} {P : Program} {w : World} {K : PySem.W.Frag} {mg : Str → Option Value} {base : Heap} {N ps : List Str} {name qual : Str} {params : Arguments} {body : List Stmt} {scope : Scope} {kV doc pm ct oc : Value} {an od : Option Addr} {osl : Array (Option Value)} {f c cc C : Addr} {k : Nat} {sp : Sp}
theorem fn_clo {ocell : Obj} (lk : K.lookup f = some ⟨oc, od, .func (PySem.W.fnX name qual params body scope [("__class__", cc)] .none kV doc pm an (.ref c) ct), osl⟩) (hcd : PySem.W.codeIn K (.ref c) qual = true) (S : NScope N ps ["__class__"] scope)
    (lc : K.lookup cc = some ocell) (hcell : ocell.data = .cell (some (.ref C))) (len : ∀ vs H Q E, sp vs H Q E → vs.length = ps.length)
    (hbody : ∀ (A : Around) (outer : List PySem.Env) (s : Shared) (H : Hp) (vs : List V) (Q : VK) (E : XK), Room k (A.deeper (envF ⟨name, qual, params, body, scope, [("__class__", cc)], c⟩ f s.heap.objs.size)) → sp vs H Q E →
      ∃ t, PSsA (ncx CX P w K mg base N ⟨name, qual, params, body, scope, [("__class__", cc)], c⟩ f A outer s H E) body body t ∧ t { nx := fun _ H' => Q .non H', rt := Q } (startF N vs [some (.ref C)]) H) :
    FnOk P w K mg base CX (k + 1) f (PySem.W.fnX name qual params body scope [("__class__", cc)] .none kV doc pm an (.ref c) ct) ps sp := by
  refine ⟨len, fun A outer s H args us vs Q E hr e0 hb r hsp => ?_⟩
  have hl := len _ _ _ _ hsp
  have KX : K.In s.heap := e0.mod.kin.keeps fun b o e => (e0.bs b o e).1
  have lim : s.heap.NoLimit := e0.mod.nolimit.keeps fun b o e => (e0.bs b o e).1
  have hcl := e0.bs cc ocell (e0.mod.kin _ _ lc)
  have one : ∀ y a, ([("__class__", cc)] : List (Str × Addr)).lookup y = some a → y = "__class__" ∧ a = cc := fun y a h => by
    simp only [List.lookup] at h
    split at h
    · rename_i z
      cases h
      exact ⟨by simpa using z, rfl⟩
    · cases h
  have CA : CellsAt ([("__class__", cc)] : List (Str × Addr)) ["__class__"] [some (.ref C)] s.heap H := by
    refine ⟨rfl, fun y a h => ?_, fun x y a h1 h2 => ?_, fun i y h => ?_⟩
    · obtain ⟨rfl, rfl⟩ := one y a h
      exact ⟨hcl.2, _, ocell, hcl.1, hcell⟩
    · rw [(one _ _ h1).1, (one _ _ h2).1]
    · match i, h with
      | 0, h =>
        cases h
        refine ⟨cc, by simp [List.lookup], fun v hv => ?_⟩
        cases hv
        exact ⟨_, rfl, ocell, hcl.1, hcell⟩
      | i + 1, h => simp at h
  refine ks_codeAny_call_defAt (fd := PySem.W.fnX name qual params body scope [("__class__", cc)] .none kV doc pm an (.ref c) ct) hr.depth (KX _ _ lk) rfl lim (PySem.W.codeRec_of KX hcd) rfl hb S.nocell (fun ⟨n, _⟩ hy => S.par n (List.of_mem_zip hy).1) (fun h₁ hns kp => ?_) S.co S.gen S.kind
  obtain ⟨t, ht, hq⟩ := hbody A outer s H vs Q E (hr.deeper _) hsp
  have I : Inv (ncx CX P w K mg base N ⟨name, qual, params, body, scope, [("__class__", cc)], c⟩ f A outer s H E) [] (startF N vs [some (.ref C)]) H { s with heap := h₁, toks := s.toks + (ps.zip us).length } := inv_startN S hr.hd e0 hl r CA hns kp
  refine ks_wpAt_mono (ht.run [] _ (startF N vs [some (.ref C)]) H _ I hq) (fun fl s' hs => ?_) fun e s' hs => hs
  have fin : ∀ {σ' : L2.St} {H' : Hp} {v : V} {u : Value}, Inv (ncx CX P w K mg base N ⟨name, qual, params, body, scope, [("__class__", cc)], c⟩ f A outer s H E) [] σ' H' s' → L2.RelV v u → Q v H' → CE outer P w H s Q u s' :=
    fun {σ' H' v u} J rv q => ⟨v, H', J.os, J.bare, J.base, J.hok, rv, q⟩
  cases fl with
  | ret u =>
    obtain ⟨v, σ', H', J, rv, q⟩ := hs
    exact fin J rv q
  | next =>
    obtain ⟨σ', H', J, q⟩ := hs
    exact fin (v := V.non) (u := Value.none) J rfl q
  | brk =>
    obtain ⟨_, _, _, q⟩ := hs
    exact False.elim q
  | cont =>
    obtain ⟨_, _, _, q⟩ := hs
    exact False.elim q
end
section
variable {X : Cx} {pins : List (Addr × Obj)} {σ : L2.St} {H : Hp} {s : Shared}
theorem ld_slot {A : Around} {E : Value → Shared → Prop} {Q : Value → Shared → Prop} {i : Nat} {x : Str} {v : V} (I : Inv X pins σ H s) (hN : X.N[i]? = some x) (hv : Vis X.env.scope x) (e : σ[i]? = some (some v)) (hcd : (x == ("__classdict__" : Str)) = false) (h : ∀ u, L2.RelV v u → Q u s) :
    wpAny (model X.prog X.w) A (loadName X.env x) Q E s := by
  obtain ⟨m, hn, hl⟩ := I.loc
  obtain ⟨u, r, l⟩ := hl i x v hN e hv
  rcases l with ⟨hk, hm⟩ | ⟨hk, c, hc, hcell⟩
  · exact wpAny_loadName_local I.ok.kind hk hn hm (h u r)
  · rcases hk with hk | hk
    · exact wpAny_loadName_cell I.ok.kind hk hc hcell (h u r)
    · exact wpAny_loadName_free I.ok.kind hk hc hcell (h u r) hcd
/-- the bound ValueError.__init__, called -/
theorem call_mw {A : Around} {E : Value → Shared → Prop} {Q : Value → Shared → Prop} {u a C : Addr} {us : List Value} (T : OexC X.K C) (I : Inv X pins σ H s) (e : H a = some (exo a C none)) (hu : s.heap.get? u = some (PySem.W.kxs_mw "ValueError.__init__" a)) (hl : us.length ≤ sizeLine) (h : ∀ s', Inv X pins σ H s' → Q .none s') :
    wpAny (model X.prog X.w) A (call (.ref u) us) Q E s := by
  obtain ⟨nm, q, N, bs, bm, sn, sub, ab, col, dd, k0, k1, k2, k3, k5, hC, hbm⟩ := T.cls
  obtain ⟨t1, ho⟩ := exo_at I.hok e
  have fin : ∀ h', (∀ b o, b ≠ a → s.heap.get? b = some o → h'.get? b = some o) → h'.get? a = some (PySem.HandSPX.excO C s.heap.objs.size) → Q .none { s with heap := h' } := fun h' k hx => by
    have J := I.write (t' := s.toks) (x := a) (e := a) (o := exo a C none) (by rw [e]; exact True.intro) (.inl rfl) k ⟨_, hx⟩ (exo_ok hx)
    have eu : upd H a (exo a C none) = H := by
      funext b
      by_cases hb : b = a
      · rw [hb, upd_same, e]
      · rw [upd_ne hb]
    rw [eu] at J
    exact h _ J
  obtain ⟨hh, g, d, tk, os⟩ := s
  refine wpAny_call (codeAny_of_tree ?_)
  show wpAny _ A.in1 (callAny (.ref u) ⟨us, []⟩) _ _ _
  simp only [callAny]
  refine wpAny_bind (wpAny_load hu ?_)
  simp only [PySem.W.kxs_mw, show (Value.type "method-wrapper" == Value.type "method" || Value.type "method-wrapper" == Value.type "builtin_function_or_method" || Value.type "method-wrapper" == Value.type "method-wrapper") = true by decide, if_true]
  refine PySem.W.KFB.if_so (by decide) ?_
  refine wpAny_bind (PySem.W.check_bound_init F.excBase_ValueError.toExcCallFacts (I.kIn _ _ hC) ho rfl ?_)
  refine wpAny_bind (wpAny_pure (wpAny_pure ?_))
  refine ⟨plainId_quiet F.excBase_ValueError.init.plain _, codeAny_builtin F.excBase_ValueError.initEntry ?_⟩
  exact PySem.W.exc_init_tree (cls := .ref C) (t0 := t1) (dv := none) (c2 := .none) (c3 := .none) (b4 := .bool false) ho hl (fun h' k e' _ => fin h' k e')
theorem boot_super : bootBuiltins "super" = some (.type "super") := by decide +kernel
/-- what super() in the def at f wants of what is written: the def, its code, the class C -/
structure SupC (P : Program) (K : PySem.W.Frag) (mg : Str → Option Value) (f cc C : Addr) (x0 : Str) : Prop where
  fn : ∃ (of : Obj) (fd : FuncData) (ar : Arg), K.lookup f = some of ∧ of.data = .func fd ∧ (fd.params.posonlyargs ++ fd.params.args).head? = some ar ∧ ar.arg = x0
  code : ∃ (oc : Obj) (vs : Array Value) (file : Str) (tf : Tok), K.lookup cc = some oc ∧ oc.data = .fields vs ∧ vs[2]? = some (.str file tf) ∧ ((P.main.file : Str) == file) = true
  top : (P.main.scope.names.lookup ("super" : Str)).isSome = false
  glo : mg "super" = none
  stat : PySem.W.nsIn K cStatics "thirdparty.any" = some none
  sup : PySem.W.ks_superIn K C C "__init__" = some (some (.builtin "ValueError.__init__"))
  ve : PySem.W.subIn K (.ref C) (.type "ValueError") = some true
  self : PySem.W.subIn K (.ref C) (.ref C) = some true
def tSup (K : PySem.W.Frag) (C : Addr) (j : Nat) (te : TE) (u : TS) : TS := fun D σ H => ∃ a : Addr, σ[0]? = some (some (.ref a)) ∧ σ[j]? = some (some (.ref C)) ∧ OexC K C ∧ H a = some (exo a C none) ∧ te σ H fun _ H1 => H1 a = some (exo a C none) ∧ u D σ H1
theorem pss_super {whole rest : List Stmt} {e : Expr} {te : TE} {u : TS} {p0 p1 p2 p3 p4 : Pos} {f cc C : Addr} {x0 : Str} {j : Nat} {pl : Sem Bool} (G : SupC X.prog X.K X.mg f cc C x0) (hks : X.env.kindOf "super" = some .globalImplicit) (hkc : X.env.kindOf "__class__" = some .free) (hfu : X.env.func = some f) (hco : X.env.code = .ref cc)
    (hN0 : X.N[0]? = some x0) (hv0 : Vis X.env.scope x0) (hx0 : (x0 == ("__classdict__" : Str)) = false) (hNj : X.N[j]? = some "__class__") (hvj : Vis X.env.scope "__class__") (he : PE X e te) (hr : PSs X rest u)
    (hev : eval (.Call (.Attribute (.Call (.Name "super" p0) [] [] p1) "__init__" p2) [e] [] p3) X.env = (do
      let ov ← attributeBase (.Call (.Name "super" p0) [] [] p1) "__init__" X.env (eval (.Call (.Name "super" p0) [] [] p1) X.env)
      standAt p2.atName
      let (f, first) ← holding [ov] (getMethod ov "__init__" pl)
      callWith p3 f first (backTo p3 (starEach [e] X.env)) []) := by rfl)
    (hi : interactive X.env = false := by rfl) (hs : swapsWith (.Call (.Attribute (.Call (.Name "super" p0) [] [] p1) "__init__" p2) [e] [] p3) none p4.line X.env = pure false := by rfl)
    (hst : starEach [e] X.env = (false, eval e X.env) :: starEach [] X.env := by rfl) :
    PSsA X whole (.Expr (.Call (.Attribute (.Call (.Name "super" p0) [] [] p1) "__init__" p2) [e] [] p3) p4 :: rest) (tSup X.K C j te u) := by
  refine ⟨fun pins s σ H D I h => ?_⟩
  obtain ⟨a, e0, e1, T, ea, h⟩ := h
  obtain ⟨of, fd, ar, lk, hfd, hp, rfl⟩ := G.fn
  obtain ⟨oc, vs, file, tf, lc, hoc, hvs, hfile⟩ := G.code
  obtain ⟨nm, q, N, bs, bm, sn, sub, ab, col, dd, k0, k1, k2, k3, k5, hC, hbm⟩ := T.cls
  obtain ⟨t1, ho⟩ := exo_at I.hok ea
  obtain ⟨mb, b1, b2⟩ := I.mod.blt
  refine ks_wpAt_execs_cons (ks_wpAt_Expr_any (ks_wpAt_MethodCall (ks_wpAt_super_base hks hkc (by decide) hfu (I.kIn _ _ lk) hfd hp hco (I.kIn _ _ lc) hoc hvs hfile G.top ?_) hev) hi hs)
  refine PySem.W.ks_loadName_global I.ok.kind hks (Calls.loadGlobal_builtin (by rw [I.ok.glob]; exact I.mod.glob.keeps I.bk) G.glo (by rw [I.ok.blt]; exact b1.keeps I.bk) ((b2 "super" (by decide)).trans boot_super) ⟨rfl, ?_⟩)
  refine ld_slot I hNj hvj e1 (by decide) fun uc rc => ?_
  obtain rfl : uc = Value.ref C := rc
  refine ld_slot I hN0 hv0 e0 hx0 fun ua ra => ?_
  obtain rfl : ua = Value.ref a := ra
  have KX := I.kIn
  have hCs := KX _ _ hC
  obtain ⟨hh, g, d, t, os⟩ := s
  refine ks_wpAny_isType_cls hCs rfl ⟨rfl, ?_⟩
  refine ks_wpAny_call_super hCs rfl ho rfl (fun c z => by cases z) (PySem.W.looks_subIn KX G.self) fun h' hso kp => ?_
  have I1 : Inv X pins σ H ⟨h', g, d, t, os⟩ := I.kept (t' := t) kp
  have K1 := I1.kIn
  have ho1 := kp _ _ ho
  have IA : PySem.W.InstAt h' a _ C none := ⟨ho1, rfl, rfl, trivial⟩
  have hsup := G.sup
  cases hc : PySem.W.clsIn X.K C with
  | none => unfold PySem.W.ks_superIn at hsup; rw [hc] at hsup; cases hsup
  | some cd =>
    unfold PySem.W.ks_superIn at hsup
    rw [hc] at hsup
    refine PySem.W.kxs_getMethod PySem.W.kxs_ValueError hso (PySem.W.looks_opaque K1 G.stat) (l₀ := cd.mro) (fun A Q E s k q => wpAny_bind ((PySem.W.looks_clsIn K1 hc) A _ E s k (wpAny_pure q))) rfl K1 hsup (IA.type.andThen (PySem.W.looks_subIn K1 G.ve)) (PySem.W.ks_ne K1 IA hc) (by decide) ?_
    have kp2 : ∀ b o, h'.get? b = some o → (h'.push (PySem.W.kxs_mw "ValueError.__init__" a)).get? b = some o := fun b o z => Heap.get?_push_of_some _ z
    have hu : (h'.push (PySem.W.kxs_mw "ValueError.__init__" a)).get? h'.objs.size = some (PySem.W.kxs_mw "ValueError.__init__" a) := Heap.get?_push_at rfl rfl
    have I2 : Inv X pins σ H ⟨h'.push (PySem.W.kxs_mw "ValueError.__init__" a), g, d, t + 1, os⟩ := I1.kept (t' := t + 1) kp2
    have fo := I1.fpOk (b := h'.objs.size) (Nat.le_refl _) (I1.hok.fresh (Nat.le_refl _))
    have I3 : Inv X ((h'.objs.size, PySem.W.kxs_mw "ValueError.__init__" a) :: pins) σ H ⟨h'.push (PySem.W.kxs_mw "ValueError.__init__" a), g, d, t + 1, os⟩ := I2.pins_of fun p hp => by
      rcases List.mem_cons.mp hp with rfl | hp
      · exact ⟨hu, fo.1, fo.2.1, fo.2.2.1, fun v z => by cases z⟩
      · exact I2.pin p (List.mem_append_right _ hp)
    show wpAny _ _ (callWith p3 (.ref h'.objs.size) [] (backTo p3 (starEach [e] X.env)) []) _ _ _
    rw [hst]
    refine PySem.W.kxs_callWith (i := "ValueError.__init__") (x := a) rfl (Calls.evalArgs_plain ?_)
    refine Calls.spliced_cons (thn (he.run _ _ σ H _ I3 h) fun v s1 ⟨y, H1, J, r1, ea1, q1⟩ => ?_)
    refine Calls.spliced_nil ?_
    have hu1 := (J.pin (h'.objs.size, PySem.W.kxs_mw "ValueError.__init__" a) (List.mem_append_right _ List.mem_cons_self)).1
    refine ⟨hu1, call_mw T J ea1 hu1 (by show 1 ≤ sizeLine; decide) fun s2 J2 => ?_⟩
    have J3 : Inv X pins σ H1 s2 := J2.pins_of fun p hp => J2.pin p (List.mem_append_right _ (List.mem_cons_of_mem _ hp))
    exact wpAt_of_wpAny (hr.run pins s2 σ H1 D J3 q1)
end
end SC
set_option maxRecDepth 100000
set_option maxHeartbeats 2000000
/-! # Part Sx: own errors with a field: what the head tells of them -/
namespace SC
open PySem PySem.Spec PyProof.Rows L2 TL NdefX
open He (ba eqO eqO_ok)
def oexB (K : PySem.W.Frag) (C : Addr) : Bool := (match K.lookup C with
  | some ⟨.type "type", _, .cls cd, sl⟩ => (match cd.mro, sl.toList with
    | .ref C' :: bm, [_, _, _, _, some (.builtin n), _] => C' == C && n == "ValueError.__new__" && !cd.hasDel && cd.hasDict && PySem.HandSPX.refsVE bm
    | _, _ => false)
  | _ => false) && (eqO (PySem.W.findIn K (.ref C) "__setattr__") (some (some (.builtin "object.__setattr__"))) && (decide (PySem.W.subIn K (.ref C) (.type "BaseException") = some true) && (decide (PySem.W.typeIn K (.ref C) = some (.type "type")) && PySem.W.keepIn K (.ref C))))
theorem oexB_ok {K : PySem.W.Frag} {C : Addr} (h : oexB K C = true) : OexC K C := by
  obtain ⟨q, h⟩ := ba h
  obtain ⟨h2, h⟩ := ba h
  obtain ⟨h3, h⟩ := ba h
  obtain ⟨h4, h5⟩ := ba h
  refine ⟨?_, eqO_ok h2, of_decide_eq_true h3, of_decide_eq_true h4, h5⟩
  split at q
  · rename_i dd cd sl ho
    split at q
    · rename_i C' bm k0 k1 k2 k3 n k5 hm hs
      simp only [Bool.and_eq_true, beq_iff_eq, Bool.not_eq_true'] at q
      obtain ⟨⟨⟨⟨rfl, rfl⟩, hdel⟩, hdt⟩, ht⟩ := q
      obtain ⟨nm, bs, mro, ns, qn, hd, sn, sub, ab, col, del⟩ := cd
      dsimp only at hm hdel hdt
      subst hm hdel hdt
      have hsl : sl = #[k0, k1, k2, k3, some (.builtin "ValueError.__new__"), k5] := by
        obtain ⟨l⟩ := sl
        simp only at hs
        rw [hs]
      subst hsl
      exact ⟨nm, qn, ns, bs, bm, sn, sub, ab, col, dd, k0, k1, k2, k3, k5, ho, ht⟩
    · cases q
  · cases q
def codeB (file : Str) (K : PySem.W.Frag) (cv : Value) : Bool := match cv with
  | .ref c => (match K.lookup c with
    | some oc => (match oc.data with
      | .fields vs => (match (vs[2]? : Option Value) with
        | some (.str fl _) => file == fl
        | _ => false)
      | _ => false)
    | none => false)
  | _ => false
def cellB (K : PySem.W.Frag) (C : Addr) (cl : List (Str × Addr)) : Bool := match cl with
  | [(_, cc)] => (match K.lookup cc with
    | some o => (match o.data with
      | .cell (some (.ref a)) => decide (a = C)
      | _ => false)
    | none => false)
  | _ => false
def supB (file x0 : Str) (K : PySem.W.Frag) (f C : Addr) : Bool := (match K.lookup f with
  | some ob => (match ob.data with
    | .func q => (match (q.params.posonlyargs ++ q.params.args).head? with
      | some ar => decide (ar.arg = x0)
      | none => false) && (codeB file K q.code && cellB K C q.closure)
    | _ => false)
  | none => false) && (eqO (PySem.W.nsIn K cStatics "thirdparty.any") (some none) && (eqO (PySem.W.ks_superIn K C C "__init__") (some (some (.builtin "ValueError.__init__"))) && (decide (PySem.W.subIn K (.ref C) (.type "ValueError") = some true) &&
    (decide (PySem.W.subIn K (.ref C) (.ref C) = some true) && (eqO (PySem.W.findIn K (.ref C) "__init__") (some (some (.ref f))) && decide (PySem.W.typeIn K (.ref f) = some (.type "function")))))))
section
variable {CX : CXT} {P : Program} {w : World} {K : PySem.W.Frag} {mg : Str → Option Value} {base : Heap} {N ps : List Str} {x qual file x0 : Str} {st : Stmt} {f C : Addr} {k : Nat} {sp : Sp} {fd : FuncData}
/-- THE RULE for an __init__ that says super() -/
theorem FunC.okS (F : FunC K x qual st f ["__class__"] fd) (hB : supB file x0 K f C = true) (hfile : ((P.main.file : Str) == file) = true) (htop : (P.main.scope.names.lookup ("super" : Str)).isSome = false) (hglo : mg "super" = none) (S : NScope N ps ["__class__"] (defScope st)) (len : ∀ vs H Q E, sp vs H Q E → vs.length = ps.length)
    (hbody : ∀ (c cc : Addr) (A : Around) (outer : List PySem.Env) (s : Shared) (H : Hp) (vs : List V) (Q : VK) (E : XK), SupC P K mg f c C x0 → Room k (A.deeper (envF ⟨x, qual, defArgs st, defBody st, defScope st, [("__class__", cc)], c⟩ f s.heap.objs.size)) → sp vs H Q E →
      ∃ t, PSsA (ncx CX P w K mg base N ⟨x, qual, defArgs st, defBody st, defScope st, [("__class__", cc)], c⟩ f A outer s H E) (defBody st) (defBody st) t ∧ t { nx := fun _ H' => Q .non H', rt := Q } (startF N vs [some (.ref C)]) H) :
    FnOk P w K mg base CX (k + 1) f fd ps sp := by
  obtain ⟨oc, od, cl, kV, doc, pm, an, cdv, ct, osl, rfl, hcl, lk, hcd⟩ := F.ex
  obtain ⟨b1, hB⟩ := ba hB
  obtain ⟨b2, hB⟩ := ba hB
  obtain ⟨b3, hB⟩ := ba hB
  obtain ⟨b4, hB⟩ := ba hB
  obtain ⟨b5, _⟩ := ba hB
  rw [lk] at b1
  obtain ⟨b6, b1⟩ := ba b1
  obtain ⟨b7, b8⟩ := ba b1
  match cl, hcl, lk, b8 with
  | [(y, cc)], hcl, lk, b8 =>
    obtain rfl : y = "__class__" := by simpa using hcl
    unfold cellB at b8
    dsimp only at b8
    cases q1 : K.lookup cc with
    | none => rw [q1] at b8; cases b8
    | some o2 =>
      rw [q1] at b8
      obtain ⟨z1, z2, z3, z4⟩ := o2
      cases z3 with
      | cell v =>
        match v, b8 with
        | some (.ref a), b8 =>
          obtain rfl : a = C := of_decide_eq_true b8
          unfold codeB at b7
          dsimp only at b7
          match cdv, hcd, lk, b7 with
          | .ref c, hcd, lk, b7 =>
            dsimp only at b7
            refine fn_clo lk hcd S q1 rfl len fun A outer s H vs Q E hr hsp => hbody c cc A outer s H vs Q E ?_ hr hsp
            cases q2 : K.lookup c with
            | none => rw [q2] at b7; cases b7
            | some o3 =>
              rw [q2] at b7
              dsimp only at b7
              split at b7
              · rename_i vs' e3
                split at b7
                · rename_i fl tf e4
                  refine ⟨?_, ⟨_, _, fl, tf, q2, e3, e4, ?_⟩, htop, hglo, eqO_ok b2, eqO_ok b3, of_decide_eq_true b4, of_decide_eq_true b5⟩
                  · dsimp only at b6
                    split at b6
                    · rename_i ar e5
                      exact ⟨_, _, ar, lk, rfl, e5, of_decide_eq_true b6⟩
                    · cases b6
                  · rw [beq_iff_eq] at hfile b7 ⊢
                    rw [hfile, b7]
                · cases b7
              · cases b7
      | _ => cases b8
  | [], hcl, _, _ => simp at hcl
  | _ :: _ :: _, hcl, _, _ => simp at hcl
theorem FunC.binds {fr : List Str} (F : FunC K x qual st f fr fd)
    (h : ∀ (cl : List (Str × Addr)) (kV doc pm : Value) (an : Option Addr) (cdv ct : Value) (us : List Value), us.length = ps.length → bindArgs (PySem.W.fnX x qual (defArgs st) (defBody st) (defScope st) cl .none kV doc pm an cdv ct) ⟨us, []⟩ = pure (ps.zip us)) : Binds K fd ps [] := by
  obtain ⟨oc, od, cl, kV, doc, pm, an, cdv, ct, osl, rfl, _, lk, hcd⟩ := F.ex
  exact .all (h cl kV doc pm an cdv ct)
end
/-- what an error's __init__ promises: its field laid -/
def spFInit (K : PySem.W.Frag) (C fld : Str) : Sp := fun vs H Q _ => ∃ (a : Addr) (i : Int), vs = [.ref a, .int i] ∧ numOk i ∧ H a = some (exo a (He.ga K C) none) ∧ ∀ dx, H dx = none → dx ≠ a → Q .non (upd (upd H dx (exd dx [(fld, .int i)])) a (exo a (He.ga K C) (some dx)))
theorem say_len {z : Str} {i : Int} (h : z.length ≤ 1000) (hi : numOk i) : (z ++ numS i).length ≤ sizeLine := by
  rw [len_tl, tl_append, List.length_append, ← len_tl, ← len_tl]
  have h1 := numS_len hi
  have h2 := line_big
  omega
/-- an own error with a field, as the head tells it -/
structure ErrF (K : PySem.W.Frag) (mg : Str → Option Value) (C fld : Str) : Prop where
  oex : OexC K (He.ga K C)
  fld : PySem.W.findIn K (.ref (He.ga K C)) fld = some none
  xf : XfC K (He.ga K C)
  init : PySem.W.findIn K (.ref (He.ga K C)) "__init__" = some (some (.ref (He.ma K (He.ga K C) "__init__")))
  fn : PySem.W.typeIn K (.ref (He.ma K (He.ga K C) "__init__")) = some (.type "function")
  glo : mg C = some (.ref (He.ga K C))
theorem errF_of {K : PySem.W.Frag} {mg : Str → Option Value} {C fld file x0 : Str} (h1 : oexB K (He.ga K C) = true) (h2 : supB file x0 K (He.ma K (He.ga K C) "__init__") (He.ga K C) = true) (h3 : xfB K (He.ga K C) = true) (h4 : PySem.W.findIn K (.ref (He.ga K C)) fld = some none) (h5 : mg C = some (.ref (He.ga K C))) : ErrF K mg C fld := by
  obtain ⟨_, h⟩ := ba h2
  obtain ⟨_, h⟩ := ba h
  obtain ⟨_, h⟩ := ba h
  obtain ⟨_, h⟩ := ba h
  obtain ⟨_, h⟩ := ba h
  obtain ⟨b1, b2⟩ := ba h
  exact ⟨oexB_ok h1, h4, xfB_ok h3, eqO_ok b1, of_decide_eq_true b2, h5⟩
/-- raise C(i) -/
theorem pmk_fld {X : Cx} {C fld : Str} {e : Expr} {te : TE} {p pos : Pos} {fd : FuncData} {k : Nat} {pn : Str} (T : ErrF X.K X.mg C fld) (F1 : FnOk X.prog X.w X.K X.mg X.base CX0 k (He.ma X.K (He.ga X.K C) "__init__") fd ["self", pn] (spFInit X.K C fld)) (hr : Room (k + 1) X.A) (hb : Binds X.K fd ["self", pn] []) (hg : Gl X C) (he : PE X e te)
    (hdb : (C == ("__debug__" : Str)) = false := by decide) (hst : starEach [e] X.env = (false, eval e X.env) :: starEach [] X.env := by rfl) :
    PMk X (.Call (.Name C p) [e] [] pos) (tMkO (He.ga X.K C) (spFInit X.K C fld) [] (tCons te tNil)) :=
  pmk_oex T.oex T.init T.fn F1 hr hb .nil pass0 hg T.glo (pa_cons he pa_nil hst) hdb hst
end SC
set_option maxRecDepth 100000
set_option maxHeartbeats 2000000
/-! # Part Sy: isinstance of a caught error, with a dict or without -/
namespace SC
open PySem PySem.Spec PyProof.Rows L2 TL
/-- the caught error's dict, where it has one, is known -/
def DictAt (H : Hp) (d : Option Addr) : Prop := d = none ∨ ∃ (dd : Addr) (fs : List (Str × V)), d = some dd ∧ H dd = some (.xd fs)
def rIsEQ (K : PySem.W.Frag) (a : Addr) (cls : Value) (d : Option Addr) : List V → Hp → VK → Prop := fun xs H Q => ∃ (D : Addr) (c : V) (cv : Value) (b : Bool), cls = .ref D ∧ DictAt H d ∧ ExcC K D ∧ xs = [.ref a, c] ∧ (∀ u, RelV c u → u = cv) ∧ PySem.W.kitOne K (.ref D) cv = some b ∧ Q (.bl b) H
theorem call_isEQ {X : Cx} {a : Addr} {oe : Obj} {cls : Value} {d : Option Addr} {pn : List (Addr × Obj)} (hz : Zc cls d oe) (hf : ∃ vs, oe.data = .fields vs) : CallR (X.suite a ((a, oe) :: pn)) (.builtin "isinstance") (rIsEQ X.K a cls d) := by
  intro pins s σ H xs us Q I r h
  obtain ⟨D, c, cv, b, ec, hd, C, ex, hcv, e, q⟩ := h
  subst ec ex
  obtain ⟨uy, r⟩ : ∃ uy, us = [.ref a, uy] ∧ RelV c uy := by
    cases r with
    | cons rx rr =>
      cases rr with
      | cons rt rr =>
        cases rr
        cases rx
        exact ⟨_, rfl, rt⟩
  obtain ⟨rfl, rt⟩ := r
  have ey := hcv _ rt
  subst ey
  have hget := (I.pin (a, oe) (List.mem_append_left _ List.mem_cons_self)).1
  obtain ⟨vs, hv⟩ := hf
  have no : PySem.W.notCls oe = true := by unfold PySem.W.notCls; rw [hv] <;> rfl
  have hcl : (PySem.W.clsIn X.K D).isSome = true := by
    obtain ⟨cd, hc, _⟩ := PySem.W.any_some C.hd
    rw [hc]
    rfl
  have J : ∃ od, PySem.W.InstAt s.heap a oe D od := by
    rcases hd with rfl | ⟨dd, fs, rfl, ea⟩
    · exact ⟨none, hget, hz.1, no, by rw [hz.2]; trivial⟩
    · have hx : ObjOk X.prog X.w H s.heap dd (.xd fs) := I.hok dd _ ea
      obtain ⟨mA, hns, _⟩ := hx
      obtain ⟨od, ho, _⟩ := lookIn_ns hns
      exact ⟨some od, hget, hz.1, no, by rw [hz.2]; exact ho⟩
  obtain ⟨od, J⟩ := J
  exact PySem.W.kia_one (PySem.W.kitx_exc (od := od) hcl C.hg C.hk C.hs C.ha C.hn C.ht C.hm) I.kIn J e (fun z => nomatch z) fun tk => ⟨.bl b, H, I.kept (t' := tk) fun _ _ z => z, rfl, q⟩
theorem DictAt.same {H H' : Hp} {d : Option Addr} (h : DictAt H d) (s : Same H H') : DictAt H' d := by
  rcases h with rfl | ⟨dd, fs, rfl, e⟩
  · exact .inl rfl
  · exact .inr ⟨dd, fs, rfl, s _ _ e⟩
def Er.fld : Er → Str
  | .text => "word"
  | .operation => "place"
  | _ => "index"
/-- e.f, whatever the caught error's class -/
def tXfQ (K : PySem.W.Frag) (a : Addr) (cls : Value) (d : Option Addr) (n : Str) (te : TE) : TE := fun σ H Q => ∃ C : Addr, XfC K C ∧ PySem.W.findIn K (.ref C) n = some none ∧ tXf a cls d C n te σ H Q
theorem pe_xfQ {X : Cx} {a : Addr} {oe : Obj} {cls : Value} {d : Option Addr} {pn : List (Addr × Obj)} {e : Expr} {te : TE} {pos : Pos} {n : Str} (hz : Zc cls d oe) (hf : ∃ vs, oe.data = .fields vs) (he : PE (X.suite a ((a, oe) :: pn)) e te) (hb : attributeBase e n X.env (eval e X.env) = eval e X.env := by rfl) :
    PE (X.suite a ((a, oe) :: pn)) (.Attribute e n pos) (tXfQ X.K a cls d n te) := ⟨fun pins s σ H Q I h => by
  obtain ⟨C, T, hno, h⟩ := h
  exact (pe_xf T hno hz hf he hb).run pins s σ H Q I h⟩
/-- what _law_error_of makes of a call: its error's word and its field, 0 where it has none -/
def TErrQ (K : PySem.W.Frag) (S : List Er) : (XK → Hp → VK → Prop) → Hp → VK → Prop := fun tl H Q =>
  tl (fun cls d H' => ∃ (e : Er) (v : V), e ∈ S ∧ cls = .ref (He.ga K e.cn) ∧ (e.bare = true → d = none ∧ v = .int 0) ∧ (e.bare = false → ∃ dd, d = some dd ∧ H' dd = some (.xd [(e.fld, v)])) ∧
    ∀ (p : Addr) (H'' : Hp), H' p = none → Same H' H'' → H'' p = some (.tup [.str e.word, v]) → Q (.ref p) H'') H (fun _ H' => Q .non H')
structure ErrX (K : PySem.W.Frag) (e : Er) : Prop where
  t : ErrT K e
  xf : e.bare = false → XfC K (He.ga K e.cn) ∧ PySem.W.findIn K (.ref (He.ga K e.cn)) e.fld = some none
theorem er_key (e : Er) : (inV (V.str e.word) [V.str "chain", V.str "row"] = true ∧ e.bare = false ∧ e.fld = "index") ∨ (inV (V.str e.word) [V.str "chain", V.str "row"] = false ∧ V.str e.word = V.str "text" ∧ e.bare = false ∧ e.fld = "word") ∨
    (inV (V.str e.word) [V.str "chain", V.str "row"] = false ∧ ¬ V.str e.word = V.str "text" ∧ V.str e.word = V.str "operation" ∧ e.bare = false ∧ e.fld = "place") ∨ (inV (V.str e.word) [V.str "chain", V.str "row"] = false ∧ ¬ V.str e.word = V.str "text" ∧ ¬ V.str e.word = V.str "operation" ∧ e.bare = true) := by
  cases e <;> decide +kernel
/-- C(i), made to be raised: its dict alone is new -/
theorem mkO_raise {K : PySem.W.Frag} {C fld : Str} {H : Hp} {Q : XK} {i : Int} (hi : numOk i) (k : ∀ (dd : Addr) (H' : Hp), H dd = none → Same H H' → H' dd = some (.xd [(fld, .int i)]) → Q (.ref (He.ga K C)) (some dd) H') :
    ([V.int i] : List V).length ≤ 1000 ∧ ∀ a, H a = none → spFInit K C fld (.ref a :: ([V.int i] ++ [])) (upd H a (exo a (He.ga K C) none))
      (fun v H2 => v = .non ∧ ∃ (d : Addr) (fs : List (Str × V)), H2 a = some (exo a (He.ga K C) (some d)) ∧ H2 d = some (exd d fs) ∧ H d = none ∧ Q (.ref (He.ga K C)) (some d) (upd (del H2 a) d (.xd fs))) (fun _ _ _ => False) := by
  refine ⟨by show 1 ≤ 1000; decide, fun a ha => ⟨a, i, rfl, hi, upd_same, fun dx h1 h2 => ⟨rfl, dx, _, upd_same, by rw [upd_ne h2, upd_same], ?_, k dx _ ?_ ?_ upd_same⟩⟩⟩
  · rw [upd_ne h2] at h1
    exact h1
  · rw [upd_ne h2] at h1
    exact h1
  · intro b o hb
    have n1 : b ≠ a := ne_of_none hb ha
    have n2 : b ≠ dx := fun z => by
      rw [upd_ne h2] at h1
      rw [z, h1] at hb
      cases hb
    rw [upd_ne n2, del_ne n1, upd_ne n1, upd_ne n2, upd_ne n1]
    exact hb
end SC
set_option maxRecDepth 100000
set_option maxHeartbeats 2000000
/-! # Part Lm: errors told by _law_error_of(lambda: ..), over data -/
namespace SC
open PySem PySem.Spec PyProof.Rows L2 TL
section
variable {K : PySem.W.Frag} {M : List Addr} {σ : L2.St} {H H' H1 : Hp} {ρ : List Sl}
theorem CellAt.ext {a : Addr} {r : Rule} (c : CellAt K H a r) (e : LamX.ExtN H H') : CellAt K H' a r := by
  obtain ⟨h1, dx, h2⟩ := c
  exact ⟨h1, dx, e _ _ h2 (fun _ z => by cases z)⟩
theorem ChainAt.ext {a : Addr} {rs : List Rule} (c : ChainAt K H a rs) (e : LamX.ExtN H H') : ChainAt K H' a rs := by
  obtain ⟨dx, t, as, h1, h2, h3, h4⟩ := c
  exact ⟨dx, t, as, e _ _ h1 (fun _ z => by cases z), e _ _ h2 (fun _ z => by cases z), ⟨h3.1, fun i b r e1 e2 => (h3.2 i b r e1 e2).ext e⟩, h4⟩
mutual
theorem Rp.ext (s : LamX.ExtN H H') : ∀ (d : D) {v : V}, Rp K H d v → Rp K H' d v
  | .non, _, h => h
  | .bl _, _, h => h
  | .int _, _, h => h
  | .str _, _, h => h
  | .lst l, _, h => by
    obtain ⟨a, vs, h1, h2, h3⟩ := h
    exact ⟨a, vs, h1, s _ _ h2 (fun _ z => by cases z), RpL.ext s l h3⟩
  | .tup l, _, h => by
    obtain ⟨a, vs, h1, h2, h3⟩ := h
    exact ⟨a, vs, h1, s _ _ h2 (fun _ z => by cases z), RpL.ext s l h3⟩
  | .chain rs, _, h => by
    obtain ⟨a, h1, h2⟩ := h
    exact ⟨a, h1, h2.ext s⟩
  | .cell r, _, h => by
    obtain ⟨a, h1, h2⟩ := h
    exact ⟨a, h1, h2.ext s⟩
theorem RpL.ext (s : LamX.ExtN H H') : ∀ (l : List D) {vs : List V}, RpL K H l vs → RpL K H' l vs
  | [], _, h => h
  | d :: ds, _, h => by
    obtain ⟨v, vs', h1, h2, h3⟩ := h
    exact ⟨v, vs', h1, Rp.ext s d h2, RpL.ext s ds h3⟩
end
theorem wo_ext (e : LamX.ExtN H H') : LamX.ExtN (wo M H) (wo M H') := fun b o h n => by
  obtain ⟨e1, e2⟩ := wo_some h
  rw [wo_at e1]
  exact e _ _ e2 n
theorem SlOk.ext {s : Sl} {o : Option V} (h : SlOk K M H s o) (e : LamX.ExtN H H') : SlOk K M H' s o := by
  cases s with
  | any => trivial
  | dat d =>
    obtain ⟨v, h1, h2⟩ := h
    exact ⟨v, h1, Rp.ext (wo_ext e) d h2⟩
  | val v => exact h
theorem Env.ext (E : Env K M σ H ρ) (e : LamX.ExtN H H') : Env K M σ H' ρ := ⟨E.1, fun i s o h1 h2 => (E.2 i s o h1 h2).ext e⟩
theorem ExtN.same (s : Same H H') : LamX.ExtN H H' := fun b o h _ => s b o h
theorem Src.ext {d : Addr} (h : Src d H) (e : LamX.ExtN H H') : Src d H' := by
  obtain ⟨ds, h1, h2⟩ := h
  exact ⟨ds, h1, e _ _ h2 (fun _ z => by cases z)⟩
theorem Src.gd {d : Addr} (h : Src d H) : Gd K [d] H := by
  obtain ⟨ds, h1, h2⟩ := h
  exact Gd.nil.lst h2
theorem Gd.ext (g : Gd K M H) (e : LamX.ExtN H H') (hn : ∀ m ∈ M, ∀ ps, H m ≠ some (.tbl ps)) : Gd K M H' := fun m hm => by
  obtain ⟨o, h1, h2⟩ := g m hm
  exact ⟨o, e _ _ h1 (fun ps z => hn m hm ps (by rw [h1, z])), h2⟩
theorem Src.fr1 {T : List (Addr × Str)} {d : Addr} (s : Src d H) (t : LamX.Tabs T H) (f : Fr1 d H H') : LamX.Tabs T H' := by
  obtain ⟨ds, h1, h2⟩ := s
  exact tabs_fr t h2 f
theorem Env.nil (E : Env K M σ H ρ) : Env K [] σ H ρ := E.le (wo_sub fun x hx => by cases hx)
/-- the error e, with the field i where it has one, is in the air -/
def Rs (K : PySem.W.Frag) (e : Er) (i : Int) (H : Hp) (E : XK) : Prop :=
  (e.bare = true → ∀ H', Same H H' → E (.ref (He.ga K e.cn)) none H') ∧ (e.bare = false → ∀ (dd : Addr) (H' : Hp), H dd = none → Same H H' → H' dd = some (.xd [(e.fld, .int i)]) → E (.ref (He.ga K e.cn)) (some dd) H')
theorem Rs.same {e : Er} {i : Int} {E : XK} (h : Rs K e i H E) (s : Same H H') : Rs K e i H' E :=
  ⟨fun b H2 s2 => h.1 b H2 (s.trans s2), fun b dd H2 h1 s2 h3 => h.2 b dd H2 (s.free h1) (s.trans s2) h3⟩
def Raises (K : PySem.W.Frag) (t : XK → TE) (σ : L2.St) (H : Hp) (e : Er) (i : Int) : Prop := ∀ (E : XK) (Q : VK), Rs K e i H E → t E σ H Q
theorem er_ok {e : Er} {i : Int} : Ok 1 (.tup [.str e.word, .int i]) := .tup fun x hx => by
  rcases List.mem_cons.mp hx with rfl | hx
  · exact .str (by cases e <;> decide +kernel)
  · rw [List.mem_singleton.mp hx]
    exact .int
/-- if _law_error_of(lambda: ..) != (word, i): return False -/
theorem use_err {T : List (Addr × Str)} {t : XK → TE} {tb : TE} {S : List Er} {e : Er} {i : Int} {w : TS} {D : Ends} (hE : e ∈ S) (he0 : e.bare = true → i = 0) (hT : LamX.Tabs T H)
    (hR : ∀ H1, LamX.ExtN H H1 → LamX.Tabs T H1 → Raises K t σ H1 e i) (hb : ∀ H1, LamX.ExtN H H1 → Rd K [] tb σ H1 (.tup [.str e.word, .int i])) (k : ∀ H2, LamX.ExtN H H2 → LamX.Tabs T H2 → D.nx σ H2) :
    tIfS (tTest (tOp (rNeD K) (LamX.tLam T (TErrQ K S) t) tb)) w tNext D σ H := by
  have fin : ∀ (H3 : Hp) (p : Addr), LamX.ExtN H H3 → LamX.Tabs T H3 → H3 p = some (.tup [.str e.word, .int i]) → tb σ H3 fun y H4 => rNeD K (.ref p) y H4 fun v H5 => ∃ b, v = .bl b ∧ (if b = true then w D σ H5 else tNext D σ H5) := fun H3 p e3 T3 h3 =>
    hb H3 e3 H3 (Same.refl _) Gd.nil _ fun y H4 s4 g4 ry => by
      have rx : Rp K H4 (.tup [.str e.word, .int i]) (.ref p) := ⟨p, _, rfl, s4 _ _ h3, _, _, rfl, rfl, _, _, rfl, rfl, rfl⟩
      refine ⟨toPy (.tup [.str e.word, .int i]), toPy (.tup [.str e.word, .int i]), Ok.dp (fun _ => rfl) _ er_ok rx, Ok.dp (fun _ => rfl) _ er_ok ry.here, er_ok.shaped (by decide), er_ok.shaped (by decide), ?_⟩
      have z : PyData.eqv (toPy (.tup [.str e.word, .int i])) (toPy (.tup [.str e.word, .int i])) = true := eqD_self (x := .tup [.str e.word, .int i]) er_ok (by decide)
      rw [z]
      exact ⟨false, rfl, iteF (k H4 (e3.trans (ExtN.same s4)) (T3.ext s4))⟩
  refine ⟨hT, fun H1 e1 T1 => ?_⟩
  refine hR H1 e1 T1 _ _ ⟨fun hb0 H2 s2 => ?_, fun hb1 dd H2 hdd s2 hd2 => ?_⟩
  · obtain rfl := he0 hb0
    exact ⟨e, .int 0, hE, rfl, fun _ => ⟨rfl, rfl⟩, (fun z => by rw [hb0] at z; cases z), fun p H3 hp s3 h3 => fin H3 p (e1.trans (ExtN.same (s2.trans s3))) (T1.ext (s2.trans s3)) h3⟩
  · exact ⟨e, .int i, hE, rfl, (fun z => by rw [hb1] at z; cases z), fun _ => ⟨dd, rfl, hd2⟩, fun p H3 hp s3 h3 => fin H3 p (e1.trans (ExtN.same (s2.trans s3))) (T1.ext (s2.trans s3)) h3⟩
/-- values that are no numbers -/
def D.odd : D → Prop
  | .int i => ¬ numOk i
  | .chain _ => False
  | .cell _ => False
  | _ => True
theorem odd_val {d : D} {v : V} (h : d.odd) (r : Rp K H d v) : (∃ m, v = .int m ∧ ¬ numOk m) ∨ ∃ T : String, T ∈ oddT ∧ ∀ H', Same H H' → TyX K H' v (.type T) := by
  cases d with
  | non => cases r; exact .inr ⟨"NoneType", by decide, fun _ _ => .base .non⟩
  | bl b => cases r; exact .inr ⟨"bool", by decide, fun _ _ => .base (.bl _)⟩
  | int i => exact .inl ⟨i, r, h⟩
  | str s => cases r; exact .inr ⟨"str", by decide, fun _ _ => .base (.str _)⟩
  | lst l =>
    obtain ⟨a, vs, rfl, e, _⟩ := r
    exact .inr ⟨"list", by decide, fun _ s => .base (.lst (s _ _ e))⟩
  | tup l =>
    obtain ⟨a, vs, rfl, e, _⟩ := r
    exact .inr ⟨"tuple", by decide, fun _ s => .base (.tup (s _ _ e))⟩
  | chain rs => exact h.elim
  | cell r => exact h.elim
/-- values that are no lists -/
def D.noList : D → Prop
  | .lst _ => False
  | .chain _ => False
  | .cell _ => False
  | _ => True
theorem noList_val {d : D} {v : V} (h : d.noList) (r : Rp K H d v) : ∃ T : String, TyX K H v (.type T) ∧ PySem.W.kitOne K (.type T) (.type "list") = some false := by
  cases d with
  | non => cases r; exact ⟨"NoneType", .base .non, kit_ty (by decide +kernel)⟩
  | bl b => cases r; exact ⟨"bool", .base (.bl _), kit_ty (by decide +kernel)⟩
  | int i => cases r; exact ⟨"int", .base (.int _), kit_ty (by decide +kernel)⟩
  | str s => cases r; exact ⟨"str", .base (.str _), kit_ty (by decide +kernel)⟩
  | lst l => exact h.elim
  | tup l =>
    obtain ⟨a, vs, rfl, e, _⟩ := r
    exact ⟨"tuple", .base (.tup e), kit_ty (by decide +kernel)⟩
  | chain rs => exact h.elim
  | cell r => exact h.elim
/-- xs[i] of a list that is there -/
theorem ix_pick {l : List D} {i : Nat} {x : V} {d : D} {Q : VK} (r : Rp K (wo M H) (.lst l) x) (hi : l[i]? = some d) (k : ∀ v, Rp K (wo M H) d v → Q v H) : rIxL K x (.int i) H Q := by
  obtain ⟨a, vs, rfl, e1, r1⟩ := r
  obtain ⟨v, ev, rv⟩ := r1.get hi
  exact ⟨a, vs, i, v, rfl, rfl, SqL.of (wo_le _ _ e1), atI_nat ev, k v rv⟩
theorem rd_ret {D : Ends} {t : TE} {d : SC.D} (h : Rd K [] t σ H d) (k : ∀ v H2, Same H H2 → Rp K H2 d v → D.rt v H2) : tRet t D σ H := h H (Same.refl _) Gd.nil _ fun v H2 s _ r => k v H2 s r.here
end
/-! ### a law's state: slots, what may change, and what else stands -/
structure Dw (J : Hp → Prop) (dd : Addr) (M : List Addr) : Prop where
  same : ∀ {H H' : Hp}, J H → Same H H' → J H'
  src : ∀ {H : Hp}, J H → Src dd H
  fr : ∀ {H H' : Hp}, J H → Fr1 dd H H' → Src dd H' → J H'
  mem : dd ∈ M
def JS (dd : Addr) (T : List (Addr × Str)) : Hp → Prop := fun H => Src dd H ∧ LamX.Tabs T H
theorem dw_js {dd : Addr} {T : List (Addr × Str)} : Dw (JS dd T) dd [dd] :=
  ⟨fun j s => ⟨j.1.same s, j.2.ext s⟩, fun j => j.1, fun j f s => ⟨s, j.1.fr1 j.2 f⟩, List.mem_cons_self⟩
structure Sn (K : PySem.W.Frag) (M : List Addr) (J : Hp → Prop) (σ : L2.St) (H : Hp) (ρ : List Sl) : Prop where
  e : Env K M σ H ρ
  g : Gd K M H
  j : J H
section
variable {K : PySem.W.Frag} {M : List Addr} {J : Hp → Prop} {dd : Addr} {σ : L2.St} {H H' H1 : Hp} {ρ : List Sl}
theorem Sn.same (S : Sn K M J σ H ρ) (w : Dw J dd M) (s : Same H H') : Sn K M J σ H' ρ := ⟨S.e.same s, S.g.same s, w.same S.j s⟩
theorem Sn.rd (S : Sn K M J σ H ρ) {i : Nat} {d : D} (h : ρ[i]? = some (.dat d)) : Rd K M (tVar i) σ H d := S.e.rd h
theorem Sn.fgt {ρ' : List Sl} (S : Sn K M J σ H ρ) (f : Fgt ρ ρ') : Sn K M J σ H ρ' := ⟨S.e.fgt f, S.g, S.j⟩
theorem sn_put {i : Nat} {v : V} {d : D} {N : L2.St → Hp → Prop} (S : Sn K M J σ H ρ) (r : Rp K (wo M H) d v) (k : ∀ σ', Sn K M J σ' H (ρ.set i (.dat d)) → N σ' H) : gName i v σ H N := k _ ⟨S.e.set r, S.g, S.j⟩
theorem sn_putv {i : Nat} {v : V} {N : L2.St → Hp → Prop} (S : Sn K M J σ H ρ) (k : ∀ σ', Sn K M J σ' H (ρ.set i (.val v)) → N σ' H) : gName i v σ H N := k _ ⟨S.e.setv, S.g, S.j⟩
/-- x = e -/
theorem sn_set {X : Cx} {st : Stmt} {b : List Stmt} {t : TE} {i : Nat} {d : D} {D : Ends} (hps : PS X st (tAsg t (gName i))) (S : Sn K M J σ H ρ) (w : Dw J dd M) (h : Rd K M t σ H d) (k : ∀ σ' H', Same H H' → Sn K M J σ' H' (ρ.set i (.dat d)) → wpS X b D σ' H') : wpS X (st :: b) D σ H :=
  wp_cons hps (use_set h S.g fun v H2 s g r => k _ H2 s ⟨(S.e.same s).set r, g, w.same S.j s⟩)
theorem sn_tup2 {X : Cx} {st : Stmt} {b : List Stmt} {t : TE} {i j : Nat} {x y : D} {D : Ends} (hps : PS X st (tAsg t (gTup K 2 (gCons (gName i) (gCons (gName j) gNil))))) (S : Sn K M J σ H ρ) (w : Dw J dd M) (h : Rd K M t σ H (.tup [x, y])) (k : ∀ σ' H', Same H H' → Sn K M J σ' H' ((ρ.set i (.dat x)).set j (.dat y)) → wpS X b D σ' H') : wpS X (st :: b) D σ H :=
  wp_cons hps (use_tup2 h S.g fun v u H2 s g r1 r2 => k _ H2 s ⟨((S.e.same s).set r1).set r2, g, w.same S.j s⟩)
theorem sn_tup3 {X : Cx} {st : Stmt} {b : List Stmt} {t : TE} {i j l : Nat} {x y z : D} {D : Ends} (hps : PS X st (tAsg t (gTup K 3 (gCons (gName i) (gCons (gName j) (gCons (gName l) gNil)))))) (S : Sn K M J σ H ρ) (w : Dw J dd M) (h : Rd K M t σ H (.tup [x, y, z])) (k : ∀ σ' H', Same H H' → Sn K M J σ' H' (((ρ.set i (.dat x)).set j (.dat y)).set l (.dat z)) → wpS X b D σ' H') : wpS X (st :: b) D σ H :=
  wp_cons hps (use_tup3 h S.g fun v u q H2 s g r1 r2 r3 => k _ H2 s ⟨(((S.e.same s).set r1).set r2).set r3, g, w.same S.j s⟩)
theorem sn_par {X : Cx} {st : Stmt} {b : List Stmt} {u : TA} {i j : Nat} {x y : D} {D : Ends} (hps : PS X st (tPar i j u)) (S : Sn K M J σ H ρ) (w : Dw J dd M) (h : RdA K M u σ H [x, y]) (k : ∀ σ' H', Same H H' → Sn K M J σ' H' ((ρ.set i (.dat x)).set j (.dat y)) → wpS X b D σ' H') : wpS X (st :: b) D σ H :=
  wp_cons hps (use_par h S.g fun v u H2 s g r1 r2 => k _ H2 s ⟨((S.e.same s).set r1).set r2, g, w.same S.j s⟩)
/-- if test: return False, where the test is false -/
theorem sn_if0 {X : Cx} {st : Stmt} {b : List Stmt} {tt : TT} {u : TS} {D : Ends} (hps : PS X st (tIfS tt u tNext)) (S : Sn K M J σ H ρ) (w : Dw J dd M) (h : RdT K M tt σ H false) (k : ∀ H', Same H H' → Sn K M J σ H' ρ → wpS X b D σ H') : wpS X (st :: b) D σ H :=
  wp_cons hps (use_if0 h S.g fun H2 s g => k H2 s ⟨S.e.same s, g, w.same S.j s⟩)
/-- if _law_error_of(lambda: ..) != (word, i): return False -/
theorem sn_err {X : Cx} {st : Stmt} {b : List Stmt} {T : List (Addr × Str)} {t : XK → TE} {tb : TE} {Se : List Er} {e : Er} {i : Int} {u : TS} {D : Ends} (hps : PS X st (tIfS (tTest (tOp (rNeD K) (LamX.tLam T (TErrQ K Se) t) tb)) u tNext)) (S : Sn K M J σ H ρ) (hE : e ∈ Se) (he0 : e.bare = true → i = 0) (hT : LamX.Tabs T H)
    (hS : ∀ H1, LamX.ExtN H H1 → LamX.Tabs T H1 → Gd K M H1 ∧ J H1)
    (hR : ∀ H1, Sn K M J σ H1 ρ → Raises K t σ H1 e i) (hb : ∀ H1, Env K [] σ H1 ρ → Rd K [] tb σ H1 (.tup [.str e.word, .int i])) (k : ∀ H2, Sn K M J σ H2 ρ → wpS X b D σ H2) : wpS X (st :: b) D σ H :=
  wp_cons hps (use_err hE he0 hT (fun H1 e1 T1 => hR H1 ⟨S.e.ext e1, (hS H1 e1 T1).1, (hS H1 e1 T1).2⟩) (fun H1 e1 => hb H1 (S.e.ext e1).nil) fun H2 e2 T2 => k H2 ⟨S.e.ext e2, (hS H2 e2 T2).1, (hS H2 e2 T2).2⟩)
/-! draws -/
theorem Gd.fr1 {xs : List V} (g : Gd K M H) (f : Fr1 dd H H') (h : H' dd = some (.lst xs)) : Gd K M H' := fun m hm => by
  by_cases e : m = dd
  · rw [e]
    exact ⟨_, h, trivial⟩
  · obtain ⟨o, h1, h2⟩ := g m hm
    exact ⟨o, f _ _ h1 e, h2⟩
theorem draw {lim : Int} {Q : VK} (w : Dw J dd M) (g : Gd K M H) (j : J H) (h0 : 0 < lim) (h1 : lim < 18446744073709551616) (k : ∀ (i : Nat) (H' : Hp), (i : Int) < lim → Fm M H H' → Gd K M H' → J H' → Q (.int i) H') : spBelow [.ref dd, .int lim] H Q E0 := by
  obtain ⟨ds, hD, hd⟩ := w.src j
  refine ⟨dd, lim, ds, rfl, h0, h1, hd, hD, fun i ds' a b c => ?_⟩
  obtain ⟨n, rfl⟩ := Int.eq_ofNat_of_zero_le a
  exact k n _ b (Fm.at w.mem) (g.at trivial) (w.fr j Fr1.at ⟨ds', c, upd_same⟩)
theorem dr_labels {i : Nat} {m : Int} {Q : VK} (w : Dw J dd M) (S : Sn K M J σ H ρ) (hi : ρ[i]? = some (.val (.ref dd))) (h0 : 0 < m) (h8 : m ≤ 8)
    (k : ∀ (rs : List Rule) (v : V) (H' : Hp), 1 ≤ rs.length → (rs.length : Int) ≤ m → (∀ r ∈ rs, r.ok) → Fm M H H' → Sn K M J σ H' ρ → Rp K (wo M H') (.lst (lbD rs)) v → Q v H') : tCall spLabels [] E0 (tCons (tVar i) (tCons (tC (.int m)) tNil)) σ H Q := by
  obtain ⟨ds, hD, hd⟩ := w.src S.j
  refine ⟨_, S.e.val hi, dd, m, ds, rfl, h0, h8, hd, hD, fun p H1 rs ds' hp f hD' hd' el l1 lm ok => ?_⟩
  exact k rs _ H1 l1 lm ok (Fm.of1 w.mem f) ⟨S.e.fm (Fm.of1 w.mem f), S.g.fr1 f hd', w.fr S.j f ⟨ds', hD', hd'⟩⟩ (rp_new (S.g.out hp) el (rp_lbs.mpr rfl))
theorem dr_row {i : Nat} {m : Int} {Q : VK} {tl : TE} (w : Dw J dd M) (S : Sn K M J σ H ρ) (hi : ρ[i]? = some (.val (.ref dd))) (h0 : 0 ≤ m) (h8 : m ≤ 10000) (hl : ∀ Q : VK, (∀ H1, Fm M H H1 → Sn K M J σ H1 ρ → Q (.int m) H1) → tl σ H Q)
    (k : ∀ (ns : List Int) (v : V) (H' : Hp), (ns.length : Int) ≤ m → (∀ z ∈ ns, numOk z) → Fm M H H' → Sn K M J σ H' ρ → Rp K (wo M H') (.lst (ns.map D.int)) v → Q v H') : tCall spRow [] E0 (tCons (tVar i) (tCons tl tNil)) σ H Q := by
  refine ⟨_, S.e.val hi, hl _ fun H1 f1 S1 => ?_⟩
  obtain ⟨ds, hD, hd⟩ := w.src S1.j
  refine ⟨dd, m, ds, rfl, h0, h8, hd, hD, fun p H2 ns ds' hp f hD' hd' el lm ok => ?_⟩
  exact k ns _ H2 lm ok (f1.trans (Fm.of1 w.mem f)) ⟨S1.e.fm (Fm.of1 w.mem f), S1.g.fr1 f hd', w.fr S1.j f ⟨ds', hD', hd'⟩⟩ (rp_new (S1.g.out hp) el (rp_ints.mpr rfl))
theorem dr_below {i : Nat} {tl : TE} {lim : Int} {Q : VK} (w : Dw J dd M) (S : Sn K M J σ H ρ) (hi : ρ[i]? = some (.val (.ref dd))) (hl : Rd K M tl σ H (.int lim)) (h0 : 0 < lim) (h1 : lim < 18446744073709551616)
    (k : ∀ (n : Nat) (H' : Hp), (n : Int) < lim → Fm M H H' → Sn K M J σ H' ρ → Q (.int n) H') : tCall spBelow [] E0 (tCons (tVar i) (tCons tl tNil)) σ H Q :=
  ⟨_, S.e.val hi, hl H (Same.refl _) S.g _ fun v H2 s2 g2 r2 => by
    cases r2
    exact draw w g2 (w.same S.j s2) h0 h1 fun n H3 hn f g j => k n H3 hn ((Fm.of s2).trans f) ⟨(S.e.same s2).fm f, g, j⟩⟩
theorem dr_pick {i : Nat} {tl : TE} {l : List D} {lim : Int} {Q : VK} (w : Dw J dd M) (S : Sn K M J σ H ρ) (hi : ρ[i]? = some (.val (.ref dd))) (hl : Rd K M tl σ H (.lst l)) (h0 : (l.length : Int) = lim) (h1 : 0 < lim) (h2 : lim < 18446744073709551616)
    (k : ∀ (d : D) (v : V) (H' : Hp), d ∈ l → Fm M H H' → Sn K M J σ H' ρ → Rp K (wo M H') d v → Q v H') : tOp (rIxL K) tl (tCall spBelow [] E0 (tCons (tVar i) (tCons (tC (.int lim)) tNil))) σ H Q :=
  hl H (Same.refl _) S.g _ fun x H2 s2 g2 r2 => dr_below w ⟨S.e.same s2, g2, w.same S.j s2⟩ hi rd_int h1 h2 fun n H3 hn f3 S3 => by
    have hn' : n < l.length := by omega
    exact ix_pick (r2.fm f3) (List.getElem?_eq_getElem hn') fun v rv => k _ v H3 (List.getElem_mem hn') ((Fm.of s2).trans f3) S3 rv
end
end SC
set_option maxRecDepth 100000
set_option maxHeartbeats 2000000
/-! # Part Dr: draws in expressions and comprehensions; joins -/
namespace SC
open PySem PySem.Spec PyProof.Rows L2 TL
structure DwA (J : Hp → Prop) (dd : Addr) (M : List Addr) : Prop extends Dw J dd M where
  app : ∀ {H : Hp} {D0 : Addr} {xs ys : List V}, J H → H D0 = some (.lst xs) → D0 ∉ M → J (upd H D0 (.lst ys))
theorem dwa_js {dd : Addr} {T : List (Addr × Str)} : DwA (JS dd T) dd [dd] :=
  ⟨dw_js, fun {H D0 xs ys} j h n => by
    have nd : dd ≠ D0 := fun z => n (by rw [← z]; exact List.mem_cons_self)
    obtain ⟨⟨ds, h1, h2⟩, t⟩ := j
    exact ⟨⟨ds, h1, by rw [upd_ne nd]; exact h2⟩, tabs_fr t h Fr1.at⟩⟩
/-- a value that is there -/
def tVal (v : V) : TE := fun _ H Q => Q v H
abbrev rJn (K : PySem.W.Frag) : V → List V → Hp → VK → Prop := fun x xs H Q => ∃ a p, ∃ ys : List Str, x = .str a ∧ xs = [.ref p] ∧ (SqL K H p (ys.map V.str) ∨ SqT K H p (ys.map V.str)) ∧ (ys.map (·.length)).sum + ys.length * a.length ≤ 16777216 ∧ Q (.str (Txt.join a ys)) H
section
variable {K : PySem.W.Frag} {M : List Addr} {J : Hp → Prop} {dd : Addr} {σ : L2.St} {H H' H1 : Hp} {ρ : List Sl}
theorem rd_val {v : V} {d : D} (r : Rp K (wo M H) d v) : Rd K M (tVal v) σ H d := fun H1 s1 g Q k => k v H1 (Same.refl _) g (Rp.same (swo s1) d r)
theorem Dw.more (w : Dw J dd M) (D0 : Addr) : Dw J dd (D0 :: M) := ⟨w.same, w.src, w.fr, List.mem_cons_of_mem _ w.mem⟩
theorem Sn.fr1 (S : Sn K M J σ H ρ) (w : Dw J dd M) (f : Fr1 dd H H') (g : Gd K M H') (j : J H') : Sn K M J σ H' ρ := ⟨S.e.fm (Fm.of1 w.mem f), g, j⟩
theorem drawF {lim : Int} {Q : VK} (w : Dw J dd M) (g : Gd K M H) (j : J H) (h0 : 0 < lim) (h1 : lim < 18446744073709551616) (k : ∀ (i : Nat) (H' : Hp), (i : Int) < lim → Fr1 dd H H' → Gd K M H' → J H' → Q (.int i) H') : spBelow [.ref dd, .int lim] H Q E0 := by
  obtain ⟨ds, hD, hd⟩ := w.src j
  refine ⟨dd, lim, ds, rfl, h0, h1, hd, hD, fun i ds' a b c => ?_⟩
  obtain ⟨n, rfl⟩ := Int.eq_ofNat_of_zero_le a
  exact k n _ b Fr1.at (g.at trivial) (w.fr j Fr1.at ⟨ds', c, upd_same⟩)
theorem dr_belowF {i : Nat} {tl : TE} {lim : Int} {Q : VK} (w : Dw J dd M) (S : Sn K M J σ H ρ) (hi : ρ[i]? = some (.val (.ref dd))) (hl : Rd K M tl σ H (.int lim)) (h0 : 0 < lim) (h1 : lim < 18446744073709551616)
    (k : ∀ (n : Nat) (H' : Hp), (n : Int) < lim → Fr1 dd H H' → Sn K M J σ H' ρ → Q (.int n) H') : tCall spBelow [] E0 (tCons (tVar i) (tCons tl tNil)) σ H Q :=
  ⟨_, S.e.val hi, hl H (Same.refl _) S.g _ fun v H2 s2 g2 r2 => by
    cases r2
    exact drawF w g2 (w.same S.j s2) h0 h1 fun n H3 hn f g j => k n H3 hn ((Fr1.of s2).trans f) ((S.same w s2).fr1 w f g j)⟩
theorem dr_pickF {i : Nat} {tl : TE} {l : List D} {lim : Int} {Q : VK} (w : Dw J dd M) (S : Sn K M J σ H ρ) (hi : ρ[i]? = some (.val (.ref dd))) (hl : Rd K M tl σ H (.lst l)) (h0 : (l.length : Int) = lim) (h1 : 0 < lim) (h2 : lim < 18446744073709551616)
    (k : ∀ (d : D) (v : V) (H' : Hp), d ∈ l → Fr1 dd H H' → Sn K M J σ H' ρ → Rp K (wo M H') d v → Q v H') : tOp (rIxL K) tl (tCall spBelow [] E0 (tCons (tVar i) (tCons (tC (.int lim)) tNil))) σ H Q :=
  hl H (Same.refl _) S.g _ fun x H2 s2 g2 r2 => dr_belowF w ⟨S.e.same s2, g2, w.same S.j s2⟩ hi rd_int h1 h2 fun n H3 hn f3 S3 => by
    have hn' : n < l.length := by omega
    exact ix_pick (r2.fm (Fm.of1 w.mem f3)) (List.getElem?_eq_getElem hn') fun v rv => k _ v H3 (List.getElem_mem hn') ((Fr1.of s2).trans f3) S3 rv
/-- [draw for k in range(n)] -/
theorem dr_listN {α : Type} {i : Nat} {Pn : Nat → Prop} {ta : TA} {te : TE} {Q : VK} (P : α → Prop) (f : α → D) (w : DwA J dd M) (S : Sn K M J σ H ρ) (hn : ∀ n, Pn n → n < sizeLine)
    (ha : ∀ Q' : List V → Hp → Prop, (∀ n H1, Pn n → Fr1 dd H H1 → Sn K M J σ H1 ρ → Q' [.int (n : Nat)] H1) → ta σ H Q')
    (turn : ∀ (n : Nat), Pn n → ∀ (D0 : Addr) (σ' : L2.St) (H' : Hp) (m : Nat), m < n → Sn K (D0 :: M) J σ' H' ((ρ.set i .any).set i (.dat (.int m))) → ∀ Q' : VK, (∀ (x : α) (v : V) (H'' : Hp), P x → Fr1 dd H' H'' → Gd K (D0 :: M) H'' → J H'' → Rp K (wo (D0 :: M) H'') (f x) v → Q' v H'') → te σ' H' Q')
    (k : ∀ (n : Nat), Pn n → ∀ (xs : List α) (v : V) (H' : Hp), xs.length = n → (∀ x ∈ xs, P x) → Fr1 dd H H' → Sn K M J σ H' ρ → Rp K (wo M H') (.lst (xs.map f)) v → Q v H') : tLc (iRng1 ta) (gName i) tYes te [i] σ H Q := by
  refine ha _ fun n H1 hPn f1 S1 => ?_
  have hn := hn n hPn
  have turn := turn n hPn
  have k := k n hPn
  have hs : sizeLine < 2 ^ 62 := by decide
  refine ⟨n, rfl, by omega, by omega, fun D0 hD0 => ?_⟩
  have en : ((n : Int)).toNat = n := Int.toNat_natCast n
  rw [en]
  have nD : D0 ∉ M := S1.g.out hD0
  have ndd : dd ≠ D0 := fun e => nD (e ▸ w.mem)
  refine lc_range (lo := 0) (n := n) (fun m H3 => ∃ (xs : List α) (acc : List V), xs.length = m ∧ (∀ x ∈ xs, P x) ∧ Fr1 dd H1 H3 ∧ Gd K (D0 :: M) H3 ∧ J H3 ∧ H3 D0 = some (.lst acc) ∧ RpL K (wo (D0 :: M) H3) (xs.map f) acc) ?_ ?_ ?_
  · exact ⟨[], [], rfl, (fun x hx => by cases hx), Fr1.of (same_new hD0), (S1.g.same (same_new hD0)).lst upd_same, w.same S1.j (same_new hD0), upd_same, rfl⟩
  · rintro m H3 hm ⟨xs, acc, hl, hp, f3, g3, j3, hD, ra⟩
    rw [Int.zero_add]
    refine ⟨wipe_one, ?_⟩
    simp only [tYes, if_true]
    have le : Same (wo M H1) (wo (D0 :: M) H3) := fun b o e => by
      obtain ⟨e1, e2⟩ := wo_some e
      rw [wo_at (fun z => by
        rcases List.mem_cons.mp z with z | z
        · rw [z, hD0] at e2
          cases e2
        · exact e1 z)]
      exact f3 _ _ e2 (fun z => e1 (z ▸ w.mem))
    have S3 : Sn K (D0 :: M) J ((L2.wipe σ [i]).set i (some (.int (m : Int)))) H3 ((ρ.set i .any).set i (.dat (.int m))) := ⟨((S1.e.le le).wipe (i := i)).set (i := i) (d := .int m) (v := .int m) rfl, g3, j3⟩
    refine turn D0 _ H3 m hm S3 _ fun x v H4 px r4 g4 j4 rv => ?_
    have hD4 : H4 D0 = some (.lst acc) := r4 _ _ hD (Ne.symm ndd)
    have f4 : Fm (D0 :: M) H3 H4 := Fm.of1 (List.mem_cons_of_mem _ w.mem) r4
    have ra4 : RpL K (wo (D0 :: M) H4) (xs.map f) acc := RpL.same f4 _ ra
    refine ⟨acc, hD4, ?_, xs ++ [x], acc ++ [v], by rw [List.length_append, hl]; rfl, ?_, ?_, g4.at trivial, w.app j4 hD4 nD, upd_same, ?_⟩
    · rw [ra4.len, List.length_map, hl]
      omega
    · intro y hy
      rcases List.mem_append.mp hy with hy | hy
      · exact hp y hy
      · rw [List.mem_singleton.mp hy]
        exact px
    · intro b o hb nb
      have nb0 : b ≠ D0 := fun z => by
        rw [z, hD0] at hb
        cases hb
      rw [upd_ne nb0]
      exact r4 _ _ (f3 _ _ hb nb) nb
    · rw [wo_upd List.mem_cons_self, List.map_append]
      exact ra4.snoc rv
  · rintro H3 ⟨xs, acc, hl, hp, f3, g3, j3, hD, ra⟩
    exact k xs _ H3 hl hp (f1.trans f3) (S1.fr1 w.toDw f3 g3.tl j3) (lc_done nD hD ra)
/-- .. where n is known -/
theorem dr_list {α : Type} {i n : Nat} {ta : TA} {te : TE} {Q : VK} (P : α → Prop) (f : α → D) (w : DwA J dd M) (S : Sn K M J σ H ρ) (hn : n < sizeLine)
    (ha : ∀ Q' : List V → Hp → Prop, (∀ H1, Fr1 dd H H1 → Sn K M J σ H1 ρ → Q' [.int n] H1) → ta σ H Q')
    (turn : ∀ (D0 : Addr) (σ' : L2.St) (H' : Hp) (m : Nat), m < n → Sn K (D0 :: M) J σ' H' ((ρ.set i .any).set i (.dat (.int m))) → ∀ Q' : VK, (∀ (x : α) (v : V) (H'' : Hp), P x → Fr1 dd H' H'' → Gd K (D0 :: M) H'' → J H'' → Rp K (wo (D0 :: M) H'') (f x) v → Q' v H'') → te σ' H' Q')
    (k : ∀ (xs : List α) (v : V) (H' : Hp), xs.length = n → (∀ x ∈ xs, P x) → Fr1 dd H H' → Sn K M J σ H' ρ → Rp K (wo M H') (.lst (xs.map f)) v → Q v H') : tLc (iRng1 ta) (gName i) tYes te [i] σ H Q :=
  dr_listN (Pn := fun m => m = n) P f w S (fun m e => by rw [e]; exact hn) (fun Q' k' => ha Q' fun H1 f1 S1 => k' n H1 rfl f1 S1) (fun m e => by rw [e]; exact turn) (fun m e => by rw [e]; exact k)
theorem rd_and1 {ta tb : TE} (ha : Rd K M ta σ H (.bl true)) (hb : Rd K M tb σ H (.bl true)) : Rd K M (tAndV ta tb) σ H (.bl true) := fun H1 s1 g Q k => ha H1 s1 g _ fun v H2 s2 g2 r2 => by
  cases r2
  exact ⟨true, rfl, by rw [if_pos rfl]; exact hb H2 (s1.trans s2) g2 _ fun w H3 s3 g3 r3 => k w H3 (s2.trans s3) g3 r3⟩
theorem rd_neBl {ta tb : TE} {a b : Bool} (ha : Rd K M ta σ H (.bl a)) (hb : Rd K M tb σ H (.bl b)) : Rd K M (tOp rNe ta tb) σ H (.bl (!decide (a = b))) :=
  rd_op ha hb fun x y H1 Q g hx hy k => by
    cases hx
    cases hy
    refine ⟨rfl, k _ H1 (Same.refl _) g ?_⟩
    show V.bl (!decide (V.bl a = V.bl b)) = V.bl (!decide (a = b))
    simp
theorem rd_negI {t : TE} {i : Int} (h : Rd K M t σ H (.int i)) : Rd K M (tUn (rU fun i => .int (-i)) t) σ H (.int (-i)) := fun H1 s1 g Q k => h H1 s1 g _ fun x H2 s2 g2 rx => ⟨i, rx, k _ H2 s2 g2 rfl⟩
theorem rd_initM {α : Type} {f : α → D} {xs : List α} {ta tb : TE} (ha : Rd K M ta σ H (.lst (xs.map f))) (hb : Rd K M tb σ H (.int (-1))) : Rd K M (tSl (rSlL K) ta tNoPart (tPart tb)) σ H (.lst ((xs.take (xs.length - 1)).map f)) :=
  (rd_slL ha rdo_none (rdo_some hb)).cast (by
    unfold cutD
    have e : HT.sIx (xs.map f).length (xs.map f).length (some (-1)) = xs.length - 1 := by
      show (if (-1 : Int) < 0 then ((-1 : Int) + ((xs.map f).length : Int)).toNat else min (-1 : Int).toNat (xs.map f).length) = xs.length - 1
      rw [if_pos (by decide), List.length_map]
      omega
    rw [e, HT.sIx_none, List.drop_zero, Nat.sub_zero, List.map_take])
theorem rd_leS {ta tb : TE} {i j : Str} (ha : Rd K M ta σ H (.str i)) (hb : Rd K M tb σ H (.str j)) : Rd K M (tOp (fun x y H Q => ∃ i j, x = .str i ∧ y = .str j ∧ Q (.bl (!decide (j.cps.toList < i.cps.toList))) H) ta tb) σ H (.bl (!decide (j.cps.toList < i.cps.toList))) :=
  rd_op ha hb fun x y H1 Q g hx hy k => ⟨i, j, hx, hy, k _ H1 (Same.refl _) g rfl⟩
/-! peeling -/
theorem go_asg {t : TE} {gt : TG} {D : Ends} (h : t σ H fun x H1 => gt x σ H1 D.nx) : tAsg t gt D σ H := h
theorem go_op {r : R2} {ta tb : TE} {Q : VK} (h : ta σ H fun x H1 => tb σ H1 fun y H2 => r x y H2 Q) : tOp r ta tb σ H Q := h
theorem go_call {sp : Sp} {E : XK} {t : TA} {Q : VK} (h : t σ H fun vs H1 => sp (vs ++ []) H1 Q E) : tCall sp [] E t σ H Q := h
theorem go_cons {ta : TE} {tr : TA} {Q : List V → Hp → Prop} (h : ta σ H fun x H1 => tr σ H1 fun xs H2 => Q (x :: xs) H2) : tCons ta tr σ H Q := h
theorem go_tup {t : TA} {Q : VK} (h : t σ H fun xs H1 => xs.length ≤ sizeLine ∧ ∀ p, H1 p = none → Q (.ref p) (upd H1 p (.tup xs))) : tTup t σ H Q := h
theorem go_lst {t : TA} {Q : VK} (h : t σ H fun xs H1 => xs.length ≤ sizeLine ∧ ∀ p, H1 p = none → Q (.ref p) (upd H1 p (.lst xs))) : tLst t σ H Q := h
/-- a, b = x, y where the pair is made of values that are there -/
theorem put_tup2 {i j : Nat} {v1 v2 : V} {x y : D} {N : L2.St → Hp → Prop} (w : Dw J dd M) (S : Sn K M J σ H ρ) (r1 : Rp K (wo M H) x v1) (r2 : Rp K (wo M H) y v2) (k : ∀ σ' H', Same H H' → Sn K M J σ' H' ((ρ.set i (.dat x)).set j (.dat y)) → N σ' H') :
    [v1, v2].length ≤ sizeLine ∧ ∀ p, H p = none → gTup K 2 (gCons (gName i) (gCons (gName j) gNil)) (.ref p) σ (upd H p (.tup [v1, v2])) N := by
  refine ⟨by show 2 ≤ sizeLine; decide, fun p hp => ⟨p, _, rfl, SqT.of upd_same, rfl, _, _, rfl, _, _, rfl, rfl, ?_⟩⟩
  have s : Same H (upd H p (.tup [v1, v2])) := same_new hp
  exact k _ _ s ⟨((S.e.same s).set (Rp.same (swo s) _ r1)).set (Rp.same (swo s) _ r2), S.g.same s, w.same S.j s⟩
/-- if test: .., the two ways joined -/
theorem wp_join {X : Cx} {st : Stmt} {b body : List Stmt} {tt : TT} {D : Ends} (Jn : L2.St → Hp → Prop) (hps : PS X st (tIfS tt (wpS X body) tNext)) (h : ∀ Nx : L2.St → Hp → Prop, (∀ σ H, Jn σ H → Nx σ H) → tt σ H (fun bb H1 => if bb = true then wpS X body { D with nx := Nx } σ H1 else Nx σ H1))
    (k : ∀ σ H, Jn σ H → wpS X b D σ H) : wpS X (st :: b) D σ H := wp_cons hps (h _ k)
theorem rdt_and {a b : Bool} {ta tb : TT} (h : RdT K M ta σ H a) (h' : a = true → RdT K M tb σ H b) (hb : a = false → b = false) : RdT K M (tAnd ta tb) σ H b := fun H1 s1 g Q k => h H1 s1 g _ fun H2 s2 g2 => by
  cases a with
  | false => rw [hb rfl] at k; exact iteF (k H2 s2 g2)
  | true => exact iteT (h' rfl H2 (s1.trans s2) g2 _ fun H3 s3 => k H3 (s2.trans s3))
theorem rdt_and3 {a b c : Bool} {ta tb tc : TT} (h1 : RdT K M ta σ H a) (h2 : RdT K M tb σ H b) (h3 : RdT K M tc σ H c) : RdT K M (tAnd ta (tAnd tb tc)) σ H (a && (b && c)) := by
  refine rdt_and h1 (fun e => ?_) (fun e => by rw [e]; rfl)
  rw [e]
  refine rdt_and h2 (fun e => ?_) (fun e => by rw [e]; rfl)
  rw [e]
  exact h3
theorem rdt_and2 {a b : Bool} {ta tb : TT} (h1 : RdT K M ta σ H a) (h2 : RdT K M tb σ H b) : RdT K M (tAnd ta tb) σ H (a && b) := by
  refine rdt_and h1 (fun e => ?_) (fun e => by rw [e]; rfl)
  rw [e]
  exact h2
/-- the text of labels, joined -/
theorem rd_joinL {to : TE} {u : TA} {rs : List Rule} (h8 : rs.length ≤ 100) (hs : ((rs.map Rule.label).map (·.length)).sum ≤ 16 * rs.length) (h : Rd K M to σ H (.str " ")) (hu : RdA K M u σ H [.lst (lbD rs)]) : Rd K M (tBM K "str" (rJn K) to u) σ H (.str (txtOf rs)) :=
  fun H1 s1 g Q k => h H1 s1 g _ fun x H2 s2 g2 rx => by
    cases rx
    refine ⟨rfl, hu H2 (s1.trans s2) g2 _ fun xs H3 s3 g3 r3 => ?_⟩
    obtain ⟨v, rfl, a, vs, rfl, e1, r1⟩ := rp1 r3
    rw [rp_lbs.mp r1] at e1
    refine ⟨_, a, rs.map Rule.label, rfl, rfl, .inl (SqL.of (wo_le _ _ e1)), ?_, k _ H3 (s2.trans s3) g3 rfl⟩
    have lo : (" " : Str).length = 1 := by decide +kernel
    rw [List.length_map, lo]
    omega
end
end SC
set_option maxRecDepth 100000
set_option maxHeartbeats 2000000
/-! # Part Wo: worktops as the laws keep them: now, past, undone -/
namespace SC
open PySem PySem.Spec PyProof.Rows L2 TL
structure N3 where
  rs : List Rule
  hs : List (Option Int)
  os : List Int
def N3.d (n : N3) : D := .tup [.lst (lbD n.rs), .lst (n.hs.map dO), .lst (n.os.map D.int)]
def pastD (p : Str × N3) : D := .tup [.str p.1, p.2.d]
def undD (u : (Str × N3) × N3) : D := .tup [pastD u.1, u.2.d]
structure W3 where
  now : N3
  past : List (Str × N3)
  und : List ((Str × N3) × N3)
def W3.d (w : W3) : D := .lst [w.now.d, .lst (w.past.map pastD), .lst (w.und.map undD)]
inductive Op where
  | put (n : Int) | take (k : Nat) | swap (k : Nat) | undo | redo
def Op.word : Op → Str
  | .put _ => "put"
  | .take _ => "take"
  | .swap _ => "swap"
  | .undo => "undo"
  | .redo => "redo"
def Op.d : Op → D
  | .put n => .tup [.str "put", .int n]
  | .take k => .tup [.str "take", .int k]
  | .swap k => .tup [.str "swap", .int k]
  | .undo => .tup [.str "undo"]
  | .redo => .tup [.str "redo"]
def Op.ok : Op → Prop
  | .put n => -1000000000 ≤ n
  | _ => True
def Op.is3 : Op → Prop
  | .undo => False
  | .redo => False
  | _ => True
def onW (n : N3) : Op → Er ⊕ (D × N3)
  | .put m => if 1000000000 < m then .inl .number else .inr (dO (stepR n.rs n.hs (some m)).2, ⟨n.rs, (stepR n.rs n.hs (some m)).1, n.os ++ (stepR n.rs n.hs (some m)).2.toList⟩)
  | .take k => if k < n.rs.length then (match n.hs[k]? with
      | some (some v) => .inr (.int v, ⟨n.rs, n.hs.take k ++ n.hs.drop (k + 1) ++ [none], n.os⟩)
      | _ => .inl .number) else .inl .cell
  | .swap k => (match n.rs[k]?, n.rs[k + 1]? with
      | some x, some y => .inr (.tup [.str y.label, .str x.label], ⟨swp n.rs k, n.hs, n.os⟩)
      | _, _ => .inl .cell)
  | _ => .inl .cell
def workedW (w : W3) (op : Op) : Er ⊕ (D × W3) := match op with
  | .undo => (match w.past.getLast? with
      | none => .inr (.bl false, w)
      | some p => .inr (.bl true, ⟨p.2, w.past.dropLast, w.und ++ [(p, w.now)]⟩))
  | .redo => (match w.und.getLast? with
      | none => .inr (.bl false, w)
      | some u => .inr (.bl true, ⟨u.2, w.past ++ [u.1], w.und.dropLast⟩))
  | op => (match onW w.now op with
      | .inl e => .inl e
      | .inr (v, n) => .inr (v, ⟨n, w.past ++ [(op.word, w.now)], []⟩))
def onD (n : N3) : Er ⊕ (D × N3) → D
  | .inl e => .tup [.str e.word, .int 0, n.d]
  | .inr (v, n') => .tup [.str "", v, n'.d]
def workedD : Er ⊕ (D × W3) → D
  | .inl e => .tup [.str e.word, .int 0]
  | .inr (v, w) => .tup [.str "", v, w.d]
theorem worked3 {w : W3} {op : Op} (h : op.is3) : workedW w op = (match onW w.now op with
      | .inl e => .inl e
      | .inr (v, n) => .inr (v, ⟨n, w.past ++ [(op.word, w.now)], []⟩)) := by
  cases op with
  | undo => exact h.elim
  | redo => exact h.elim
  | put n => rfl
  | take k => rfl
  | swap k => rfl
/-! sizes -/
def N3.ok (N : Nat) (n : N3) : Prop := (∀ r ∈ n.rs, r.ok) ∧ 1 ≤ n.rs.length ∧ n.rs.length ≤ 8 ∧ n.hs.length = n.rs.length ∧ n.os.length ≤ N
structure W3.ok (N : Nat) (w : W3) : Prop where
  now : w.now.ok N
  past : ∀ p ∈ w.past, PyData.strOk p.1 = true ∧ p.2.ok N
  und : ∀ u ∈ w.und, (PyData.strOk u.1.1 = true ∧ u.1.2.ok N) ∧ u.2.ok N
  lp : w.past.length ≤ N
  lu : w.und.length ≤ N
theorem N3.ok.mono {N N' : Nat} {n : N3} (h : n.ok N) (l : N ≤ N') : n.ok N' := ⟨h.1, h.2.1, h.2.2.1, h.2.2.2.1, Nat.le_trans h.2.2.2.2 l⟩
theorem swp_len {α : Type} (l : List α) (k : Nat) : (swp l k).length = l.length := by
  unfold swp
  split
  · rw [List.length_set, List.length_set]
  · rfl
theorem swp_mem {α : Type} {l : List α} {k : Nat} {x : α} (h : x ∈ swp l k) : x ∈ l := by
  unfold swp at h
  split at h
  · rename_i a b h1 h2
    rcases List.mem_or_eq_of_mem_set h with h | rfl
    · rcases List.mem_or_eq_of_mem_set h with h | rfl
      · exact h
      · exact List.mem_of_getElem? h2
    · exact List.mem_of_getElem? h1
  · exact h
theorem opt_len (o : Option Int) : o.toList.length ≤ 1 := by cases o <;> simp
theorem on_ok {N : Nat} {n : N3} {op : Op} {v : D} {n' : N3} (h : n.ok N) (e : onW n op = .inr (v, n')) : n'.ok (N + 1) := by
  obtain ⟨h1, h2, h3, h4, h5⟩ := h
  cases op with
  | put m =>
    unfold onW at e
    dsimp only at e
    split at e
    · cases e
    · cases e
      have := opt_len (stepR n.rs n.hs (some m)).2
      exact ⟨h1, h2, h3, (step_len _ _ _).trans h4, by show List.length (_ ++ _) ≤ _; rw [List.length_append]; omega⟩
  | take k =>
    unfold onW at e
    dsimp only at e
    split at e
    · split at e
      · rename_i v hv
        cases e
        exact ⟨h1, h2, h3, (take_len hv).trans h4, by show n.os.length ≤ _; omega⟩
      · cases e
    · cases e
  | swap k =>
    unfold onW at e
    dsimp only at e
    split at e
    · cases e
      exact ⟨fun r hr => h1 r (swp_mem hr), by show 1 ≤ List.length (swp _ _); rw [swp_len]; exact h2, by show List.length (swp _ _) ≤ 8; rw [swp_len]; exact h3, by show n.hs.length = List.length (swp _ _); rw [swp_len]; exact h4, by show n.os.length ≤ _; omega⟩
    · cases e
  | undo => cases e
  | redo => cases e
theorem word_ok (op : Op) : PyData.strOk op.word = true := by
  cases op with
  | put n => show PyData.strOk "put" = true; decide +kernel
  | take n => show PyData.strOk "take" = true; decide +kernel
  | swap n => show PyData.strOk "swap" = true; decide +kernel
  | undo => show PyData.strOk "undo" = true; decide +kernel
  | redo => show PyData.strOk "redo" = true; decide +kernel
theorem worked_ok {N : Nat} {w : W3} {op : Op} {v : D} {w' : W3} (h : w.ok N) (e : workedW w op = .inr (v, w')) : w'.ok (N + 1) := by
  obtain ⟨h1, h2, h3, h4, h5⟩ := h
  have up : ∀ {n : N3}, n.ok N → n.ok (N + 1) := fun x => x.mono (Nat.le_succ _)
  by_cases h3' : op.is3
  · rw [worked3 h3'] at e
    split at e
    · cases e
    · rename_i v2 n2 e2
      cases e
      refine ⟨on_ok h1 e2, fun p hp => ?_, (fun u hu => by cases hu), ?_, Nat.zero_le _⟩
      · rcases List.mem_append.mp hp with hp | hp
        · exact ⟨(h2 p hp).1, up (h2 p hp).2⟩
        · rw [List.mem_singleton.mp hp]
          exact ⟨word_ok op, up h1⟩
      · show List.length (_ ++ _) ≤ _
        rw [List.length_append]
        exact Nat.succ_le_succ h4
  · cases op with
    | put n => exact absurd trivial h3'
    | take n => exact absurd trivial h3'
    | swap n => exact absurd trivial h3'
    | undo =>
      unfold workedW at e
      dsimp only at e
      split at e
      · cases e
        exact ⟨up h1, fun p hp => ⟨(h2 p hp).1, up (h2 p hp).2⟩, fun u hu => ⟨⟨(h3 u hu).1.1, up (h3 u hu).1.2⟩, up (h3 u hu).2⟩, by omega, by omega⟩
      · rename_i p hp
        cases e
        have pm := List.mem_of_getLast? hp
        refine ⟨up (h2 p pm).2, fun q hq => ?_, fun u hu => ?_, ?_, ?_⟩
        · have hq' := List.dropLast_subset _ hq
          exact ⟨(h2 q hq').1, up (h2 q hq').2⟩
        · rcases List.mem_append.mp hu with hu | hu
          · exact ⟨⟨(h3 u hu).1.1, up (h3 u hu).1.2⟩, up (h3 u hu).2⟩
          · rw [List.mem_singleton.mp hu]
            exact ⟨⟨(h2 p pm).1, up (h2 p pm).2⟩, up h1⟩
        · show (w.past.dropLast).length ≤ _
          rw [List.length_dropLast]
          omega
        · show List.length (_ ++ _) ≤ _
          rw [List.length_append]
          exact Nat.succ_le_succ h5
    | redo =>
      unfold workedW at e
      dsimp only at e
      split at e
      · cases e
        exact ⟨up h1, fun p hp => ⟨(h2 p hp).1, up (h2 p hp).2⟩, fun u hu => ⟨⟨(h3 u hu).1.1, up (h3 u hu).1.2⟩, up (h3 u hu).2⟩, by omega, by omega⟩
      · rename_i u hu
        cases e
        have um := List.mem_of_getLast? hu
        refine ⟨up (h3 u um).2, fun q hq => ?_, fun x hx => ?_, ?_, ?_⟩
        · rcases List.mem_append.mp hq with hq | hq
          · exact ⟨(h2 q hq).1, up (h2 q hq).2⟩
          · rw [List.mem_singleton.mp hq]
            exact ⟨(h3 u um).1.1, up (h3 u um).1.2⟩
        · have hx' := List.dropLast_subset _ hx
          exact ⟨⟨(h3 x hx').1.1, up (h3 x hx').1.2⟩, up (h3 x hx').2⟩
        · show List.length (_ ++ _) ≤ _
          rw [List.length_append]
          exact Nat.succ_le_succ h4
        · show (w.und.dropLast).length ≤ _
          rw [List.length_dropLast]
          omega
/-! the program's steps, as the laws tell them -/
def stAt (ss : List St1) (j : Nat) : N3 := match ss[j]? with
  | some s => ⟨s.rs, s.hs, (ss.take (j + 1)).filterMap St1.out⟩
  | none => ⟨[], [], []⟩
def wdAt (ss : List St1) (j : Nat) : Str := match ss[j]? with
  | some s => s.word
  | none => ""
structure Rel (ss : List St1) (i : Nat) (w : W3) : Prop where
  lt : i < ss.length
  now : w.now = stAt ss i
  pl : w.past.length = i
  pa : ∀ j, j < i → w.past[j]? = some (wdAt ss (j + 1), stAt ss j)
  ul : w.und.length + i + 1 = ss.length
  ua : ∀ t, t < w.und.length → w.und[t]? = some ((wdAt ss (ss.length - 1 - t), stAt ss (ss.length - 2 - t)), stAt ss (ss.length - 1 - t))
theorem last_at {α : Type} {l : List α} {n : Nat} {x : α} (h : l.length = n + 1) (e : l[n]? = some x) : l.getLast? = some x := by
  rw [List.getLast?_eq_getElem?, h, Nat.add_sub_cancel]
  exact e
theorem rel_undo0 {ss : List St1} {w : W3} (h : Rel ss 0 w) : w.past.getLast? = none := by
  rw [List.eq_nil_of_length_eq_zero h.pl]
  rfl
theorem rel_undo {ss : List St1} {i : Nat} {w : W3} (h : Rel ss (i + 1) w) : ∃ p, w.past.getLast? = some p ∧ Rel ss i ⟨p.2, w.past.dropLast, w.und ++ [(p, w.now)]⟩ := by
  have e := h.pa i (Nat.lt_succ_self i)
  refine ⟨_, last_at h.pl e, Nat.lt_of_succ_lt h.lt, rfl, ?_, fun j hj => ?_, ?_, fun t ht => ?_⟩
  · show (w.past.dropLast).length = i
    rw [List.length_dropLast, h.pl]
    rfl
  · show (w.past.dropLast)[j]? = _
    rw [List.getElem?_dropLast, if_pos (by rw [h.pl]; omega)]
    exact h.pa j (by omega)
  · show (w.und ++ [_]).length + i + 1 = ss.length
    rw [List.length_append, List.length_singleton, ← h.ul]
    omega
  · show (w.und ++ [_])[t]? = _
    have ht : t < (w.und ++ [((wdAt ss (i + 1), stAt ss i), w.now)]).length := ht
    rw [List.length_append, List.length_singleton] at ht
    rcases Nat.lt_or_ge t w.und.length with u | u
    · rw [List.getElem?_append_left u]
      exact h.ua t u
    · have et : t = w.und.length := by omega
      have e2 := h.ul
      rw [List.getElem?_append_right u, et, Nat.sub_self]
      have i1 : ss.length - 1 - w.und.length = i + 1 := by omega
      have i2 : ss.length - 2 - w.und.length = i := by omega
      rw [i1, i2, ← h.now]
      rfl
theorem rel_redo0 {ss : List St1} {i : Nat} {w : W3} (h : Rel ss i w) (e : i + 1 = ss.length) : w.und.getLast? = none := by
  have := h.ul
  rw [List.eq_nil_of_length_eq_zero (show w.und.length = 0 by omega)]
  rfl
theorem rel_redo {ss : List St1} {i : Nat} {w : W3} (h : Rel ss i w) (hi : i + 1 < ss.length) : ∃ u, w.und.getLast? = some u ∧ Rel ss (i + 1) ⟨u.2, w.past ++ [u.1], w.und.dropLast⟩ := by
  have e0 := h.ul
  obtain ⟨k, hk⟩ : ∃ k, w.und.length = k + 1 := ⟨w.und.length - 1, by omega⟩
  have e := h.ua k (by omega)
  have i1 : ss.length - 1 - k = i + 1 := by omega
  have i2 : ss.length - 2 - k = i := by omega
  rw [i1, i2] at e
  refine ⟨_, last_at hk e, hi, rfl, ?_, fun j hj => ?_, ?_, fun t ht => ?_⟩
  · show (w.past ++ [_]).length = i + 1
    rw [List.length_append, h.pl]
    rfl
  · show (w.past ++ [_])[j]? = _
    rcases Nat.lt_or_ge j i with u | u
    · rw [List.getElem?_append_left (by rw [h.pl]; exact u)]
      exact h.pa j u
    · have ej : j = i := by omega
      rw [List.getElem?_append_right (by rw [h.pl]; exact u), h.pl, ej, Nat.sub_self]
      rfl
  · show (w.und.dropLast).length + (i + 1) + 1 = ss.length
    rw [List.length_dropLast]
    omega
  · show (w.und.dropLast)[t]? = _
    have ht : t < (w.und.dropLast).length := ht
    rw [List.length_dropLast] at ht
    rw [List.getElem?_dropLast, if_pos ht]
    exact h.ua t (by omega)
theorem st_adv {ss : List St1} {i j : Nat} {s' : St1} (h : i < ss.length) (hj : j ≤ i) : stAt (ss.take (i + 1) ++ [s']) j = stAt ss j ∧ wdAt (ss.take (i + 1) ++ [s']) j = wdAt ss j := by
  have l : (ss.take (i + 1)).length = i + 1 := by rw [List.length_take]; omega
  have e : (ss.take (i + 1) ++ [s'])[j]? = ss[j]? := by rw [List.getElem?_append_left (by omega), List.getElem?_take_of_lt (by omega)]
  have e2 : (ss.take (i + 1) ++ [s']).take (j + 1) = ss.take (j + 1) := by
    rw [List.take_append_of_le_length (by omega), List.take_take, Nat.min_eq_left (by omega)]
  unfold stAt wdAt
  rw [e, e2]
  exact ⟨rfl, rfl⟩
theorem rel_adv {ss : List St1} {i : Nat} {w : W3} (h : Rel ss i w) (s' : St1) : Rel (ss.take (i + 1) ++ [s']) (i + 1) ⟨⟨s'.rs, s'.hs, w.now.os ++ s'.out.toList⟩, w.past ++ [(s'.word, w.now)], []⟩ := by
  have hl := h.lt
  have l : (ss.take (i + 1)).length = i + 1 := by rw [List.length_take]; omega
  have ll : (ss.take (i + 1) ++ [s']).length = i + 2 := by rw [List.length_append, l]; rfl
  have e : (ss.take (i + 1) ++ [s'])[i + 1]? = some s' := by
    rw [List.getElem?_append_right (by omega), l, Nat.sub_self]
    rfl
  refine ⟨by omega, ?_, ?_, fun j hj => ?_, by rw [ll]; show 0 + (i + 1) + 1 = i + 2; omega, fun t ht => by cases ht⟩
  · unfold stAt
    rw [e]
    dsimp only
    rw [List.take_of_length_le (by omega), List.filterMap_append]
    have en := h.now
    have eo : w.now.os = (ss.take (i + 1)).filterMap St1.out := by
      rw [en]
      unfold stAt
      rw [List.getElem?_eq_getElem hl]
    rw [eo]
    cases ho : s'.out <;> simp [List.filterMap, ho]
  · show (w.past ++ [_]).length = i + 1
    rw [List.length_append, h.pl]
    rfl
  · show (w.past ++ [_])[j]? = _
    rcases Nat.lt_or_ge j i with u | u
    · rw [List.getElem?_append_left (by rw [h.pl]; exact u), (st_adv hl (by omega)).1, (st_adv hl (show j + 1 ≤ i by omega)).2]
      exact h.pa j u
    · have ej : j = i := by omega
      rw [List.getElem?_append_right (by rw [h.pl]; exact u), h.pl, ej, Nat.sub_self, (st_adv hl (Nat.le_refl i)).1, ← h.now]
      unfold wdAt
      rw [e]
      rfl
theorem rel_at {ss : List St1} {i : Nat} {w : W3} (h : Rel ss i w) : ∃ s, ss[i]? = some s ∧ w.now = ⟨s.rs, s.hs, (ss.take (i + 1)).filterMap St1.out⟩ := by
  refine ⟨_, List.getElem?_eq_getElem h.lt, ?_⟩
  rw [h.now]
  unfold stAt
  rw [List.getElem?_eq_getElem h.lt]
theorem rel_words {ss : List St1} {i : Nat} {w : W3} (h : Rel ss i w) : ((ss.take (i + 1)).drop 1).map St1.word = w.past.map (·.1) := by
  apply List.ext_getElem?
  intro j
  rw [List.getElem?_map, List.getElem?_map, List.getElem?_drop]
  have hl := h.lt
  rcases Nat.lt_or_ge j i with u | u
  · rw [h.pa j u, List.getElem?_take_of_lt (by omega)]
    unfold wdAt
    have e : (1 + j) = j + 1 := by omega
    rw [e, List.getElem?_eq_getElem (show j + 1 < ss.length by omega)]
    rfl
  · rw [List.getElem?_eq_none (show w.past.length ≤ j by rw [h.pl]; exact u), List.getElem?_eq_none (by rw [List.length_take]; omega)]
    rfl
/-! statement by statement, in a def that only looks -/
structure En (K : PySem.W.Frag) (M : List Addr) (σ : L2.St) (H : Hp) (ρ : List Sl) : Prop where
  e : Env K M σ H ρ
  g : Gd K M H
section
variable {K : PySem.W.Frag} {M : List Addr} {σ : L2.St} {H H' H1 : Hp} {ρ : List Sl}
theorem En.rd (S : En K M σ H ρ) {i : Nat} {d : D} (h : ρ[i]? = some (.dat d)) : Rd K M (tVar i) σ H d := S.e.rd h
theorem En.same (S : En K M σ H ρ) (s : Same H H') : En K M σ H' ρ := ⟨S.e.same s, S.g.same s⟩
theorem en_set {X : Cx} {st : Stmt} {b : List Stmt} {t : TE} {i : Nat} {d : D} {D : Ends} (hps : PS X st (tAsg t (gName i))) (S : En K M σ H ρ) (h : Rd K M t σ H d) (k : ∀ σ' H', Same H H' → En K M σ' H' (ρ.set i (.dat d)) → wpS X b D σ' H') : wpS X (st :: b) D σ H :=
  wp_cons hps (use_set h S.g fun v H2 s g r => k _ H2 s ⟨(S.e.same s).set r, g⟩)
theorem en_tup2 {X : Cx} {st : Stmt} {b : List Stmt} {t : TE} {i j : Nat} {x y : D} {D : Ends} (hps : PS X st (tAsg t (gTup K 2 (gCons (gName i) (gCons (gName j) gNil))))) (S : En K M σ H ρ) (h : Rd K M t σ H (.tup [x, y])) (k : ∀ σ' H', Same H H' → En K M σ' H' ((ρ.set i (.dat x)).set j (.dat y)) → wpS X b D σ' H') : wpS X (st :: b) D σ H :=
  wp_cons hps (use_tup2 h S.g fun v u H2 s g r1 r2 => k _ H2 s ⟨((S.e.same s).set r1).set r2, g⟩)
theorem en_tup3 {X : Cx} {st : Stmt} {b : List Stmt} {t : TE} {i j l : Nat} {x y z : D} {D : Ends} (hps : PS X st (tAsg t (gTup K 3 (gCons (gName i) (gCons (gName j) (gCons (gName l) gNil)))))) (S : En K M σ H ρ) (h : Rd K M t σ H (.tup [x, y, z])) (k : ∀ σ' H', Same H H' → En K M σ' H' (((ρ.set i (.dat x)).set j (.dat y)).set l (.dat z)) → wpS X b D σ' H') : wpS X (st :: b) D σ H :=
  wp_cons hps (use_tup3 h S.g fun v u q H2 s g r1 r2 r3 => k _ H2 s ⟨(((S.e.same s).set r1).set r2).set r3, g⟩)
theorem en_if {X : Cx} {st : Stmt} {b body : List Stmt} {tt : TT} {c : Bool} {D : Ends} (hps : PS X st (tIfS tt (wpS X body) tNext)) (S : En K M σ H ρ) (h : RdT K M tt σ H c) (kt : c = true → ∀ H', Same H H' → En K M σ H' ρ → wpS X body { D with nx := wpS X b D } σ H') (kf : c = false → ∀ H', Same H H' → En K M σ H' ρ → wpS X b D σ H') : wpS X (st :: b) D σ H :=
  wp_cons hps (use_if h S.g fun H2 s g => by
    cases c with
    | true => exact (if_pos rfl).mpr (kt rfl H2 s ⟨S.e.same s, g⟩)
    | false => exact (if_neg (fun z => by cases z)).mpr (kf rfl H2 s ⟨S.e.same s, g⟩))
theorem en_ret {X : Cx} {st : Stmt} {t : TE} {d : D} {D : Ends} (hps : PS X st (tRet t)) (S : En K M σ H ρ) (h : Rd K M t σ H d) (k : ∀ v H', Same H H' → Gd K M H' → Rp K (wo M H') d v → D.rt v H') : wpS X [st] D σ H :=
  wp_one hps (use_ret h S.g k)
theorem rd_intB {u : TA} {b : Bool} (h : RdA K M u σ H [.bl b]) : Rd K M (tCB (fun xs H Q => (∃ i, xs = [.int i] ∧ Q (.int i) H) ∨ ∃ k, xs = [.bl k] ∧ Q (.int (if k then 1 else 0)) H) u) σ H (.int (if b then 1 else 0)) :=
  rd_cb h fun xs H1 Q g hx k => by
    obtain ⟨v, rfl, rv⟩ := rp1 hx
    cases rv
    exact .inr ⟨b, rfl, k _ H1 (Same.refl _) g rfl⟩
theorem rd_last {α : Type} {f : α → D} {xs : List α} {x : α} {ta tb : TE} (hx : xs.getLast? = some x) (ha : Rd K M ta σ H (.lst (xs.map f))) (hb : Rd K M tb σ H (.int (-1))) : Rd K M (tOp (rIxL K) ta tb) σ H (f x) := by
  refine rd_ixL ?_ ha hb
  have hl : 0 < xs.length := by
    cases xs with
    | nil => cases hx
    | cons y ys => exact Nat.succ_pos _
  rw [List.getLast?_eq_getElem?] at hx
  have e : ixN (xs.map f).length (-1) = some (xs.length - 1) := by
    unfold ixN
    rw [List.length_map, if_neg (by decide), if_pos (by omega)]
    congr 1
    omega
  unfold atI
  rw [e]
  show (xs.map f)[xs.length - 1]? = some (f x)
  rw [List.getElem?_map, hx]
  rfl
end
end SC
set_option maxRecDepth 100000
set_option maxHeartbeats 2000000
/-! # Part Sn: snapshots of worktops -/
namespace SC
open PySem PySem.Spec PyProof.Rows L2 TL
def SnapV (K : PySem.W.Frag) (M : List Addr) (H : Hp) (ss : List St1) (i : Nat) (v : V) : Prop := ∃ (p q : Addr) (as : List Addr), v = .ref p ∧ wo M H p = some (.tup [.ref q, .int i]) ∧ wo M H q = some (.lst (as.map V.ref)) ∧ Steps K (wo M H) as ss ∧ i < ss.length ∧ ss.length ≤ 100000
abbrev Sv := Str → Option (List St1 × Nat)
def SavedAt (K : PySem.W.Frag) (M : List Addr) (H : Hp) (S : Addr) (N : Nat) (sv : Sv) : Prop := ∃ kvs : List (Key × V), H S = some (.dK kvs) ∧ kvs.length ≤ N ∧ ∀ n : Str, (sv n = none → valV kvs (.inr n) = none) ∧ ∀ ss i, sv n = some (ss, i) → ∃ v, valV kvs (.inr n) = some v ∧ SnapV K M H ss i v
def putSv (sv : Sv) (n : Str) (x : List St1 × Nat) : Sv := fun m => if m = n then some x else sv m
theorem SnapV.le {K : PySem.W.Frag} {M M' : List Addr} {H H' : Hp} {ss : List St1} {i : Nat} {v : V} (h : SnapV K M H ss i v) (s : Same (wo M H) (wo M' H')) : SnapV K M' H' ss i v := by
  obtain ⟨p, q, as, h1, h2, h3, h4, h5⟩ := h
  exact ⟨p, q, as, h1, s _ _ h2, s _ _ h3, h4.same s, h5⟩
theorem SavedAt.le {K : PySem.W.Frag} {M M' : List Addr} {H H' : Hp} {S : Addr} {N : Nat} {sv : Sv} (h : SavedAt K M H S N sv) (s : Same (wo M H) (wo M' H')) (e : H' S = H S) : SavedAt K M' H' S N sv := by
  obtain ⟨kvs, h1, h2, h3⟩ := h
  refine ⟨kvs, by rw [e]; exact h1, h2, fun n => ⟨(h3 n).1, fun ss i hs => ?_⟩⟩
  obtain ⟨v, a, b⟩ := (h3 n).2 ss i hs
  exact ⟨v, a, b.le s⟩
theorem SavedAt.same {K : PySem.W.Frag} {M : List Addr} {H H' : Hp} {S : Addr} {N : Nat} {sv : Sv} (h : SavedAt K M H S N sv) (s : Same H H') : SavedAt K M H' S N sv := by
  refine h.le (swo s) ?_
  obtain ⟨kvs, h1, _⟩ := h
  rw [h1]
  exact s _ _ h1
theorem putK_len {κ : Type} [DecidableEq κ] (kvs : List (κ × V)) (k : κ) (v : V) : (putK kvs k v).length ≤ kvs.length + 1 := by
  unfold putK
  split
  · rw [List.length_map]; omega
  · rw [List.length_append]; exact Nat.le_refl _
theorem SavedAt.put {K : PySem.W.Frag} {M : List Addr} {H H1 : Hp} {S : Addr} {N : Nat} {sv : Sv} {n : Str} {ss : List St1} {i : Nat} {v : V} {kvs : List (Key × V)} (hS : S ∈ M) (h1 : H1 S = some (.dK kvs)) (hl : kvs.length ≤ N)
    (h3 : ∀ n : Str, (sv n = none → valV kvs (.inr n) = none) ∧ ∀ ss i, sv n = some (ss, i) → ∃ v, valV kvs (.inr n) = some v ∧ SnapV K M H1 ss i v) (hv : SnapV K M H1 ss i v) : SavedAt K M (upd H1 S (.dK (putK kvs (.inr n) v))) S (N + 1) (putSv sv n (ss, i)) := by
  refine ⟨_, upd_same, Nat.le_trans (putK_len _ _ _) (by omega), fun m => ?_⟩
  have le : Same (wo M H1) (wo M (upd H1 S (.dK (putK kvs (.inr n) v)))) := by rw [wo_upd hS]; exact Same.refl _
  by_cases e : m = n
  · subst e
    have e1 : valV (putK kvs (.inr m) v) (.inr m) = some v := by rw [valV_put, if_pos rfl]
    have e2 : putSv sv m (ss, i) m = some (ss, i) := by unfold putSv; rw [if_pos rfl]
    rw [e1, e2]
    refine ⟨(fun z => by cases z), fun ss' i' z => ?_⟩
    cases z
    exact ⟨v, rfl, hv.le le⟩
  · have e1 : valV (putK kvs (.inr n) v) (.inr m) = valV kvs (.inr m) := by
      rw [valV_put]
      first
        | exact if_neg (fun z => e (Sum.inr.inj z))
        | exact if_neg (fun z => e (Sum.inr.inj z).symm)
    have e2 : putSv sv n (ss, i) m = sv m := by unfold putSv; rw [if_neg e]
    rw [e1, e2]
    refine ⟨(h3 m).1, fun ss' i' z => ?_⟩
    obtain ⟨u, a, b⟩ := (h3 m).2 ss' i' z
    exact ⟨u, a, b.le le⟩
theorem SavedAt.nil {K : PySem.W.Frag} {M : List Addr} {H : Hp} {S : Addr} (h : H S = some (.dK [])) : SavedAt K M H S 0 (fun _ => none) := ⟨[], h, Nat.le_refl _, fun n => ⟨fun _ => rfl, fun ss i z => by cases z⟩⟩
theorem put_steps {L L' S : Addr} {i : Nat} : putF ("steps" : Str) (.ref L') (wkFs L S i) = wkFs L' S i := by
  have h1 : ¬ (("done" : Str) = "steps") := by decide +kernel
  have h2 : ¬ (("saved" : Str) = "steps") := by decide +kernel
  simp [wkFs, putF, h1, h2]
/-- over a text -/
theorem lc_str {x : Str} {g : TG} {tt : TT} {te : TE} {vs : List Nat} {σ : L2.St} {H1 : Hp} {D : Addr} {Qd : Hp → Prop} (Pv : Nat → Hp → Prop) (h0 : Pv 0 (upd H1 D (.lst [])))
    (hs : ∀ i c H, x.cps[i]? = some c → Pv i H → g (.str ⟨#[c]⟩) (L2.wipe σ vs) H fun σ2 H2 => L2.wipe σ2 vs = L2.wipe σ vs ∧ tt σ2 H2 fun b H3 =>
      if b = true then te σ2 H3 fun y H4 => ∃ acc, H4 D = some (.lst acc) ∧ acc.length < sizeLine ∧ Pv (i + 1) (upd H4 D (.lst (acc ++ [y]))) else Pv (i + 1) H3) (hd : ∀ H, Pv x.cps.size H → Qd H) :
    ∃ W : Nat → Nat → Hp → Prop, (∃ m, W 0 m (upd H1 D (.lst []))) ∧ ∀ i m H, W i m H →
      ((Its x).stop i H ∧ Qd H) ∨ ((Its x).go i H ∧ ∃ Nx : Hp → Prop, (∀ H', Nx H' → ∃ m', m' < m ∧ W (i + 1) m' H') ∧ ∀ v H', (Its x).yld i H v H' → g v (L2.wipe σ vs) H' fun σ2 H2 => L2.wipe σ2 vs = L2.wipe σ vs ∧ tt σ2 H2 fun b H3 =>
        if b = true then te σ2 H3 fun y H4 => ∃ acc, H4 D = some (.lst acc) ∧ acc.length < sizeLine ∧ Nx (upd H4 D (.lst (acc ++ [y]))) else Nx H3) := by
  refine ⟨fun i m H => m = x.cps.size - i ∧ i ≤ x.cps.size ∧ Pv i H, ⟨x.cps.size, by simp, Nat.zero_le _, h0⟩, ?_⟩
  rintro i m H ⟨rfl, hi, p⟩
  by_cases hlt : i < x.cps.size
  · refine .inr ⟨hlt, Pv (i + 1), fun H' p' => ⟨x.cps.size - (i + 1), by omega, rfl, hlt, p'⟩, fun v H' y => ?_⟩
    obtain ⟨e, c, hc, e2⟩ := y
    subst e e2
    exact hs i c _ hc p
  · have e : i = x.cps.size := by omega
    subst e
    exact .inl ⟨Nat.le_refl _, hd H p⟩
end SC
set_option maxRecDepth 100000
set_option maxHeartbeats 2000000
/-! # Part Br: except X: .. raise (a bare raise at the suite's end) -/
namespace SC
open PySem PySem.Spec PyProof.Rows L2 TL
theorem ObjOk.there {P : Program} {w : World} {H : Hp} {h : Heap} {a : Addr} {o : HO} (x : ObjOk P w H h a o) : ∃ u, h.get? a = some u := by
  cases o with
  | lst xs => obtain ⟨_, _, _, _, e⟩ := x; exact ⟨_, e⟩
  | tup xs => obtain ⟨_, _, _, ob, e, _⟩ := x; exact ⟨_, e⟩
  | dK kvs => obtain ⟨_, _, _, _, o, _, _, e, _⟩ := x; exact ⟨_, e⟩
  | dT kvs => obtain ⟨_, _, _, _, o, _, _, e, _⟩ := x; exact ⟨_, e⟩
  | set S n => obtain ⟨o, _, _, _, e, _⟩ := x; exact ⟨_, e⟩
  | ins C dx fs => obtain ⟨_, _, _, e, _⟩ := x; exact ⟨_, e⟩
  | own y => exact x
  | xd fs => obtain ⟨_, ⟨_, _, _, e, _⟩, _⟩ := x; exact ⟨_, e⟩
  | rng lo hi => obtain ⟨_, _, _, e⟩ := x; exact ⟨_, e⟩
  | frz ob u => obtain ⟨e, _⟩ := x; exact ⟨_, e⟩
  | tbl ps => exact ⟨_, show h.get? a = some _ from x⟩
  | met f y => exact ⟨_, show h.get? a = some _ from x⟩
  | ext φ => exact x.2.1
/-- the state without the exception's two objects -/
theorem inv_drop2 {X : Cx} {pins : List (Addr × Obj)} {σ : L2.St} {H : Hp} {s : Shared} {a T : Addr} {G : Heap} (I : Inv X pins σ H s) (g1 : ∀ b, b ≠ a → b ≠ T → G.get? b = s.heap.get? b) (h0 : ∀ b o, X.s_0.heap.get? b = some o → b ∉ X.ex → b ≠ a ∧ b ≠ T)
    (hL : X.env.locals ≠ a ∧ X.env.locals ≠ T) (hc : ∀ c v, s.heap.IsCell c v → c ≠ a ∧ c ≠ T) (hP : ∀ p ∈ X.pn, p.1 ≠ a ∧ p.1 ≠ T) (na : H a = none) (nT : H T = none) : Inv X [] σ H { s with heap := G } := by
  have ne : ∀ b u, H b = some u → b ≠ a ∧ b ≠ T := fun b u e => ⟨fun z => (by rw [z, na] at e; cases e), fun z => (by rw [z, nT] at e; cases e)⟩
  have cellK : ∀ c v, s.heap.IsCell c v → G.IsCell c v := fun c v z => by
    obtain ⟨n1, n2⟩ := hc c v z
    obtain ⟨o, h1, h2⟩ := z
    exact ⟨o, by rw [g1 c n1 n2]; exact h1, h2⟩
  refine ⟨I.ok, I.os, I.bare, ⟨fun b o e n hb hx => ?_, fun b o e n hb hx => ?_, I.base.free, fun b o e hx => ?_, I.base.tups, I.base.frzs, I.base.tbls⟩, ?_, fun x c e => ?_, I.free, I.freeC, fun p hp => ?_, fun b o e => ?_, I.len⟩
  · obtain ⟨n1, n2⟩ := h0 b o e hx
    show G.get? b = some o
    rw [g1 b n1 n2]
    exact I.base.keep b o e n hb hx
  · obtain ⟨n1, n2⟩ := h0 b o e hx
    show ∃ sl, G.get? b = _
    rw [g1 b n1 n2]
    exact I.base.slot b o e n hb hx
  · obtain ⟨n1, n2⟩ := h0 b o e hx
    show ∃ o', G.get? b = _
    rw [g1 b n1 n2]
    exact I.base.there b o e hx
  · obtain ⟨m, hn, hl⟩ := I.loc
    refine ⟨m, hn.at fun o e => by rw [← e]; exact g1 _ hL.1 hL.2, fun i x v e1 e2 e3 => ?_⟩
    obtain ⟨u, r, l⟩ := hl i x v e1 e2 e3
    refine ⟨u, r, ?_⟩
    rcases l with l | ⟨k, c, e, z⟩
    · exact .inl l
    · exact .inr ⟨k, c, e, cellK c _ z⟩
  · obtain ⟨v, z⟩ := I.cell x c e
    exact ⟨v, cellK c v z⟩
  · have hp' : p ∈ X.pn := by simpa using hp
    obtain ⟨e1, e2, e3, e4, e5⟩ := I.pin p (List.mem_append_left _ hp')
    obtain ⟨n1, n2⟩ := hP p hp'
    exact ⟨by show G.get? p.1 = _; rw [g1 _ n1 n2]; exact e1, e2, e3, e4, e5⟩
  · refine (I.hok b o e).stay (fun c u hc' r => ?_) (fun _ r => r) fun _ _ r => r
    show G.get? c = some u
    have n : c ≠ a ∧ c ≠ T := by
      rcases hc' with z | z
      · rw [z]; exact ne b o e
      · exact ne c _ z
    rw [g1 c n.1 n.2]
    exact r
/-- raise, in the suite of the exception at a whose traceback is at T -/
theorem ps_bare {X : Cx} {pins : List (Addr × Obj)} {a T : Addr} {oe oT : Obj} {vs ts : Array Value} {cls : Value} {d : Option Addr} {Wout : WX} {pos : Pos} (hs : X.stack = X.env :: X.outer) (hf : X.env.frame = some X.env.locals) (ok : X.Ok) (tk : Takes X Wout)
    (hz : Zc cls d oe) (hd : oe.data = .fields vs) (h1 : vs[1]? = some (.ref T)) (hTa : T ≠ a) (hdT : oT.data = .fields ts) (h3 : ts[3]? = some .none) (h0 : ∀ b o, X.s_0.heap.get? b = some o → b ∉ X.ex → b ≠ a ∧ b ≠ T) (hP : ∀ p ∈ X.pn, p.1 ≠ a ∧ p.1 ≠ T) :
    PS (L2H.suiteX X a ((a, oe) :: (X.pn ++ ((T, oT) :: pins)))) (.Raise none none pos) (fun _ σ H => Wout cls d σ H) := by
  refine ⟨fun pins' s σ H D I h => ?_⟩
  have J : Inv X ((T, oT) :: pins) σ H s := L2H.unsuiteX I ok
  obtain ⟨pa1, pa2, pa3, pa4, pa5⟩ := I.pin (a, oe) (List.mem_append_left _ List.mem_cons_self)
  obtain ⟨pT1, pT2, pT3, pT4, pT5⟩ := J.pin (T, oT) (List.mem_append_right _ List.mem_cons_self)
  dsimp only at pa1 pa2 pa3 pa4 pT1 pT2 pT3 pT4
  obtain ⟨G, g1, g2⟩ := restrict s.heap fun b => decide (b ≠ a) && decide (b ≠ T)
  have gk : ∀ b, b ≠ a → b ≠ T → G.get? b = s.heap.get? b := fun b n1 n2 => g1 b (by simp [n1, n2])
  have ga : G.get? a = none := g2 a (by simp)
  have gT : G.get? T = none := g2 T (by simp)
  have gs : ∀ b o, G.get? b = some o → s.heap.get? b = some o := fun b o e => by
    rw [← gk b (fun z => by rw [z, ga] at e; cases e) (fun z => by rw [z, gT] at e; cases e)]
    exact e
  have hcell : ∀ c v, s.heap.IsCell c v → c ≠ a ∧ c ≠ T := fun c v z => by
    obtain ⟨o, c1, c2⟩ := z
    exact ⟨fun z => (by rw [z, pa1] at c1; cases c1; rw [hd] at c2; cases c2), fun z => (by rw [z, pT1] at c1; cases c1; rw [hdT] at c2; cases c2)⟩
  have IG : Inv X [] σ H { s with heap := G } := inv_drop2 J gk h0 ⟨Ne.symm pa3, Ne.symm pT3⟩ hcell hP pa2 pT2
  have fl : HandSPX.FlyingZ (PySem.W.hideAll G (frs X.stack)) (X.env :: X.outer) a (Zc cls d) s.heap := by
    refine ⟨fun b o e => gs b o (PySem.W.of_hideAll _ e), ?_, ?_, oe, vs, T, oT, ts, pa1, hz, hd, h1, ?_, hTa, pT1, hdT, h3⟩
    · cases q : (PySem.W.hideAll G (frs X.stack)).get? a with
      | none => rfl
      | some o =>
        have z := PySem.W.of_hideAll _ q
        rw [ga] at z; cases z
    · rw [← hs]
      exact Heap.FunFrames.of_keeps (fun b o e _ => ⟨o, gs b o e, rfl⟩) (funFrames_none IG.stack fun b hb => PySem.W.hideAll_none _ hb)
    · cases q : (PySem.W.hideAll G (frs X.stack)).get? T with
      | none => rfl
      | some o =>
        have z := PySem.W.of_hideAll _ q
        rw [gT] at z; cases z
  refine PySem.wpAny_Raise_bare ?_
  unfold PySem.raiseBare raiseStmt
  dsimp only
  refine wpAny_bind (wpAny_handled ?_)
  show wpAny _ _ (do PySem.rule "raise.bare"; _) _ _ _
  refine wpAny_bind (wpAny_rule ?_)
  refine wpAny_bind (wpAny_field pa1 hd h1 ?_)
  rw [if_neg (show ¬ ((Value.ref T == Value.none) = true) from by simp)]
  have fin : wpAny (model X.prog X.w) (X.A.mark (some (.ref a))) (setFlight (.ref a) X.env.frame) (fun _ s4 => wpAny (model X.prog X.w) (X.A.mark (some (.ref a))) (throw (.ref a) : Sem Flow) (SP (L2H.suiteX X a ((a, oe) :: (X.pn ++ ((T, oT) :: pins)))) pins' D) X.xe s4) X.xe s := by
    rw [hf]
    refine HandSPX.setFlight_upZ fl fun h4 hh4 up4 => wpAny_throw (tk _ _ ?_)
    exact ⟨a, _, { s with heap := G }, [], σ, H, cls, d, rfl, IG, fun b o e hb => PySem.W.hideAll_get _ e hb, (Heap.UpToSlots.of_keeps gs).trans up4, .inr (.inr ((congrArg (fun l => HandSPX.HeldZ (PySem.W.hideAll G (frs X.stack)) l a (Zc cls d) X.env.locals h4) hs).mpr hh4)), pa2, rfl, I.bare, h⟩
  first
    | exact wpAny_bind (wpAny_pure (wpAny_bind fin))
    | exact wpAny_bind fin
section
variable {X : Cx} {x : Str} {c : Value} {tried behind : List Stmt} {first : Stmt} {namePos pos clausePos : Pos} {tTried : WX → TS} {tSuite : Addr → Value → Option Addr → TS} {Wout : WX}
/-- try: tried / except x: behind, where the behind may end in a bare raise -/
theorem ps_try_bare (hs : X.stack = X.env :: X.outer) (hf : X.env.frame = some X.env.locals) (hc : Names X x c) (hpa : ∀ hd : Option Value, PassesOwnAt (model X.prog X.w) (X.A.mark hd) X.A X.env X.xe) (tk : Takes X Wout)
    (hb : ∀ (W : WX) (pn : List (Addr × Obj)) (xe : Value → Shared → Prop), Takes (X.tr pn xe) W → PassesOwn (model X.prog X.w) X.A X.env xe → PSs (X.tr pn xe) tried (tTried W))
    (hsu : ∀ (a : Addr) (cls : Value) (d : Option Addr) (pn : List (Addr × Obj)), (∀ p : Pos, PS (L2H.suiteX X a pn) (.Raise none none p) (fun _ σ H => Wout cls d σ H)) → PSs (L2H.suiteX X a pn) (first :: behind) (tSuite a cls d)) :
    PS X (.Try tried [.ExceptHandler (some (.Name x namePos)) none (first :: behind) clausePos] [] [] pos) (fun D σ H => tTried (wOnly X.K c tSuite Wout D) D σ H) := by
  refine ⟨fun pins s σ H D Iv h => ?_⟩
  have ok := Iv.ok
  have frames : X.A.frames = some (X.env :: X.outer) := by rw [ok.frames, hs]
  refine wpAny_Try_except ?_
  refine wpAny_mono ((hb (wOnly X.K c tSuite Wout D) (X.pn ++ pins) (fun e s₁ => wpAny (model X.prog X.w) X.A (noteFrame e X.env) (fun _ s₂ => wpAny (model X.prog X.w) X.A (setFlight e none) (fun _ s₃ =>
    wpAny (model X.prog X.w) X.A (handleBy e X.env [.ExceptHandler (some (.Name x namePos)) none (first :: behind) clausePos]) (SP X pins D) X.xe s₃) X.xe s₂) X.xe s₁) (fun u s' aired => ?_) PassesOwn.looking).run [] s σ H D (Iv.toTry _) h) (fun f s1 ends => ?_) (fun e s1 he => he)
  · obtain ⟨a, B, sI, pins', σ', H', cls, d, rfl, Jw, ground, up, skyw, freea, oseq, bare, b, names, caught, flown⟩ := aired
    have Jx : Inv X pins σ' H' sI := Jw.ofTry ok
    have skyx : Sky B (X.env :: X.outer) a (Zc cls d) X.env.locals s'.heap := by rw [← hs]; exact skyw
    show wpAny (model X.prog X.w) X.A (noteFrame (.ref a) X.env) _ _ _
    refine Sky.land Zc.steady frames hf skyx fun hpb flb upb => ?_
    have Jb : Inv X pins σ' H' { s' with heap := hpb } := Jx.landed ground flb.1 (up.trans upb) oseq bare
    obtain ⟨ob, fsb, hob, zob, dob⟩ := flb.there
    have unframed : ∀ {h : Heap} {a : Addr} {o : Obj} {vs : Array Value}, h.FunFrames B (X.env :: X.outer) → h.get? a = some o → o.data = .fields vs → a ∉ frs (X.env :: X.outer) := fun {h a o vs} ff e dd hm => by
      obtain ⟨_, o', e', hnf⟩ := ff.mem hm
      rw [e] at e'; cases e'
      exact hnf _ dd
    have off : ∀ {b : Addr}, b ∉ frs (X.env :: X.outer) → b ≠ X.env.locals ∧ b ∉ X.fs := fun {b} offa => ⟨fun z => offa (List.mem_filterMap.mpr ⟨X.env, List.mem_cons_self, by rw [hf, z]⟩), fun hm => by
      obtain ⟨e, he, q⟩ := List.mem_filterMap.mp hm
      exact offa (List.mem_filterMap.mpr ⟨e, List.mem_cons_of_mem _ he, q⟩)⟩
    have offa := unframed flb.2.2.1 hob dob
    obtain ⟨nla, nfa⟩ := off offa
    have Sb := Jb.suite hob dob freea nla nfa
    refine wpAny_handleBy_cons (codeAny_handlers_test ?_) (by intro q; cases q)
    have looksT : PySem.W.Looks (model X.prog X.w) hpb (typeOf (.ref a)) cls := fun A Q E s k q => wpAny_typeOf_ref (k _ _ hob) (by rw [zob.1]; exact q)
    have looksM := PySem.W.exm_one (M := model X.prog X.w) (Jb.kIn) looksT names
    have asks : ∀ {Q : Value → Shared → Prop} {E : Value → Shared → Prop}, Q c { s' with heap := hpb } → wpAny (model X.prog X.w) (X.A.mark (some (.ref a))) (eval (.Name x namePos) X.env) Q E { s' with heap := hpb } := fun {Q E} q => by
      obtain ⟨hg, hdbg, hm | ⟨hm, hv, hnn⟩⟩ := hc
      · exact ld_glob (X := X.suite a ((a, ob) :: (X.pn ++ pins))) Sb hg hm q hdbg
      · exact ld_blt (X := X.suite a ((a, ob) :: (X.pn ++ pins))) Sb hg hm hv q hnn hdbg
    refine asks (looksM.here ?_)
    cases b with
    | true =>
      refine codeAny_handlers_suite ?_
      refine HandSPX.lands_againZ flb fun h4 fl4 up4 => ?_
      have J4 : Inv X pins σ' H' { s' with heap := h4 } := Jx.landed ground fl4.1 ((up.trans upb).trans up4) oseq bare
      obtain ⟨st1, st2, st3, oe4, vs4, T, oT, ts', he4, hz4, hd4, h14, hBT, hTa, hT4, hdT, h34⟩ := id fl4
      have nfT := unframed st3 hT4 hdT
      obtain ⟨nLT, nFT⟩ := off nfT
      have gone : ∀ {b : Addr}, b ∉ frs (X.env :: X.outer) → B.get? b = none → sI.heap.get? b = none := fun {b} n1 n2 => by
        cases q : sI.heap.get? b with
        | none => rfl
        | some o =>
          have z := ground b o q (by rw [hs]; exact n1)
          rw [n2] at z
          cases z
      have ga := gone offa st2
      have gT := gone nfT hBT
      have nT : H' T = none := by
        cases q : H' T with
        | none => rfl
        | some o =>
          have z := (Jx.hok T o q)
          exact absurd gT (fun y => by
            have := ObjOk.there z
            obtain ⟨o', e'⟩ := this
            rw [y] at e'; cases e')
      have J5 : Inv X ((T, oT) :: pins) σ' H' { s' with heap := h4 } := J4.pins_of fun p hp => by
        rcases List.mem_cons.mp hp with e | hp
        · rw [e]
          exact ⟨hT4, nT, nLT, nFT, fun v z => by rw [hdT] at z; cases z⟩
        · exact J4.pin p (List.mem_append_right _ hp)
      have S4 := J5.suite he4 hd4 freea nla nfa
      have h0 : ∀ b o, X.s_0.heap.get? b = some o → b ∉ X.ex → b ≠ a ∧ b ≠ T := fun b o e hx => by
        obtain ⟨o', e'⟩ := Jx.base.there b o e hx
        exact ⟨fun z => (by rw [z, ga] at e'; cases e'), fun z => (by rw [z, gT] at e'; cases e')⟩
      have hP : ∀ p ∈ X.pn, p.1 ≠ a ∧ p.1 ≠ T := fun p hp => by
        obtain ⟨e', _⟩ := Jx.pin p (List.mem_append_left _ hp)
        exact ⟨fun z => (by rw [z, ga] at e'; cases e'), fun z => (by rw [z, gT] at e'; cases e')⟩
      refine wpAny_mono ((hsu a cls d ((a, oe4) :: (X.pn ++ ((T, oT) :: pins))) (fun p => ps_bare hs hf ok tk hz4 hd4 h14 hTa hdT h34 h0 hP)).run [] _ _ H' _ (L2H.suiteX_of S4) (caught rfl a freea)) (fun f sz ends => ?_) (fun e6 sz z => hpa (some (.ref a)) e6 sz z)
      cases f with
      | next =>
        obtain ⟨σz, Hz, Sz, qz⟩ := ends
        exact ⟨_, _, (L2H.unsuiteX Sz ok).pins_of fun p hp => (L2H.unsuiteX Sz ok).pin p (List.mem_append_right _ (List.mem_cons_of_mem _ hp)), qz⟩
      | brk =>
        obtain ⟨σz, Hz, Sz, qz⟩ := ends
        exact ⟨_, _, (L2H.unsuiteX Sz ok).pins_of fun p hp => (L2H.unsuiteX Sz ok).pin p (List.mem_append_right _ (List.mem_cons_of_mem _ hp)), qz⟩
      | cont =>
        obtain ⟨σz, Hz, Sz, qz⟩ := ends
        exact ⟨_, _, (L2H.unsuiteX Sz ok).pins_of fun p hp => (L2H.unsuiteX Sz ok).pin p (List.mem_append_right _ (List.mem_cons_of_mem _ hp)), qz⟩
      | ret u =>
        obtain ⟨v6, σz, Hz, Sz, r6, qz⟩ := ends
        exact ⟨_, _, _, (L2H.unsuiteX Sz ok).pins_of fun p hp => (L2H.unsuiteX Sz ok).pin p (List.mem_append_right _ (List.mem_cons_of_mem _ hp)), r6, qz⟩
    | false =>
      show wpAny _ X.A (handleBy (.ref a) X.env []) _ _ _
      refine wpAny_handleBy_nil ?_
      obtain ⟨st1, st2, st3, oe, vs, T, oT, ts', he, hz, hd, h1, hr⟩ := id flb
      unfold PySem.passOn
      refine wpAny_bind (wpAny_field he hd h1 ?_)
      rw [if_neg (show ¬ ((Value.ref T == Value.none) = true) from by simp)]
      have lifted : wpAny (model X.prog X.w) X.A (setFlight (.ref a) X.env.frame) (fun _ s4 => wpAny (model X.prog X.w) X.A (throw (.ref a) : Sem Flow) (SP X pins D) X.xe s4) X.xe { s' with heap := hpb } := by
        rw [hf]
        refine HandSPX.setFlight_upZ flb fun h4 hh4 up4 => wpAny_throw (tk _ _ ?_)
        exact ⟨a, B, sI, pins, σ', H', cls, d, rfl, Jx, ground, (up.trans upb).trans up4, .inr (.inr (by rw [hs]; exact hh4)), freea, oseq, bare, flown rfl⟩
      first
        | exact wpAny_bind (wpAny_pure (wpAny_bind lifted))
        | exact wpAny_bind lifted
  · cases f with
    | next =>
      obtain ⟨σ', H', Jw, q⟩ := ends
      exact wpAny_execs_nil ⟨σ', H', Jw.ofTry ok, q⟩
    | brk =>
      obtain ⟨σ', H', Jw, q⟩ := ends
      exact ⟨σ', H', Jw.ofTry ok, q⟩
    | cont =>
      obtain ⟨σ', H', Jw, q⟩ := ends
      exact ⟨σ', H', Jw.ofTry ok, q⟩
    | ret u =>
      obtain ⟨v, σ', H', Jw, r, q⟩ := ends
      exact ⟨v, σ', H', Jw.ofTry ok, r, q⟩
end
end SC
set_option maxRecDepth 100000
set_option maxHeartbeats 2000000
/-! # Part Lx: a list comprehension whose element may raise -/
namespace SC
open PySem PySem.Spec PyProof.Rows L2 TL
/-- an exception out of a call in the element goes on in the def's own frame -/
theorem passes_comp {X : Cx} {pins : List (Addr × Obj)} {σ : L2.St} {H3 : Hp} {s3 : Shared} {scope : Scope} {ce : PySem.Env} {fp : List Addr} {W : WX} (hs : X.stack = X.env :: X.outer) (hf : X.env.frame = some X.env.locals) (tk : Takes X W) (I3 : Inv X pins σ H3 s3)
    (f3 : ∀ b ∈ fp, FpOk X pins H3 b ∧ b < s3.heap.objs.size) (hcf : ce.frame = X.env.frame) (cL : ce.locals = s3.heap.objs.size) :
    Passes (L2.CX X.prog X.w) ((X.blk s3 H3 scope ce fp).wish (notedBy (model X.prog X.w) X.A ce (fun e s' => CompFails (model X.prog X.w) X.A X.xe ce e s'))) (fun cls d H => W cls d σ H) := by
  intro pinsb σb Hb sb e s' Ib c
  obtain ⟨a, B0, H0', cls0, d0, e0, fl0, _⟩ := id c
  have x := XE.of_call (W := fun cls d _ H => W cls d σ H) Ib (fun _ _ _ h => h) c
  obtain ⟨a1, B, sI, pins', σ', H', cls, d, e', J', nb, up, sky, na, os, ag, w⟩ := x
  rw [e0] at e'
  cases e'
  subst e0
  have fl : HandSPX.FlyingZ B X.stack a (Zc cls d) s'.heap := by
    obtain ⟨_, _, _, oe0, vs0, T0, oT0, ts0, he0, _, hd0, h10, _, _, hT0, hdT0, h30⟩ := fl0
    rcases sky with ⟨_, _, _, oe, vs, he, _, hd, h1⟩ | fl | ⟨_, _, _, oe, vs, T, oT, ts, he, _, hd, h1, _, _, hT, hdT, h3⟩
    · rw [he0] at he
      cases he
      rw [hd0] at hd
      cases hd
      rw [h10] at h1
      cases h1
    · exact fl
    · rw [he0] at he
      cases he
      rw [hd0] at hd
      cases hd
      rw [h10] at h1
      cases h1
      rw [hT0] at hT
      cases hT
      rw [hdT0] at hdT
      cases hdT
      rw [h30] at h3
      cases h3
  have J : Inv (X.blk s3 H3 scope ce fp) pins' σ' H' sI := J'.unwish
  have I7 : Inv X pins σ H' sI := I3.call' (ch := fp) J.os J.base J.hok J.bare fun b hb => ⟨(f3 b hb).1.2.2.2.1, (f3 b hb).1.2.1, (f3 b hb).1.2.2.2.2.1, (f3 b hb).1.2.2.2.2.2⟩
  have hfr : X.A.frames = some (X.env :: X.outer) := by rw [I3.ok.frames, hs]
  have flx : HandSPX.FlyingZ B (X.env :: X.outer) a (Zc cls d) s'.heap := by rw [← hs]; exact fl
  show wpAny _ X.A (noteFrame (.ref a) ce) _ _ s'
  rw [noteFrame_env _ hcf]
  refine HandSPX.looks_onZ Zc.steady hfr hf flx fun h1 hh1 up1 => ?_
  obtain ⟨m, hn, _⟩ := J.loc
  have hn : sI.heap.Ns ce.locals m := hn
  have hn1 : h1.Ns ce.locals m := (hn.upToSlots up).upToSlots up1
  refine ⟨m, hn1, fun h2 m2 hn2 hs2 => ?_⟩
  obtain ⟨b1, b0, f1, t1⟩ := hh1
  have nC : H' ce.locals = none := J.free
  obtain ⟨G, g1, g2⟩ := restrict sI.heap fun b => decide (b ≠ ce.locals)
  have gk : ∀ b, b ≠ ce.locals → G.get? b = sI.heap.get? b := fun b n1 => g1 b (by simp [n1])
  have gC : G.get? ce.locals = none := g2 _ (by simp)
  have gn : ∀ b o, G.get? b = some o → b ≠ ce.locals := fun b o e z => by rw [z, gC] at e; cases e
  have gs : ∀ b o, G.get? b = some o → sI.heap.get? b = some o := fun b o e => by
    rw [← gk b (gn b o e)]
    exact e
  have lt3 : ∀ b, b < s3.heap.objs.size → b ≠ ce.locals := fun b hb z => by
    rw [z, cL] at hb
    exact Nat.lt_irrefl _ hb
  have IG : Inv X [] σ H' { sI with heap := G } := inv_drop2 (a := ce.locals) (T := ce.locals) I7 (fun b n1 _ => gk b n1) (fun b o e _ => ⟨lt3 b (Nat.lt_of_lt_of_le (Heap.lt_size e) I3.sz), lt3 b (Nat.lt_of_lt_of_le (Heap.lt_size e) I3.sz)⟩)
    ⟨lt3 _ I3.lt, lt3 _ I3.lt⟩ (fun c v z => by
      have n : c ≠ ce.locals := fun y => by
        obtain ⟨o, c1, c2⟩ := z
        obtain ⟨oL, es, ep, l1, l2, _⟩ := hn
        rw [y, l1] at c1
        cases c1
        rw [l2] at c2
        cases c2
      exact ⟨n, n⟩) (fun p hp => by
      have n := lt3 p.1 (Heap.lt_size (I3.pin p (List.mem_append_left _ hp)).1)
      exact ⟨n, n⟩) nC nC
  have hideC : (PySem.W.hideAll B [ce.locals]).get? ce.locals = none := PySem.W.hideAll_none _ (List.mem_singleton.mpr rfl)
  have hideN : ∀ b, B.get? b = none → (PySem.W.hideAll B [ce.locals]).get? b = none := fun b hb => by
    cases q : (PySem.W.hideAll B [ce.locals]).get? b with
    | none => rfl
    | some o =>
      have z := PySem.W.of_hideAll _ q
      rw [hb] at z
      cases z
  obtain ⟨oe, vs, T, oT, ts, he, hz, hd, h1v, hBT, hTa, hT, hdT, h3v⟩ := id t1
  have noC : ∀ {b : Addr} {o : Obj} {us : Array Value}, h1.get? b = some o → o.data = .fields us → b ≠ ce.locals := fun {b o us} e1 e2 z => by
    obtain ⟨oL, es, ep, l1, l2, _⟩ := hn1
    rw [z, l1] at e1
    cases e1
    rw [l2] at e2
    cases e2
  have nae := noC he hd
  have nTe := noC hT hdT
  have he2 : h2.get? a = some oe := (hs2.2 a nae).trans he
  have held : HandSPX.HeldZ (PySem.W.hideAll B [ce.locals]) (X.env :: X.outer) a (Zc cls d) X.env.locals h2 := by
    refine ⟨fun b o q => ?_, hideN a b0, funFrames_none (Heap.FunFrames.sameBut hs2 hn2 f1) fun L hL => hideN L (f1.mem hL).1, oe, vs, T, oT, ts, he2, hz, hd, h1v, hideN T hBT, hTa, (hs2.2 T nTe).trans hT, hdT, h3v⟩
    have n : b ≠ ce.locals := fun z => by rw [z, hideC] at q; cases q
    exact (hs2.2 b n).trans (b1 b o (PySem.W.of_hideAll _ q))
  unfold PySem.passOn
  refine wpAny_bind (wpAny_field he2 hd h1v ?_)
  rw [if_neg (show ¬ ((Value.ref T == Value.none) = true) from by simp)]
  have fin : wpAny (model X.prog X.w) X.A (setFlight (.ref a) ce.frame) (fun _ s4 => wpAny (model X.prog X.w) X.A (throw (.ref a) : Sem Value) (fun _ _ => False) X.xe s4) X.xe { s' with heap := h2 } := by
    rw [hcf, hf]
    refine HandSPX.setFlight_onZ held fun h3 hh3 up3 => wpAny_throw (tk _ _ ?_)
    refine ⟨a, PySem.W.hideAll B [ce.locals], { sI with heap := G }, [], σ, H', cls, d, rfl, IG, fun b o e hb => PySem.W.hideAll_get _ (nb b o (gs b o e) hb) (fun z => gn b o e (List.mem_singleton.mp z)), ?_, .inr (.inr ?_), na, os, ag, w⟩
    · have u1 : G.UpToSlots h1 := (((Heap.UpToSlots.of_keeps gs).trans up).trans up1)
      have u2 : G.UpToSlots h2 := fun b o e nf => by
        obtain ⟨sl, q⟩ := u1 b o e nf
        exact ⟨sl, (hs2.2 b (gn b o e)).trans q⟩
      exact u2.trans up3
    · exact (congrArg (fun l => HandSPX.HeldZ (PySem.W.hideAll B [ce.locals]) l a (Zc cls d) X.env.locals h3) hs).mpr hh3
  first
    | exact wpAny_bind (wpAny_pure (wpAny_bind fin))
    | exact wpAny_bind fin
end SC
namespace SC
open PySem PySem.Spec PyProof.Rows L2 TL
section
variable {X : Cx} {elt tg iter : Expr} {scope : Scope} {own : List (Str × Nat)} {pos : Pos} {wi : TI} {g : TG} {te : XK → TE} {Wx : WX}
/-- [elt for tg in iter], where a call in elt may raise -/
theorem pe_lcX (calm : X.calm = true) (nd : X.N.Nodup) (hst : X.stack = X.env :: X.outer) (hfrm : X.env.frame = some X.env.locals) (tk : Takes X Wx) (hi : PI X tg iter wi) (bo : BlkOk X.N X.env.scope scope own)
    (hg : ∀ (s : Shared) (H : Hp) (C : Addr) (cl : List (Str × Addr)) (fp : List Addr), PG (X.blk s H scope (compEnvC scope cl C X.env) fp) tg g)
    (hel : ∀ (s : Shared) (H : Hp) (C : Addr) (cl : List (Str × Addr)) (fp : List Addr) (xe : Value → Shared → Prop) (E : XK), Passes (L2.CX X.prog X.w) ((X.blk s H scope (compEnvC scope cl C X.env) fp).wish xe) E → PE ((X.blk s H scope (compEnvC scope cl C X.env) fp).wish xe) elt (te E))
    (hfold : ∀ x, foldedSetIterable iter X.env x = pure x := by intro _; rfl) : PE X (.ListComp elt [⟨tg, iter, [], 0⟩] scope pos) (fun σ H Q => tLc wi g tYes (te fun cls d H' => Wx cls d σ H') (own.map (·.2)) σ H Q) := by
  refine ⟨fun pins s σ H Q I want => ?_⟩
  have captured : ∀ z ∈ scope.names, z.2 = .free → ∃ c, X.env.cells.lookup z.1 = some c := fun z hz ez => I.ok.has _ (bo.free z hz ez)
  rw [eval_ListComp]
  refine comprehension_at (use := none) rfl hfold (closure_ok captured) bo.kind (fun z hz ez => (bo.uniq z hz).trans (by rw [ez])) (thn (hi.run pins s σ H _ I want) fun src sa ha => thn ha fun itr sb hb => ?_)
  obtain ⟨it, fp, tn, Jt, Hb, rfl, Ib, T, tb0, fpb, more⟩ := hb
  refine wpAny_newObj_type (newEnv_comp ?_) (by show 0 ≤ sizeLine; decide)
  -- the new list, at the heap's end
  obtain ⟨D, eD⟩ : ∃ D, D = sb.heap.objs.size := ⟨_, rfl⟩
  obtain ⟨sc, esc⟩ : ∃ sc : Shared, sc = { sb with heap := sb.heap.push { cls := .type "list", data := .seq ([] : List Value).toArray } } := ⟨_, rfl⟩
  have freeD : Hb D = none := Ib.hok.fresh (Nat.le_of_eq eD.symm)
  have pushed : ∀ b o, sb.heap.get? b = some o → sc.heap.get? b = some o := fun b o q => by rw [esc]; exact Heap.get?_push_of_some _ q
  have grown : sc.heap.objs.size = sb.heap.objs.size + 1 := by rw [esc]; exact Heap.size_push ..
  have Ic : Inv X pins σ (upd Hb D (.lst [])) sc := by
    rw [esc]
    exact Ib.laid (t' := sb.toks) (fun b o q => Heap.get?_push_of_some _ q) (Nat.le_of_eq eD.symm) ⟨Nat.zero_le _, [], 0, .nil, by rw [eD]; exact Heap.get?_push_size _ rfl⟩
  obtain ⟨W, ⟨n0, start0⟩, turns⟩ := more D freeD
  have fpc : ∀ b ∈ fp, FpOk X pins (upd Hb D (.lst [])) b ∧ b < sc.heap.objs.size := fun b hb => by
    obtain ⟨o, q, _⟩ := T.obj _ _ tb0 b hb
    have small := Heap.lt_size q
    exact ⟨⟨(upd_ne (by rw [eD]; exact Nat.ne_of_lt small)).trans (fpb b hb).1, (fpb b hb).2⟩, by rw [grown]; exact Nat.lt_succ_of_lt small⟩
  have tc0 : tn 0 sc.heap := T.keep _ _ _ tb0 fun b _ o q => pushed b o q
  have Id := block_start Ic bo nd fpc
  obtain ⟨cl, ecl⟩ : ∃ cl, cl = cellsFrom (sc.heap.objs.size + 1) scope.names (cloFrom X.env.cells scope.names []) := ⟨_, rfl⟩
  obtain ⟨ce, ece⟩ : ∃ ce, ce = compEnvC scope cl sc.heap.objs.size X.env := ⟨_, rfl⟩
  obtain ⟨Hc, eHc⟩ : ∃ Hc, Hc = upd Hb D (.lst []) := ⟨_, rfl⟩
  obtain ⟨sd, esd⟩ : ∃ sd : Shared, sd = { sc with heap := pushCells (sc.heap.push { cls := .type "dict", data := .dict #[] }) scope.names } := ⟨_, rfl⟩
  have atC : ce.locals = sc.heap.objs.size := by rw [ece]; rfl
  have frm : ce.frame = X.env.frame := by rw [ece]; rfl
  have pgo := hg sc Hc sc.heap.objs.size cl fp
  have peo := fun xe => hel sc Hc sc.heap.objs.size cl fp xe (fun cls d H' => Wx cls d σ H')
  rw [← ece] at pgo peo
  rw [← eHc] at Ic start0 fpc
  rw [← ecl, ← ece, ← eHc, ← esd] at Id
  show codeAny _ _ (.compStart (.ListComp elt [⟨tg, iter, [], 0⟩] scope pos) 0 (.ref it) (.ref sb.heap.objs.size) _) (compEnds (model X.prog X.w) X.A X.xe none _ (.ref sb.heap.objs.size) _) _
  rw [← eD, ← esc]
  have td0 : tn 0 sd.heap := T.keep _ _ _ tc0 fun b _ o q => by rw [esd]; exact pushCells_keeps _ _ _ _ (Heap.get?_push_of_some _ q)
  have fpIn : ∀ {σ' : L2.St} {H' : Hp} {s' : Shared}, Inv (X.blk sc Hc scope ce fp) [] σ' H' s' → (∀ b ∈ fp, H' b = none) → ∀ b ∈ fp, FpOk (X.blk sc Hc scope ce fp) [] H' b := fun {_ _ _} Iz nz b hb =>
    ⟨nz b hb, (Iz.ok.exf b hb).1, Iz.ok.exfs b hb, .inl hb, (Iz.ok.exf b hb).2, fun p hp => by simp at hp⟩
  have looped : codeAny (model X.prog X.w) X.A (.compLoop (.ListComp elt [⟨tg, iter, [], 0⟩] scope pos) 0 (.ref it) (.ref D) ce) (compEnds (model X.prog X.w) X.A X.xe none (EP X pins σ Q) (.ref D) ce) sd := by
    refine compLoop_any (fun n s' => ∃ j H', Inv (X.blk sc Hc scope ce fp) [] (wipe σ (own.map (·.2))) H' s' ∧ tn j s'.heap ∧ (∀ b ∈ fp, H' b = none) ∧ W j n H') ?_ n0 ⟨0, Hc, Id, td0, fun b hb => (fpc b hb).1.1, start0⟩
    rintro n se ⟨j, He, Ie, te0, ne, we⟩
    rcases turns j n He we with ⟨stop, done⟩ | ⟨go, Nx, onward, turn⟩
    · refine thnF (T.done (X.blk sc Hc scope ce fp) rfl rfl rfl calm j [] se _ He (fun _ _ => False) Ie (fpIn Ie ne) te0 stop) fun r sf ⟨er, If⟩ => ?_
      subst er
      have Iback : Inv X pins σ He sf := Ic.call' (ch := fp) If.os If.base If.hok If.bare fun b hb => ⟨(fpc b hb).1.2.2.2.1, (fpc b hb).1.2.1, (fpc b hb).1.2.2.2.2.1, (fpc b hb).1.2.2.2.2.2⟩
      have none0 : He ce.locals = none := If.free
      obtain ⟨m, ns, _⟩ := If.loc
      have fz := Ic.fpOk (b := ce.locals) (H' := He) (Nat.le_of_eq atC.symm) none0
      obtain ⟨z0, z1, z2, z3, z4, z5⟩ := fz
      exact ⟨m, ns, fun h' same => ⟨.ref D, He, Iback.turned (t' := sf.toks) (fun b o ne q => (same.2 b ne).trans q) z0 z1 z3 z4 z5, rfl, done⟩⟩
    · refine thnF (T.item (X.blk sc Hc scope ce fp) rfl rfl rfl calm j [] se _ He (fun _ _ => False) Ie (fpIn Ie ne) te0 go) fun r sf ⟨u, er, hf⟩ => ?_
      subst er
      refine thnF hf fun _ sg ⟨x, Hg, Ig, rg, yg, tg0, ng⟩ => ?_
      have Ip := Ig.pinned (fpIn Ig ng) (T.obj _ _ tg0)
      refine thnF (pgo.run _ sg _ Hg x u _ Ip rg (turn x Hg yg)) fun _ sh ⟨σh, Hh, Ih, wiped, qh⟩ => ?_
      refine thnF ((pts_nil (X := X.blk sc Hc scope ce fp)).run _ sh σh Hh _ Ih qh) fun b si ⟨Hi, Ii, qi⟩ => ?_
      have close : ∀ {s' : Shared} {H' : Hp}, Inv (X.blk sc Hc scope ce fp) ([] ++ pinsAt fp sg.heap) σh H' s' → Nx H' → ∃ m, m < n ∧ ∃ j H', Inv (X.blk sc Hc scope ce fp) [] (wipe σ (own.map (·.2))) H' s' ∧ tn j s'.heap ∧ (∀ b ∈ fp, H' b = none) ∧ W j m H' := fun {s' H'} Iz nx => by
        obtain ⟨k, less, wk⟩ := onward H' nx
        have kept : ∀ b ∈ fp, ∀ o, sg.heap.get? b = some o → s'.heap.get? b = some o ∧ H' b = none := fun b hb o q => by
          obtain ⟨q1, q2, _⟩ := Iz.pin (b, o) (List.mem_append_right _ (List.mem_append_right _ (mem_pinsAt hb q)))
          exact ⟨q1, q2⟩
        refine ⟨k, less, j + 1, H', (Iz.unpinned (pins := [])).weak (by rw [← wiped, wipe_length]) (fun l v q => (wipe_some (by rw [wiped]; exact q)).1), T.keep _ _ _ tg0 fun b hb o q => (kept b hb o q).1, fun b hb => ?_, wk⟩
        obtain ⟨o, q, _⟩ := T.obj _ _ tg0 b hb
        exact (kept b hb o q).2
      cases b with
      | false => exact close Ii (by simpa using qi)
      | true =>
        rw [if_pos rfl] at qi ⊢
        have ran := (peo _ (passes_comp (scope := scope) hst hfrm tk Ic fpc frm atC)).run _ si σh Hi _ (Ii.wish _) qi
        refine wpAny_mono ran (fun z sj hz => ?_) (fun e sj hz => hz)
        obtain ⟨yv, Hj, Ij, rj, acc, q1, q2, nx⟩ := hz
        exact app_ok (X := X.blk sc Hc scope ce fp) Ij.unwish q1 q2 rj fun sk Ik => close Ik nx
  rw [← ecl]
  show codeAny _ _ (.compStart _ 0 _ _ (compEnvC scope cl sc.heap.objs.size X.env)) (compEnds _ _ _ none _ _ (compEnvC scope cl sc.heap.objs.size X.env)) _
  rw [← ece, ← esd]
  exact codeAny_compStart_list looped (T.self X.A 0 _ _ _ td0 looped)
end
end SC
set_option maxRecDepth 100000
set_option maxHeartbeats 2000000
namespace SC
open PySem PySem.Spec PyProof.Rows L2 TL
section
variable {P : Program} {w : World} {K : PySem.W.Frag} {mg : Str → Option Value} {base : Heap}
theorem sc_within : FnScope ["value", "least", "most"] ["value", "least", "most"] (defScope s_is_within) := ⟨rfl, rfl, rfl, by decide +kernel, rfl, by decide +kernel, by decide +kernel⟩
theorem ok_within {f : Addr} {fd : FuncData} (F : Fun K "is_within" "is_within" s_is_within f fd) (B : Bln mg) : FnOk P w K mg base CX0 1 f fd ["value", "least", "most"] (spWithin K) := by
  refine F.ok sc_within (fun vs H Q E h => ?_) (fun cdv A outer s H vs Q E hr h => ?_)
  · obtain ⟨v, lo, hi, rfl, _⟩ := h
    rfl
  · obtain ⟨v, lo, hi, rfl, h⟩ := h
    refine ⟨_, pss_cons (ps_if (PW.pt (pw_or (pt_not (pt_val (pe_callB call_isi (by rfl) B.isinstance boot_isinstance' (pa_cons (pv 0) (pa_cons (pe_bltn (v := .ty "int") (by rfl) B.int boot_int' rfl) pa_nil)))))
        (pw_or1 (pt_val (pe_callB call_isi (by rfl) B.isinstance boot_isinstance' (pa_cons (pv 0) (pa_cons (pe_bltn (v := .ty "bool") (by rfl) B.bool boot_bool' rfl) pa_nil)))))))
        (pss_one (ps_ret pe_bl)) pss_nil)
      (pss_one (ps_ret (pe_chain op_le op_le (pv 1) (pv 0) (pv 2)))), ?_⟩
    rcases h with ⟨i, rfl, q⟩ | ⟨T, hT, ty, q⟩
    · refine ⟨_, rfl, _, _, _, _, _, rfl, .ty "int", .base (.int i), kit_ty (by decide +kernel), true, rfl, ?_⟩
      refine iteF ?_
      refine ⟨_, rfl, _, _, _, _, _, rfl, .ty "bool", .base (.int i), kit_ty (r := false) (by decide +kernel), false, rfl, ?_⟩
      refine iteF ?_
      refine ⟨_, rfl, _, rfl, _, _, rfl, rfl, _, rfl, ?_⟩
      by_cases h1 : lo ≤ i
      · rw [decide_eq_true h1] at q ⊢
        refine iteT ⟨_, rfl, _, _, rfl, rfl, q⟩
      · rw [decide_eq_false h1] at q ⊢
        exact iteF q
    · by_cases hb : T = "bool"
      · subst hb
        refine ⟨_, rfl, _, _, _, _, _, rfl, .ty "int", ty, kit_ty (r := true) (by decide +kernel), true, rfl, iteF ?_⟩
        exact ⟨_, rfl, _, _, _, _, _, rfl, .ty "bool", ty, kit_ty (r := true) (by decide +kernel), true, rfl, iteT q⟩
      · exact ⟨_, rfl, _, _, _, _, _, rfl, .ty "int", ty, odd_int hT hb, false, rfl, iteT (iteT q)⟩
theorem sc_number : FnScope ["value"] ["value"] (defScope s_is_number) := ⟨rfl, rfl, rfl, by decide +kernel, rfl, by decide +kernel, by decide +kernel⟩
theorem ok_number {f g : Addr} {fd gd : FuncData} (F : Fun K "is_number" "is_number" s_is_number f fd) (G : Fun K "is_within" "is_within" s_is_within g gd) (B : Bln mg) (hg : mg "is_within" = some (.ref g)) {t : Tok} (hL : mg "LIMIT" = some (.int 1000000000 t)) :
    FnOk P w K mg base CX0 2 f fd ["value"] (spNumber K) := by
  have GW : FnOk P w K mg base CX0 1 g gd ["value", "least", "most"] (spWithin K) := ok_within G B
  have bW := G.binds (ps := ["value", "least", "most"]) fun _ _ _ _ _ _ us hl => match us, hl with | [_, _, _], _ => rfl
  refine F.ok sc_number (fun vs H Q E h => ?_) (fun cdv A outer s H vs Q E hr h => ?_)
  · obtain ⟨v, rfl, _⟩ := h
    rfl
  · obtain ⟨v, rfl, h⟩ := h
    refine ⟨_, pss_one (ps_ret (pe_call GW hr (by rfl) hg G.kp bW .nil pass0 (pa_cons (pv 0) (pa_cons (pe_un un_neg (pe_glob (v := .int 1000000000) (by rfl) hL ⟨_, rfl⟩)) (pa_cons (pe_glob (v := .int 1000000000) (by rfl) hL ⟨_, rfl⟩) pa_nil))))), ?_⟩
    refine ⟨_, rfl, _, rfl, v, -1000000000, 1000000000, rfl, ?_⟩
    exact h
theorem en_ok {i : Int} (hn : numOk i) : (decide (-1000000000 ≤ i) && decide (i ≤ 1000000000)) = true := by
  rw [decide_eq_true hn.1, decide_eq_true hn.2]
  rfl
theorem en_no {i : Int} (hn : ¬ numOk i) : (decide (-1000000000 ≤ i) && decide (i ≤ 1000000000)) = false := by
  cases h1 : (decide (-1000000000 ≤ i) && decide (i ≤ 1000000000)) with
  | false => rfl
  | true =>
    obtain ⟨z1, z2⟩ := He.ba h1
    exact absurd ⟨of_decide_eq_true z1, of_decide_eq_true z2⟩ hn
theorem sc_checknum : FnScope ["value"] ["value"] (defScope s_check_number) := ⟨rfl, rfl, rfl, by decide +kernel, rfl, by decide +kernel, by decide +kernel⟩
theorem ok_checknum {f g : Addr} {fd gd : FuncData} (F : Fun K "check_number" "check_number" s_check_number f fd) (G : FnOk P w K mg base CX0 2 g gd ["value"] (spNumber K)) (bG : Binds K gd ["value"] []) (kG : PySem.W.keepIn K (.ref g) = true) (hg : mg "is_number" = some (.ref g)) (X : Err0 K mg "InvalidNumber") :
    FnOk P w K mg base (L2.CX P w) 3 f fd ["value"] (spCheckNum K) := by
  refine F.okX sc_checknum (fun vs H Q E h => ?_) (fun cdv A outer s H vs Q E hr h => ?_)
  · obtain ⟨v, rfl, _⟩ := h
    rfl
  · obtain ⟨v, rfl, h⟩ := h
    refine ⟨_, pss_one (ps_if (pt_not (pt_val (pe_call G hr (by rfl) hg kG bG .nil pass0 (pa_cons (pv 0) pa_nil)))) (pss_one (ps_raise rfl (takes_of rfl rfl rfl rfl) (pmk_own PySem.F.excBase_ValueError X.ex X.gl X.kp (raises_own X.sb X.ty) (by exact rfl)))) pss_nil), ?_⟩
    rcases h with ⟨i, rfl, q1, q2⟩ | ⟨T0, hT, ty, q⟩
    · refine ⟨_, rfl, _, rfl, .inl ⟨i, rfl, _, rfl, ?_⟩⟩
      by_cases hn : numOk i
      · rw [en_ok hn]
        exact iteF (q1 hn)
      · rw [en_no hn]
        exact iteT (q2 hn)
    · exact ⟨_, rfl, _, rfl, .inr ⟨T0, hT, ty, _, rfl, iteT q⟩⟩
theorem sc_ninit : FnScope ["self", "mark"] ["self", "mark"] (defScope s_Near_init) := ⟨rfl, rfl, rfl, by decide +kernel, rfl, by decide +kernel, by decide +kernel⟩
theorem ok_ninit {f g : Addr} {fd gd : FuncData} (F : Fun K "__init__" "Near.__init__" s_Near_init f fd) (G : FnOk P w K mg base (L2.CX P w) 3 g gd ["value"] (spCheckNum K)) (bG : Binds K gd ["value"] []) (kG : PySem.W.keepIn K (.ref g) = true) (hg : mg "check_number" = some (.ref g)) (T : Cells K mg) :
    FnOk P w K mg base (L2.CX P w) 4 f fd ["self", "mark"] (spNearInit K) := by
  refine F.okX sc_ninit (fun vs H Q E h => ?_) (fun cdv A outer s H vs Q E hr h => ?_)
  · obtain ⟨a, dx, v, rfl, _⟩ := h
    rfl
  · obtain ⟨a, dx, v, rfl, ha, h⟩ := h
    refine ⟨_, pss_cons (ps_expr (pe_call G hr (by rfl) hg kG bG .nil (passes_call (takes_of rfl rfl rfl rfl) (fun _ _ _ _ h => h)) (pa_cons (pv 1) pa_nil)))
      (pss_one (ps_fld (pv 0) (pv 1) rfl)), ?_⟩
    rcases h with ⟨i, rfl, q1, q2⟩ | ⟨T0, hT, ty, q⟩
    · exact ⟨_, rfl, _, rfl, .inl ⟨i, rfl, fun hn => ⟨_, rfl, _, rfl, a, _, dx, [], rfl, ha, T.cls .near, T.noM, (by show 0 < 1000; decide), q1 hn⟩, q2⟩⟩
    · exact ⟨_, rfl, _, rfl, .inr ⟨T0, hT, ty, q⟩⟩
/-! ### what a cell does with two numbers -/
theorem sc_call {st : Stmt} (h : FnScope ["self", "held", "came"] ["self", "held", "came"] (defScope st)) : FnScope ["self", "held", "came"] ["self", "held", "came"] (defScope st) := h
theorem sc_Cell_call : FnScope ["self", "held", "came"] ["self", "held", "came"] (defScope s_Cell_call) := ⟨rfl, rfl, rfl, by decide +kernel, rfl, by decide +kernel, by decide +kernel⟩
theorem ok_Cell_call {f : Addr} {fd : FuncData} (F : Fun K "__call__" "Cell.__call__" s_Cell_call f fd) (B : Bln mg) (T : Cells K mg) : FnOk P w K mg base CX0 1 f fd ["self", "held", "came"] (spCall K .first) := by
  refine F.ok sc_Cell_call (fun vs H Q E h => ?_) (fun cdv A outer s H vs Q E hr h => ?_)
  · obtain ⟨a, r, h, c, rfl, _⟩ := h
    rfl
  · obtain ⟨a, r, h, c, rfl, hk, ca, q⟩ := h
    cases r with
    | first =>
      refine ⟨_, pss_one (ps_ret (pe_tup (pa_cons (pv 1) (pa_cons (pv 2) pa_nil)))), ?_⟩
      exact ⟨_, rfl, _, rfl, (by show 2 ≤ sizeLine; decide), fun p hp => q p hp⟩
    | _ => cases hk
theorem sc_Last_call : FnScope ["self", "held", "came"] ["self", "held", "came"] (defScope s_Last_call) := ⟨rfl, rfl, rfl, by decide +kernel, rfl, by decide +kernel, by decide +kernel⟩
theorem ok_Last_call {f : Addr} {fd : FuncData} (F : Fun K "__call__" "Last.__call__" s_Last_call f fd) (B : Bln mg) (T : Cells K mg) : FnOk P w K mg base CX0 1 f fd ["self", "held", "came"] (spCall K .last) := by
  refine F.ok sc_Last_call (fun vs H Q E h => ?_) (fun cdv A outer s H vs Q E hr h => ?_)
  · obtain ⟨a, r, h, c, rfl, _⟩ := h
    rfl
  · obtain ⟨a, r, h, c, rfl, hk, ca, q⟩ := h
    cases r with
    | last =>
      refine ⟨_, pss_one (ps_ret (pe_tup (pa_cons (pv 2) (pa_cons (pv 1) pa_nil)))), ?_⟩
      exact ⟨_, rfl, _, rfl, (by show 2 ≤ sizeLine; decide), fun p hp => q p hp⟩
    | _ => cases hk
theorem sc_Less_call : FnScope ["self", "held", "came"] ["self", "held", "came"] (defScope s_Less_call) := ⟨rfl, rfl, rfl, by decide +kernel, rfl, by decide +kernel, by decide +kernel⟩
theorem ok_Less_call {f : Addr} {fd : FuncData} (F : Fun K "__call__" "Less.__call__" s_Less_call f fd) (B : Bln mg) (T : Cells K mg) : FnOk P w K mg base CX0 1 f fd ["self", "held", "came"] (spCall K .less) := by
  refine F.ok sc_Less_call (fun vs H Q E h => ?_) (fun cdv A outer s H vs Q E hr h => ?_)
  · obtain ⟨a, r, h, c, rfl, _⟩ := h
    rfl
  · obtain ⟨a, r, h, c, rfl, hk, ca, q⟩ := h
    cases r with
    | less =>
      refine ⟨_, pss_cons (ps_if (pt_cmpR op_lt (pv 2) (pv 1) (nomark _)) (pss_one (ps_ret (pe_tup (pa_cons (pv 2) (pa_cons (pv 1) pa_nil))))) pss_nil) (pss_one (ps_ret (pe_tup (pa_cons (pv 1) (pa_cons (pv 2) pa_nil))))), ?_⟩
      refine ⟨_, rfl, _, rfl, _, _, rfl, rfl, _, rfl, ?_⟩
      by_cases hc : c < h
      · rw [decide_eq_true hc]
        refine iteT ⟨_, rfl, _, rfl, (by show 2 ≤ sizeLine; decide), fun p hp => ?_⟩
        have z := q p hp
        rw [show (Rule.less).keep h c = (c, h) from if_pos hc] at z
        exact z
      · rw [decide_eq_false hc]
        refine iteF ⟨_, rfl, _, rfl, (by show 2 ≤ sizeLine; decide), fun p hp => ?_⟩
        have z := q p hp
        rw [show (Rule.less).keep h c = (h, c) from if_neg hc] at z
        exact z
    | _ => cases hk
theorem sc_Greater_call : FnScope ["self", "held", "came"] ["self", "held", "came"] (defScope s_Greater_call) := ⟨rfl, rfl, rfl, by decide +kernel, rfl, by decide +kernel, by decide +kernel⟩
theorem ok_Greater_call {f : Addr} {fd : FuncData} (F : Fun K "__call__" "Greater.__call__" s_Greater_call f fd) (B : Bln mg) (T : Cells K mg) : FnOk P w K mg base CX0 1 f fd ["self", "held", "came"] (spCall K .greater) := by
  refine F.ok sc_Greater_call (fun vs H Q E h => ?_) (fun cdv A outer s H vs Q E hr h => ?_)
  · obtain ⟨a, r, h, c, rfl, _⟩ := h
    rfl
  · obtain ⟨a, r, h, c, rfl, hk, ca, q⟩ := h
    cases r with
    | greater =>
      refine ⟨_, pss_cons (ps_if (pt_cmpR op_gt (pv 2) (pv 1) (nomark _)) (pss_one (ps_ret (pe_tup (pa_cons (pv 2) (pa_cons (pv 1) pa_nil))))) pss_nil) (pss_one (ps_ret (pe_tup (pa_cons (pv 1) (pa_cons (pv 2) pa_nil))))), ?_⟩
      refine ⟨_, rfl, _, rfl, _, _, rfl, rfl, _, rfl, ?_⟩
      by_cases hc : h < c
      · rw [decide_eq_true hc]
        refine iteT ⟨_, rfl, _, rfl, (by show 2 ≤ sizeLine; decide), fun p hp => ?_⟩
        have z := q p hp
        rw [show (Rule.greater).keep h c = (c, h) from if_pos hc] at z
        exact z
      · rw [decide_eq_false hc]
        refine iteF ⟨_, rfl, _, rfl, (by show 2 ≤ sizeLine; decide), fun p hp => ?_⟩
        have z := q p hp
        rw [show (Rule.greater).keep h c = (h, c) from if_neg hc] at z
        exact z
    | _ => cases hk
theorem sc_Near_call : FnScope ["self", "held", "came"] ["self", "held", "came"] (defScope s_Near_call) := ⟨rfl, rfl, rfl, by decide +kernel, rfl, by decide +kernel, by decide +kernel⟩
theorem ok_Near_call {f : Addr} {fd : FuncData} (F : Fun K "__call__" "Near.__call__" s_Near_call f fd) (B : Bln mg) (T : Cells K mg) : FnOk P w K mg base CX0 1 f fd ["self", "held", "came"] (spCall K .near) := by
  refine F.ok sc_Near_call (fun vs H Q E h => ?_) (fun cdv A outer s H vs Q E hr h => ?_)
  · obtain ⟨a, r, h, c, rfl, _⟩ := h
    rfl
  · obtain ⟨a, r, h, c, rfl, hk, ca, q⟩ := h
    cases r with
    | near m =>
      obtain ⟨hok, dx, ha⟩ := ca
      have l : (Rule.near m).fs.lookup ("mark" : Str) = some (.int m) := by simp [Rule.fs, List.lookup]
      refine ⟨_, pss_cons (ps_if (pt_cmpR op_lt (pe_callB call_abs (by rfl) B.abs boot_abs' (pa_cons (pe_op op_sub (pv 2) (pe_fld (pv 0) rfl)) pa_nil)) (pe_callB call_abs (by rfl) B.abs boot_abs' (pa_cons (pe_op op_sub (pv 1) (pe_fld (pv 0) rfl)) pa_nil)) (nomark _)) (pss_one (ps_ret (pe_tup (pa_cons (pv 2) (pa_cons (pv 1) pa_nil))))) pss_nil) (pss_one (ps_ret (pe_tup (pa_cons (pv 1) (pa_cons (pv 2) pa_nil))))), ?_⟩
      refine ⟨_, rfl, _, rfl, a, _, dx, _, _, rfl, ha, T.cls .near, T.noM, l, _, _, rfl, rfl, _, rfl, ?_⟩
      refine ⟨_, rfl, _, rfl, a, _, dx, _, _, rfl, ha, T.cls .near, T.noM, l, _, _, rfl, rfl, _, rfl, ?_⟩
      refine ⟨_, _, rfl, rfl, _, rfl, ?_⟩
      by_cases hc : absI (c - m) < absI (h - m)
      · refine (if_pos (decide_eq_true (show (if c - m < 0 then -(c - m) else c - m) < (if h - m < 0 then -(h - m) else h - m) from hc))).mpr ?_
        refine ⟨_, rfl, _, rfl, (by show 2 ≤ sizeLine; decide), fun p hp => ?_⟩
        have z := q p hp
        rw [show (Rule.near m).keep h c = (c, h) from if_pos hc] at z
        exact z
      · refine (if_neg (fun z => hc (of_decide_eq_true z))).mpr ?_
        refine ⟨_, rfl, _, rfl, (by show 2 ≤ sizeLine; decide), fun p hp => ?_⟩
        have z := q p hp
        rw [show (Rule.near m).keep h c = (h, c) from if_neg hc] at z
        exact z
    | _ => cases hk
/-! ### labels -/
theorem sc_Cell_label : FnScope ["self"] ["self"] (defScope s_Cell_label) := ⟨rfl, rfl, rfl, by decide +kernel, rfl, by decide +kernel, by decide +kernel⟩
theorem ok_Cell_label {f : Addr} {fd : FuncData} (F : Fun K "label" "Cell.label" s_Cell_label f fd) (T : Cells K mg) : FnOk P w K mg base CX0 1 f fd ["self"] (spLabel K .first) := by
  refine F.ok sc_Cell_label (fun vs H Q E h => ?_) (fun cdv A outer s H vs Q E hr h => ?_)
  · obtain ⟨a, r, rfl, _⟩ := h
    rfl
  · obtain ⟨a, r, rfl, hk, ⟨hok, dx, ha⟩, q⟩ := h
    obtain ⟨u, con⟩ := T.kind .first
    cases r with
    | first =>
      refine ⟨_, pss_one (ps_ret (pe_con (pv 0) rfl)), ?_⟩
      exact ⟨_, rfl, a, _, dx, _, _, u, rfl, ha, T.cls .first, con, rfl, q⟩
    | _ => cases hk
theorem sc_Last_label : FnScope ["self"] ["self"] (defScope s_Last_label) := ⟨rfl, rfl, rfl, by decide +kernel, rfl, by decide +kernel, by decide +kernel⟩
theorem ok_Last_label {f : Addr} {fd : FuncData} (F : Fun K "label" "Last.label" s_Last_label f fd) (T : Cells K mg) : FnOk P w K mg base CX0 1 f fd ["self"] (spLabel K .last) := by
  refine F.ok sc_Last_label (fun vs H Q E h => ?_) (fun cdv A outer s H vs Q E hr h => ?_)
  · obtain ⟨a, r, rfl, _⟩ := h
    rfl
  · obtain ⟨a, r, rfl, hk, ⟨hok, dx, ha⟩, q⟩ := h
    obtain ⟨u, con⟩ := T.kind .last
    cases r with
    | last =>
      refine ⟨_, pss_one (ps_ret (pe_con (pv 0) rfl)), ?_⟩
      exact ⟨_, rfl, a, _, dx, _, _, u, rfl, ha, T.cls .last, con, rfl, q⟩
    | _ => cases hk
theorem sc_Less_label : FnScope ["self"] ["self"] (defScope s_Less_label) := ⟨rfl, rfl, rfl, by decide +kernel, rfl, by decide +kernel, by decide +kernel⟩
theorem ok_Less_label {f : Addr} {fd : FuncData} (F : Fun K "label" "Less.label" s_Less_label f fd) (T : Cells K mg) : FnOk P w K mg base CX0 1 f fd ["self"] (spLabel K .less) := by
  refine F.ok sc_Less_label (fun vs H Q E h => ?_) (fun cdv A outer s H vs Q E hr h => ?_)
  · obtain ⟨a, r, rfl, _⟩ := h
    rfl
  · obtain ⟨a, r, rfl, hk, ⟨hok, dx, ha⟩, q⟩ := h
    obtain ⟨u, con⟩ := T.kind .less
    cases r with
    | less =>
      refine ⟨_, pss_one (ps_ret (pe_con (pv 0) rfl)), ?_⟩
      exact ⟨_, rfl, a, _, dx, _, _, u, rfl, ha, T.cls .less, con, rfl, q⟩
    | _ => cases hk
theorem sc_Greater_label : FnScope ["self"] ["self"] (defScope s_Greater_label) := ⟨rfl, rfl, rfl, by decide +kernel, rfl, by decide +kernel, by decide +kernel⟩
theorem ok_Greater_label {f : Addr} {fd : FuncData} (F : Fun K "label" "Greater.label" s_Greater_label f fd) (T : Cells K mg) : FnOk P w K mg base CX0 1 f fd ["self"] (spLabel K .greater) := by
  refine F.ok sc_Greater_label (fun vs H Q E h => ?_) (fun cdv A outer s H vs Q E hr h => ?_)
  · obtain ⟨a, r, rfl, _⟩ := h
    rfl
  · obtain ⟨a, r, rfl, hk, ⟨hok, dx, ha⟩, q⟩ := h
    obtain ⟨u, con⟩ := T.kind .greater
    cases r with
    | greater =>
      refine ⟨_, pss_one (ps_ret (pe_con (pv 0) rfl)), ?_⟩
      exact ⟨_, rfl, a, _, dx, _, _, u, rfl, ha, T.cls .greater, con, rfl, q⟩
    | _ => cases hk
theorem near_word (x : Str) : ((Str.empty ++ ("near" : Str)) ++ (":" : Str)) ++ x = ("near:" : Str) ++ x := by
  rw [show ((Str.empty ++ ("near" : Str)) ++ (":" : Str)) = ("near:" : Str) by decide +kernel]
theorem sc_Near_label : FnScope ["self"] ["self"] (defScope s_Near_label) := ⟨rfl, rfl, rfl, by decide +kernel, rfl, by decide +kernel, by decide +kernel⟩
theorem ok_Near_label {f : Addr} {fd : FuncData} (F : Fun K "label" "Near.label" s_Near_label f fd) (T : Cells K mg) : FnOk P w K mg base CX0 1 f fd ["self"] (spLabel K .near) := by
  refine F.ok sc_Near_label (fun vs H Q E h => ?_) (fun cdv A outer s H vs Q E hr h => ?_)
  · obtain ⟨a, r, rfl, _⟩ := h
    rfl
  · obtain ⟨a, r, rfl, hk, ⟨hok, dx, ha⟩, q⟩ := h
    obtain ⟨u, con⟩ := T.kind .near
    cases r with
    | near m =>
      have l : (Rule.near m).fs.lookup ("mark" : Str) = some (.int m) := by simp [Rule.fs, List.lookup]
      refine ⟨_, pss_one (ps_ret (pe_joined (.cons (pe_fmt (pe_con (pv 0) rfl)) (.cons pe_str (.cons (pe_fmt (pe_fld (pv 0) rfl)) .nil))))), ?_⟩
      refine ⟨_, rfl, a, _, dx, _, _, u, rfl, ha, T.cls .near, con, fs_kind _, .inl ⟨_, rfl, by decide +kernel, _, rfl, by decide +kernel, ?_⟩⟩
      refine ⟨_, rfl, by decide +kernel, ?_⟩
      refine ⟨_, rfl, a, _, dx, _, _, rfl, ha, T.cls .near, T.noM, l, .inr ⟨m, rfl, numS_log hok, _, rfl, ?_, ?_⟩⟩
      · show ((((Str.empty ++ ("near" : Str)) ++ (":" : Str)) ++ numS m)).length ≤ sizeLine
        rw [near_word]
        exact Nat.le_trans (label_len (r := .near m) hok) (by decide)
      · show Q (.str ((((Str.empty ++ ("near" : Str)) ++ (":" : Str)) ++ numS m))) H
        rw [near_word]
        exact q
    | _ => cases hk
/-! ### equal cells -/
theorem sc_Cell_eq : FnScope ["self", "other"] ["self", "other"] (defScope s_Cell_eq) := ⟨rfl, rfl, rfl, by decide +kernel, rfl, by decide +kernel, by decide +kernel⟩
theorem ok_Cell_eq {f : Addr} {fd : FuncData} (F : Fun K "__eq__" "Cell.__eq__" s_Cell_eq f fd) (B : Bln mg) (T : Cells K mg) (L : LabelsOk P w K mg base 1) : FnOk P w K mg base CX0 3 f fd ["self", "other"] (spEq K .first) := by
  refine F.ok sc_Cell_eq (fun vs H Q E h => ?_) (fun cdv A outer s H vs Q E hr h => ?_)
  · obtain ⟨a, r, y, rfl, _⟩ := h
    rfl
  · obtain ⟨a, r, y, rfl, hk, ca, h⟩ := h
    refine ⟨_, pss_one (ps_ret (pe_and (pe_callB call_isi (by rfl) B.isinstance boot_isinstance' (pa_cons (pv 1) (pa_cons (pe_glob (v := .ref (He.ga K "Cell")) (by rfl) (T.glo .first) rfl) pa_nil)))
      (pe_one (pe_cmpR op_eq (pe_label T L hr (pv 0)) (pe_label T L hr (pv 1)) (nomark _))))), ?_⟩
    rcases h with ⟨b, r', rfl, cb, q⟩ | ⟨z, rfl, q⟩
    · refine ⟨_, rfl, _, _, _, _, true, rfl, .own _, cb.ty T, T.kit r'.kd, _, rfl, iteT ?_⟩
      refine ⟨_, rfl, a, r, rfl, ca, _, rfl, b, r', rfl, cb, rfl, ?_⟩
      have e : decide (V.str r.label = V.str r'.label) = decide (r.label = r'.label) := by
        by_cases z : r.label = r'.label
        · rw [decide_eq_true z, z]
          exact decide_eq_true rfl
        · rw [decide_eq_false z]
          exact decide_eq_false fun y => z (V.str.inj y)
      rw [e]
      exact q
    · exact ⟨_, rfl, _, _, _, _, false, rfl, .own _, .base (.str z), T.kitS, _, rfl, iteF q⟩
theorem sc_Last_eq : FnScope ["self", "other"] ["self", "other"] (defScope s_Last_eq) := ⟨rfl, rfl, rfl, by decide +kernel, rfl, by decide +kernel, by decide +kernel⟩
theorem ok_Last_eq {f : Addr} {fd : FuncData} (F : Fun K "__eq__" "Last.__eq__" s_Last_eq f fd) (B : Bln mg) (T : Cells K mg) (L : LabelsOk P w K mg base 1) : FnOk P w K mg base CX0 3 f fd ["self", "other"] (spEq K .last) := by
  refine F.ok sc_Last_eq (fun vs H Q E h => ?_) (fun cdv A outer s H vs Q E hr h => ?_)
  · obtain ⟨a, r, y, rfl, _⟩ := h
    rfl
  · obtain ⟨a, r, y, rfl, hk, ca, h⟩ := h
    refine ⟨_, pss_one (ps_ret (pe_and (pe_callB call_isi (by rfl) B.isinstance boot_isinstance' (pa_cons (pv 1) (pa_cons (pe_glob (v := .ref (He.ga K "Cell")) (by rfl) (T.glo .first) rfl) pa_nil)))
      (pe_one (pe_cmpR op_eq (pe_label T L hr (pv 0)) (pe_label T L hr (pv 1)) (nomark _))))), ?_⟩
    rcases h with ⟨b, r', rfl, cb, q⟩ | ⟨z, rfl, q⟩
    · refine ⟨_, rfl, _, _, _, _, true, rfl, .own _, cb.ty T, T.kit r'.kd, _, rfl, iteT ?_⟩
      refine ⟨_, rfl, a, r, rfl, ca, _, rfl, b, r', rfl, cb, rfl, ?_⟩
      have e : decide (V.str r.label = V.str r'.label) = decide (r.label = r'.label) := by
        by_cases z : r.label = r'.label
        · rw [decide_eq_true z, z]
          exact decide_eq_true rfl
        · rw [decide_eq_false z]
          exact decide_eq_false fun y => z (V.str.inj y)
      rw [e]
      exact q
    · exact ⟨_, rfl, _, _, _, _, false, rfl, .own _, .base (.str z), T.kitS, _, rfl, iteF q⟩
theorem sc_Less_eq : FnScope ["self", "other"] ["self", "other"] (defScope s_Less_eq) := ⟨rfl, rfl, rfl, by decide +kernel, rfl, by decide +kernel, by decide +kernel⟩
theorem ok_Less_eq {f : Addr} {fd : FuncData} (F : Fun K "__eq__" "Less.__eq__" s_Less_eq f fd) (B : Bln mg) (T : Cells K mg) (L : LabelsOk P w K mg base 1) : FnOk P w K mg base CX0 3 f fd ["self", "other"] (spEq K .less) := by
  refine F.ok sc_Less_eq (fun vs H Q E h => ?_) (fun cdv A outer s H vs Q E hr h => ?_)
  · obtain ⟨a, r, y, rfl, _⟩ := h
    rfl
  · obtain ⟨a, r, y, rfl, hk, ca, h⟩ := h
    refine ⟨_, pss_one (ps_ret (pe_and (pe_callB call_isi (by rfl) B.isinstance boot_isinstance' (pa_cons (pv 1) (pa_cons (pe_glob (v := .ref (He.ga K "Cell")) (by rfl) (T.glo .first) rfl) pa_nil)))
      (pe_one (pe_cmpR op_eq (pe_label T L hr (pv 0)) (pe_label T L hr (pv 1)) (nomark _))))), ?_⟩
    rcases h with ⟨b, r', rfl, cb, q⟩ | ⟨z, rfl, q⟩
    · refine ⟨_, rfl, _, _, _, _, true, rfl, .own _, cb.ty T, T.kit r'.kd, _, rfl, iteT ?_⟩
      refine ⟨_, rfl, a, r, rfl, ca, _, rfl, b, r', rfl, cb, rfl, ?_⟩
      have e : decide (V.str r.label = V.str r'.label) = decide (r.label = r'.label) := by
        by_cases z : r.label = r'.label
        · rw [decide_eq_true z, z]
          exact decide_eq_true rfl
        · rw [decide_eq_false z]
          exact decide_eq_false fun y => z (V.str.inj y)
      rw [e]
      exact q
    · exact ⟨_, rfl, _, _, _, _, false, rfl, .own _, .base (.str z), T.kitS, _, rfl, iteF q⟩
theorem sc_Greater_eq : FnScope ["self", "other"] ["self", "other"] (defScope s_Greater_eq) := ⟨rfl, rfl, rfl, by decide +kernel, rfl, by decide +kernel, by decide +kernel⟩
theorem ok_Greater_eq {f : Addr} {fd : FuncData} (F : Fun K "__eq__" "Greater.__eq__" s_Greater_eq f fd) (B : Bln mg) (T : Cells K mg) (L : LabelsOk P w K mg base 1) : FnOk P w K mg base CX0 3 f fd ["self", "other"] (spEq K .greater) := by
  refine F.ok sc_Greater_eq (fun vs H Q E h => ?_) (fun cdv A outer s H vs Q E hr h => ?_)
  · obtain ⟨a, r, y, rfl, _⟩ := h
    rfl
  · obtain ⟨a, r, y, rfl, hk, ca, h⟩ := h
    refine ⟨_, pss_one (ps_ret (pe_and (pe_callB call_isi (by rfl) B.isinstance boot_isinstance' (pa_cons (pv 1) (pa_cons (pe_glob (v := .ref (He.ga K "Cell")) (by rfl) (T.glo .first) rfl) pa_nil)))
      (pe_one (pe_cmpR op_eq (pe_label T L hr (pv 0)) (pe_label T L hr (pv 1)) (nomark _))))), ?_⟩
    rcases h with ⟨b, r', rfl, cb, q⟩ | ⟨z, rfl, q⟩
    · refine ⟨_, rfl, _, _, _, _, true, rfl, .own _, cb.ty T, T.kit r'.kd, _, rfl, iteT ?_⟩
      refine ⟨_, rfl, a, r, rfl, ca, _, rfl, b, r', rfl, cb, rfl, ?_⟩
      have e : decide (V.str r.label = V.str r'.label) = decide (r.label = r'.label) := by
        by_cases z : r.label = r'.label
        · rw [decide_eq_true z, z]
          exact decide_eq_true rfl
        · rw [decide_eq_false z]
          exact decide_eq_false fun y => z (V.str.inj y)
      rw [e]
      exact q
    · exact ⟨_, rfl, _, _, _, _, false, rfl, .own _, .base (.str z), T.kitS, _, rfl, iteF q⟩
theorem sc_Near_eq : FnScope ["self", "other"] ["self", "other"] (defScope s_Near_eq) := ⟨rfl, rfl, rfl, by decide +kernel, rfl, by decide +kernel, by decide +kernel⟩
theorem ok_Near_eq {f : Addr} {fd : FuncData} (F : Fun K "__eq__" "Near.__eq__" s_Near_eq f fd) (B : Bln mg) (T : Cells K mg) (L : LabelsOk P w K mg base 1) : FnOk P w K mg base CX0 3 f fd ["self", "other"] (spEq K .near) := by
  refine F.ok sc_Near_eq (fun vs H Q E h => ?_) (fun cdv A outer s H vs Q E hr h => ?_)
  · obtain ⟨a, r, y, rfl, _⟩ := h
    rfl
  · obtain ⟨a, r, y, rfl, hk, ca, h⟩ := h
    refine ⟨_, pss_one (ps_ret (pe_and (pe_callB call_isi (by rfl) B.isinstance boot_isinstance' (pa_cons (pv 1) (pa_cons (pe_glob (v := .ref (He.ga K "Cell")) (by rfl) (T.glo .first) rfl) pa_nil)))
      (pe_one (pe_cmpR op_eq (pe_label T L hr (pv 0)) (pe_label T L hr (pv 1)) (nomark _))))), ?_⟩
    rcases h with ⟨b, r', rfl, cb, q⟩ | ⟨z, rfl, q⟩
    · refine ⟨_, rfl, _, _, _, _, true, rfl, .own _, cb.ty T, T.kit r'.kd, _, rfl, iteT ?_⟩
      refine ⟨_, rfl, a, r, rfl, ca, _, rfl, b, r', rfl, cb, rfl, ?_⟩
      have e : decide (V.str r.label = V.str r'.label) = decide (r.label = r'.label) := by
        by_cases z : r.label = r'.label
        · rw [decide_eq_true z, z]
          exact decide_eq_true rfl
        · rw [decide_eq_false z]
          exact decide_eq_false fun y => z (V.str.inj y)
      rw [e]
      exact q
    · exact ⟨_, rfl, _, _, _, _, false, rfl, .own _, .base (.str z), T.kitS, _, rfl, iteF q⟩
/-! ### opposite cells -/
theorem made_same {H : Hp} {x dx C : Addr} {fs : List (Str × V)} (h1 : H x = none) (h2 : H dx = none) : Same H (upd (upd H dx (.own x)) x (.ins C dx fs)) := fun b o e => by
  rw [upd_ne (ne_of_none e h1), upd_ne (ne_of_none e h2)]
  exact e
theorem sc_Cell_neg : FnScope ["self"] ["self"] (defScope s_Cell_neg) := ⟨rfl, rfl, rfl, by decide +kernel, rfl, by decide +kernel, by decide +kernel⟩
theorem ok_Cell_neg {f : Addr} {fd : FuncData} (F : Fun K "__neg__" "Cell.__neg__" s_Cell_neg f fd) (T : Cells K mg) : FnOk P w K mg base CX0 1 f fd ["self"] (spNeg K .first) := by
  refine F.ok sc_Cell_neg (fun vs H Q E h => ?_) (fun cdv A outer s H vs Q E hr h => ?_)
  · obtain ⟨a, r, rfl, _⟩ := h
    rfl
  · obtain ⟨a, r, rfl, hk, ⟨hok, dx, ha⟩, q⟩ := h
    cases r with
    | first =>
      refine ⟨_, pss_one (ps_ret (pe_mk0 (T.mk0 .first (by decide)) (by rfl) (T.glo .first))), ?_⟩
      intro x dy h1 h2 h3
      exact q x _ h1 (made_same h1 h2) ⟨trivial, dy, upd_same⟩
    | _ => cases hk
theorem sc_Last_neg : FnScope ["self"] ["self"] (defScope s_Last_neg) := ⟨rfl, rfl, rfl, by decide +kernel, rfl, by decide +kernel, by decide +kernel⟩
theorem ok_Last_neg {f : Addr} {fd : FuncData} (F : Fun K "__neg__" "Last.__neg__" s_Last_neg f fd) (T : Cells K mg) : FnOk P w K mg base CX0 1 f fd ["self"] (spNeg K .last) := by
  refine F.ok sc_Last_neg (fun vs H Q E h => ?_) (fun cdv A outer s H vs Q E hr h => ?_)
  · obtain ⟨a, r, rfl, _⟩ := h
    rfl
  · obtain ⟨a, r, rfl, hk, ⟨hok, dx, ha⟩, q⟩ := h
    cases r with
    | last =>
      refine ⟨_, pss_one (ps_ret (pe_mk0 (T.mk0 .last (by decide)) (by rfl) (T.glo .last))), ?_⟩
      intro x dy h1 h2 h3
      exact q x _ h1 (made_same h1 h2) ⟨trivial, dy, upd_same⟩
    | _ => cases hk
theorem sc_Less_neg : FnScope ["self"] ["self"] (defScope s_Less_neg) := ⟨rfl, rfl, rfl, by decide +kernel, rfl, by decide +kernel, by decide +kernel⟩
theorem ok_Less_neg {f : Addr} {fd : FuncData} (F : Fun K "__neg__" "Less.__neg__" s_Less_neg f fd) (T : Cells K mg) : FnOk P w K mg base CX0 1 f fd ["self"] (spNeg K .less) := by
  refine F.ok sc_Less_neg (fun vs H Q E h => ?_) (fun cdv A outer s H vs Q E hr h => ?_)
  · obtain ⟨a, r, rfl, _⟩ := h
    rfl
  · obtain ⟨a, r, rfl, hk, ⟨hok, dx, ha⟩, q⟩ := h
    cases r with
    | less =>
      refine ⟨_, pss_one (ps_ret (pe_mk0 (T.mk0 .greater (by decide)) (by rfl) (T.glo .greater))), ?_⟩
      intro x dy h1 h2 h3
      exact q x _ h1 (made_same h1 h2) ⟨trivial, dy, upd_same⟩
    | _ => cases hk
theorem sc_Greater_neg : FnScope ["self"] ["self"] (defScope s_Greater_neg) := ⟨rfl, rfl, rfl, by decide +kernel, rfl, by decide +kernel, by decide +kernel⟩
theorem ok_Greater_neg {f : Addr} {fd : FuncData} (F : Fun K "__neg__" "Greater.__neg__" s_Greater_neg f fd) (T : Cells K mg) : FnOk P w K mg base CX0 1 f fd ["self"] (spNeg K .greater) := by
  refine F.ok sc_Greater_neg (fun vs H Q E h => ?_) (fun cdv A outer s H vs Q E hr h => ?_)
  · obtain ⟨a, r, rfl, _⟩ := h
    rfl
  · obtain ⟨a, r, rfl, hk, ⟨hok, dx, ha⟩, q⟩ := h
    cases r with
    | greater =>
      refine ⟨_, pss_one (ps_ret (pe_mk0 (T.mk0 .less (by decide)) (by rfl) (T.glo .less))), ?_⟩
      intro x dy h1 h2 h3
      exact q x _ h1 (made_same h1 h2) ⟨trivial, dy, upd_same⟩
    | _ => cases hk
theorem sc_Near_neg : FnScope ["self"] ["self"] (defScope s_Near_neg) := ⟨rfl, rfl, rfl, by decide +kernel, rfl, by decide +kernel, by decide +kernel⟩
theorem ok_Near_neg {f : Addr} {fd gd : FuncData} (F : Fun K "__neg__" "Near.__neg__" s_Near_neg f fd) (T : Cells K mg) (G : FnOk P w K mg base (L2.CX P w) 4 (He.ma K (He.ga K "Near") "__init__") gd ["self", "mark"] (spNearInit K)) (bG : Binds K gd ["self", "mark"] []) :
    FnOk P w K mg base CX0 6 f fd ["self"] (spNeg K .near) := by
  refine F.ok sc_Near_neg (fun vs H Q E h => ?_) (fun cdv A outer s H vs Q E hr h => ?_)
  · obtain ⟨a, r, rfl, _⟩ := h
    rfl
  · obtain ⟨a, r, rfl, hk, ⟨hok, dx, ha⟩, q⟩ := h
    cases r with
    | near m =>
      have l : (Rule.near m).fs.lookup ("mark" : Str) = some (.int m) := by simp [Rule.fs, List.lookup]
      refine ⟨_, pss_one (ps_ret (pe_make T.mkN G hr (by rfl) (T.glo .near) bG .nil passL (pa_cons (pe_un un_neg (pe_fld (pv 0) rfl)) pa_nil))), ?_⟩
      refine ⟨_, rfl, a, _, dx, _, _, rfl, ha, T.cls .near, T.noM, l, _, rfl, fun x dy h1 h2 h3 => ?_⟩
      have hn : numOk (-m) := Rule.neg_ok (r := .near m) hok
      refine ⟨x, dy, _, rfl, upd_same, .inl ⟨-m, rfl, fun _ => ⟨rfl, ?_⟩, fun z => absurd hn z⟩⟩
      rw [upd_upd]
      exact q x _ h1 (made_same h1 h2) ⟨hn, dy, upd_same⟩
    | _ => cases hk
end
end SC
set_option maxRecDepth 100000
set_option maxHeartbeats 2000000
namespace SC
open PySem PySem.Spec PyProof.Rows L2 TL
section
variable {P : Program} {w : World} {K : PySem.W.Frag} {mg : Str → Option Value} {base : Heap}
theorem sc_below : FnScope ["_law_d", "_law_limit", "_law_result"] ["_law_d", "_law_limit"] (defScope s__law_below) := ⟨rfl, rfl, rfl, by decide +kernel, rfl, by decide +kernel, by decide +kernel⟩
theorem ok_below {f : Addr} {fd : FuncData} (F : Fun K "_law_below" "_law_below" s__law_below f fd) (B : Bln mg) : FnOk P w K mg base CX0 1 f fd ["_law_d", "_law_limit"] spBelow := by
  refine F.ok sc_below (fun vs H Q E h => ?_) (fun cdv A outer s H vs Q E hr h => ?_)
  · obtain ⟨a, L, ds, rfl, _⟩ := h
    rfl
  · obtain ⟨a, L, ds, rfl, hL, hL2, ha, hd, q⟩ := h
    refine ⟨_, C8.pss_cut (ps_if (PW.pt (pw_and (pt_cmpR op_eq (pe_ix ix_list (pv 0) pe_int (fun _ _ => rfl)) pe_int (nomark _)) (pw_and1 (pt_cmpR op_gt (pe_callB call_len_seq (by rfl) B.len boot_len' (pa_cons (pv 0) pa_nil)) pe_int (nomark _)))))
        (pss_one (ps_asg (pe_bm PySem.F.plainAttrs_list PySem.F.slot_list_pop PySem.F.type_list_pop mt_popAt (pv 0) (pa_cons pe_int pa_nil)) (pg_sub (pv 0) pe_int set_list))) pss_nil)
      (pss_cons (ps_if (pt_cmpR op_gt (pe_ix ix_list (pv 0) pe_int (fun _ _ => rfl)) pe_int (nomark _))
        (pss_cons (ps_set (i := 2) sc_below.nd rfl (.inl rfl) (pe_op op_mod (pe_ix ix_list (pv 0) pe_int (fun _ _ => rfl)) (pv 1)))
          (pss_cons (ps_asg (pe_op op_fdivW (pe_ix ix_list (pv 0) pe_int (fun _ _ => rfl)) (pv 1)) (pg_sub (pv 0) pe_int set_list)) (pss_one (ps_ret (pv 2))))) pss_nil)
      (pss_cons (ps_asg (pe_op op_mod (pe_op op_add (pe_op op_mul (pe_ix ix_list (pv 0) pe_int (fun _ _ => rfl)) pe_int) pe_int) pe_int) (pg_sub (pv 0) pe_int set_list))
        (pss_one (ps_ret (pe_op op_mod (pe_op op_fdiv (pe_ix ix_list (pv 0) pe_int (fun _ _ => rfl)) pe_int) (pv 1)))))), ?_⟩
    refine ⟨fun σ' H' => σ' = [some (.ref a), some (.int L), none] ∧ ∃ ds', DOk ds' ∧ H' a = some (.lst (ds'.map V.int)) ∧ (H' = H ∨ ∃ o, H' = upd H a o), ?_, ?_⟩
    · obtain ⟨sd, b, rest, rfl, h1, h2, h3, h4, h5⟩ := id hd
      refine ⟨_, rfl, _, _, _, _, rfl, rfl, SqL.of ha, atI_nat (j := 1) rfl, rfl, _, rfl, ?_⟩
      by_cases hb : b = 0
      · subst hb
        refine iteT ?_
        refine ⟨_, rfl, _, _, rfl, .inl (SqL.of ha), _, _, rfl, rfl, _, rfl, ?_⟩
        cases rest with
        | nil =>
          refine iteF ?_
          exact ⟨rfl, _, hd, ha, .inl rfl⟩
        | cons z rest =>
          refine iteD1 (by simp only [List.length_map, List.length_cons]; omega) ?_
          refine ⟨_, rfl, .inl ⟨rfl, _, SqL.of ha⟩, a, _, 2, 2, .int z, rfl, rfl, ha, by decide, by decide, sx_at (j := 2) (by simp only [List.length_map, List.length_cons]; omega), rfl, ?_⟩
          refine ⟨_, rfl, a, _, 1, 1, rfl, rfl, upd_same, ixN_at (j := 1) (by simp), ?_⟩
          refine ⟨rfl, sd :: z :: rest, ⟨sd, z, rest, rfl, h1, h2, h4 z List.mem_cons_self, fun y hy => h4 y (List.mem_cons_of_mem _ hy), by simp only [List.length_cons] at h5; omega⟩, ?_, .inr ⟨_, upd_upd⟩⟩
          rw [upd_same]
          rfl
      · refine (if_neg (fun z => hb (V.int.inj (of_decide_eq_true z)))).mpr (iteF ?_)
        exact ⟨rfl, _, hd, ha, .inl rfl⟩
    · rintro σ' H' ⟨rfl, ds', hd', ha', hH⟩
      have up : ∀ o, upd H' a o = upd H a o := fun o => by
        rcases hH with rfl | ⟨o', rfl⟩
        · rfl
        · exact upd_upd
      obtain ⟨sd, b, rest, rfl, h1, h2, h3, h4, h5⟩ := id hd'
      refine ⟨_, rfl, _, _, _, _, rfl, rfl, SqL.of ha', atI_nat (j := 1) rfl, _, _, rfl, rfl, _, rfl, ?_⟩
      by_cases hb : 0 < b
      · refine iteD1 hb ?_
        refine ⟨_, rfl, _, _, _, _, rfl, rfl, SqL.of ha', atI_nat (j := 1) rfl, _, rfl, _, _, rfl, rfl, hL, ?_⟩
        refine ⟨_, rfl, _, _, _, _, rfl, rfl, SqL.of ha', atI_nat (j := 1) rfl, _, rfl, _, _, rfl, rfl, lim_div hL hL2, ?_⟩
        refine ⟨_, rfl, a, _, 1, 1, rfl, rfl, ha', ixN_at (j := 1) (by simp), ?_⟩
        refine ⟨_, rfl, ?_⟩
        rw [up]
        exact q (b % L) (sd :: b / L :: rest) (Int.emod_nonneg _ (by omega)) (Int.emod_lt_of_pos _ hL) ⟨sd, b / L, rest, rfl, h1, h2, Int.ediv_nonneg h3 (by omega), h4, h5⟩
      · refine iteD0 hb ?_
        refine ⟨_, rfl, _, _, _, _, rfl, rfl, SqL.of ha', atI_nat (j := 0) rfl, _, _, rfl, rfl, .inl ⟨by omega, by omega⟩, _, _, rfl, rfl, _, _, rfl, rfl, (by show (0 : Int) < 2147483647; decide), ?_⟩
        refine ⟨_, rfl, a, _, 0, 0, rfl, rfl, ha', ixN_at (j := 0) (by simp), ?_⟩
        refine ⟨_, rfl, _, _, _, _, rfl, rfl, SqL.of upd_same, atI_nat (j := 0) rfl, _, _, rfl, rfl, ⟨by decide, by decide⟩, _, rfl, _, _, rfl, rfl, hL, ?_⟩
        rw [up]
        exact q (((sd * 48271 + 11) % 2147483647) / 64 % L) (((sd * 48271 + 11) % 2147483647) :: b :: rest) (Int.emod_nonneg _ (by omega)) (Int.emod_lt_of_pos _ hL)
          ⟨_, b, rest, rfl, Int.emod_nonneg _ (by decide), Int.emod_lt_of_pos _ (by decide), h3, h4, h5⟩
theorem sc_random : FnScope ["_law_script", "_law_salt", "_law_seed", "_law_cell"] ["_law_script", "_law_salt"] (defScope s__law_random) := ⟨rfl, rfl, rfl, by decide +kernel, rfl, by decide +kernel, by decide +kernel⟩
theorem ok_random {f : Addr} {fd : FuncData} (F : Fun K "_law_random" "_law_random" s__law_random f fd) (B : Bln mg) : FnOk P w K mg base CX0 1 f fd ["_law_script", "_law_salt"] (spRandom K) := by
  refine F.ok sc_random (fun vs H Q E h => ?_) (fun cdv A outer s H vs Q E hr h => ?_)
  · obtain ⟨a, ns, salt, rfl, _⟩ := h
    rfl
  · obtain ⟨a, ns, salt, rfl, hS, hl, hs1, hs2, q⟩ := h
    refine ⟨_, pss_cons (ps_set (i := 2) sc_random.nd rfl (.inl rfl) (pv 1))
      (pss_cons (ps_for PassesOwn.never rfl (pi_list (pv 0)) (pg_name (i := 3) sc_random.nd rfl (.inl rfl))
        (pss_one (ps_set (i := 2) sc_random.nd rfl (.inl rfl) (pe_op op_mod (pe_op op_add (pe_op op_mul (pv 2) pe_int) (pe_callB call_abs (by rfl) B.abs boot_abs' (pa_cons (pv 3) pa_nil))) pe_int))))
      (pss_one (ps_ret (pe_op op_cat (pe_lst (pa_cons (pv 2) (pa_cons pe_int pa_nil)))
        (pe_lc (own := [("_law_cell", 3)]) (g := gName 3) (by rfl) sc_random.nd (pi_list (pv 0)) (blkOk_by (own := [("_law_cell", 3)]) (N := ["_law_script", "_law_salt", "_law_seed", "_law_cell"]) (sc := defScope s__law_random) (by decide +kernel))
          (fun _ _ _ _ _ => pg_name (i := 3) sc_random.nd rfl (.inl rfl)) (fun _ _ _ _ _ => pts_one (pt_cmpR op_ge (pv 3) (pe_op op_pow pe_int pe_int) (nomark _))) (fun _ _ _ _ _ => pv 3)))))), ?_⟩
    refine ⟨_, rfl, ?_⟩
    refine ⟨_, rfl, a, rfl, ⟨_, hS⟩, for_list (K := K) (a := a) (xs := ns.map V.int) (fun i σ H2 => ∃ (v : Option V) (sd : Int), σ = [some (.ref a), some (.int salt), some (.int sd), v] ∧ H2 = H ∧ 0 ≤ sd ∧ sd < 2147483647)
      ⟨none, salt, rfl, rfl, hs1, hs2⟩ (fun i σ H2 _ ⟨_, _, _, e, _⟩ => by rw [e]; exact hS) ?_ ?_⟩
    · rintro i y σ H2 hi ⟨v, sd, rfl, rfl, h1, h2⟩
      obtain ⟨z, hz, rfl⟩ := map_int_at hi
      refine ⟨_, rfl, _, _, rfl, rfl, .inl ⟨by omega, by omega⟩, _, rfl, _, rfl, _, _, rfl, rfl, _, _, rfl, rfl, (by show (0 : Int) < 2147483647; decide), ?_⟩
      exact ⟨_, _, rfl, rfl, Int.emod_nonneg _ (by decide), Int.emod_lt_of_pos _ (by decide)⟩
    · rintro σ H2 ⟨v, sd, rfl, rfl, h1, h2⟩
      refine ⟨_, rfl, (by show 2 ≤ sizeLine; decide), fun p hp => ?_⟩
      have s1 : Same H2 (upd H2 p (.lst [.int sd, .int 0])) := same_new hp
      refine ⟨_, rfl, a, rfl, ⟨_, s1.seq hS⟩, fun D hD => ?_⟩
      have hDp : D ≠ p := fun e => by
        rw [e, upd_same] at hD
        cases hD
      have hD0 : H2 D = none := by
        rw [upd_ne hDp] at hD
        exact hD
      refine lc_list (K := K) (a := a) (xs := ns.map V.int) (fun i H3 => H3 = upd (upd H2 p (.lst [.int sd, .int 0])) D (.lst (((ns.take i).filter fun z => decide (1000000000000000000 ≤ z)).map V.int))) rfl ?_ ?_ ?_
      · rintro i H3 _ rfl
        exact (Same.upd s1 hD0).seq hS
      · rintro i y H3 hi rfl
        obtain ⟨z, hz, rfl⟩ := map_int_at hi
        refine ⟨rfl, _, rfl, _, _, rfl, rfl, ⟨by decide, by decide, by decide⟩, _, _, rfl, rfl, _, rfl, ?_⟩
        have ep : ((10 : Int) ^ (18 : Int).toNat) = 1000000000000000000 := by decide +kernel
        rw [take_more hz, List.filter_append]
        by_cases hb : (1000000000000000000 : Int) ≤ z
        · refine iteD1 (by rw [ep]; exact hb) ?_
          refine ⟨_, rfl, _, upd_same, ?_, ?_⟩
          · rw [List.length_map]
            have := List.length_filter_le (fun z => decide (1000000000000000000 ≤ z)) (ns.take i)
            have h3 : (ns.take i).length ≤ ns.length := by rw [List.length_take]; omega
            exact Nat.lt_of_le_of_lt (Nat.le_trans this (Nat.le_trans h3 hl)) (by decide)
          · rw [upd_upd, List.map_append]
            simp [hb]
        · refine iteD0 (by rw [ep]; exact hb) ?_
          simp [hb]
      · rintro H3 rfl
        rw [List.length_map, List.take_length]
        have h3 : (ns.filter fun z => decide (1000000000000000000 ≤ z)).length ≤ 63 := Nat.le_trans (List.length_filter_le _ _) hl
        refine ⟨p, D, _, _, rfl, rfl, by rw [upd_ne hDp.symm, upd_same], upd_same, ?_, fun p' hp' => ?_⟩
        · rw [List.length_map]
          exact Nat.le_trans (show 2 + (ns.filter fun z => decide (1000000000000000000 ≤ z)).length ≤ 65 by omega) (by decide)
        · have hp0 : H2 p' = none := (Same.upd s1 hD0).free hp'
          refine q p' _ (sd :: 0 :: ns.filter fun z => decide (1000000000000000000 ≤ z)) hp0 (Same.upd (Same.upd s1 hD0) hp0) ⟨sd, 0, _, rfl, h1, h2, by decide, fun z hz => ?_, h3⟩ ?_
          · have := of_decide_eq_true (List.mem_filter.mp hz).2
            omega
          · rw [upd_same]
            rfl
end
end SC
set_option maxRecDepth 100000
set_option maxHeartbeats 2000000
namespace SC
open PySem PySem.Spec PyProof.Rows L2 TL
section
variable {P : Program} {w : World} {K : PySem.W.Frag} {mg : Str → Option Value} {base : Heap}
def nmEq : List Str := ["_law_actual", "_law_expected", "_law_k"]
theorem sc_equal : FnScope nmEq ["_law_actual", "_law_expected"] (defScope s__law_equal) := ⟨rfl, rfl, rfl, by decide +kernel, rfl, by decide +kernel, by decide +kernel⟩
theorem kitR {a b : String} {r : Bool} (h : kitB a b = some r) : PySem.W.kitOne K (.type a) (.type b) = some r := kit_ty h
theorem ok_equal {f : Addr} {fd : FuncData} (F : Fun K "_law_equal" "_law_equal" s__law_equal f fd) (B : Bln mg) (hg : mg "_law_equal" = some (.ref f)) (n : Nat) : FnOk P w K mg base CX0 (n + 1) f fd ["_law_actual", "_law_expected"] (spEqual K n) := by
  have bG := F.binds (ps := ["_law_actual", "_law_expected"]) fun _ _ _ _ _ _ us hl => match us, hl with | [_, _], _ => rfl
  induction n with
  | zero =>
    refine F.ok sc_equal (fun vs H Q E h => ?_) (fun cdv A outer s H vs Q E hr h => ?_)
    · obtain ⟨x, y, rfl, _⟩ := h
      rfl
    · obtain ⟨x, y, rfl, ⟨rfl, hf⟩, q⟩ := h
      refine ⟨_, pss_cons (ps_if (pt_cmpR op_isN (pv 1) pe_non (nomark _)) (pss_one (ps_ret (pe_cmpR op_isN (pv 0) pe_non (nomark _)))) pss_nil)
        (pss_cons (ps_if (pt_val (pe_callB call_isi (by rfl) B.isinstance boot_isinstance' (pa_cons (pv 1) (pa_cons (pe_bltn (v := .ty "bool") (by rfl) B.bool boot_bool' rfl) pa_nil)))) (pss_one (ps_ret (pe_and (pe_callB call_isi (by rfl) B.isinstance boot_isinstance' (pa_cons (pv 0) (pa_cons (pe_bltn (v := .ty "bool") (by rfl) B.bool boot_bool' rfl) pa_nil))) (pe_one (pe_cmpR op_eq (pv 0) (pv 1) (nomark _)))))) pss_nil)
        (pss_cons (ps_if (pt_val (pe_callB call_isi (by rfl) B.isinstance boot_isinstance' (pa_cons (pv 1) (pa_cons (pe_bltn (v := .ty "int") (by rfl) B.int boot_int' rfl) pa_nil)))) (pss_one (ps_ret (pe_and (pe_callB call_isi (by rfl) B.isinstance boot_isinstance' (pa_cons (pv 0) (pa_cons (pe_bltn (v := .ty "int") (by rfl) B.int boot_int' rfl) pa_nil))) (pe_and (pe_not (pe_callB call_isi (by rfl) B.isinstance boot_isinstance' (pa_cons (pv 0) (pa_cons (pe_bltn (v := .ty "bool") (by rfl) B.bool boot_bool' rfl) pa_nil)))) (pe_one (pe_cmpR op_eq (pv 0) (pv 1) (nomark _))))))) pss_nil)
        (pss_cons (ps_if (pt_val (pe_callB call_isi (by rfl) B.isinstance boot_isinstance' (pa_cons (pv 1) (pa_cons (pe_bltn (v := .ty "str") (by rfl) B.str boot_str' rfl) pa_nil)))) (pss_one (ps_ret (pe_and (pe_callB call_isi (by rfl) B.isinstance boot_isinstance' (pa_cons (pv 0) (pa_cons (pe_bltn (v := .ty "str") (by rfl) B.str boot_str' rfl) pa_nil))) (pe_one (pe_cmpR op_eq (pv 0) (pv 1) (nomark _)))))) pss_nil)
        pss_never))), ?_⟩
      have no : ∀ (b : Bool) {a c : String} (h : kitB a c = some b), PySem.W.kitOne K (.type a) (.type c) = some b := fun b a c h => kit_ty h
      cases x with
      | non => exact ⟨_, rfl, rfl, _, rfl, iteT ⟨_, rfl, rfl, q _ (Same.refl _)⟩⟩
      | bl b =>
        refine ⟨_, rfl, rfl, _, rfl, iteF ?_⟩
        refine ⟨_, rfl, _, _, _, _, _, rfl, .ty "bool", .base (.bl b), no true (by decide +kernel), _, rfl, iteT ?_⟩
        refine ⟨_, rfl, _, _, _, _, _, rfl, .ty "bool", .base (.bl b), no true (by decide +kernel), _, rfl, iteT ?_⟩
        refine ⟨_, rfl, _, rfl, rfl, ?_⟩
        rw [decide_eq_true rfl]
        exact q _ (Same.refl _)
      | int i =>
        refine ⟨_, rfl, rfl, _, rfl, iteF ?_⟩
        refine ⟨_, rfl, _, _, _, _, _, rfl, .ty "bool", .base (.int i), no false (by decide +kernel), _, rfl, iteF ?_⟩
        refine ⟨_, rfl, _, _, _, _, _, rfl, .ty "int", .base (.int i), no true (by decide +kernel), _, rfl, iteT ?_⟩
        refine ⟨_, rfl, _, _, _, _, _, rfl, .ty "int", .base (.int i), no true (by decide +kernel), _, rfl, iteT ?_⟩
        refine ⟨_, rfl, _, _, _, _, _, rfl, .ty "bool", .base (.int i), no false (by decide +kernel), _, rfl, _, rfl, iteT ?_⟩
        refine ⟨_, rfl, _, rfl, rfl, ?_⟩
        rw [decide_eq_true rfl]
        exact q _ (Same.refl _)
      | str z =>
        refine ⟨_, rfl, rfl, _, rfl, iteF ?_⟩
        refine ⟨_, rfl, _, _, _, _, _, rfl, .ty "bool", .base (.str z), no false (by decide +kernel), _, rfl, iteF ?_⟩
        refine ⟨_, rfl, _, _, _, _, _, rfl, .ty "int", .base (.str z), no false (by decide +kernel), _, rfl, iteF ?_⟩
        refine ⟨_, rfl, _, _, _, _, _, rfl, .ty "str", .base (.str z), no true (by decide +kernel), _, rfl, iteT ?_⟩
        refine ⟨_, rfl, _, _, _, _, _, rfl, .ty "str", .base (.str z), no true (by decide +kernel), _, rfl, iteT ?_⟩
        refine ⟨_, rfl, _, rfl, rfl, ?_⟩
        rw [decide_eq_true rfl]
        exact q _ (Same.refl _)
      | _ => cases hf
  | succ n ih =>
    refine F.ok sc_equal (fun vs H Q E h => ?_) (fun cdv A outer s H vs Q E hr h => ?_)
    · obtain ⟨x, y, rfl, _⟩ := h
      rfl
    · obtain ⟨x, y, rfl, hxy, q⟩ := h
      refine ⟨_, pss_cons (ps_if (pt_cmpR op_isN (pv 1) pe_non (nomark _)) (pss_one (ps_ret (pe_cmpR op_isN (pv 0) pe_non (nomark _)))) pss_nil)
        (pss_cons (ps_if (pt_val (pe_callB call_isi (by rfl) B.isinstance boot_isinstance' (pa_cons (pv 1) (pa_cons (pe_bltn (v := .ty "bool") (by rfl) B.bool boot_bool' rfl) pa_nil)))) (pss_one (ps_ret (pe_and (pe_callB call_isi (by rfl) B.isinstance boot_isinstance' (pa_cons (pv 0) (pa_cons (pe_bltn (v := .ty "bool") (by rfl) B.bool boot_bool' rfl) pa_nil))) (pe_one (pe_cmpR op_eq (pv 0) (pv 1) (nomark _)))))) pss_nil)
        (pss_cons (ps_if (pt_val (pe_callB call_isi (by rfl) B.isinstance boot_isinstance' (pa_cons (pv 1) (pa_cons (pe_bltn (v := .ty "int") (by rfl) B.int boot_int' rfl) pa_nil)))) (pss_one (ps_ret (pe_and (pe_callB call_isi (by rfl) B.isinstance boot_isinstance' (pa_cons (pv 0) (pa_cons (pe_bltn (v := .ty "int") (by rfl) B.int boot_int' rfl) pa_nil))) (pe_and (pe_not (pe_callB call_isi (by rfl) B.isinstance boot_isinstance' (pa_cons (pv 0) (pa_cons (pe_bltn (v := .ty "bool") (by rfl) B.bool boot_bool' rfl) pa_nil)))) (pe_one (pe_cmpR op_eq (pv 0) (pv 1) (nomark _))))))) pss_nil)
        (pss_cons (ps_if (pt_val (pe_callB call_isi (by rfl) B.isinstance boot_isinstance' (pa_cons (pv 1) (pa_cons (pe_bltn (v := .ty "str") (by rfl) B.str boot_str' rfl) pa_nil)))) (pss_one (ps_ret (pe_and (pe_callB call_isi (by rfl) B.isinstance boot_isinstance' (pa_cons (pv 0) (pa_cons (pe_bltn (v := .ty "str") (by rfl) B.str boot_str' rfl) pa_nil))) (pe_one (pe_cmpR op_eq (pv 0) (pv 1) (nomark _)))))) pss_nil)
        (pss_cons (ps_if (pt_cmpR op_ne (pe_callB call_isi (by rfl) B.isinstance boot_isinstance' (pa_cons (pv 1) (pa_cons (pe_bltn (v := .ty "tuple") (by rfl) B.tuple boot_tuple' rfl) pa_nil))) (pe_callB call_isi (by rfl) B.isinstance boot_isinstance' (pa_cons (pv 0) (pa_cons (pe_bltn (v := .ty "tuple") (by rfl) B.tuple boot_tuple' rfl) pa_nil))) (nomark _)) (pss_one (ps_ret pe_bl)) pss_nil)
        (pss_cons (ps_if (pt_cmpR op_ne (pe_callB call_isi (by rfl) B.isinstance boot_isinstance' (pa_cons (pv 1) (pa_cons (pe_bltn (v := .ty "list") (by rfl) B.list boot_list' rfl) pa_nil))) (pe_callB call_isi (by rfl) B.isinstance boot_isinstance' (pa_cons (pv 0) (pa_cons (pe_bltn (v := .ty "list") (by rfl) B.list boot_list' rfl) pa_nil))) (nomark _)) (pss_one (ps_ret pe_bl)) pss_nil)
        (pss_cons (ps_if (pt_cmpR op_ne (pe_callB call_len_seq (by rfl) B.len boot_len' (pa_cons (pv 0) pa_nil)) (pe_callB call_len_seq (by rfl) B.len boot_len' (pa_cons (pv 1) pa_nil)) (nomark _)) (pss_one (ps_ret pe_bl)) pss_nil)
        (pss_one (ps_ret (pe_callB (cr_all rfl) (by rfl) B.all boot_all' (pa_cons (pe_lc (own := [("_law_k", 2)]) (g := gName 2) (by rfl) sc_equal.nd (pi_range1 (by rfl) B.range (pa_cons (pe_callB call_len_seq (by rfl) B.len boot_len' (pa_cons (pv 1) pa_nil)) pa_nil))
          (blkOk_by (own := [("_law_k", 2)]) (N := nmEq) (sc := defScope s__law_equal) (by decide +kernel))
          (fun _ _ _ _ _ => pg_name (i := 2) sc_equal.nd rfl (.inl rfl)) (fun _ _ _ _ _ => pts_nil)
          (fun _ _ _ _ _ => pe_call ih hr (by rfl) hg F.kp bG .nil pass0 (pa_cons (pe_ix (r := rIxLT K) ix_lt (pv 0) (pv 2) (fun _ _ => rfl)) (pa_cons (pe_ix (r := rIxLT K) ix_lt (pv 1) (pv 2) (fun _ _ => rfl)) pa_nil)))) pa_nil)))))))))), ?_⟩
      rcases hxy with ⟨rfl, hf⟩ | ⟨a, b, xs, ys, rfl, rfl, hab, hl, hz, hi⟩
      · have no : ∀ (b : Bool) {a c : String} (h : kitB a c = some b), PySem.W.kitOne K (.type a) (.type c) = some b := fun b a c h => kit_ty h
        cases x with
        | non => exact ⟨_, rfl, rfl, _, rfl, iteT ⟨_, rfl, rfl, q _ (Same.refl _)⟩⟩
        | bl b =>
          refine ⟨_, rfl, rfl, _, rfl, iteF ?_⟩
          refine ⟨_, rfl, _, _, _, _, _, rfl, .ty "bool", .base (.bl b), no true (by decide +kernel), _, rfl, iteT ?_⟩
          refine ⟨_, rfl, _, _, _, _, _, rfl, .ty "bool", .base (.bl b), no true (by decide +kernel), _, rfl, iteT ?_⟩
          refine ⟨_, rfl, _, rfl, rfl, ?_⟩
          rw [decide_eq_true rfl]
          exact q _ (Same.refl _)
        | int i =>
          refine ⟨_, rfl, rfl, _, rfl, iteF ?_⟩
          refine ⟨_, rfl, _, _, _, _, _, rfl, .ty "bool", .base (.int i), no false (by decide +kernel), _, rfl, iteF ?_⟩
          refine ⟨_, rfl, _, _, _, _, _, rfl, .ty "int", .base (.int i), no true (by decide +kernel), _, rfl, iteT ?_⟩
          refine ⟨_, rfl, _, _, _, _, _, rfl, .ty "int", .base (.int i), no true (by decide +kernel), _, rfl, iteT ?_⟩
          refine ⟨_, rfl, _, _, _, _, _, rfl, .ty "bool", .base (.int i), no false (by decide +kernel), _, rfl, _, rfl, iteT ?_⟩
          refine ⟨_, rfl, _, rfl, rfl, ?_⟩
          rw [decide_eq_true rfl]
          exact q _ (Same.refl _)
        | str z =>
          refine ⟨_, rfl, rfl, _, rfl, iteF ?_⟩
          refine ⟨_, rfl, _, _, _, _, _, rfl, .ty "bool", .base (.str z), no false (by decide +kernel), _, rfl, iteF ?_⟩
          refine ⟨_, rfl, _, _, _, _, _, rfl, .ty "int", .base (.str z), no false (by decide +kernel), _, rfl, iteF ?_⟩
          refine ⟨_, rfl, _, _, _, _, _, rfl, .ty "str", .base (.str z), no true (by decide +kernel), _, rfl, iteT ?_⟩
          refine ⟨_, rfl, _, _, _, _, _, rfl, .ty "str", .base (.str z), no true (by decide +kernel), _, rfl, iteT ?_⟩
          refine ⟨_, rfl, _, rfl, rfl, ?_⟩
          rw [decide_eq_true rfl]
          exact q _ (Same.refl _)
        | _ => cases hf
      · -- two lists or two tuples
        have tyA : ∃ T : String, (T = "list" ∨ T = "tuple") ∧ TyX K H (.ref a) (.type T) ∧ TyX K H (.ref b) (.type T) := by
          rcases hab with ⟨h1, h2⟩ | ⟨h1, h2⟩
          · exact ⟨"list", .inl rfl, .base (.lst h1), .base (.lst h2)⟩
          · exact ⟨"tuple", .inr rfl, .base (.tup h1), .base (.tup h2)⟩
        have sqA : SqL K H a xs ∨ SqT K H a xs := by
          rcases hab with ⟨h1, h2⟩ | ⟨h1, h2⟩
          · exact .inl (SqL.of h1)
          · exact .inr (SqT.of h1)
        have sqB : SqL K H b ys ∨ SqT K H b ys := by
          rcases hab with ⟨h1, h2⟩ | ⟨h1, h2⟩
          · exact .inl (SqL.of h2)
          · exact .inr (SqT.of h2)
        obtain ⟨T, hT, ta, tb⟩ := tyA
        have nb : PySem.W.kitOne K (.type T) (.type "bool") = some false := by rcases hT with rfl | rfl <;> exact kit_ty (by decide +kernel)
        have ni : PySem.W.kitOne K (.type T) (.type "int") = some false := by rcases hT with rfl | rfl <;> exact kit_ty (by decide +kernel)
        have ns : PySem.W.kitOne K (.type T) (.type "str") = some false := by rcases hT with rfl | rfl <;> exact kit_ty (by decide +kernel)
        obtain ⟨bt, kt⟩ : ∃ r, PySem.W.kitOne K (.type T) (.type "tuple") = some r := by
          rcases hT with rfl | rfl
          · exact ⟨false, kit_ty (by decide +kernel)⟩
          · exact ⟨true, kit_ty (by decide +kernel)⟩
        obtain ⟨bl, kl⟩ : ∃ r, PySem.W.kitOne K (.type T) (.type "list") = some r := by
          rcases hT with rfl | rfl
          · exact ⟨true, kit_ty (by decide +kernel)⟩
          · exact ⟨false, kit_ty (by decide +kernel)⟩
        refine ⟨_, rfl, rfl, _, rfl, iteF ?_⟩
        refine ⟨_, rfl, _, _, _, _, _, rfl, .ty "bool", tb, nb, _, rfl, iteF ?_⟩
        refine ⟨_, rfl, _, _, _, _, _, rfl, .ty "int", tb, ni, _, rfl, iteF ?_⟩
        refine ⟨_, rfl, _, _, _, _, _, rfl, .ty "str", tb, ns, _, rfl, iteF ?_⟩
        refine ⟨_, rfl, _, _, _, _, _, rfl, .ty "tuple", tb, kt, _, rfl, _, _, _, _, _, rfl, .ty "tuple", ta, kt, rfl, _, rfl, iteNS rfl ?_⟩
        refine ⟨_, rfl, _, _, _, _, _, rfl, .ty "list", tb, kl, _, rfl, _, _, _, _, _, rfl, .ty "list", ta, kl, rfl, _, rfl, iteNS rfl ?_⟩
        refine ⟨_, rfl, _, _, rfl, sqA, _, rfl, _, _, rfl, sqB, rfl, _, rfl, iteNS (by rw [hl]) ?_⟩
        refine ⟨_, rfl, _, _, rfl, sqB, _, rfl, by omega, by omega, fun D hD => ?_⟩
        have s1 : Same H (upd H D (.lst [])) := same_new hD
        refine lc_range (lo := 0) (n := (ys.length : Int).toNat) (fun i H3 => Same H H3 ∧ H3 D = some (.lst ((List.replicate i true).map V.bl))) ⟨s1, upd_same⟩ ?_ ?_
        · rintro i H3 hlt ⟨s3, hD3⟩
          have hi1 : i < xs.length := by omega
          have hi2 : i < ys.length := by omega
          have e0 : (0 : Int) + (i : Int) = (i : Int) := by omega
          refine ⟨rfl, ?_⟩
          have hx : xs[i]? = some xs[i] := List.getElem?_eq_getElem hi1
          have hy : ys[i]? = some ys[i] := List.getElem?_eq_getElem hi2
          have gA : rIxLT K (.ref a) (.int (0 + (i : Int))) H3 = rIxLT K (.ref a) (.int (i : Int)) H3 := by rw [e0]
          refine ⟨_, rfl, _, rfl, ?_⟩
          have itA : ∀ Q, Q xs[i] H3 → rIxLT K (.ref a) (.int (0 + (i : Int))) H3 Q := fun Q h => by
            rw [e0]
            rcases hab with ⟨h1, h2⟩ | ⟨h1, h2⟩
            · exact .inl ⟨a, xs, _, _, rfl, rfl, SqL.of (s3 _ _ h1), atI_nat hx, h⟩
            · exact .inr ⟨a, xs, _, _, rfl, rfl, SqT.of (s3 _ _ h1), atI_nat hx, h⟩
          have itB : ∀ Q, Q ys[i] H3 → rIxLT K (.ref b) (.int (0 + (i : Int))) H3 Q := fun Q h => by
            rw [e0]
            rcases hab with ⟨h1, h2⟩ | ⟨h1, h2⟩
            · exact .inl ⟨b, ys, _, _, rfl, rfl, SqL.of (s3 _ _ h2), atI_nat hy, h⟩
            · exact .inr ⟨b, ys, _, _, rfl, rfl, SqT.of (s3 _ _ h2), atI_nat hy, h⟩
          refine itA _ ⟨_, rfl, _, rfl, itB _ ?_⟩
          refine ⟨xs[i], ys[i], rfl, (hi i _ _ hx hy).same s3, fun H4 s4 => ?_⟩
          refine ⟨_, s4 _ _ hD3, ?_, ?_, ?_⟩
          · rw [List.length_map, List.length_replicate]
            exact Nat.lt_of_lt_of_le (show i < 100000 by omega) (by decide)
          · exact Same.upd (s3.trans s4) hD
          · rw [upd_same, List.replicate_succ', List.map_append]
            rfl
        · rintro H3 ⟨s3, hD3⟩
          refine ⟨D, List.replicate (ys.length : Int).toNat true, rfl, SqL.of hD3, ?_⟩
          have e : (List.replicate (ys.length : Int).toNat true).all id = true := by
            rw [List.all_eq_true]
            intro x hx
            rw [(List.mem_replicate.mp hx).2]
            rfl
          rw [e]
          exact q _ s3
end
end SC
set_option maxRecDepth 100000
set_option maxHeartbeats 2000000
namespace SC
open PySem PySem.Spec PyProof.Rows L2 TL
section
variable {P : Program} {w : World} {K : PySem.W.Frag} {mg : Str → Option Value} {base : Heap}
def nmNear : List Str := ["word", "written", "digits", "mark"]
theorem sc_near : FnScope nmNear ["word"] (defScope s_near_of) := ⟨rfl, rfl, rfl, by decide +kernel, rfl, by decide +kernel, by decide +kernel⟩
theorem ok_near {f g : Addr} {fd gd hd : FuncData} (F : Fun K "near_of" "near_of" s_near_of f fd) (B : Bln mg) (T : Cells K mg) (G : FnOk P w K mg base CX0 2 g gd ["value"] (spNumber K)) (bG : Binds K gd ["value"] []) (kG : PySem.W.keepIn K (.ref g) = true) (hg : mg "is_number" = some (.ref g))
    (N : FnOk P w K mg base (L2.CX P w) 4 (He.ma K (He.ga K "Near") "__init__") hd ["self", "mark"] (spNearInit K)) (bN : Binds K hd ["self", "mark"] []) {t1 t2 : Tok} (hs : mg "NEAR_START" = some (.str "near:" t1)) (hm : mg "MOST_DIGITS" = some (.int 10 t2)) :
    FnOk P w K mg base CX0 6 f fd ["word"] (spNear K) := by
  refine F.ok sc_near (fun vs H Q E h => ?_) (fun cdv A outer s H vs Q E hr h => ?_)
  · obtain ⟨m, rfl, _⟩ := h
    rfl
  · obtain ⟨m, rfl, ho, q⟩ := h
    refine ⟨_, pss_cons (ps_set (i := 1) sc_near.nd rfl (.inl rfl) (pe_bm PySem.F.plainAttrs_str PySem.F.slot_str_removeprefix PySem.F.type_str_removeprefix mt_removeprefix (pv 0) (pa_cons (pe_glob (v := .str "near:") (by rfl) hs ⟨_, rfl⟩) pa_nil)))
      (pss_cons (ps_set (i := 2) sc_near.nd rfl (.inl rfl) (pe_bm PySem.F.plainAttrs_str PySem.F.slot_str_removeprefix PySem.F.type_str_removeprefix mt_removeprefix (pv 1) (pa_cons pe_str pa_nil)))
      (pss_cons (ps_if (PW.pt (pw_or (pt_not (pt_val (pe_bm0 PySem.F.plainAttrs_str PySem.F.slot_str_isascii PySem.F.type_str_isascii mt_isascii (pv 2)))) (pw_or (pt_not (pt_val (pe_bm0 PySem.F.plainAttrs_str PySem.F.slot_str_isdigit PySem.F.type_str_isdigit mt_isdigit (pv 2))))
        (pw_or1 (pt_cmpR op_gt (pe_callB call_len_str (by rfl) B.len boot_len' (pa_cons (pv 2) pa_nil)) (pe_glob (v := .int 10) (by rfl) hm ⟨_, rfl⟩) (nomark _)))))) pss_never pss_nil)
      (pss_cons (ps_set (i := 3) sc_near.nd rfl (.inl rfl) (pe_callTy call_int_str (by rfl) B.int boot_int' (pa_cons (pv 1) pa_nil)))
      (pss_cons (ps_if (PW.pt (pw_or (pt_not (pt_val (pe_call (G.mono (by decide : 2 ≤ 5)) hr (by rfl) hg kG bG .nil pass0 (pa_cons (pv 3) pa_nil)))) (pw_or1 (pt_cmpR op_ne (pe_callTy call_str_int (by rfl) B.str boot_str' (pa_cons (pv 3) pa_nil)) (pv 1) (nomark _))))) pss_never pss_nil)
        (pss_one (ps_ret (pe_make T.mkN N hr (by rfl) (T.glo .near) bN .nil passL (pa_cons (pv 3) pa_nil)))))))), ?_⟩
    have e1 := rem_near m
    have e2 := rem_minus m
    have e3 := digit_all e2
    have e4 := digit_len e2 ho
    refine ⟨_, rfl, rfl, _, _, rfl, rfl, Nat.le_trans (label_len (r := .near m) ho) (by decide), ?_⟩
    rw [e1]
    refine ⟨_, rfl, rfl, _, _, rfl, rfl, Nat.le_trans (numS_len ho) (by decide), ?_⟩
    generalize Txt.removeprefix (numS m) ("-" : Str) = dg at *
    refine ⟨_, rfl, rfl, _, rfl, rfl, trivial, _, rfl, ?_⟩
    rw [e3.1]
    refine iteF ⟨_, rfl, rfl, _, rfl, rfl, trivial, _, rfl, ?_⟩
    rw [e3.2]
    refine iteF ?_
    refine ⟨_, rfl, dg, rfl, Nat.le_trans e4 (by decide), ?_⟩
    refine ⟨_, _, rfl, rfl, _, rfl, iteD0 (by omega) ?_⟩
    refine ⟨_, rfl, _, _, rfl, numS_read ho, Nat.le_trans (numS_len ho) (by decide), ?_⟩
    have en : (decide (-1000000000 ≤ m) && decide (m ≤ 1000000000)) = true := by
      rw [decide_eq_true ho.1, decide_eq_true ho.2]
      rfl
    refine ⟨_, rfl, _, rfl, .inl ⟨m, rfl, _, rfl, ?_⟩⟩
    rw [en]
    refine iteF ?_
    refine ⟨_, rfl, m, rfl, numS_log ho, _, rfl, rfl, _, rfl, ?_⟩
    refine iteNS rfl ?_
    refine ⟨_, rfl, fun x dy h1 h2 h3 => ?_⟩
    refine ⟨x, dy, _, rfl, upd_same, .inl ⟨m, rfl, fun _ => ⟨rfl, ?_⟩, fun z => absurd ho z⟩⟩
    rw [upd_upd]
    exact q x _ h1 (made_same h1 h2) ⟨ho, dy, upd_same⟩
/-- the cells' classes, read as values -/
structure CellsC (K : PySem.W.Frag) : Prop where
  rd : ∀ k : Kd, ClX.CRead K (He.ga K k.cn) (.type "type")
  kd : ∀ k : Kd, k ≠ .near → ∃ u, ClX.CVal K (He.ga K k.cn) (.type "type") "KIND" (.str k.word) u
theorem word_ne {r : Rule} {k : Kd} (h : r.ok) (hk : k ≠ .near) (hr : r.kd ≠ k) : ¬ V.str r.label = V.str k.word := fun z => by
  cases r with
  | near m => exact near_ne m hk z
  | first => cases k <;> first | exact hr rfl | exact hk rfl | (revert z; decide +kernel)
  | last => cases k <;> first | exact hr rfl | exact hk rfl | (revert z; decide +kernel)
  | less => cases k <;> first | exact hr rfl | exact hk rfl | (revert z; decide +kernel)
  | greater => cases k <;> first | exact hr rfl | exact hk rfl | (revert z; decide +kernel)
theorem sc_cellof : FnScope ["word"] ["word"] (defScope s_cell_of) := ⟨rfl, rfl, rfl, by decide +kernel, rfl, by decide +kernel, by decide +kernel⟩
theorem ok_cellof {f g : Addr} {fd gd : FuncData} (F : Fun K "cell_of" "cell_of" s_cell_of f fd) (T : Cells K mg) (TC : CellsC K) (G : FnOk P w K mg base CX0 6 g gd ["word"] (spNear K)) (bG : Binds K gd ["word"] []) (kG : PySem.W.keepIn K (.ref g) = true) (hg : mg "near_of" = some (.ref g))
    {t1 : Tok} (hs : mg "NEAR_START" = some (.str "near:" t1)) : FnOk P w K mg base CX0 7 f fd ["word"] (spCellOf K) := by
  refine F.ok sc_cellof (fun vs H Q E h => ?_) (fun cdv A outer s H vs Q E hr h => ?_)
  · obtain ⟨r, rfl, _⟩ := h
    rfl
  · obtain ⟨r, rfl, ho, q⟩ := h
    refine ⟨_, pss_cons (ps_if (pt_cmpR op_eq (pv 0) (ClX.pe_cval (pe_glob (v := .ref (He.ga K "Cell")) (by rfl) (T.glo .first) rfl)) (nomark _)) (pss_one (ps_ret (pe_mk0 (T.mk0 .first (by decide)) (by rfl) (T.glo .first)))) pss_nil)
      (pss_cons (ps_if (pt_cmpR op_eq (pv 0) (ClX.pe_cval (pe_glob (v := .ref (He.ga K "Last")) (by rfl) (T.glo .last) rfl)) (nomark _)) (pss_one (ps_ret (pe_mk0 (T.mk0 .last (by decide)) (by rfl) (T.glo .last)))) pss_nil)
      (pss_cons (ps_if (pt_cmpR op_eq (pv 0) (ClX.pe_cval (pe_glob (v := .ref (He.ga K "Less")) (by rfl) (T.glo .less) rfl)) (nomark _)) (pss_one (ps_ret (pe_mk0 (T.mk0 .less (by decide)) (by rfl) (T.glo .less)))) pss_nil)
      (pss_cons (ps_if (pt_cmpR op_eq (pv 0) (ClX.pe_cval (pe_glob (v := .ref (He.ga K "Greater")) (by rfl) (T.glo .greater) rfl)) (nomark _)) (pss_one (ps_ret (pe_mk0 (T.mk0 .greater (by decide)) (by rfl) (T.glo .greater)))) pss_nil)
      (pss_cons (ps_if (pt_val (pe_bm PySem.F.plainAttrs_str PySem.F.slot_str_startswith PySem.F.type_str_startswith mt_startswith (pv 0) (pa_cons (pe_glob (v := .str "near:") (by rfl) hs ⟨_, rfl⟩) pa_nil))) (pss_one (ps_ret (pe_call G hr (by rfl) hg kG bG .nil pass0 (pa_cons (pv 0) pa_nil)))) pss_nil)
        pss_never)))), ?_⟩
    obtain ⟨u1, k1⟩ := TC.kd .first (by decide)
    obtain ⟨u2, k2⟩ := TC.kd .last (by decide)
    obtain ⟨u3, k3⟩ := TC.kd .less (by decide)
    obtain ⟨u4, k4⟩ := TC.kd .greater (by decide)
    refine ⟨_, rfl, _, _, _, _, rfl, TC.rd .first, k1, rfl, _, rfl, ?_⟩
    by_cases h1 : r.kd = .first
    · cases r with
      | first =>
        refine iteD1 rfl ?_
        intro x dy a1 a2 a3
        exact q x _ a1 (made_same a1 a2) ⟨trivial, dy, upd_same⟩
      | _ => cases h1
    refine iteD0 (word_ne ho (k := .first) (by decide) h1) ?_
    refine ⟨_, rfl, _, _, _, _, rfl, TC.rd .last, k2, rfl, _, rfl, ?_⟩
    by_cases h2 : r.kd = .last
    · cases r with
      | last =>
        refine iteD1 rfl ?_
        intro x dy a1 a2 a3
        exact q x _ a1 (made_same a1 a2) ⟨trivial, dy, upd_same⟩
      | _ => cases h2
    refine iteD0 (word_ne ho (k := .last) (by decide) h2) ?_
    refine ⟨_, rfl, _, _, _, _, rfl, TC.rd .less, k3, rfl, _, rfl, ?_⟩
    by_cases h3 : r.kd = .less
    · cases r with
      | less =>
        refine iteD1 rfl ?_
        intro x dy a1 a2 a3
        exact q x _ a1 (made_same a1 a2) ⟨trivial, dy, upd_same⟩
      | _ => cases h3
    refine iteD0 (word_ne ho (k := .less) (by decide) h3) ?_
    refine ⟨_, rfl, _, _, _, _, rfl, TC.rd .greater, k4, rfl, _, rfl, ?_⟩
    by_cases h4 : r.kd = .greater
    · cases r with
      | greater =>
        refine iteD1 rfl ?_
        intro x dy a1 a2 a3
        exact q x _ a1 (made_same a1 a2) ⟨trivial, dy, upd_same⟩
      | _ => cases h4
    refine iteD0 (word_ne ho (k := .greater) (by decide) h4) ?_
    cases r with
    | near m =>
      refine ⟨_, rfl, rfl, _, _, rfl, rfl, _, rfl, ?_⟩
      rw [starts_near]
      exact iteT ⟨_, rfl, m, rfl, ho, q⟩
    | first => exact absurd rfl h1
    | last => exact absurd rfl h2
    | less => exact absurd rfl h3
    | greater => exact absurd rfl h4
def nmCheck : List Str := ["row", "longest", "at", "number"]
theorem sc_check : FnScope nmCheck ["row", "longest"] (defScope s_check_row) := ⟨rfl, rfl, rfl, by decide +kernel, rfl, by decide +kernel, by decide +kernel⟩
theorem ok_check {f g : Addr} {fd gd : FuncData} (F : Fun K "check_row" "check_row" s_check_row f fd) (B : Bln mg) (hen : mg "enumerate" = none) (G : FnOk P w K mg base CX0 2 g gd ["value"] (spNumber K)) (bG : Binds K gd ["value"] []) (kG : PySem.W.keepIn K (.ref g) = true) (hg : mg "is_number" = some (.ref g)) :
    FnOk P w K mg base CX0 3 f fd ["row", "longest"] (spCheck K) := by
  refine F.ok sc_check (fun vs H Q E h => ?_) (fun cdv A outer s H vs Q E hr h => ?_)
  · obtain ⟨a, ns, L, rfl, _⟩ := h
    rfl
  · obtain ⟨a, ns, L, rfl, hS, hl, hz, q⟩ := h
    refine ⟨_, pss_cons (ps_if (pt_not (pt_val (pe_callB call_isi (by rfl) B.isinstance boot_isinstance' (pa_cons (pv 0) (pa_cons (pe_bltn (v := .ty "list") (by rfl) B.list boot_list' rfl) pa_nil))))) pss_never pss_nil)
      (pss_one (ps_for PassesOwn.never rfl (pi_enum (by rfl) hen (pa_cons (pv 0) pa_nil)) (pg_tup rfl (pgs_cons (pg_name (i := 2) sc_check.nd rfl (.inl rfl)) (pgs_cons (pg_name (i := 3) sc_check.nd rfl (.inl rfl)) pgs_nil)))
        (pss_one (ps_if (PW.pt (pw_or (pt_cmpR op_eq (pv 2) (pv 1) (nomark _)) (pw_or1 (pt_not (pt_val (pe_call G hr (by rfl) hg kG bG .nil pass0 (pa_cons (pv 3) pa_nil))))))) pss_never pss_nil)))), ?_⟩
    refine ⟨_, rfl, _, _, _, _, true, rfl, .ty "list", .base (.lst hS), kit_ty (by decide +kernel), true, rfl, iteF ?_⟩
    have nd : ∀ {H' : Hp}, Same H H' → SqL K H' a (ns.map V.int) := fun s => SqL.of (s _ _ hS)
    refine ⟨_, rfl, a, ns.map V.int, rfl, SqL.of hS, for_enumL (K := K) (a := a) (xs := ns.map V.int) (fun i σ H2 => ∃ (u v : Option V), σ = [some (.ref a), some (.int L), u, v] ∧ Same H H2) ⟨none, none, rfl, fun _ _ z => z⟩ (fun i σ H2 ⟨_, _, _, s⟩ => nd s) ?_ ?_⟩
    · rintro i y T σ H2 hi ⟨u, v, rfl, s2⟩ hT
      obtain ⟨z, hzi, rfl⟩ := map_int_at hi
      have s3 : Same H (upd H2 T (.tup [.int (i : Nat), .int z])) := s2.trans (same_new hT)
      refine ⟨T, _, rfl, SqT.of upd_same, rfl, _, _, rfl, _, _, rfl, rfl, ?_⟩
      refine ⟨_, rfl, _, rfl, rfl, _, rfl, ?_⟩
      have hlt : i < ns.length := by
        rcases Nat.lt_or_ge i ns.length with q | q
        · exact q
        · rw [List.getElem?_eq_none q] at hzi
          cases hzi
      refine iteD0 (fun e => by have e2 := V.int.inj e; omega) ?_
      have zo : numOk z := hz z (List.mem_of_getElem? hzi)
      have en : (decide (-1000000000 ≤ z) && decide (z ≤ 1000000000)) = true := by
        rw [decide_eq_true zo.1, decide_eq_true zo.2]
        rfl
      refine ⟨_, rfl, _, rfl, .inl ⟨z, rfl, _, rfl, ?_⟩⟩
      rw [en]
      exact iteF ⟨_, _, rfl, s3⟩
    · rintro σ H2 ⟨u, v, rfl, s2⟩
      exact q _ s2
end
end SC
set_option maxRecDepth 100000
set_option maxHeartbeats 2000000
namespace SC
open PySem PySem.Spec PyProof.Rows L2 TL
section
variable {P : Program} {w : World} {K : PySem.W.Frag} {mg : Str → Option Value} {base : Heap}
theorem map_ref_at {as : List Addr} {i : Nat} {y : V} (h : (as.map V.ref)[i]? = some y) : ∃ a, as[i]? = some a ∧ y = V.ref a := by
  rw [List.getElem?_map] at h
  cases e : as[i]? with
  | none =>
    rw [e] at h
    cases h
  | some a =>
    rw [e] at h
    exact ⟨a, rfl, (Option.some.inj h).symm⟩
theorem Cs.at {H : Hp} {as : List Addr} {rs : List Rule} {i : Nat} {a : Addr} (c : Cs K H as rs) (h : as[i]? = some a) : ∃ r, rs[i]? = some r ∧ CellAt K H a r := by
  have hi : i < as.length := by
    rcases Nat.lt_or_ge i as.length with q | q
    · exact q
    · rw [List.getElem?_eq_none q] at h
      cases h
  have hr : rs[i]? = some (rs[i]'(by rw [← c.1]; exact hi)) := List.getElem?_eq_getElem _
  exact ⟨_, hr, c.2 i a _ h hr⟩
def nmInit : List Str := ["self", "cells", "at", "cell"]
theorem sc_cinit : FnScope nmInit ((["self"] : List Str) ++ (["cells"] : List Str)) (defScope s_Chain_init) := ⟨rfl, rfl, rfl, by decide +kernel, rfl, by decide +kernel, by decide +kernel⟩
theorem ok_cinit {f : Addr} {fd : FuncData} (F : Fun K "__init__" "Chain.__init__" s_Chain_init f fd) (B : Bln mg) (hen : mg "enumerate" = none) (T : Cells K mg) (C : Chains K mg) : FnR P w K mg base CX0 1 f (spInit K) := by
  obtain ⟨oc, od, kV, doc, pm, an, cdv, ct, osl, rfl, lk, hcd⟩ := F.ex
  refine FnR.imp (StX.fn_star (sp := spInitB K) (k := 0) (ps := ["self"]) (pv := "cells") lk hcd sc_cinit StX.cxUp_none (StX.bind_star1 (B := fun us => bindArgs _ ⟨us, []⟩) (fun a => rfl) (fun a r rs => rfl)) fun A outer s H vs Q E hr h => ?_) fun vs H Q E h => ?_
  · obtain ⟨x, dx, t, as, rs, rfl, hx, ht, cs, nx, h1, h8, q⟩ := h
    refine ⟨_, PSs.nox (pss_cons (ps_if (pt_not (pt_truth (pv 1) (by intro _; rfl))) pss_never pss_nil)
      (pss_cons (ps_for PassesOwn.never rfl (pi_enumT (by rfl) hen (pa_cons (pv 1) pa_nil)) (pg_tup rfl (pgs_cons (pg_name (i := 2) sc_cinit.nd rfl (.inl rfl)) (pgs_cons (pg_name (i := 3) sc_cinit.nd rfl (.inl rfl)) pgs_nil)))
        (pss_one (ps_if (PW.pt (pw_or (pt_cmpR op_eq (pv 2) (pe_con (pv 0) rfl) (nomark _)) (pw_or1 (pt_not (pt_val (pe_callB call_isi (by rfl) B.isinstance boot_isinstance' (pa_cons (pv 3) (pa_cons (pe_glob (v := .ref (He.ga K "Cell")) (by rfl) (T.glo .first) rfl) pa_nil)))))))) pss_never pss_nil)))
      (pss_one (ps_fld (pv 0) (pv 1) rfl)))), ?_⟩
    have hne : as ≠ [] := fun z => by
      rw [z] at cs
      have := cs.1
      simp at this
      omega
    refine ⟨_, rfl, true, .inr (.inl ⟨_, SqT.of ht, ?_⟩), iteF ?_⟩
    · cases as with
      | nil => exact absurd rfl hne
      | cons a r => rfl
    obtain ⟨um, cm⟩ := C.maxI
    refine ⟨_, rfl, t, as.map V.ref, rfl, SqT.of ht, for_enumT (K := K) (a := t) (xs := as.map V.ref) (fun i σ H2 => ∃ (u v : Option V), σ = [some (.ref x), some (.ref t), u, v] ∧ Same H H2) ⟨none, none, rfl, fun _ _ z => z⟩ (fun i σ H2 ⟨_, _, _, s⟩ => SqT.of (s _ _ ht)) ?_ ?_⟩
    · rintro i y T2 σ H2 hi ⟨u, v, rfl, s2⟩ hT
      obtain ⟨a, hai, rfl⟩ := map_ref_at hi
      obtain ⟨r, hri, ca⟩ := cs.at hai
      have s3 : Same H (upd H2 T2 (.tup [.int (i : Nat), .ref a])) := s2.trans (same_new hT)
      have hlt : i < rs.length := by
        rcases Nat.lt_or_ge i rs.length with q | q
        · exact q
        · rw [List.getElem?_eq_none q] at hri
          cases hri
      refine ⟨T2, _, rfl, SqT.of upd_same, rfl, _, _, rfl, _, _, rfl, rfl, ?_⟩
      refine ⟨_, rfl, _, rfl, x, _, dx, _, _, _, rfl, s3 _ _ hx, C.cls, cm, rfl, rfl, _, rfl, iteD0 (fun e => by have e2 := V.int.inj e; omega) ?_⟩
      refine ⟨_, rfl, _, _, _, _, true, rfl, .own _, (ca.same s3).ty T, T.kit r.kd, _, rfl, iteF ⟨_, _, rfl, s3⟩⟩
    · rintro σ H2 ⟨u, v, rfl, s2⟩
      refine ⟨_, rfl, _, rfl, x, _, dx, [], rfl, s2 _ _ hx, C.cls, C.noC, (by show 0 < 1000; decide), ?_⟩
      have ntx : t ≠ x := ne_of ht hx fun z => by cases z
      refine q _ (fun b o hb hbx => by rw [upd_ne hbx]; exact s2 _ _ hb) ⟨dx, t, as, upd_same, by rw [upd_ne ntx]; exact s2 _ _ ht, ⟨cs.1, fun i a r ha hr => ?_⟩, h1, h8⟩
      have ca := cs.2 i a r ha hr
      obtain ⟨ro, dy, hay⟩ := ca
      refine ⟨ro, dy, ?_⟩
      have nax : a ≠ x := fun z => nx (z ▸ List.mem_of_getElem? ha)
      rw [upd_ne nax]
      exact s2 _ _ hay
  · obtain ⟨x, dx, as, rs, rfl, hx, cs, nx, h1, h8, q⟩ := h
    refine ⟨[.ref x], as.map V.ref, rfl, rfl, ?_, fun p hp => ?_⟩
    · rw [List.length_map, cs.1]
      exact Nat.le_trans h8 (by decide)
    · have nxp : x ≠ p := ne_of_none hx hp
      refine ⟨x, dx, p, as, rs, rfl, by rw [upd_ne nxp]; exact hx, upd_same, cs.same (same_new hp), nx, h1, h8, fun H' f => q H' fun b o hb hbx => f b o ?_ hbx⟩
      rw [upd_ne (ne_of_none hb hp)]
      exact hb
theorem Cs.mem {H : Hp} {as : List Addr} {rs : List Rule} (c : Cs K H as rs) {a : Addr} (h : a ∈ as) : ∃ o, H a = some o := by
  obtain ⟨i, hi, e⟩ := List.getElem_of_mem h
  obtain ⟨r, _, _, dx, q⟩ := c.at (List.getElem?_eq_getElem hi)
  rw [e] at q
  exact ⟨_, q⟩
theorem made_chain {H1 : Hp} {x dx : Addr} {as : List Addr} {rs : List Rule} {Q : VK} {E : XK} (h1 : H1 x = none) (h2 : H1 dx = none) (cs : Cs K H1 as rs) (l1 : 1 ≤ rs.length) (l8 : rs.length ≤ 8) (q : NewCh K H1 rs Q) :
    spInit K (V.ref x :: as.map V.ref) (upd (upd H1 dx (.own x)) x (.ins (ChC K) dx [])) (fun v H2 => v = .non ∧ Q (.ref x) H2) E := by
  have s := made_same' (C := ChC K) (fs := []) h1 h2
  refine ⟨x, dx, as, rs, rfl, upd_same, cs.same s, fun z => ?_, l1, l8, fun H' f ch => ⟨rfl, q x H' h1 (fun b o hb => f b o (s b o hb) (ne_of_none hb h1)) ch⟩⟩
  obtain ⟨o, ho⟩ := cs.mem z
  rw [h1] at ho
  cases ho
theorem labels_sum : ∀ {rs : List Rule}, (∀ r ∈ rs, r.ok) → ((rs.map Rule.label).map (·.length)).sum ≤ 16 * rs.length
  | [], _ => Nat.le_refl _
  | r :: rs, h => by
    have l1 := label_len (h r List.mem_cons_self)
    have l2 := labels_sum fun z hz => h z (List.mem_cons_of_mem r hz)
    simp only [List.map_cons, List.sum_cons, List.length_cons] at l2 ⊢
    omega
theorem txt_len {rs : List Rule} (h : ∀ r ∈ rs, r.ok) (h8 : rs.length ≤ 8) : (txtOf rs).length ≤ 1000 := by
  have l := labels_sum h
  have ho : (" " : Str).length = 1 := by decide +kernel
  have z := PyProof.Rows.len_join_le (sep := (" " : Str)) (ys := rs.map Rule.label) (n := 17 * rs.length) (by
    show ((rs.map Rule.label).map (·.length)).sum + (rs.map Rule.label).length ≤ 17 * rs.length + 1
    rw [List.length_map]
    omega) (by omega)
  exact Nat.le_trans z (by omega)
end
end SC
set_option maxRecDepth 100000
set_option maxHeartbeats 2000000
namespace SC
open PySem PySem.Spec PyProof.Rows L2 TL
section
variable {P : Program} {w : World} {K : PySem.W.Frag} {mg : Str → Option Value} {base : Heap}
def nmParse : List Str := ["cls", "text", "cells", "at", "word", "cell"]
theorem sc_parse : FnScope nmParse ["cls", "text"] (defScope s_Chain_parse) := ⟨rfl, rfl, rfl, by decide +kernel, rfl, by decide +kernel, by decide +kernel⟩
theorem ok_parse {f g : Addr} {fd gd : FuncData} (F : Fun K "parse" "Chain.parse" s_Chain_parse f fd) (B : Bln mg) (hen : mg "enumerate" = none) (T : Cells K mg) (C : Chains K mg) (I0 : FnR P w K mg base CX0 1 (He.ma K (ChC K) "__init__") (spInit K))
    (G : FnOk P w K mg base CX0 7 g gd ["word"] (spCellOf K)) (bG : Binds K gd ["word"] []) (kG : PySem.W.keepIn K (.ref g) = true) (hg : mg "cell_of" = some (.ref g)) : FnOk P w K mg base CX0 8 f fd ["cls", "text"] (spParse K) := by
  refine F.ok sc_parse (fun vs H Q E h => ?_) (fun cdv A outer s H vs Q E hr h => ?_)
  · obtain ⟨rs, rfl, _⟩ := h
    rfl
  · obtain ⟨rs, rfl, hok, h1, h8, q⟩ := h
    obtain ⟨um, cm⟩ := C.maxC
    refine ⟨_, pss_cons (ps_if (pt_not (pt_val (pe_callB call_isi (by rfl) B.isinstance boot_isinstance' (pa_cons (pv 1) (pa_cons (pe_bltn (v := .ty "str") (by rfl) B.str boot_str' rfl) pa_nil))))) pss_never pss_nil)
      (pss_cons (ps_set (i := 2) sc_parse.nd rfl (.inl rfl) (pe_lst pa_nil))
      (pss_cons (ps_for PassesOwn.never rfl (pi_enum (by rfl) hen (pa_cons (pe_bm PySem.F.plainAttrs_str PySem.F.slot_str_split PySem.F.type_str_split mt_split (pv 1) (pa_cons pe_str pa_nil)) pa_nil)) (pg_tup rfl (pgs_cons (pg_name (i := 3) sc_parse.nd rfl (.inl rfl)) (pgs_cons (pg_name (i := 4) sc_parse.nd rfl (.inl rfl)) pgs_nil)))
        (pss_cons (ps_set (i := 5) sc_parse.nd rfl (.inl rfl) (pe_call G hr (by rfl) hg kG bG .nil pass0 (pa_cons (pv 4) pa_nil)))
        (pss_cons (ps_if (PW.pt (pw_or (pt_cmpR op_eq (pv 3) (ClX.pe_cval (pv 0)) (nomark _)) (pw_or1 (pt_cmpR op_isN (pv 5) pe_non (nomark _))))) pss_never pss_nil)
          (pss_one (ps_expr (pe_bm PySem.F.plainAttrs_list PySem.F.slot_list_append PySem.F.type_list_append mt_append (pv 2) (pa_cons (pv 5) pa_nil)))))))
        (pss_one (ps_ret (pe_makeSv C.make (I0.mono (by decide : 1 ≤ 6)) hr (pv 0) pass0 (pv 2)))))), ?_⟩
    refine ⟨_, rfl, _, _, _, _, true, rfl, .ty "str", .base (.str _), kit_ty (by decide +kernel), true, rfl, iteF ?_⟩
    refine ⟨(by show 0 ≤ sizeLine; exact Nat.zero_le _), fun L hL => ?_⟩
    refine ⟨_, rfl, rfl, _, _, rfl, rfl, rfl, Nat.le_trans (Nat.add_le_add_right (txt_len hok h8) 2) (by decide), ?_⟩
    rw [split_txt h1 hok]
    intro W hW
    have nLW : L ≠ W := fun z => by
      rw [z, upd_same] at hW
      cases hW
    have hW0 : H W = none := by
      rw [upd_ne nLW.symm] at hW
      exact hW
    have sL : Same H (upd (upd H L (.lst [])) W (.lst ((rs.map Rule.label).map V.str))) := Same.upd (same_new hL) hW0
    refine ⟨W, _, rfl, SqL.of upd_same, for_enumL (K := K) (a := W) (xs := (rs.map Rule.label).map V.str) (fun i σ H2 => ∃ (u v z : Option V) (as : List Addr), σ = [some (.ref (ChC K)), some (.str (txtOf rs)), some (.ref L), u, v, z] ∧ Same H H2 ∧ H2 L = some (.lst (as.map V.ref)) ∧ H2 W = some (.lst ((rs.map Rule.label).map V.str)) ∧ Cs K H2 as (rs.take i)) ?_ (fun i σ H2 ⟨_, _, _, _, _, _, _, hw, _⟩ => SqL.of hw) ?_ ?_⟩
    · exact ⟨none, none, none, [], rfl, sL, by rw [upd_ne nLW, upd_same]; rfl, upd_same, Cs.nil⟩
    · rintro i y T2 σ H2 hi ⟨u, v, z, as, rfl, s2, hL2, hW2, cs⟩ hT
      rw [List.map_map, List.getElem?_map] at hi
      cases hr0 : rs[i]? with
      | none =>
        rw [hr0] at hi
        cases hi
      | some r =>
        rw [hr0] at hi
        obtain rfl := Option.some.inj hi
        have hlt : i < rs.length := by
          rcases Nat.lt_or_ge i rs.length with q | q
          · exact q
          · rw [List.getElem?_eq_none q] at hr0
            cases hr0
        have nT : T2 ≠ L := fun e => by
          rw [e, hL2] at hT
          cases hT
        refine ⟨T2, _, rfl, SqT.of upd_same, rfl, _, _, rfl, _, _, rfl, rfl, ?_⟩
        refine ⟨_, rfl, r, rfl, hok r (List.mem_of_getElem? hr0), fun a H3 ha s3 ca => ?_⟩
        have s4 : Same H2 H3 := (same_new hT).trans s3
        refine ⟨_, rfl, _, rfl, _, _, _, _, rfl, C.rd, cm, rfl, _, rfl, iteD0 (fun e => by have e2 := V.int.inj e; omega) ?_⟩
        refine ⟨_, rfl, rfl, _, rfl, iteF ?_⟩
        have hL3 : H3 L = some (.lst (as.map V.ref)) := s4 _ _ hL2
        refine ⟨_, rfl, .inl ⟨rfl, _, SqL.of hL3⟩, _, rfl, _, _, _, rfl, rfl, hL3, ?_, ?_⟩
        · rw [List.length_map, cs.1, List.length_take]
          exact Nat.lt_of_le_of_lt (show min i rs.length ≤ 8 by omega) (by decide)
        · refine ⟨_, _, _, as ++ [a], rfl, ?_, ?_, ?_, ?_⟩
          · exact fun b o hb => by
              rw [upd_ne (ne_of_none hb hL)]
              exact s4 _ _ (s2 _ _ hb)
          · rw [upd_same, List.map_append]
            rfl
          · rw [upd_ne nLW.symm]
            exact s4 _ _ hW2
          · rw [take_more hr0]
            exact ((cs.same s4).fr hL3 Fr1.at).snoc (ca.fr hL3 Fr1.at)
    · rintro σ H2 ⟨u, v, z, as, rfl, s2, hL2, hW2, cs⟩
      rw [List.length_map, List.length_map, List.take_length] at cs
      refine ⟨_, rfl, rfl, _, rfl, L, _, rfl, .inr (SqL.of hL2), fun x dx a1 a2 a3 => ?_⟩
      exact made_chain a1 a2 cs h1 h8 fun x' H3 hx s3 ch => q x' H3 (s2.free hx) (s2.trans s3) ch
end
end SC
set_option maxRecDepth 100000
set_option maxHeartbeats 2000000
namespace SC
open PySem PySem.Spec PyProof.Rows L2 TL
section
variable {P : Program} {w : World} {K : PySem.W.Frag} {mg : Str → Option Value} {base : Heap}
theorem cells_look {t : Addr} : List.lookup ("cells" : Str) [(("cells" : Str), V.ref t)] = some (V.ref t) := by simp [List.lookup]
def nmText : List Str := ["self", "cell"]
theorem sc_text : FnScope nmText ["self"] (defScope s_Chain_text) := ⟨rfl, rfl, rfl, by decide +kernel, rfl, by decide +kernel, by decide +kernel⟩
theorem ok_text {f : Addr} {fd : FuncData} (F : Fun K "text" "Chain.text" s_Chain_text f fd) (T : Cells K mg) (C : Chains K mg) (L : LabelsOk P w K mg base 1) : FnOk P w K mg base CX0 3 f fd ["self"] (spText K) := by
  refine F.ok sc_text (fun vs H Q E h => ?_) (fun cdv A outer s H vs Q E hr h => ?_)
  · obtain ⟨c, rs, rfl, _⟩ := h
    rfl
  · obtain ⟨c, rs, rfl, ⟨dx, t, as, hc, ht, cs, h1, h8⟩, q⟩ := h
    refine ⟨_, pss_one (ps_ret (pe_bm PySem.F.plainAttrs_str PySem.F.slot_str_join PySem.F.type_str_join mt_join pe_str (pa_cons
      (pe_lc (own := [("cell", 1)]) (g := gName 1) (by rfl) sc_text.nd (pi_tup (pe_fld (pv 0) rfl)) (blkOk_by (own := [("cell", 1)]) (N := nmText) (sc := defScope s_Chain_text) (by decide +kernel))
        (fun _ _ _ _ _ => pg_name (i := 1) sc_text.nd rfl (.inl rfl)) (fun _ _ _ _ _ => pts_nil) (fun _ _ _ _ _ => peC (tLabel K (tVar 1)) (pe_label (n := 1) T L hr (pv 1)))) pa_nil))), ?_⟩
    refine ⟨rfl, _, rfl, c, _, dx, _, _, rfl, hc, C.cls, C.noC, cells_look, t, rfl, ⟨_, SqT.of ht⟩, fun D hD => ?_⟩
    refine lc_tup (K := K) (a := t) (xs := as.map V.ref) (fun i H3 => H3 = upd H D (.lst (((rs.take i).map Rule.label).map V.str))) rfl ?_ ?_ ?_
    · rintro i H3 _ rfl
      exact SqT.of (same_new hD _ _ ht)
    · rintro i y H3 hi rfl
      obtain ⟨a, hai, rfl⟩ := map_ref_at hi
      obtain ⟨r, hri, ca⟩ := cs.at hai
      refine ⟨rfl, ?_⟩
      refine ⟨_, rfl, a, r, rfl, ca.same (same_new hD), _, upd_same, ?_, ?_⟩
      · rw [List.length_map, List.length_map, List.length_take]
        exact Nat.lt_of_le_of_lt (show min i rs.length ≤ 8 by omega) (by decide)
      · rw [upd_upd, take_more hri, List.map_append, List.map_append]
        rfl
    · rintro H3 rfl
      rw [List.length_map, cs.1, List.take_length]
      refine ⟨_, D, rs.map Rule.label, rfl, rfl, .inl (SqL.of upd_same), ?_, q _ (same_new hD)⟩
      have l := labels_sum cs.ok
      have lo : (" " : Str).length = 1 := by decide +kernel
      rw [List.length_map, lo]
      omega
def nmSelf : List Str := ["self"]
theorem sc_empty : FnScope nmSelf ["self"] (defScope s_Chain_empty) := ⟨rfl, rfl, rfl, by decide +kernel, rfl, by decide +kernel, by decide +kernel⟩
theorem nones_ov (n : Nat) : (nones n).map ov = List.replicate n V.non := by
  unfold nones
  rw [List.map_replicate]
  rfl
theorem ok_empty {f : Addr} {fd : FuncData} (F : Fun K "empty" "Chain.empty" s_Chain_empty f fd) (B : Bln mg) (C : Chains K mg) : FnOk P w K mg base CX0 1 f fd ["self"] (spEmpty K) := by
  refine F.ok sc_empty (fun vs H Q E h => ?_) (fun cdv A outer s H vs Q E hr h => ?_)
  · obtain ⟨c, rs, rfl, _⟩ := h
    rfl
  · obtain ⟨c, rs, rfl, ⟨dx, t, as, hc, ht, cs, h1, h8⟩, q⟩ := h
    refine ⟨_, pss_one (ps_ret (pe_op op_repN (pe_tup (pa_cons pe_non pa_nil)) (pe_callB call_len_seq (by rfl) B.len boot_len' (pa_cons (pe_fld (pv 0) rfl) pa_nil)))), ?_⟩
    refine ⟨(by show 1 ≤ sizeLine; decide), fun l hl => ?_⟩
    have s1 : Same H (upd H l (.tup [.non])) := same_new hl
    refine ⟨_, rfl, c, _, dx, _, _, rfl, s1 _ _ hc, C.cls, C.noC, cells_look, t, _, rfl, .inr (SqT.of (s1 _ _ ht)), ?_⟩
    refine ⟨l, _, .non, rfl, rfl, upd_same, ?_, ?_, fun p H' s2 hp hpl => ?_⟩
    · rw [List.length_map, cs.1]
      omega
    · rw [List.length_map, cs.1]
      omega
    · have hp0 : H p = none := by
        rcases hpl with rfl | z
        · exact hl
        · exact s1.free z
      refine q p H' hp0 (s1.trans s2) ?_
      rw [hp, nones_ov, List.length_map, cs.1]
      rfl
end
end SC
set_option maxRecDepth 100000
set_option maxHeartbeats 2000000
namespace SC
open PySem PySem.Spec PyProof.Rows L2 TL
section
variable {P : Program} {w : World} {K : PySem.W.Frag} {mg : Str → Option Value} {base : Heap}
theorem map_ov_at {hs : List (Option Int)} {i : Nat} {y : V} (h : (hs.map ov)[i]? = some y) : ∃ z, hs[i]? = some z ∧ y = ov z := by
  rw [List.getElem?_map] at h
  cases e : hs[i]? with
  | none =>
    rw [e] at h
    cases h
  | some z =>
    rw [e] at h
    exact ⟨z, rfl, (Option.some.inj h).symm⟩
theorem step_take {rs : List Rule} {hs : List (Option Int)} {c : Option Int} {i : Nat} {r : Rule} {z : Option Int} (e : hs.length = rs.length) (hr : rs[i]? = some r) (hz : hs[i]? = some z) :
    stepR (rs.take (i + 1)) (hs.take (i + 1)) c = ((stepR (rs.take i) (hs.take i) c).1 ++ (stepR [r] [z] (stepR (rs.take i) (hs.take i) c).2).1, (stepR [r] [z] (stepR (rs.take i) (hs.take i) c).2).2) := by
  rw [take_more hr, take_more hz, step_app]
  rw [List.length_take, List.length_take, e]
/-- a cell that holds a number gets one -/
theorem step_gets {rs : List Rule} {hs : List (Option Int)} {n : Int} {i : Nat} {h : Int} (f : Fill hs) (e : hs.length = rs.length) (hz : hs[i]? = some (some h)) : ∃ d, (stepR (rs.take i) (hs.take i) (some n)).2 = some d := by
  obtain ⟨xs, m, rfl⟩ := f
  rw [List.length_append, List.length_map] at e
  have hi : i < xs.length := by
    rcases Nat.lt_or_ge i xs.length with q | q
    · exact q
    · rw [List.getElem?_append_right (by rw [List.length_map]; exact q)] at hz
      have := List.mem_of_getElem? hz
      unfold nones at this
      rw [List.mem_replicate] at this
      cases this.2
  rw [List.take_append_of_le_length (by rw [List.length_map]; omega), ← List.map_take]
  obtain ⟨ys, d, e1, _⟩ := step_full (rs.take i) (xs.take i) n (by rw [List.length_take, List.length_take]; omega)
  exact ⟨d, by rw [e1]⟩
def nmStep : List Str := ["self", "held", "came", "kept", "passed", "cell", "own", "keeps"]
theorem sc_step : FnScope nmStep ["self", "held", "came"] (defScope s_Chain_step) := ⟨rfl, rfl, rfl, by decide +kernel, rfl, by decide +kernel, by decide +kernel⟩
theorem ok_step {f : Addr} {fd : FuncData} {n : Nat} (F : Fun K "step" "Chain.step" s_Chain_step f fd) (B : Bln mg) (hzip : mg "zip" = none) (T : CellsOk P w K mg base n) (C : Chains K mg) : FnOk P w K mg base CX0 (n + 1) f fd ["self", "held", "came"] (spStep K) := by
  refine F.ok sc_step (fun vs H Q E h => ?_) (fun cdv A outer s H vs Q E hr h => ?_)
  · obtain ⟨c, h, n, rs, hs, rfl, _⟩ := h
    rfl
  · obtain ⟨c, h, m, rs, hs, rfl, ch, hh, hl, hf, q⟩ := h
    obtain ⟨dx, t, as, hc, ht, cs, h1, h8⟩ := id ch
    refine ⟨_, pss_cons (ps_set (i := 3) sc_step.nd rfl (.inl rfl) (pe_lst pa_nil))
      (pss_cons (ps_set (i := 4) sc_step.nd rfl (.inl rfl) (pv 2))
      (pss_cons (ps_for PassesOwn.never rfl (RZ.pi_zipA (by rfl) hzip (pa_cons (pe_fld (pv 0) rfl) (pa_cons (pv 1) pa_nil))) (pg_tup rfl (pgs_cons (pg_name (i := 5) sc_step.nd rfl (.inl rfl)) (pgs_cons (pg_name (i := 6) sc_step.nd rfl (.inl rfl)) pgs_nil)))
        (pss_cons (ps_if (pt_cmpR op_isN (pv 6) pe_non (nomark _))
          (pss_one (ps_par (i := 7) (j := 4) (by rfl) sc_step.nd rfl rfl (by decide) rfl rfl (pa_cons (pv 4) (pa_cons pe_non pa_nil)) (by rfl)))
          (pss_one (ps_asg (pe_cellCall (pv 5) T hr (pa_cons (pv 6) (pa_cons (pv 4) pa_nil))) (pg_tup rfl (pgs_cons (pg_name (i := 7) sc_step.nd rfl (.inl rfl)) (pgs_cons (pg_name (i := 4) sc_step.nd rfl (.inl rfl)) pgs_nil))))))
        (pss_one (ps_expr (pe_bm PySem.F.plainAttrs_list PySem.F.slot_list_append PySem.F.type_list_append mt_append (pv 3) (pa_cons (pv 7) pa_nil))))))
      (pss_one (ps_ret (pe_tup (pa_cons (pe_callTy call_tuple_of (by rfl) B.tuple boot_tuple' (pa_cons (pv 3) pa_nil)) (pa_cons (pv 4) pa_nil))))))), ?_⟩
    refine ⟨(by show 0 ≤ sizeLine; exact Nat.zero_le _), fun L hL => ?_⟩
    refine ⟨_, rfl, ?_⟩
    have s1 : Same H (upd H L (.lst [])) := same_new hL
    refine ⟨_, rfl, c, _, dx, _, _, rfl, s1 _ _ hc, C.cls, C.noC, cells_look, _, rfl, t, h, _, _, rfl, .inr ⟨SqT.of (s1 _ _ ht), SqT.of (s1 _ _ hh), ?_⟩⟩
    refine RZ.for_zipT (K := K) (a := t) (b := h) (xs := as.map V.ref) (ys := hs.map ov) (by rw [List.length_map, List.length_map, cs.1, hl]) (fun i σ H2 => ∃ (u v z : Option V), σ = [some (.ref c), some (.ref h), some (.int m), some (.ref L), some (ov (stepR (rs.take i) (hs.take i) (some m)).2), u, v, z] ∧ Same H H2 ∧
      H2 L = some (.lst ((stepR (rs.take i) (hs.take i) (some m)).1.map ov))) ?_ (fun i σ H2 ⟨_, _, _, _, s2, _⟩ => ⟨SqT.of (s2 _ _ ht), SqT.of (s2 _ _ hh)⟩) ?_ ?_
    · refine ⟨none, none, none, rfl, s1, ?_⟩
      rw [upd_same]
      rfl
    · rintro i y1 y2 T2 σ H2 hi1 hi2 ⟨u, v, z, rfl, s2, hL2⟩ hT
      obtain ⟨a, hai, rfl⟩ := map_ref_at hi1
      obtain ⟨r, hri, ca⟩ := cs.at hai
      obtain ⟨o, hoi, rfl⟩ := map_ov_at hi2
      have st := step_take (c := some m) hl hri hoi
      have kl : (stepR (rs.take i) (hs.take i) (some m)).1.length < sizeLine := by
        rw [step_len, List.length_take]
        exact Nat.lt_of_le_of_lt (show min i hs.length ≤ 8 by omega) (by decide)
      have s3 : Same H2 (upd H2 T2 (.tup [.ref a, ov o])) := same_new hT
      have nT : T2 ≠ L := fun e => by
        rw [e, hL2] at hT
        cases hT
      refine ⟨T2, _, rfl, SqT.of upd_same, rfl, _, _, rfl, _, _, rfl, rfl, ?_⟩
      cases o with
      | none =>
        refine ⟨_, rfl, rfl, _, rfl, iteT ?_⟩
        refine ⟨_, rfl, _, _, rfl, ?_⟩
        refine ⟨_, rfl, .inl ⟨rfl, _, SqL.of (s3 _ _ hL2)⟩, _, rfl, _, _, _, rfl, rfl, s3 _ _ hL2, by rw [List.length_map]; exact kl, ?_⟩
        rw [step_cn] at st
        rw [st]
        refine ⟨_, _, _, rfl, fun b o hb => ?_, ?_⟩
        · rw [upd_ne (ne_of_none hb hL)]
          exact s3 _ _ (s2 _ _ hb)
        · rw [upd_same, List.map_append]
          rfl
      | some g =>
        obtain ⟨d, ed⟩ := step_gets (n := m) hf hl hoi
        rw [ed] at st ⊢
        refine ⟨_, rfl, rfl, _, rfl, iteF ?_⟩
        refine ⟨_, rfl, a, rfl, _, rfl, _, rfl, r, g, d, rfl, (ca.same s2).same s3, fun p hp => ?_⟩
        have hL4 : upd (upd H2 T2 (.tup [.ref a, ov (some g)])) p (.tup [.int (r.keep g d).1, .int (r.keep g d).2]) L = some (.lst ((stepR (rs.take i) (hs.take i) (some m)).1.map ov)) := same_new hp _ _ (s3 _ _ hL2)
        refine ⟨p, _, rfl, SqT.of upd_same, rfl, _, _, rfl, _, _, rfl, rfl, ?_⟩
        refine ⟨_, rfl, .inl ⟨rfl, _, SqL.of hL4⟩, _, rfl, _, _, _, rfl, rfl, hL4, by rw [List.length_map]; exact kl, ?_⟩
        rw [step_cs, step_nil] at st
        rw [st]
        refine ⟨_, _, _, rfl, fun b o hb => ?_, ?_⟩
        · rw [upd_ne (ne_of_none hb hL)]
          exact same_new hp _ _ (s3 _ _ (s2 _ _ hb))
        · rw [upd_same, List.map_append]
          rfl
    · rintro σ H2 ⟨u, v, z, rfl, s2, hL2⟩
      have e1 : rs.take (as.map V.ref).length = rs := by
        rw [List.length_map, cs.1, List.take_length]
      have e2 : hs.take (as.map V.ref).length = hs := by
        rw [List.length_map, cs.1, ← hl, List.take_length]
      rw [e1, e2] at hL2 ⊢
      refine ⟨_, rfl, L, _, rfl, .inl ⟨SqL.of hL2, fun k hk => ?_⟩⟩
      refine ⟨_, rfl, (by show 2 ≤ sizeLine; decide), fun p hp => ?_⟩
      have sk : Same H2 (upd H2 k (.tup ((stepR rs hs (some m)).1.map ov))) := same_new hk
      have npk : p ≠ k := fun e => by
        rw [e, upd_same] at hp
        cases hp
      refine q p k _ ((s2.trans sk).free hp) (s2.free hk) npk ((s2.trans sk).trans (same_new hp)) upd_same ?_
      rw [upd_ne npk.symm, upd_same]
theorem step_look {t : Addr} : List.lookup ("step" : Str) [(("cells" : Str), V.ref t)] = none := by
  have hk : (("step" : Str) == "cells") = false := by decide +kernel
  simp [List.lookup, hk]
def nmCall : List Str := ["self", "row", "held", "outs", "number", "out"]
theorem sc_ccall : FnScope nmCall ["self", "row"] (defScope s_Chain_call) := ⟨rfl, rfl, rfl, by decide +kernel, rfl, by decide +kernel, by decide +kernel⟩
theorem run_take {rs : List Rule} {hs : List (Option Int)} {ns : List Int} {i : Nat} {z : Int} (h : ns[i]? = some z) :
    runR rs hs (ns.take (i + 1)) = ((runR rs hs (ns.take i)).1 ++ [(stepR rs (runR rs hs (ns.take i)).2 (some z)).2], (stepR rs (runR rs hs (ns.take i)).2 (some z)).1) := by
  rw [take_more h, run_app]
  rfl
theorem run_fill {rs : List Rule} : ∀ {ns : List Int} {hs : List (Option Int)}, Fill hs → hs.length = rs.length → Fill (runR rs hs ns).2
  | [], _, f, _ => f
  | n :: ns, hs, f, e => run_fill (ns := ns) (step_fill (c := n) f e) (by rw [step_len]; exact e)
theorem ok_ccall {f g : Addr} {fd gd sd ed : FuncData} {n : Nat} (F : Fun K "__call__" "Chain.__call__" s_Chain_call f fd) (C : Chains K mg) (h6 : 3 ≤ n) (G : FnOk P w K mg base CX0 3 g gd ["row", "longest"] (spCheck K)) (bG : Binds K gd ["row", "longest"] []) (kG : PySem.W.keepIn K (.ref g) = true) (hg : mg "check_row" = some (.ref g))
    {t1 : Tok} (hL : mg "LONGEST_ROW" = some (.int 1000 t1)) (S : FnOk P w K mg base CX0 n (He.ma K (ChC K) "step") sd ["self", "held", "came"] (spStep K)) (bS : Binds K sd ["self", "held", "came"] []) (Em : FnOk P w K mg base CX0 1 (pgA K "Chain" "empty") ed ["self"] (spEmpty K)) (bE : Binds K ed ["self"] []) :
    FnOk P w K mg base CX0 (n + 1) f fd ["self", "row"] (spChCall K) := by
  refine F.ok sc_ccall (fun vs H Q E h => ?_) (fun cdv A outer s H vs Q E hr h => ?_)
  · obtain ⟨c, a, rs, ns, rfl, _⟩ := h
    rfl
  · obtain ⟨c, a, rs, ns, rfl, ch, ha, hl, hz, q⟩ := h
    obtain ⟨dx, t, as, hc, ht, cs, h1, h8⟩ := id ch
    refine ⟨_, pss_cons (ps_expr (pe_call (G.mono h6) hr (by rfl) hg kG bG .nil pass0 (pa_cons (pv 1) (pa_cons (pe_glob (v := .int 1000) (by rfl) hL ⟨_, rfl⟩) pa_nil))))
      (pss_cons (ps_set (i := 2) sc_ccall.nd rfl (.inl rfl) (pe_prop (pv 0) C.cls C.empty (Em.mono (show 1 ≤ n - 1 by omega)) (hr.mono (by omega)) bE .nil pass0 rfl))
      (pss_cons (ps_set (i := 3) sc_ccall.nd rfl (.inl rfl) (pe_lst pa_nil))
      (pss_cons (ps_for PassesOwn.never rfl (pi_list (pv 1)) (pg_name (i := 4) sc_ccall.nd rfl (.inl rfl))
        (pss_cons (ps_asg (pe_meth (pv 0) C.cls C.step S hr bS .nil pass0 (pa_cons (pv 2) (pa_cons (pv 4) pa_nil))) (pg_tup rfl (pgs_cons (pg_name (i := 2) sc_ccall.nd rfl (.inl rfl)) (pgs_cons (pg_name (i := 5) sc_ccall.nd rfl (.inl rfl)) pgs_nil))))
        (pss_one (ps_expr (pe_bm PySem.F.plainAttrs_list PySem.F.slot_list_append PySem.F.type_list_append mt_append (pv 3) (pa_cons (pv 5) pa_nil))))))
      (pss_one (ps_ret (pe_tup (pa_cons (pv 3) (pa_cons (pv 2) pa_nil)))))))), ?_⟩
    refine ⟨_, rfl, a, ns, 1000, rfl, ha, by omega, hz, fun H1 s1 => ?_⟩
    refine ⟨_, rfl, c, dx, _, rfl, s1 _ _ hc, c, rs, rfl, ch.same s1, fun p0 H2 hp0 s2 h2 => ?_⟩
    have s12 : Same H H2 := s1.trans s2
    refine ⟨(by show 0 ≤ sizeLine; exact Nat.zero_le _), fun L hL2 => ?_⟩
    have hL0 : H L = none := s12.free hL2
    have s3 : Same H (upd H2 L (.lst [])) := s12.trans (same_new hL2)
    have n0 : p0 ≠ L := fun e => by
      rw [← e, h2] at hL2
      cases hL2
    refine ⟨_, rfl, a, rfl, ⟨_, SqL.of (s3 _ _ ha)⟩, for_list (K := K) (a := a) (xs := ns.map V.int) (fun i σ H3 => ∃ (u v : Option V) (hd : Addr), σ = [some (.ref c), some (.ref a), some (.ref hd), some (.ref L), u, v] ∧ Same H H3 ∧ H hd = none ∧ hd ≠ L ∧
      H3 hd = some (.tup ((runR rs (nones rs.length) (ns.take i)).2.map ov)) ∧ H3 L = some (.lst ((runR rs (nones rs.length) (ns.take i)).1.map ov))) ?_ (fun i σ H3 _ ⟨_, _, _, _, s, _⟩ => SqL.of (s _ _ ha)) ?_ ?_⟩
    · exact ⟨none, none, p0, rfl, s3, s1.free hp0, n0, by rw [upd_ne n0]; exact h2, by rw [upd_same]; rfl⟩
    · rintro i y σ H3 hi ⟨u, v, hd, rfl, s4, hd0, nd, hh, hL3⟩
      obtain ⟨z, hzi, rfl⟩ := map_int_at hi
      have rl := run_len rs (ns.take i) (nones rs.length)
      have ff := run_fill (rs := rs) (ns := ns.take i) (fill_nones rs.length) (nones_len _)
      have rt := run_take (rs := rs) (hs := nones rs.length) hzi
      refine ⟨_, rfl, c, dx, _, rfl, s4 _ _ hc, step_look, _, rfl, _, rfl, c, hd, z, rs, _, rfl, ch.same s4, hh, by rw [rl.2, nones_len], ff, fun p k H5 hp hk npk s5 e1 e2 => ?_⟩
      have hL5 := s5 _ _ hL3
      refine ⟨p, _, rfl, SqT.of e1, rfl, _, _, rfl, _, _, rfl, rfl, ?_⟩
      refine ⟨_, rfl, .inl ⟨rfl, _, SqL.of hL5⟩, _, rfl, _, _, _, rfl, rfl, hL5, ?_, ?_⟩
      · rw [List.length_map, rl.1, List.length_take]
        exact Nat.lt_of_le_of_lt (show min i ns.length ≤ 1000 by omega) (by decide)
      · have nkL : k ≠ L := fun e => by
          rw [e, hL3] at hk
          cases hk
        rw [rt]
        refine ⟨_, _, k, rfl, fun b o hb => ?_, s4.free hk, nkL, by rw [upd_ne nkL]; exact e2, ?_⟩
        · rw [upd_ne (ne_of_none hb hL0)]
          exact s5 _ _ (s4 _ _ hb)
        · rw [upd_same, List.map_append]
          rfl
    · rintro σ H3 ⟨u, v, hd, rfl, s4, hd0, nd, hh, hL3⟩
      rw [List.length_map, List.take_length] at hh hL3
      refine ⟨_, rfl, _, rfl, (by show 2 ≤ sizeLine; decide), fun p hp => ?_⟩
      have npL : L ≠ p := ne_of_none hL3 hp
      have nph : hd ≠ p := ne_of_none hh hp
      exact q p L hd _ (s4.free hp) hL0 hd0 (s4.trans (same_new hp)) upd_same (by rw [upd_ne npL]; exact hL3) (by rw [upd_ne nph]; exact hh)
end
end SC
set_option maxRecDepth 100000
set_option maxHeartbeats 2000000
namespace SC
open PySem PySem.Spec PyProof.Rows L2 TL
section
variable {P : Program} {w : World} {K : PySem.W.Frag} {mg : Str → Option Value} {base : Heap}
theorem sc_clen : FnScope nmSelf ["self"] (defScope s_Chain_len) := ⟨rfl, rfl, rfl, by decide +kernel, rfl, by decide +kernel, by decide +kernel⟩
theorem ok_clen {f : Addr} {fd : FuncData} (F : Fun K "__len__" "Chain.__len__" s_Chain_len f fd) (B : Bln mg) (C : Chains K mg) : FnOk P w K mg base CX0 1 f fd ["self"] (spLen K) := by
  refine F.ok sc_clen (fun vs H Q E h => ?_) (fun cdv A outer s H vs Q E hr h => ?_)
  · obtain ⟨c, rs, rfl, _⟩ := h
    rfl
  · obtain ⟨c, rs, rfl, ⟨dx, t, as, hc, ht, cs, h1, h8⟩, q⟩ := h
    refine ⟨_, pss_one (ps_ret (pe_callB call_len_seq (by rfl) B.len boot_len' (pa_cons (pe_fld (pv 0) rfl) pa_nil))), ?_⟩
    refine ⟨_, rfl, c, _, dx, _, _, rfl, hc, C.cls, C.noC, cells_look, t, _, rfl, .inr (SqT.of ht), ?_⟩
    rw [List.length_map, cs.1]
    exact q
theorem sc_checkidx : FnScope ["index", "many"] ["index", "many"] (defScope s_check_index) := ⟨rfl, rfl, rfl, by decide +kernel, rfl, by decide +kernel, by decide +kernel⟩
theorem ok_checkidx {f g : Addr} {fd gd : FuncData} (F : Fun K "check_index" "check_index" s_check_index f fd) (G : FnOk P w K mg base CX0 1 g gd ["value", "least", "most"] (spWithin K)) (bG : Binds K gd ["value", "least", "most"] []) (kG : PySem.W.keepIn K (.ref g) = true) (hg : mg "is_within" = some (.ref g)) (X : Err0 K mg "UnknownCell") :
    FnOk P w K mg base (L2.CX P w) 2 f fd ["index", "many"] (spCheckIdx K) := by
  refine F.okX sc_checkidx (fun vs H Q E h => ?_) (fun cdv A outer s H vs Q E hr h => ?_)
  · obtain ⟨v, n, rfl, _⟩ := h
    rfl
  · obtain ⟨v, n, rfl, h⟩ := h
    refine ⟨_, pss_one (ps_if (pt_not (pt_val (pe_call G hr (by rfl) hg kG bG .nil pass0 (pa_cons (pv 0) (pa_cons pe_int (pa_cons (pe_op op_sub (pv 1) pe_int) pa_nil)))))) (pss_one (ps_raise rfl (takes_of rfl rfl rfl rfl) (pmk_own PySem.F.excBase_ValueError X.ex X.gl X.kp (raises_own X.sb X.ty) (by exact rfl)))) pss_nil), ?_⟩
    refine ⟨_, rfl, _, rfl, _, _, rfl, rfl, ?_⟩
    rcases h with ⟨i, rfl, q1, q2⟩ | ⟨T0, hT, ty, q⟩
    · refine ⟨_, _, _, rfl, .inl ⟨i, rfl, _, rfl, ?_⟩⟩
      by_cases hn : 0 ≤ i ∧ i < n
      · have e : (decide ((0 : Int) ≤ i) && decide (i ≤ n - 1)) = true := by
          simp
          omega
        rw [e]
        exact iteF (q1 hn)
      · have e : (decide ((0 : Int) ≤ i) && decide (i ≤ n - 1)) = false := by
          simp
          omega
        rw [e]
        exact iteT (q2 hn)
    · exact ⟨_, _, _, rfl, .inr ⟨T0, hT, ty, _, rfl, iteT q⟩⟩
def nmItem : List Str := ["self", "index"]
theorem sc_citem : FnScope nmItem ["self", "index"] (defScope s_Chain_getitem) := ⟨rfl, rfl, rfl, by decide +kernel, rfl, by decide +kernel, by decide +kernel⟩
theorem ok_citem {f g : Addr} {fd gd : FuncData} (F : Fun K "__getitem__" "Chain.__getitem__" s_Chain_getitem f fd) (B : Bln mg) (C : Chains K mg) (G : FnOk P w K mg base (L2.CX P w) 2 g gd ["index", "many"] (spCheckIdx K)) (bG : Binds K gd ["index", "many"] []) (kG : PySem.W.keepIn K (.ref g) = true) (hg : mg "check_index" = some (.ref g)) :
    FnOk P w K mg base CX0 3 f fd ["self", "index"] (spItem K) := by
  refine F.ok sc_citem (fun vs H Q E h => ?_) (fun cdv A outer s H vs Q E hr h => ?_)
  · obtain ⟨c, rs, i, r, rfl, _⟩ := h
    rfl
  · obtain ⟨c, rs, i, r, rfl, ⟨dx, t, as, hc, ht, cs, h1, h8⟩, hi, q⟩ := h
    refine ⟨_, pss_cons (ps_expr (pe_call G hr (by rfl) hg kG bG .nil passL (pa_cons (pv 1) (pa_cons (pe_callB call_len_seq (by rfl) B.len boot_len' (pa_cons (pe_fld (pv 0) rfl) pa_nil)) pa_nil))))
      (pss_one (ps_ret (pe_ix ix_tup (pe_fld (pv 0) rfl) (pv 1) (fun _ _ => rfl)))), ?_⟩
    have hlt : i < rs.length := by
      rcases Nat.lt_or_ge i rs.length with z | z
      · exact z
      · rw [List.getElem?_eq_none z] at hi
        cases hi
    have hla : i < as.length := by
      rw [cs.1]
      exact hlt
    refine ⟨_, rfl, _, rfl, c, _, dx, _, _, rfl, hc, C.cls, C.noC, cells_look, t, _, rfl, .inr (SqT.of ht), ?_⟩
    refine ⟨_, _, rfl, .inl ⟨(i : Int), rfl, fun _ => ?_, fun z => absurd ?_ z⟩⟩
    · have ha : as[i]? = some as[i] := List.getElem?_eq_getElem hla
      refine ⟨_, rfl, c, _, dx, _, _, rfl, hc, C.cls, C.noC, cells_look, _, rfl, t, _, (i : Int), .ref as[i], rfl, rfl, SqT.of ht, ?_, q _ (cs.2 i _ _ ha hi)⟩
      exact atI_nat (j := i) (by rw [List.getElem?_map, ha]; rfl)
    · rw [List.length_map]
      constructor <;> omega
def nmShift : List Str := ["self", "other", "cells"]
theorem sc_shift : FnScope nmShift ["self", "other"] (defScope s_Chain_rshift) := ⟨rfl, rfl, rfl, by decide +kernel, rfl, by decide +kernel, by decide +kernel⟩
theorem ok_shift {f : Addr} {fd : FuncData} (F : Fun K "__rshift__" "Chain.__rshift__" s_Chain_rshift f fd) (B : Bln mg) (C : Chains K mg) (I0 : FnR P w K mg base CX0 1 (He.ma K (ChC K) "__init__") (spInit K)) : FnOk P w K mg base CX0 3 f fd ["self", "other"] (spShift K) := by
  refine F.ok sc_shift (fun vs H Q E h => ?_) (fun cdv A outer s H vs Q E hr h => ?_)
  · obtain ⟨c, d, rs, qs, rfl, _⟩ := h
    rfl
  · obtain ⟨c, d, rs, qs, rfl, cc, cd, hl, q⟩ := h
    obtain ⟨dx, t, as, hc, ht, cs, h1, h8⟩ := id cc
    obtain ⟨dy, u, bs, hd, hu, ds, k1, k8⟩ := id cd
    refine ⟨_, pss_cons (ps_if (pt_not (pt_val (pe_callB call_isi (by rfl) B.isinstance boot_isinstance' (pa_cons (pv 1) (pa_cons (pe_glob (v := .ref (ChC K)) (by rfl) C.glo rfl) pa_nil))))) pss_never pss_nil)
      (pss_cons (ps_set (i := 2) sc_shift.nd rfl (.inl rfl) (pe_op op_catA (pe_fld (pv 0) rfl) (pe_fld (pv 1) rfl)))
      (pss_one (ps_ret (pe_makeS C.make I0 hr (by rfl) C.glo pass0 (pv 2))))), ?_⟩
    refine ⟨_, rfl, _, _, _, _, true, rfl, .own _, cd.ty C, C.kit, _, rfl, iteF ?_⟩
    have n1 : as.map V.ref ≠ [] := fun z => by
      have := congrArg List.length z
      rw [List.length_map, cs.1] at this
      simp at this
      rw [this] at h1
      simp at h1
    have n2 : bs.map V.ref ≠ [] := fun z => by
      have := congrArg List.length z
      rw [List.length_map, ds.1] at this
      simp at this
      rw [this] at k1
      simp at k1
    refine ⟨_, rfl, c, _, dx, _, _, rfl, hc, C.cls, C.noC, cells_look, _, rfl, d, _, dy, _, _, rfl, hd, C.cls, C.noC, cells_look, t, u, _, _, rfl, rfl, SqT.of ht, SqT.of hu, ?_, fun z => absurd z n1, fun _ z => absurd z n2, fun _ _ p hp => ?_⟩
    · rw [List.length_map, List.length_map, cs.1, ds.1]
      exact Nat.le_trans hl (by decide)
    · have s1 : Same H (upd H p (.tup (as.map V.ref ++ bs.map V.ref))) := same_new hp
      refine ⟨_, rfl, p, as.map V.ref ++ bs.map V.ref, rfl, .inl (SqT.of upd_same), fun x dz a1 a2 a3 => ?_⟩
      rw [← List.map_append]
      rw [← List.map_append] at s1 a1 a2
      exact made_chain a1 a2 ((cs.app ds).same s1) (by rw [List.length_append]; omega) (by rw [List.length_append]; exact hl) fun x' H3 hx s3 ch => q x' H3 (s1.free hx) (s1.trans s3) ch
def nmCneg : List Str := ["self", "cells", "cell"]
theorem sc_cneg : FnScope nmCneg ["self"] (defScope s_Chain_neg) := ⟨rfl, rfl, rfl, by decide +kernel, rfl, by decide +kernel, by decide +kernel⟩
theorem ok_cneg {f : Addr} {fd : FuncData} {n : Nat} (hn : 2 ≤ n) (F : Fun K "__neg__" "Chain.__neg__" s_Chain_neg f fd) (T : CellsOk P w K mg base n) (C : Chains K mg) (I0 : FnR P w K mg base CX0 1 (He.ma K (ChC K) "__init__") (spInit K)) : FnOk P w K mg base CX0 (n + 1) f fd ["self"] (spChNeg K) := by
  refine F.ok sc_cneg (fun vs H Q E h => ?_) (fun cdv A outer s H vs Q E hr h => ?_)
  · obtain ⟨c, rs, rfl, _⟩ := h
    rfl
  · obtain ⟨c, rs, rfl, ⟨dx, t, as, hc, ht, cs, h1, h8⟩, q⟩ := h
    refine ⟨_, pss_cons (ps_setLc (i := 1) (own := [("cell", 2)]) (g := gName 2) (by rfl) sc_cneg.nd rfl rfl (by rfl) (pi_tup (pe_fld (pv 0) rfl)) (blkOk_by (own := [("cell", 2)]) (N := nmCneg) (sc := defScope s_Chain_neg) (by decide +kernel))
        (fun _ _ _ _ _ => pg_name (i := 2) sc_cneg.nd rfl (.inl rfl)) (fun _ _ _ _ _ => pts_nil) (fun _ _ _ _ _ => peC (tUn (rNegCell K) (tVar 2)) (pe_un (un_negCell T hr) (pv 2))))
      (pss_one (ps_ret (pe_makeS C.make (I0.mono (show 1 ≤ n - 1 by omega)) (hr.mono (by omega)) (by rfl) C.glo pass0 (pv 1)))), ?_⟩
    refine ⟨_, rfl, c, _, dx, _, _, rfl, hc, C.cls, C.noC, cells_look, t, rfl, ⟨_, SqT.of ht⟩, fun D hD => ?_⟩
    refine lc_tup (K := K) (a := t) (xs := as.map V.ref) (fun i H3 => ∃ bs : List Addr, Same H H3 ∧ H3 D = some (.lst (bs.map V.ref)) ∧ Cs K H3 bs ((rs.take i).map Rule.neg)) ?_ ?_ ?_ ?_
    · exact ⟨[], same_new hD, by rw [upd_same]; rfl, Cs.nil⟩
    · rintro i H3 _ ⟨bs, s3, _⟩
      exact SqT.of (s3 _ _ ht)
    · rintro i y H3 hi ⟨bs, s3, hD3, ds⟩
      obtain ⟨a, hai, rfl⟩ := map_ref_at hi
      obtain ⟨r, hri, ca⟩ := cs.at hai
      refine ⟨rfl, ?_⟩
      refine ⟨_, rfl, a, r, rfl, ca.same s3, fun p H4 hp s4 cp => ?_⟩
      have hD4 := s4 _ _ hD3
      refine ⟨_, hD4, ?_, bs ++ [p], fun b o hb => ?_, ?_, ?_⟩
      · rw [List.length_map, ds.1, List.length_map, List.length_take]
        exact Nat.lt_of_le_of_lt (show min i rs.length ≤ 8 by omega) (by decide)
      · rw [upd_ne (ne_of_none hb hD)]
        exact s4 _ _ (s3 _ _ hb)
      · rw [upd_same, List.map_append]
        rfl
      · rw [take_more hri, List.map_append]
        exact ((ds.same s4).fr hD4 Fr1.at).snoc (cp.fr hD4 Fr1.at)
    · rintro H3 ⟨bs, s3, hD3, ds⟩
      rw [List.length_map, cs.1, List.take_length] at ds
      refine ⟨_, rfl, D, _, rfl, .inr (SqL.of hD3), fun x dz a1 a2 a3 => ?_⟩
      exact made_chain a1 a2 ds (by rw [List.length_map]; exact h1) (by rw [List.length_map]; exact h8) fun x' H4 hx s4 ch => q x' H4 (s3.free hx) (s3.trans s4) ch
def nmCeq : List Str := ["self", "other"]
theorem sc_ceq : FnScope nmCeq ["self", "other"] (defScope s_Chain_eq) := ⟨rfl, rfl, rfl, by decide +kernel, rfl, by decide +kernel, by decide +kernel⟩
theorem ok_ceq {f : Addr} {fd : FuncData} {n : Nat} (F : Fun K "__eq__" "Chain.__eq__" s_Chain_eq f fd) (B : Bln mg) (T : CellsOk P w K mg base n) (C : Chains K mg) : FnOk P w K mg base CX0 (n + 2) f fd ["self", "other"] (spChEq K) := by
  refine F.ok sc_ceq (fun vs H Q E h => ?_) (fun cdv A outer s H vs Q E hr h => ?_)
  · obtain ⟨c, d, rs, qs, rfl, _⟩ := h
    rfl
  · obtain ⟨c, d, rs, qs, rfl, cc, cd, q⟩ := h
    obtain ⟨dx, t, as, hc, ht, cs, h1, h8⟩ := id cc
    obtain ⟨dy, u, bs, hd, hu, ds, k1, k8⟩ := id cd
    refine ⟨_, pss_one (ps_ret (pe_and (pe_callB call_isi (by rfl) B.isinstance boot_isinstance' (pa_cons (pv 1) (pa_cons (pe_glob (v := .ref (ChC K)) (by rfl) C.glo rfl) pa_nil)))
      (pe_one (pe_cmpR (op_eqTC T hr) (pe_fld (pv 0) rfl) (pe_fld (pv 1) rfl) (nomark _))))), ?_⟩
    refine ⟨_, rfl, _, _, _, _, true, rfl, .own _, cd.ty C, C.kit, _, rfl, iteT ?_⟩
    exact ⟨_, rfl, c, _, dx, _, _, rfl, hc, C.cls, C.noC, cells_look, _, rfl, d, _, dy, _, _, rfl, hd, C.cls, C.noC, cells_look, t, u, as, bs, rs, qs, rfl, rfl, ht, hu, cs, ds, q⟩
end
end SC
set_option maxRecDepth 100000
set_option maxHeartbeats 2000000
namespace SC
open PySem PySem.Spec PyProof.Rows L2 TL
section
variable {P : Program} {w : World} {K : PySem.W.Frag} {mg : Str → Option Value} {base : Heap}
theorem sc_chainof : FnScope ["_law_labels_here"] ["_law_labels_here"] (defScope s__law_chain) := ⟨rfl, rfl, rfl, by decide +kernel, rfl, by decide +kernel, by decide +kernel⟩
theorem ok_chainof {f : Addr} {fd : FuncData} {n : Nat} (F : Fun K "_law_chain" "_law_chain" s__law_chain f fd) (C : ChainOk P w K mg base n) (CP : FnR P w K mg base CX0 n (cgA K "Chain" "parse") (spParse K)) : FnOk P w K mg base CX0 (n + 1) f fd ["_law_labels_here"] (spChainOf K) := by
  refine F.ok sc_chainof (fun vs H Q E h => ?_) (fun cdv A outer s H vs Q E hr h => ?_)
  · obtain ⟨p, rs, rfl, _⟩ := h
    rfl
  · obtain ⟨p, rs, rfl, hp, hok, h1, h8, q⟩ := h
    refine ⟨_, pss_one (ps_ret (ClX.pe_cmeth (pe_glob (v := .ref (ChC K)) (by rfl) C.t.glo rfl) C.t.rd C.t.par CP hr pass0 (pa_cons (pe_bm PySem.F.plainAttrs_str PySem.F.slot_str_join PySem.F.type_str_join mt_join pe_str (pa_cons (pv 0) pa_nil)) pa_nil))), ?_⟩
    refine ⟨rfl, rfl, _, rfl, _, p, rs.map Rule.label, rfl, rfl, .inl (SqL.of hp), ?_, rs, rfl, hok, h1, h8, q⟩
    have l := labels_sum hok
    have lo : (" " : Str).length = 1 := by decide +kernel
    rw [List.length_map, lo]
    omega
end
end SC
set_option maxRecDepth 100000
set_option maxHeartbeats 2000000
namespace SC
open PySem PySem.Spec PyProof.Rows L2 TL
section
variable {P : Program} {w : World} {K : PySem.W.Frag} {mg : Str → Option Value} {base : Heap}
/-- the five labels to choose from -/
def kindVs (m : Int) : List V := [.str "first", .str "last", .str "less", .str "greater", .str (("near:" : Str) ++ numS m)]
theorem kind_at {m k : Int} (hm : numOk m) (k0 : 0 ≤ k) (k5 : k < 5) : ∃ r : Rule, atI (kindVs m) k = some (.str r.label) ∧ r.ok := by
  have : k = 0 ∨ k = 1 ∨ k = 2 ∨ k = 3 ∨ k = 4 := by omega
  rcases this with rfl | rfl | rfl | rfl | rfl
  · exact ⟨.first, rfl, trivial⟩
  · exact ⟨.last, rfl, trivial⟩
  · exact ⟨.less, rfl, trivial⟩
  · exact ⟨.greater, rfl, trivial⟩
  · exact ⟨.near m, rfl, hm⟩
def nmLab : List Str := ["_law_d", "_law_most", "_law_found", "_law_k", "_law_mark", "_law_kind"]
theorem sc_lab : FnScope nmLab ["_law_d", "_law_most"] (defScope s__law_labels) := ⟨rfl, rfl, rfl, by decide +kernel, rfl, by decide +kernel, by decide +kernel⟩
theorem ok_labels {f g : Addr} {fd gd : FuncData} (F : Fun K "_law_labels" "_law_labels" s__law_labels f fd) (B : Bln mg) (G : FnOk P w K mg base CX0 1 g gd ["_law_d", "_law_limit"] spBelow) (bG : Binds K gd ["_law_d", "_law_limit"] []) (kG : PySem.W.keepIn K (.ref g) = true) (hg : mg "_law_below" = some (.ref g)) :
    FnOk P w K mg base CX0 2 f fd ["_law_d", "_law_most"] spLabels := by
  refine F.ok sc_lab (fun vs H Q E h => ?_) (fun cdv A outer s H vs Q E hr h => ?_)
  · obtain ⟨d, M, ds, rfl, _⟩ := h
    rfl
  · obtain ⟨d, M, ds, rfl, hM0, hM, hd, hD, q⟩ := h
    refine ⟨_, pss_cons (ps_set (i := 2) sc_lab.nd rfl (.inl rfl) (pe_lst pa_nil))
      (pss_cons (ps_for PassesOwn.never rfl (pi_range1 (by rfl) B.range (pa_cons (pe_op op_add pe_int (pe_call G hr (by rfl) hg kG bG .nil pass0 (pa_cons (pv 0) (pa_cons (pv 1) pa_nil)))) pa_nil)) (pg_name (i := 3) sc_lab.nd rfl (.inl rfl))
        (pss_cons (ps_set (i := 4) sc_lab.nd rfl (.inl rfl) (pe_call G hr (by rfl) hg kG bG .nil pass0 (pa_cons (pv 0) (pa_cons (pe_ix ix_list (pe_lst (pa_cons pe_int (pa_cons pe_int (pa_cons (pe_op op_add (pe_op op_mul pe_int (pe_op op_pow pe_int pe_int)) pe_int) pa_nil)))) (pe_call G hr (by rfl) hg kG bG .nil pass0 (pa_cons (pv 0) (pa_cons pe_int pa_nil))) (fun _ _ => rfl)) pa_nil))))
        (pss_cons (ps_set (i := 4) sc_lab.nd rfl (.inl rfl) (pe_callTy call_str_int (by rfl) B.str boot_str' (pa_cons (pe_ifExp (pt_cmpR op_le (pv 4) (pe_op op_pow pe_int pe_int) (nomark _))
            (pe_ix ix_list (pe_lst (pa_cons (pv 4) (pa_cons (pe_op op_sub pe_int (pv 4)) pa_nil))) (pe_call G hr (by rfl) hg kG bG .nil pass0 (pa_cons (pv 0) (pa_cons pe_int pa_nil))) (fun _ _ => rfl)) (pe_op op_sub (pv 4) (pe_op op_pow pe_int pe_int))) pa_nil)))
        (pss_cons (ps_set (i := 5) sc_lab.nd rfl (.inl rfl) (pe_ix ix_list (pe_lst (pa_cons pe_str (pa_cons pe_str (pa_cons pe_str (pa_cons pe_str (pa_cons (pe_op op_add_str pe_str (pv 4)) pa_nil)))))) (pe_call G hr (by rfl) hg kG bG .nil pass0 (pa_cons (pv 0) (pa_cons pe_int pa_nil))) (fun _ _ => rfl)))
          (pss_one (ps_expr (pe_bm PySem.F.plainAttrs_list PySem.F.slot_list_append PySem.F.type_list_append mt_append (pv 2) (pa_cons (pv 5) pa_nil))))))))
      (pss_one (ps_ret (pv 2)))), ?_⟩
    refine ⟨(by show 0 ≤ sizeLine; exact Nat.zero_le _), fun L hL => ?_⟩
    have ndL : d ≠ L := ne_of_none hd hL
    refine ⟨_, rfl, _, rfl, d, M, ds, rfl, hM0, by omega, by rw [upd_ne ndL]; exact hd, hD, fun n ds1 n0 nM hD1 => ?_⟩
    refine ⟨_, _, rfl, rfl, 1 + n, rfl, by omega, by omega, ?_⟩
    refine for_range (lo := 0) (n := (1 + n).toNat) (fun i σ H2 => ∃ (u v z : Option V) (rs : List Rule) (ds2 : List Int), σ = [some (.ref d), some (.int M), some (.ref L), u, v, z] ∧ Fr1 d H H2 ∧ DOk ds2 ∧ H2 d = some (.lst (ds2.map V.int)) ∧ H2 L = some (.lst (lbV rs)) ∧ rs.length = i ∧ ∀ r ∈ rs, r.ok) ?_ ?_ ?_
    · refine ⟨none, none, none, [], ds1, rfl, (Fr1.refl.new hL).trans Fr1.at, hD1, upd_same, by rw [upd_ne ndL.symm, upd_same]; rfl, rfl, fun r hr => by cases hr⟩
    · rintro i σ H2 hi ⟨u, v, z, rs, ds2, rfl, f2, hD2, hd2, hL2, hl, hok⟩
      have e9 : ((10 : Int) ^ (9 : Int).toNat) = 1000000000 := by decide +kernel
      refine ⟨_, rfl, _, _, rfl, rfl, ⟨by decide, by decide, by decide⟩, _, _, rfl, rfl, .inl ⟨by decide, by decide⟩, _, _, rfl, rfl, (by show 3 ≤ sizeLine; decide), fun p0 hp0 => ?_⟩
      rw [e9]
      have np0 : d ≠ p0 := ne_of_none hd2 hp0
      refine ⟨_, rfl, d, 3, ds2, rfl, by decide, by decide, by rw [upd_ne np0]; exact hd2, hD2, fun k ds3 k0 k3 hD3 => ?_⟩
      obtain ⟨lim, ht, hlim⟩ : ∃ lim : Int, atI [V.int 7, V.int 41, V.int (2 * 1000000000 + 1)] k = some (.int lim) ∧ (0 < lim ∧ lim ≤ 2000000001) := by
        have : k = 0 ∨ k = 1 ∨ k = 2 := by omega
        rcases this with rfl | rfl | rfl
        · exact ⟨7, rfl, by decide, by decide⟩
        · exact ⟨41, rfl, by decide, by decide⟩
        · exact ⟨2000000001, rfl, by decide, by decide⟩
      refine ⟨p0, _, k, _, rfl, rfl, SqL.of (by rw [upd_ne np0.symm, upd_same]), ht, ?_⟩
      refine ⟨d, lim, ds3, rfl, by omega, by omega, upd_same, hD3, fun mk ds4 mk0 mkl hD4 => ?_⟩
      have f4 : Fr1 d H2 (upd (upd (upd H2 p0 (.lst [V.int 7, V.int 41, V.int (2 * 1000000000 + 1)])) d (.lst (ds3.map V.int))) d (.lst (ds4.map V.int))) := ((Fr1.refl.new hp0).trans Fr1.at).trans Fr1.at
      have hd4 : upd (upd (upd H2 p0 (.lst [V.int 7, V.int 41, V.int (2 * 1000000000 + 1)])) d (.lst (ds3.map V.int))) d (.lst (ds4.map V.int)) d = some (.lst (ds4.map V.int)) := upd_same
      generalize upd (upd (upd H2 p0 (.lst [V.int 7, V.int 41, V.int (2 * 1000000000 + 1)])) d (.lst (ds3.map V.int))) d (.lst (ds4.map V.int)) = H4 at f4 hd4 ⊢
      refine ⟨_, rfl, _, _, rfl, rfl, ⟨by decide, by decide, by decide⟩, _, _, rfl, rfl, _, rfl, ?_⟩
      rw [e9]
      by_cases hmk : mk ≤ 1000000000
      · refine iteD1 hmk ?_
        refine ⟨_, rfl, _, rfl, _, _, rfl, rfl, (by show 2 ≤ sizeLine; decide), fun p2 hp2 => ?_⟩
        have np2 : d ≠ p2 := ne_of_none hd4 hp2
        refine ⟨_, rfl, d, 2, ds4, rfl, by decide, by decide, by rw [upd_ne np2]; exact hd4, hD4, fun j ds5 j0 j2 hD5 => ?_⟩
        obtain ⟨m, hm, hmo⟩ : ∃ m : Int, atI [V.int mk, V.int (0 - mk)] j = some (.int m) ∧ numOk m := by
          have : j = 0 ∨ j = 1 := by omega
          rcases this with rfl | rfl
          · exact ⟨mk, rfl, by constructor <;> omega⟩
          · exact ⟨0 - mk, rfl, by constructor <;> omega⟩
        refine ⟨p2, _, j, _, rfl, rfl, SqL.of (by rw [upd_ne np2.symm, upd_same]), hm, ?_⟩
        have f5 := (f4.new (o := .lst [V.int mk, V.int (0 - mk)]) hp2).trans (Fr1.at (o := .lst (ds5.map V.int)))
        have hd5 : upd (upd H4 p2 (.lst [V.int mk, V.int (0 - mk)])) d (.lst (ds5.map V.int)) d = some (.lst (ds5.map V.int)) := upd_same
        generalize upd (upd H4 p2 (.lst [V.int mk, V.int (0 - mk)])) d (.lst (ds5.map V.int)) = H5 at f5 hd5 ⊢
        refine ⟨m, rfl, numS_log hmo, ?_⟩
        refine ⟨_, rfl, _, _, rfl, rfl, ?_, (by show 5 ≤ sizeLine; decide), fun p1 hp1 => ?_⟩
        · exact Nat.le_trans (Nat.add_le_add_left (numS_len hmo) 5) (by decide)
        have np1 : d ≠ p1 := ne_of_none hd5 hp1
        refine ⟨_, rfl, d, 5, ds5, rfl, by decide, by decide, by rw [upd_ne np1]; exact hd5, hD5, fun kk ds6 kk0 kk5 hD6 => ?_⟩
        obtain ⟨r, hat, rok⟩ := kind_at hmo kk0 kk5
        refine ⟨p1, _, kk, _, rfl, rfl, SqL.of (by rw [upd_ne np1.symm, upd_same]; rfl), hat, ?_⟩
        have f6 := ((f5.new (o := .lst (kindVs m)) hp1).trans (Fr1.at (o := .lst (ds6.map V.int))))
        have hL6 := f6 _ _ hL2 ndL.symm
        refine ⟨_, rfl, .inl ⟨rfl, _, SqL.of hL6⟩, _, rfl, _, _, _, rfl, rfl, hL6, ?_, ?_⟩
        · show (lbV rs).length < sizeLine
          unfold lbV
          rw [List.length_map, List.length_map, hl]
          exact Nat.lt_of_lt_of_le (show i < 9 by omega) (by decide)
        refine ⟨_, _, _, rs ++ [r], ds6, rfl, (f2.trans f6).upd hL, hD6, by rw [upd_ne ndL, upd_same], ?_, by rw [List.length_append, hl]; rfl, fun x hx => ?_⟩
        · rw [upd_same]
          unfold lbV
          rw [List.map_append, List.map_append]
          rfl
        rcases List.mem_append.mp hx with hx | hx
        · exact hok x hx
        · rw [List.mem_singleton.mp hx]
          exact rok
      · refine iteD0 hmk ?_
        refine ⟨_, rfl, _, _, rfl, rfl, ⟨by decide, by decide, by decide⟩, _, _, rfl, rfl, ?_⟩
        rw [e9]
        have hmo : numOk (mk - 1000000000) := by constructor <;> omega
        refine ⟨(mk - 1000000000), rfl, numS_log hmo, ?_⟩
        refine ⟨_, rfl, _, _, rfl, rfl, ?_, (by show 5 ≤ sizeLine; decide), fun p1 hp1 => ?_⟩
        · exact Nat.le_trans (Nat.add_le_add_left (numS_len hmo) 5) (by decide)
        have np1 : d ≠ p1 := ne_of_none hd4 hp1
        refine ⟨_, rfl, d, 5, ds4, rfl, by decide, by decide, by rw [upd_ne np1]; exact hd4, hD4, fun kk ds6 kk0 kk5 hD6 => ?_⟩
        obtain ⟨r, hat, rok⟩ := kind_at hmo kk0 kk5
        refine ⟨p1, _, kk, _, rfl, rfl, SqL.of (by rw [upd_ne np1.symm, upd_same]; rfl), hat, ?_⟩
        have f6 := ((f4.new (o := .lst (kindVs (mk - 1000000000))) hp1).trans (Fr1.at (o := .lst (ds6.map V.int))))
        have hL6 := f6 _ _ hL2 ndL.symm
        refine ⟨_, rfl, .inl ⟨rfl, _, SqL.of hL6⟩, _, rfl, _, _, _, rfl, rfl, hL6, ?_, ?_⟩
        · show (lbV rs).length < sizeLine
          unfold lbV
          rw [List.length_map, List.length_map, hl]
          exact Nat.lt_of_lt_of_le (show i < 9 by omega) (by decide)
        refine ⟨_, _, _, rs ++ [r], ds6, rfl, (f2.trans f6).upd hL, hD6, by rw [upd_ne ndL, upd_same], ?_, by rw [List.length_append, hl]; rfl, fun x hx => ?_⟩
        · rw [upd_same]
          unfold lbV
          rw [List.map_append, List.map_append]
          rfl
        rcases List.mem_append.mp hx with hx | hx
        · exact hok x hx
        · rw [List.mem_singleton.mp hx]
          exact rok
    · rintro σ H2 ⟨u, v, z, rs, ds2, rfl, f2, hD2, hd2, hL2, hl, hok⟩
      exact ⟨_, rfl, q L H2 rs ds2 hL f2 hD2 hd2 hL2 (by omega) (by omega) hok⟩
end
end SC
set_option maxRecDepth 100000
set_option maxHeartbeats 2000000
namespace SC
open PySem PySem.Spec PyProof.Rows L2 TL
section
variable {P : Program} {w : World} {K : PySem.W.Frag} {mg : Str → Option Value} {base : Heap}
def nmKept : List Str := ["_law_label", "_law_held", "_law_came", "_law_mark"]
theorem sc_kept : FnScope nmKept ["_law_label", "_law_held", "_law_came"] (defScope s__law_kept) := ⟨rfl, rfl, rfl, by decide +kernel, rfl, by decide +kernel, by decide +kernel⟩
theorem ok_kept {f : Addr} {fd : FuncData} (F : Fun K "_law_kept" "_law_kept" s__law_kept f fd) (B : Bln mg) : FnOk P w K mg base CX0 1 f fd ["_law_label", "_law_held", "_law_came"] spKept := by
  refine F.ok sc_kept (fun vs H Q E h => ?_) (fun cdv A outer s H vs Q E hr h => ?_)
  · obtain ⟨r, h, c, rfl, _⟩ := h
    rfl
  · obtain ⟨r, h, c, rfl, hok, q⟩ := h
    refine ⟨_, pss_cons (ps_if (pt_cmpR op_eq (pv 0) pe_str (nomark _)) (pss_one (ps_ret (pe_tup (pa_cons (pv 2) (pa_cons (pv 1) pa_nil))))) pss_nil)
      (pss_cons (ps_if (pt_cmpR op_eq (pv 0) pe_str (nomark _)) (pss_one (ps_ret (pe_tup (pa_cons (pe_callB (cr_min rfl) (by rfl) B.min boot_min' (pa_cons (pe_lst (pa_cons (pv 1) (pa_cons (pv 2) pa_nil))) pa_nil)) (pa_cons (pe_callB (cr_max rfl) (by rfl) B.max boot_max' (pa_cons (pe_lst (pa_cons (pv 1) (pa_cons (pv 2) pa_nil))) pa_nil)) pa_nil))))) pss_nil)
      (pss_cons (ps_if (pt_cmpR op_eq (pv 0) pe_str (nomark _)) (pss_one (ps_ret (pe_tup (pa_cons (pe_callB (cr_max rfl) (by rfl) B.max boot_max' (pa_cons (pe_lst (pa_cons (pv 1) (pa_cons (pv 2) pa_nil))) pa_nil)) (pa_cons (pe_callB (cr_min rfl) (by rfl) B.min boot_min' (pa_cons (pe_lst (pa_cons (pv 1) (pa_cons (pv 2) pa_nil))) pa_nil)) pa_nil))))) pss_nil)
      (pss_cons (ps_if (pt_cmpR op_ne (pv 0) pe_str (nomark _)) (pss_cons (ps_set (i := 3) sc_kept.nd rfl (.inl rfl) (pe_callTy call_int_str (by rfl) B.int boot_int' (pa_cons (pe_slice sl_str (pv 0) (po_some pe_int) po_none) pa_nil)))
        (pss_one (ps_if (pt_cmpR op_lt (pe_callB call_abs (by rfl) B.abs boot_abs' (pa_cons (pe_op op_sub (pv 2) (pv 3)) pa_nil)) (pe_callB call_abs (by rfl) B.abs boot_abs' (pa_cons (pe_op op_sub (pv 1) (pv 3)) pa_nil)) (nomark _)) (pss_one (ps_ret (pe_tup (pa_cons (pv 2) (pa_cons (pv 1) pa_nil))))) pss_nil))) pss_nil)
      (pss_one (ps_ret (pe_tup (pa_cons (pv 1) (pa_cons (pv 2) pa_nil)))))))), ?_⟩
    refine ⟨_, rfl, rfl, _, rfl, ?_⟩
    cases r with
    | last =>
      refine iteD1 rfl ?_
      exact ⟨_, rfl, _, rfl, (by show 2 ≤ sizeLine; decide), fun p hp => q p _ hp (same_new hp) upd_same⟩
    | less =>
      refine iteD0 (by decide +kernel) ⟨_, rfl, rfl, _, rfl, iteD1 rfl ?_⟩
      refine ⟨_, rfl, _, rfl, (by show 2 ≤ sizeLine; decide), fun p1 hp1 => ?_⟩
      refine ⟨p1, [h, c], rfl, SqL.of upd_same, (by show 0 < 2; decide), fun m1 imm1 iym1 => ?_⟩
      have hm1 := min2 imm1 iym1
      refine ⟨_, rfl, _, rfl, (by show 2 ≤ sizeLine; decide), fun p2 hp2 => ?_⟩
      refine ⟨p2, [h, c], rfl, SqL.of upd_same, (by show 0 < 2; decide), fun m2 imm2 iym2 => ?_⟩
      have hm2 := max2 imm2 iym2
      have s1 := same_new (o := .lst [V.int h, V.int c]) hp1
      have s2 := s1.trans (same_new (o := .lst [V.int h, V.int c]) hp2)
      refine ⟨(by show 2 ≤ sizeLine; decide), fun p hp => q p _ (s2.free hp) (s2.trans (same_new hp)) ?_⟩
      rw [upd_same]
      show some (HO.tup [V.int m1, V.int m2]) = some (HO.tup [V.int ((if c < h then (c, h) else (h, c)) : Int × Int).1, V.int ((if c < h then (c, h) else (h, c)) : Int × Int).2])
      by_cases hc : c < h
      · rw [if_pos hc, hm1.2 (by omega), hm2.2 (by omega)]
      · rw [if_neg hc, hm1.1 (by omega), hm2.1 (by omega)]
    | greater =>
      refine iteD0 (by decide +kernel) ⟨_, rfl, rfl, _, rfl, iteD0 (by decide +kernel) ⟨_, rfl, rfl, _, rfl, iteD1 rfl ?_⟩⟩
      refine ⟨_, rfl, _, rfl, (by show 2 ≤ sizeLine; decide), fun p1 hp1 => ?_⟩
      refine ⟨p1, [h, c], rfl, SqL.of upd_same, (by show 0 < 2; decide), fun m1 imm1 iym1 => ?_⟩
      have hm1 := max2 imm1 iym1
      refine ⟨_, rfl, _, rfl, (by show 2 ≤ sizeLine; decide), fun p2 hp2 => ?_⟩
      refine ⟨p2, [h, c], rfl, SqL.of upd_same, (by show 0 < 2; decide), fun m2 imm2 iym2 => ?_⟩
      have hm2 := min2 imm2 iym2
      have s1 := same_new (o := .lst [V.int h, V.int c]) hp1
      have s2 := s1.trans (same_new (o := .lst [V.int h, V.int c]) hp2)
      refine ⟨(by show 2 ≤ sizeLine; decide), fun p hp => q p _ (s2.free hp) (s2.trans (same_new hp)) ?_⟩
      rw [upd_same]
      show some (HO.tup [V.int m1, V.int m2]) = some (HO.tup [V.int ((if h < c then (c, h) else (h, c)) : Int × Int).1, V.int ((if h < c then (c, h) else (h, c)) : Int × Int).2])
      by_cases hc : h < c
      · rw [if_pos hc, hm1.1 (by omega), hm2.1 (by omega)]
      · rw [if_neg hc, hm1.2 (by omega), hm2.2 (by omega)]
    | first =>
      refine iteD0 (by decide +kernel) ⟨_, rfl, rfl, _, rfl, iteD0 (by decide +kernel) ⟨_, rfl, rfl, _, rfl, iteD0 (by decide +kernel) ⟨_, rfl, rfl, _, rfl, iteNS rfl ?_⟩⟩⟩
      exact ⟨_, rfl, _, rfl, (by show 2 ≤ sizeLine; decide), fun p hp => q p _ hp (same_new hp) upd_same⟩
    | near m =>
      refine iteD0 (near_ne m (k := .last) (by decide)) ⟨_, rfl, rfl, _, rfl, iteD0 (near_ne m (k := .less) (by decide)) ⟨_, rfl, rfl, _, rfl, iteD0 (near_ne m (k := .greater) (by decide)) ⟨_, rfl, rfl, _, rfl, iteN1 (near_ne m (k := .first) (by decide)) ?_⟩⟩⟩
      refine ⟨_, rfl, _, rfl, _, rfl, Nat.le_trans (label_len (r := .near m) hok) (by decide), _, m, rfl, ?_, ?_, ?_⟩
      · show PySem.intText? (cutS (("near:" : Str) ++ numS m) (some 5) none) = some m
        rw [cut_near]
        exact numS_read hok
      · show (cutS (("near:" : Str) ++ numS m) (some 5) none).length ≤ 640
        rw [cut_near]
        exact Nat.le_trans (numS_len hok) (by decide)
      · refine ⟨_, rfl, _, rfl, _, _, rfl, rfl, _, rfl, _, rfl, _, rfl, _, _, rfl, rfl, _, rfl, _, _, rfl, rfl, _, rfl, ?_⟩
        by_cases hc : absI (c - m) < absI (h - m)
        · refine iteD1 hc ?_
          refine ⟨_, rfl, _, rfl, (by show 2 ≤ sizeLine; decide), fun p hp => q p _ hp (same_new hp) ?_⟩
          rw [upd_same, show (Rule.near m).keep h c = (c, h) from if_pos hc]
        · refine iteD0 hc ?_
          refine ⟨_, rfl, _, rfl, (by show 2 ≤ sizeLine; decide), fun p hp => q p _ hp (same_new hp) ?_⟩
          rw [upd_same, show (Rule.near m).keep h c = (h, c) from if_neg hc]
end
end SC
set_option maxRecDepth 100000
set_option maxHeartbeats 2000000
namespace SC
open PySem PySem.Spec PyProof.Rows L2 TL
section
variable {P : Program} {w : World} {K : PySem.W.Frag} {mg : Str → Option Value} {base : Heap}
def nmLStep : List Str := ["_law_labels_here", "_law_held", "_law_number", "_law_found", "_law_k"]
theorem sc_lstep : FnScope nmLStep ["_law_labels_here", "_law_held", "_law_number"] (defScope s__law_step) := ⟨rfl, rfl, rfl, by decide +kernel, rfl, by decide +kernel, by decide +kernel⟩
theorem ok_lstep {f : Addr} {fd : FuncData} (F : Fun K "_law_step" "_law_step" s__law_step f fd) (B : Bln mg) (GK : Fu P w K mg base CX0 1 "_law_kept" ["_law_label", "_law_held", "_law_came"] spKept) : FnOk P w K mg base CX0 2 f fd ["_law_labels_here", "_law_held", "_law_number"] (spP K RStep) := by
  refine F.ok sc_lstep (fun vs H Q E h => ?_) (fun cdv A outer s H vs Q E hr h => ?_)
  · obtain ⟨M, ds, d, ⟨rs, hs, n, rfl, _⟩, _, r, _⟩ := h
    exact r.len
  · obtain ⟨M, ds, d, ⟨rs, hs, n, rfl, hok, hl, h8, rfl⟩, g, r, q⟩ := h
    have zz := line_big
    have E0' := env_startD (N := nmLStep) r
    have E1 : Env K M (L2.start nmLStep vs) H [.dat (.lst (lbD rs)), .dat (.lst (hs.map dO)), .dat (.int n), .any, .any] := E0'
    clear E0'
    refine ⟨_, wpS_ok, ?_⟩
    generalize L2.start nmLStep vs = σ0 at E1 ⊢
    refine wp_cons (ps_set (i := 3) sc_lstep.nd rfl (by first | exact .inl rfl | exact .inr rfl) (pe_callTy (r := rListOf K) call_list_of (by rfl) B.list boot_list' (pa_cons (pv 1) pa_nil))) ?_
    obtain ⟨v1, e1, a1, vs1, rfl, ha1, rl1⟩ := E1.dat (i := 1) rfl
    refine ⟨_, e1, a1, vs1, rfl, .inl (SqL.of (wo_le _ _ ha1)), fun L hL => ?_⟩
    rw [rp_opts.mp rl1] at *
    have LM : L ∉ M := g.out hL
    have s1 : Same H (upd H L (.lst (hs.map ov))) := same_new hL
    have E2 := (E1.more hL s1).setv (i := 3) (v := .ref L)
    dsimp only [List.set] at E2
    have g2 : Gd K (L :: M) (upd H L (.lst (hs.map ov))) := (g.same s1).lst upd_same
    have hL2 : upd H L (.lst (hs.map ov)) L = some (.lst (hs.map ov)) := upd_same
    show wpS _ _ _ (σ0.set 3 (some (V.ref L))) (upd H L (.lst (hs.map ov)))
    generalize σ0.set 3 (some (V.ref L)) = σ1 at E2 ⊢
    generalize upd H L (.lst (hs.map ov)) = H1 at s1 E2 g2 hL2 ⊢
    clear E1 e1 ha1 rl1
    have ll : (lbD rs).length = rs.length := by unfold lbD; rw [List.length_map, List.length_map]
    refine wp_cons (ps_for PassesOwn.never rfl (pi_range1 (by rfl) B.range (pa_cons (pe_callB (r := rLenS K) call_len_seq (by rfl) B.len boot_len' (pa_cons (pv 0) pa_nil)) pa_nil)) (pg_name (i := 4) sc_lstep.nd rfl (.inl rfl)) wpS_ok) ?_
    refine use_forR (n := rs.length) (rda_cons ((rd_lenL (rda_cons (E2.rd (i := 0) rfl) rda_nil)).cast (by rw [ll])) rda_nil) g2 (by omega) fun H2 s2 g3 => ?_
    refine for_range (lo := 0) (n := rs.length) (fun i σ H3 => ∃ (ys : List Int) (m : Int), Same H H3 ∧ Gd K (L :: M) H3 ∧ H3 L = some (.lst ((ys.map some ++ hs.drop i).map ov)) ∧ ys.length = i ∧ stepR (rs.take i) (hs.take i) (some n) = (ys.map some, some m) ∧
      Env K (L :: M) σ H3 [.dat (.lst (lbD rs)), .any, .dat (.int m), .val (.ref L), .any]) ?_ ?_ ?_
    · refine ⟨[], n, s1.trans s2, g3, s2 _ _ hL2, rfl, ?_, (E2.same s2).fgt (.keep (.any (.keep (.keep (.any .nil)))))⟩
      rw [List.take_zero, List.take_zero, step_nil]
      rfl
    · rintro i σ2 H3 hi ⟨ys, m, s3, g4, hL3, hy, st, E3⟩
      have E4 := E3.set (i := 4) (d := .int (i : Int)) (v := .int (0 + (i : Int))) (by show V.int _ = V.int _; congr 1; omega)
      dsimp only [List.set] at E4
      show wpS _ _ _ (σ2.set 4 (some (V.int (0 + (i : Int))))) H3
      generalize σ2.set 4 (some (V.int (0 + (i : Int)))) = σ3 at E4 ⊢
      clear E3
      have hih : i < hs.length := by omega
      have hd : hs.drop i = hs[i] :: hs.drop (i + 1) := List.drop_eq_getElem_cons hih
      have hzi : hs[i]? = some hs[i] := List.getElem?_eq_getElem hih
      have hri : rs[i]? = some rs[i] := List.getElem?_eq_getElem hi
      have cur : (ys.map some ++ hs.drop i)[i]? = some hs[i] := by
        rw [hd, List.getElem?_append_right (by rw [List.length_map]; omega), List.length_map, hy, Nat.sub_self]
        rfl
      have E5 := E4.less.asD (i := 3) rfl (rp_optL hL3 LM)
      dsimp only [List.set] at E5
      refine wp_cons (ps_if (pt_cmpR op_isN (pe_ix (r := rIxL K) ix_list (pv 3) (pv 4) (fun _ _ => rfl)) pe_non (nomark _)) wpS_ok pss_nil) ?_
      refine use_if (rdt_test (rd_isN (rd_atM (f := dO) cur (E5.rd (i := 3) rfl) (E5.rd (i := 4) rfl)) rd_non)) g4.tl fun H4 s4 g5 => ?_
      have g6 := g4.same s4
      have E6 := E5.same s4
      cases hc : hs[i] with
      | none =>
        refine iteT ?_
        have te : (ys.map some ++ hs.drop i).take i = ys.map some := by
          rw [List.take_append_of_le_length (by rw [List.length_map]; omega), List.take_of_length_le (by rw [List.length_map]; omega)]
        have de : (ys.map some ++ hs.drop i).drop (i + 1) = hs.drop (i + 1) := by
          rw [List.drop_append, List.drop_of_length_le (by rw [List.length_map]; omega), List.length_map, hy, List.nil_append, List.drop_drop]
          congr 1
          omega
        have hz2 : hs[i]? = some none := by rw [hzi, hc]
        refine wp_one (ps_ret (pe_tup (pa_cons (pe_op op_cat (pe_op op_cat (pe_slice (r := rSlL K) sl_list (pv 3) po_none (po_some (pv 4))) (pe_lst (pa_cons (pv 2) pa_nil))) (pe_slice (r := rSlL K) sl_list (pv 3) (po_some (pe_op op_add (pv 4) pe_int)) po_none)) (pa_cons pe_non pa_nil)))) ?_
        refine use_ret (rd_tupA (rda_cons (rd_catM (f := dO) ?_ (rd_catM (f := dO) (ys := [some m]) ?_ (rd_takeM (E6.rd (i := 3) rfl) (E6.rd (i := 4) rfl)) (rd_lstA (rda_cons (E6.rd (i := 2) rfl) rda_nil))) (rd_dropM (n := i + 1) (E6.rd (i := 3) rfl) (rd_add (E6.rd (i := 4) rfl) rd_int))) (rda_cons rd_non rda_nil))) g5 fun v5 H5 s5 g7 r5 => ?_
        · rw [List.length_append, List.length_take, List.length_drop, List.length_singleton, List.length_append, List.length_map, List.length_drop]; omega
        · rw [List.length_take, List.length_singleton, List.length_append, List.length_map, List.length_drop]; omega
        refine q _ _ ((s3.trans s4).trans s5) g7 ?_
        rw [te, de] at r5
        rw [step_end hl hi hz2 st]
        exact r5
      | some h =>
        refine iteF ?_
        have E7 := E4.same s4
        have hL4 := s4 _ _ hL3
        refine wp_one (ps_asg (pe_fu GK hr (by decide) (by rfl) pass0 (pa_cons (pe_ix (r := rIxL K) ix_list (pv 0) (pv 4) (fun _ _ => rfl)) (pa_cons (pe_ix (r := rIxL K) ix_list (pv 3) (pv 4) (fun _ _ => rfl)) (pa_cons (pv 2) pa_nil)))) (pg_tup rfl (pgs_cons (pg_sub (pv 3) (pv 4) set_list) (pgs_cons (pg_name (i := 2) sc_lstep.nd rfl (.inl rfl)) pgs_nil)))) ?_
        have lat : (lbD rs)[i]? = some (.str rs[i].label) := by unfold lbD; rw [List.getElem?_map, List.getElem?_map, hri]; rfl
        refine use_asg (rd_kept (r := rs[i]) (h := h) (c := m) (hok _ (List.mem_of_getElem? hri)) (rda_cons (rd_ixL (atI_nat (j := i) lat) (E6.rd (i := 0) rfl) (E6.rd (i := 4) rfl)) (rda_cons (rd_atM (f := dO) (x := some h) (by rw [cur, hc]) (E6.rd (i := 3) rfl) (E6.rd (i := 4) rfl)) (rda_cons (E6.rd (i := 2) rfl) rda_nil)))) g5 fun v5 H5 s5 g7 r5 => ?_
        obtain ⟨p, vs5, rfl, hp, w1, vs6, rfl, r6, w2, vs7, rfl, r7, r8⟩ := r5
        cases r6
        cases r7
        cases r8
        have E8 := E7.same s5
        have hL5 := s5 _ _ hL4
        obtain ⟨w4, e4, r4⟩ := E8.dat (i := 4) rfl
        cases r4
        refine ⟨p, _, rfl, SqT.of (wo_le _ _ hp), rfl, _, _, rfl, ?_⟩
        refine ⟨_, E8.val (i := 3) rfl, _, e4, L, _, (i : Int), i, rfl, rfl, hL5, ixN_at ?_, ?_⟩
        · rw [List.length_map, List.length_append, List.length_map, List.length_drop]; omega
        refine ⟨_, _, rfl, rfl, ?_⟩
        have es : ((ys.map some ++ hs.drop i).map ov).set i (V.int (rs[i].keep h m).1) = ((ys ++ [(rs[i].keep h m).1]).map some ++ hs.drop (i + 1)).map ov := by
          have e1 : (ys.map some).map ov = (ys.map some).map ov := rfl
          rw [hd, List.map_append, List.map_cons]
          have z := set_mid ((ys.map some).map ov) ((hs.drop (i + 1)).map ov) (ov hs[i]) (V.int (rs[i].keep h m).1)
          rw [List.length_map, List.length_map, hy] at z
          rw [z]
          simp [ov]
        rw [es]
        refine ⟨ys ++ [(rs[i].keep h m).1], (rs[i].keep h m).2, ?_, (g6.same s5).at trivial, upd_same, by rw [List.length_append, hy]; rfl, step_pre hl hri (by rw [hzi, hc]) st, ?_⟩
        · intro b o hb
          rw [upd_ne (ne_of_none hb hL)]
          exact s5 _ _ (s4 _ _ (s3 _ _ hb))
        · exact (((E8.fm (Fm.at List.mem_cons_self)).set (i := 2) (d := .int (rs[i].keep h m).2) rfl).fgt (.keep (.keep (.keep (.keep (.any .nil))))))
    · rintro σ2 H3 ⟨ys, m, s3, g4, hL3, hy, st, E3⟩
      rw [List.take_length, ← hl, List.take_length] at st
      rw [← hl, List.drop_length, List.append_nil] at hL3
      have E5 := E3.less.asD (i := 3) rfl (rp_optL hL3 LM)
      dsimp only [List.set] at E5
      refine wp_one (ps_ret (pe_tup (pa_cons (pv 3) (pa_cons (pv 2) pa_nil)))) ?_
      refine use_ret (rd_tupA (rda_cons (E5.rd (i := 3) rfl) (rda_cons (E5.rd (i := 2) rfl) rda_nil))) g4.tl fun v5 H5 s5 g7 r5 => ?_
      refine q _ _ (s3.trans s5) g7 ?_
      rw [st]
      exact r5
end
end SC
set_option maxRecDepth 100000
set_option maxHeartbeats 2000000
namespace SC
open PySem PySem.Spec PyProof.Rows L2 TL
section
variable {P : Program} {w : World} {K : PySem.W.Frag} {mg : Str → Option Value} {base : Heap}
def nmStI : List Str := ["self", "word", "chain", "numbers", "out"]
theorem sc_sti : FnScope nmStI ["self", "word", "chain", "numbers", "out"] (defScope s_Step_init) := ⟨rfl, rfl, rfl, by decide +kernel, rfl, by decide +kernel, by decide +kernel⟩
theorem ok_stinit {f : Addr} {fd : FuncData} (F : Fun K "__init__" "Step.__init__" s_Step_init f fd) (W : Wk K mg) : FnOk P w K mg base CX0 1 f fd ["self", "word", "chain", "numbers", "out"] (spStInit K) := by
  refine F.ok sc_sti (fun vs H Q E h => ?_) (fun cdv A outer s H vs Q E hr h => ?_)
  · obtain ⟨x, dx, v1, v2, v3, v4, rfl, _⟩ := h
    rfl
  · obtain ⟨x, dx, v1, v2, v3, v4, rfl, hx, q⟩ := h
    refine ⟨_, pss_cons (ps_fld (pv 0) (pv 1) rfl) (pss_cons (ps_fld (pv 0) (pv 2) rfl) (pss_cons (ps_fld (pv 0) (pv 3) rfl) (pss_one (ps_fld (pv 0) (pv 4) rfl)))), ?_⟩
    have k1 : (("chain" : Str) == "word") = false := by decide +kernel
    have k2 : (("numbers" : Str) == "word") = false := by decide +kernel
    have k3 : (("numbers" : Str) == "chain") = false := by decide +kernel
    have k4 : (("out" : Str) == "word") = false := by decide +kernel
    have k5 : (("out" : Str) == "chain") = false := by decide +kernel
    have k6 : (("out" : Str) == "numbers") = false := by decide +kernel
    refine ⟨_, rfl, _, rfl, x, _, dx, [], rfl, hx, W.clsS, W.nWord, (by show 0 < 1000; decide), ?_⟩
    refine ⟨_, rfl, _, rfl, x, _, dx, _, rfl, upd_same, W.clsS, W.nChain, (by show 1 < 1000; decide), ?_⟩
    refine ⟨_, rfl, _, rfl, x, _, dx, _, rfl, upd_same, W.clsS, W.nNums, (by show 2 < 1000; decide), ?_⟩
    refine ⟨_, rfl, _, rfl, x, _, dx, _, rfl, upd_same, W.clsS, W.nOut, (by show 3 < 1000; decide), ?_⟩
    rw [upd_upd, upd_upd, upd_upd]
    exact q
def nmNow : List Str := ["self"]
theorem sc_now : FnScope nmNow ["self"] (defScope s_Worktop_now) := ⟨rfl, rfl, rfl, by decide +kernel, rfl, by decide +kernel, by decide +kernel⟩
theorem ok_now {f : Addr} {fd : FuncData} (F : Fun K "now" "Worktop.now" s_Worktop_now f fd) (W : Wk K mg) : FnOk P w K mg base CX0 1 f fd ["self"] (spNow K) := by
  refine F.ok sc_now (fun vs H Q E h => ?_) (fun cdv A outer s H vs Q E hr h => ?_)
  · obtain ⟨M, wt, L, S, ss, i, s, rfl, _⟩ := h
    rfl
  · obtain ⟨M, wt, L, S, ss, i, s, rfl, x, hi, q⟩ := h
    obtain ⟨⟨dx, h1⟩, ⟨as, h2, h3⟩, h4, _⟩ := x
    refine ⟨_, pss_one (ps_ret (pe_ix ix_list (pe_fld (pv 0) rfl) (pe_fld (pv 0) rfl) (fun _ _ => rfl))), ?_⟩
    have ha : i < as.length := by rw [h3.1]; exact h4
    refine ⟨_, rfl, wt, _, dx, _, _, rfl, h1, W.cls, W.nSteps, look_steps, _, rfl, wt, _, dx, _, _, rfl, h1, W.cls, W.nDone, look_done, L, _, (i : Int), .ref as[i], rfl, rfl, SqL.of h2, atI_nat (j := i) (by rw [List.getElem?_map, List.getElem?_eq_getElem ha]; rfl), q _ (h3.2 i _ s (List.getElem?_eq_getElem ha) hi)⟩
def nmAdv : List Str := ["self", "word", "chain", "numbers", "out"]
theorem sc_adv : FnScope nmAdv ["self", "word", "chain", "numbers", "out"] (defScope s_Worktop_advance) := ⟨rfl, rfl, rfl, by decide +kernel, rfl, by decide +kernel, by decide +kernel⟩
theorem ok_advance {f : Addr} {fd sd : FuncData} (F : Fun K "advance" "Worktop.advance" s_Worktop_advance f fd) (W : Wk K mg) (SI : FnOk P w K mg base CX0 1 (He.ma K (StC K) "__init__") sd ["self", "word", "chain", "numbers", "out"] (spStInit K)) (bS : Binds K sd ["self", "word", "chain", "numbers", "out"] []) :
    FnOk P w K mg base CX0 3 f fd ["self", "word", "chain", "numbers", "out"] (spAdvance K) := by
  refine F.ok sc_adv (fun vs H Q E h => ?_) (fun cdv A outer s H vs Q E hr h => ?_)
  · obtain ⟨M, wt, L, S, c, t, ss, i, s, rfl, _⟩ := h
    rfl
  · obtain ⟨M, wt, L, S, c, t, ss, i, s, rfl, g, x, few, hc, ht, hl, hf, q⟩ := h
    have zz := line_big
    obtain ⟨⟨dx, h1⟩, ⟨as, h2, h3⟩, h4, h5, mw, ml, ne⟩ := x
    refine ⟨_, wpS_ok, ?_⟩
    refine wp_cons (ps_delS (pe_fld (pv 0) rfl) (pe_op op_add (pe_fld (pv 0) rfl) pe_int)) ?_
    have ll := h3.1
    refine ⟨_, rfl, wt, _, dx, _, _, rfl, h1, W.cls, W.nSteps, look_steps, _, rfl, wt, _, dx, _, _, rfl, h1, W.cls, W.nDone, look_done, _, _, rfl, rfl, L, _, i + 1, rfl, rfl, h2, by rw [List.length_map, ll]; omega, ?_⟩
    rw [← List.map_take]
    have w1 : upd H L (.lst ((as.take (i + 1)).map V.ref)) wt = some (.ins (WkC K) dx (wkFs L S i)) := by rw [upd_ne ne]; exact h1
    have w2 : upd H L (.lst ((as.take (i + 1)).map V.ref)) L = some (.lst ((as.take (i + 1)).map V.ref)) := upd_same
    have f1 : FrW wt L H (upd H L (.lst ((as.take (i + 1)).map V.ref))) := FrW.atL
    have g1 : Gd K M (upd H L (.lst ((as.take (i + 1)).map V.ref))) := g.at trivial
    have e1 : wo M (upd H L (.lst ((as.take (i + 1)).map V.ref))) = wo M H := wo_upd ml
    show wpS _ _ _ _ (upd H L (.lst ((as.take (i + 1)).map V.ref)))
    rw [← e1] at h3 hc ht
    generalize upd H L (.lst ((as.take (i + 1)).map V.ref)) = H1 at w1 w2 f1 g1 h3 hc ht ⊢
    refine wp_cons (ps_expr (pe_bm PySem.F.plainAttrs_list PySem.F.slot_list_append PySem.F.type_list_append mt_append (pe_fld (pv 0) rfl) (pa_cons (pe_make W.mkS SI hr (by rfl) W.gloS bS .nil pass0 (pa_cons (pv 1) (pa_cons (pv 2) (pa_cons (pv 3) (pa_cons (pv 4) pa_nil))))) pa_nil))) ?_
    refine ⟨_, rfl, wt, _, dx, _, _, rfl, w1, W.cls, W.nSteps, look_steps, .inl ⟨rfl, _, SqL.of w2⟩, ?_⟩
    refine ⟨_, rfl, _, rfl, _, rfl, _, rfl, fun x dy a1 a2 a3 => ?_⟩
    refine ⟨x, dy, _, _, _, _, rfl, upd_same, rfl, ?_⟩
    rw [upd_upd]
    have sx : Same H1 (upd (upd H1 dy (.own x)) x (.ins (StC K) dy [("word", .str s.word), ("chain", .ref c), ("numbers", .ref t), ("out", ov s.out)])) := fun b o e => by
      rw [upd_ne (ne_of_none e a1), upd_ne (ne_of_none e a2)]
      exact e
    have hx : upd (upd H1 dy (.own x)) x (.ins (StC K) dy [("word", .str s.word), ("chain", .ref c), ("numbers", .ref t), ("out", ov s.out)]) x = some (.ins (StC K) dy (s.fs c t)) := upd_same
    have xM : x ∉ M := g1.out a1
    generalize upd (upd H1 dy (.own x)) x (.ins (StC K) dy [("word", .str s.word), ("chain", .ref c), ("numbers", .ref t), ("out", ov s.out)]) = H2 at sx hx ⊢
    have st : StepAt K (wo M H2) x s := ⟨dy, c, t, by rw [wo_at xM]; exact hx, hc.same (swo sx), swo sx _ _ ht, hl, hf⟩
    refine ⟨L, _, _, rfl, rfl, sx _ _ w2, by rw [List.length_map, List.length_take]; omega, ?_⟩
    have e2 : (as.take (i + 1)).map V.ref ++ [V.ref x] = (as.take (i + 1) ++ [x]).map V.ref := by rw [List.map_append]; rfl
    rw [e2]
    have w3 : upd H2 L (.lst ((as.take (i + 1) ++ [x]).map V.ref)) wt = some (.ins (WkC K) dx (wkFs L S i)) := by rw [upd_ne ne]; exact sx _ _ w1
    have w4 : upd H2 L (.lst ((as.take (i + 1) ++ [x]).map V.ref)) L = some (.lst ((as.take (i + 1) ++ [x]).map V.ref)) := upd_same
    have f2 : FrW wt L H (upd H2 L (.lst ((as.take (i + 1) ++ [x]).map V.ref))) := (f1.trans (FrW.of sx)).trans FrW.atL
    have g2 : Gd K M (upd H2 L (.lst ((as.take (i + 1) ++ [x]).map V.ref))) := (g1.same sx).at trivial
    have e3 : wo M (upd H2 L (.lst ((as.take (i + 1) ++ [x]).map V.ref))) = wo M H2 := wo_upd ml
    have ss2 : Steps K (wo M H2) (as.take (i + 1) ++ [x]) (ss.take (i + 1) ++ [s]) := ((h3.take (i + 1)).same (swo sx)).snoc st
    rw [← e3] at ss2
    generalize upd H2 L (.lst ((as.take (i + 1) ++ [x]).map V.ref)) = H3 at w3 w4 f2 g2 ss2 ⊢
    refine wp_one (ps_fldaug (pv 0) pe_int in_add) ?_
    refine ⟨_, rfl, wt, _, dx, _, _, rfl, w3, W.cls, W.nDone, look_done, ?_⟩
    refine ⟨_, _, rfl, rfl, dx, _, w3, (by show 3 < 1000; decide), ?_⟩
    rw [put_done (v := .int ((i : Int) + 1)) (j := i + 1) rfl]
    have e4 : wo M (upd H3 wt (.ins (WkC K) dx (wkFs L S (i + 1)))) = wo M H3 := wo_upd mw
    refine q _ (f2.trans FrW.atW) (g2.at (mut_wk W)) ⟨⟨dx, upd_same⟩, ⟨_, by rw [upd_ne ne.symm]; exact w4, by rw [e4]; exact ss2⟩, ?_, ?_, mw, ml, ne⟩
    · rw [List.length_append, List.length_take, List.length_singleton]; omega
    · rw [List.length_append, List.length_take, List.length_singleton]; omega
def nmPut : List Str := ["self", "number", "now", "numbers", "out"]
theorem sc_put : FnScope nmPut ["self", "number"] (defScope s_Worktop_put) := ⟨rfl, rfl, rfl, by decide +kernel, rfl, by decide +kernel, by decide +kernel⟩
theorem ok_put {f g : Addr} {fd gd nd ad sd : FuncData} {n : Nat} (h6 : 3 ≤ n) (F : Fun K "put" "Worktop.put" s_Worktop_put f fd) (W : Wk K mg) (C : Chains K mg) (G : FnOk P w K mg base (L2.CX P w) 3 g gd ["value"] (spCheckNum K)) (bG : Binds K gd ["value"] []) (kG : PySem.W.keepIn K (.ref g) = true) (hg : mg "check_number" = some (.ref g))
    (N : FnOk P w K mg base CX0 1 (He.ma K (WkC K) "now") nd ["self"] (spNow K)) (bN : Binds K nd ["self"] []) (AD : FnOk P w K mg base CX0 3 (He.ma K (WkC K) "advance") ad ["self", "word", "chain", "numbers", "out"] (spAdvance K)) (bA : Binds K ad ["self", "word", "chain", "numbers", "out"] [])
    (S0 : FnOk P w K mg base CX0 n (He.ma K (ChC K) "step") sd ["self", "held", "came"] (spStep K)) (bS : Binds K sd ["self", "held", "came"] []) : FnOk P w K mg base CX0 (n + 1) f fd ["self", "number"] (spPut K) := by
  refine F.ok sc_put (fun vs H Q E h => ?_) (fun cdv A outer s0 H vs Q E hr h => ?_)
  · obtain ⟨M, wt, L, S, ss, i, s, m, rfl, _⟩ := h
    rfl
  · obtain ⟨M, wt, L, S, ss, i, s, m, rfl, hm, g, x, few, hi, q⟩ := h
    obtain ⟨⟨dx, h1⟩, _⟩ := id x
    refine ⟨_, pss_cons (ps_expr (pe_call (G.mono h6) hr (by rfl) hg kG bG .nil passL (pa_cons (pv 1) pa_nil)))
      (pss_cons (ps_set (i := 2) sc_put.nd rfl (.inl rfl) (pe_meth0 (pv 0) W.cls W.now (N.mono (show 1 ≤ n by omega)) hr bN .nil pass0))
      (pss_cons (ps_asg (pe_meth (pe_fld (pv 2) rfl) C.cls C.step S0 hr bS .nil pass0 (pa_cons (pe_fld (pv 2) rfl) (pa_cons (pv 1) pa_nil))) (pg_tup rfl (pgs_cons (pg_name (i := 3) sc_put.nd rfl (.inl rfl)) (pgs_cons (pg_name (i := 4) sc_put.nd rfl (.inl rfl)) pgs_nil))))
      (pss_cons (ps_expr (pe_meth (pv 0) W.cls W.advance (AD.mono h6) hr bA .nil pass0 (pa_cons pe_str (pa_cons (pe_fld (pv 2) rfl) (pa_cons (pv 3) (pa_cons (pv 4) pa_nil))))))
      (pss_one (ps_ret (pv 4)))))), ?_⟩
    refine ⟨_, rfl, _, rfl, .inl ⟨m, rfl, fun _ => ?_, fun z => absurd hm z⟩⟩
    refine ⟨_, rfl, wt, dx, _, rfl, h1, wk_no (by decide +kernel) (by decide +kernel) (by decide +kernel), M, wt, L, S, ss, i, s, rfl, x, hi, fun a sa => ?_⟩
    obtain ⟨dy, c, t, a1, a2, a3, a4, a5⟩ := id sa
    have a1' := wo_le _ _ a1
    have a2' := a2.same (wo_le (M := M) (H := H))
    have a3' := wo_le _ _ a3
    obtain ⟨dc, tt, ts, c1, _⟩ := id a2'
    refine ⟨_, rfl, a, _, dy, _, _, rfl, a1', W.clsS, W.nChain, st_chain, c, dc, _, rfl, c1, step_look, ?_⟩
    refine ⟨_, rfl, a, _, dy, _, _, rfl, a1', W.clsS, W.nNums, st_nums, _, rfl, ?_⟩
    refine ⟨c, t, m, s.rs, s.hs, rfl, a2', a3', a4, a5, fun p k H2 hp hk npk s2 e1 e2 => ?_⟩
    have g2 := g.same s2
    have kM : k ∉ M := g.out hk
    refine ⟨p, _, rfl, SqT.of e1, rfl, _, _, rfl, _, _, rfl, rfl, ?_⟩
    have x2 := x.same s2
    refine ⟨_, rfl, wt, dx, _, rfl, s2 _ _ h1, wk_no (by decide +kernel) (by decide +kernel) (by decide +kernel), _, rfl, a, _, dy, _, _, rfl, s2 _ _ a1', W.clsS, W.nChain, st_chain, _, rfl, _, rfl, ?_⟩
    refine ⟨M, wt, L, S, c, k, ss, i, putSt s m, rfl, g2, x2, few, a2.same (swo s2), by rw [wo_at kM]; exact e2, ?_, ?_, fun H3 f3 g3 x3 => ?_⟩
    · exact (step_len _ _ _).trans a4
    · exact step_fill a5 a4
    · exact ⟨_, rfl, q H3 ((FrW.of s2).trans f3) g3 x3⟩
def nmHld : List Str := ["self"]
theorem sc_hld : FnScope nmHld ["self"] (defScope s_Worktop_held) := ⟨rfl, rfl, rfl, by decide +kernel, rfl, by decide +kernel, by decide +kernel⟩
theorem ok_held {f : Addr} {fd nd : FuncData} (F : Fun K "held" "Worktop.held" s_Worktop_held f fd) (W : Wk K mg) (N : FnOk P w K mg base CX0 1 (He.ma K (WkC K) "now") nd ["self"] (spNow K)) (bN : Binds K nd ["self"] []) : FnOk P w K mg base CX0 2 f fd ["self"] (spHeld K) := by
  refine F.ok sc_hld (fun vs H Q E h => ?_) (fun cdv A outer s0 H vs Q E hr h => ?_)
  · obtain ⟨M, wt, L, S, ss, i, s, rfl, _⟩ := h
    rfl
  · obtain ⟨M, wt, L, S, ss, i, s, rfl, x, hi, q⟩ := h
    obtain ⟨⟨dx, h1⟩, _⟩ := id x
    refine ⟨_, pss_one (ps_ret (pe_fld (pe_meth0 (pv 0) W.cls W.now N hr bN .nil pass0) rfl)), ?_⟩
    refine ⟨_, rfl, wt, dx, _, rfl, h1, wk_no (by decide +kernel) (by decide +kernel) (by decide +kernel), M, wt, L, S, ss, i, s, rfl, x, hi, fun a sa => ?_⟩
    obtain ⟨dy, c, t, a1, a2, a3, a4, a5⟩ := sa
    exact ⟨a, _, dy, _, _, rfl, wo_le _ _ a1, W.clsS, W.nNums, st_nums, q _ ⟨t, _, rfl, a3, rp_opts.mpr rfl⟩⟩
def nmWkI : List Str := ["self", "chain"]
theorem sc_wki : FnScope nmWkI ["self", "chain"] (defScope s_Worktop_init) := ⟨rfl, rfl, rfl, by decide +kernel, rfl, by decide +kernel, by decide +kernel⟩
theorem ok_wkinit {f : Addr} {fd sd ed : FuncData} (F : Fun K "__init__" "Worktop.__init__" s_Worktop_init f fd) (W : Wk K mg) (C : Chains K mg) (SI : FnOk P w K mg base CX0 1 (He.ma K (StC K) "__init__") sd ["self", "word", "chain", "numbers", "out"] (spStInit K)) (bS : Binds K sd ["self", "word", "chain", "numbers", "out"] [])
    (Em : FnOk P w K mg base CX0 1 (pgA K "Chain" "empty") ed ["self"] (spEmpty K)) (bE : Binds K ed ["self"] []) : FnOk P w K mg base CX0 3 f fd ["self", "chain"] (spWkInit K) := by
  refine F.ok sc_wki (fun vs H Q E h => ?_) (fun cdv A outer s0 H vs Q E hr h => ?_)
  · obtain ⟨x, dx, c, rs, rfl, _⟩ := h
    rfl
  · obtain ⟨x, dx, c, rs, rfl, hx, hc, q⟩ := h
    obtain ⟨dc, tc, cs, c1, c2, c3, c4, c5⟩ := id hc
    refine ⟨_, pss_cons (ps_fld (pv 0) (pe_lst (pa_cons (pe_make W.mkS SI hr (by rfl) W.gloS bS .nil pass0 (pa_cons pe_str (pa_cons (pv 1) (pa_cons (pe_prop (pv 1) C.cls C.empty Em hr bE .nil pass0 rfl) (pa_cons pe_non pa_nil))))) pa_nil)) rfl)
      (pss_cons (ps_fld (pv 0) pe_int rfl) (pss_one (ps_fld (pv 0) pe_dnewK rfl))), ?_⟩
    refine ⟨_, rfl, _, rfl, c, dc, _, rfl, c1, c, rs, rfl, hc, fun t H1 ht s1 e1 => ?_⟩
    intro y dy a1 a2 a3
    refine ⟨y, dy, _, _, _, _, rfl, upd_same, rfl, ?_⟩
    rw [upd_upd]
    have sy : Same H1 (upd (upd H1 dy (.own y)) y (.ins (StC K) dy [("word", .str ""), ("chain", .ref c), ("numbers", .ref t), ("out", .non)])) := fun b o e => by
      rw [upd_ne (ne_of_none e a1), upd_ne (ne_of_none e a2)]
      exact e
    have hy : upd (upd H1 dy (.own y)) y (.ins (StC K) dy [("word", .str ""), ("chain", .ref c), ("numbers", .ref t), ("out", .non)]) y = some (.ins (StC K) dy ((⟨"", rs, nones rs.length, none⟩ : St1).fs c t)) := upd_same
    generalize upd (upd H1 dy (.own y)) y (.ins (StC K) dy [("word", .str ""), ("chain", .ref c), ("numbers", .ref t), ("out", .non)]) = H2 at sy hy ⊢
    refine ⟨(by show 1 ≤ sizeLine; decide), fun L hL => ?_⟩
    have s12 := s1.trans sy
    have sL : Same H2 (upd H2 L (.lst [.ref y])) := same_new hL
    have wL : upd H2 L (.lst [.ref y]) L = some (.lst [.ref y]) := upd_same
    generalize upd H2 L (.lst [.ref y]) = H3 at sL wL ⊢
    have s3 := s12.trans sL
    refine ⟨_, rfl, x, _, dx, _, rfl, s3 _ _ hx, W.cls, W.nSteps, (by show 0 < 1000; decide), ?_⟩
    refine ⟨_, rfl, x, _, dx, _, rfl, upd_same, W.cls, W.nDone, (by show 1 < 1000; decide), ?_⟩
    intro S hS
    have nxS : S ≠ x := fun z => by
      rw [z, upd_same] at hS
      cases hS
    refine ⟨_, rfl, x, _, dx, _, rfl, (by rw [upd_ne nxS.symm, upd_same]), W.cls, W.nSaved, (by show 2 < 1000; decide), ?_⟩
    have hS3 : H3 S = none := by
      rw [upd_upd, upd_ne nxS] at hS
      exact hS
    have fs : putF ("saved" : Str) (.ref S) (putF ("done" : Str) (.int 0) (putF ("steps" : Str) (.ref L) [])) = wkFs L S 0 := by
      have h1 : ¬ (("steps" : Str) = "done") := by decide +kernel
      have h2 : ¬ (("steps" : Str) = "saved") := by decide +kernel
      have h3 : ¬ (("done" : Str) = "saved") := by decide +kernel
      simp [wkFs, putF, h1, h2, h3]
    have nxL : x ≠ L := fun z => by
      have := s12 _ _ hx
      rw [z, hL] at this
      cases this
    have nLS : L ≠ S := fun z => by
      rw [← z, wL] at hS3
      cases hS3
    have nxy : x ≠ y := fun z => by
      have := s1 _ _ hx
      rw [z, a1] at this
      cases this
    have st : StepAt K H3 y ⟨"", rs, nones rs.length, none⟩ := ⟨dy, c, t, sL _ _ hy, hc.same s3, sL _ _ (sy _ _ e1), nones_len _, fill_nones _⟩
    have nSy : y ≠ S := fun z => by
      obtain ⟨_, _, _, y1, _⟩ := st
      rw [z, hS3] at y1
      cases y1
    have big : ∀ b o, H3 b = some o → b ≠ x → upd (upd (upd (upd H3 x (.ins (WkC K) dx (putF "steps" (.ref L) []))) x (.ins (WkC K) dx (putF "done" (.int 0) (putF "steps" (.ref L) [])))) S (.dK [])) x (.ins (WkC K) dx (putF "saved" (.ref S) (putF "done" (.int 0) (putF "steps" (.ref L) [])))) b = some o := fun b o hb nb => by
      rw [upd_ne nb, upd_ne (ne_of_none hb hS3), upd_ne nb, upd_ne nb]
      exact hb
    have bx : upd (upd (upd (upd H3 x (.ins (WkC K) dx (putF "steps" (.ref L) []))) x (.ins (WkC K) dx (putF "done" (.int 0) (putF "steps" (.ref L) [])))) S (.dK [])) x (.ins (WkC K) dx (putF "saved" (.ref S) (putF "done" (.int 0) (putF "steps" (.ref L) [])))) x = some (.ins (WkC K) dx (wkFs L S 0)) := by rw [upd_same, fs]
    have bS' : upd (upd (upd (upd H3 x (.ins (WkC K) dx (putF "steps" (.ref L) []))) x (.ins (WkC K) dx (putF "done" (.int 0) (putF "steps" (.ref L) [])))) S (.dK [])) x (.ins (WkC K) dx (putF "saved" (.ref S) (putF "done" (.int 0) (putF "steps" (.ref L) [])))) S = some (.dK []) := by rw [upd_ne nxS, upd_same]
    generalize upd (upd (upd (upd H3 x (.ins (WkC K) dx (putF "steps" (.ref L) []))) x (.ins (WkC K) dx (putF "done" (.int 0) (putF "steps" (.ref L) [])))) S (.dK [])) x (.ins (WkC K) dx (putF "saved" (.ref S) (putF "done" (.int 0) (putF "steps" (.ref L) [])))) = H4 at big bx bS' ⊢
    have ts : x ≠ t := fun z => by
      have := sL _ _ (sy _ _ e1)
      rw [← z, s3 _ _ hx] at this
      cases this
    have nxc : c ≠ x := fun z => by
      rw [z, hx] at c1
      injection c1 with c1
      injection c1 with c1
      exact W.neC c1
    have hc4 : ChainAt K H4 c rs := by
      obtain ⟨dc, tc, cs, k1, k2, k3, k4⟩ := hc.same s3
      refine ⟨dc, tc, cs, big _ _ k1 nxc, big _ _ k2 (ne_of k2 (s3 _ _ hx) (by intro z; cases z)), ⟨k3.1, fun j b r b1 b2 => ?_⟩, k4⟩
      obtain ⟨o1, db, o2⟩ := k3.2 j b r b1 b2
      refine ⟨o1, db, big _ _ o2 fun z => ?_⟩
      rw [z, s3 _ _ hx] at o2
      injection o2 with o2
      injection o2 with o2
      exact W.neK _ o2
    refine q L S y H4 (s12.free hL) (s3.free hS3) (s1.free a1) nLS (fun b o hb nb => big _ _ (s3 _ _ hb) nb) bx (big _ _ wL nxL.symm) bS' ?_
    exact ⟨dy, c, t, big _ _ (sL _ _ hy) nxy.symm, hc4, big _ _ (sL _ _ (sy _ _ e1)) ts.symm, nones_len _, fill_nones _⟩
end
end SC
set_option maxRecDepth 100000
set_option maxHeartbeats 2000000
namespace SC
open PySem PySem.Spec PyProof.Rows L2 TL
section
variable {P : Program} {w : World} {K : PySem.W.Frag} {mg : Str → Option Value} {base : Heap}
def nmLet : List Str := ["self", "step"]
theorem sc_let : FnScope nmLet ["self"] (defScope s_Worktop_let_out) := ⟨rfl, rfl, rfl, by decide +kernel, rfl, by decide +kernel, by decide +kernel⟩
theorem ok_letout {f : Addr} {fd : FuncData} (F : Fun K "let_out" "Worktop.let_out" s_Worktop_let_out f fd) (W : Wk K mg) : FnOk P w K mg base CX0 1 f fd ["self"] (spLetOut K) := by
  refine F.ok sc_let (fun vs H Q E h => ?_) (fun cdv A outer s0 H vs Q E hr h => ?_)
  · obtain ⟨M, wt, L, S, ss, i, rfl, _⟩ := h
    rfl
  · obtain ⟨M, wt, L, S, ss, i, rfl, g, x, q⟩ := h
    have zz := line_big
    obtain ⟨⟨dx, h1⟩, ⟨as, h2, h3⟩, h4, h5, mw, ml, ne⟩ := x
    refine ⟨_, pss_one (ps_ret (pe_lc (own := [("step", 1)]) (g := gName 1) (by rfl) sc_let.nd (pi_listK (K := K) rfl (pe_slice (r := rSlL K) sl_list (pe_fld (pv 0) rfl) po_none (po_some (pe_op op_add (pe_fld (pv 0) rfl) pe_int)))) (blkOk_by (own := [("step", 1)]) (N := nmLet) (sc := defScope s_Worktop_let_out) (by decide +kernel))
      (fun _ _ _ _ _ => pg_name (i := 1) sc_let.nd rfl (.inl rfl)) (fun _ _ _ _ _ => pts_one (pt_cmpR op_notN (pe_fldK (K := K) rfl (pv 1)) pe_non (nomark _))) (fun _ _ _ _ _ => (pe_fldK (K := K) rfl (pv 1))))), ?_⟩
    refine ⟨_, rfl, wt, _, dx, _, _, rfl, h1, W.cls, W.nSteps, look_steps, _, rfl, wt, _, dx, _, _, rfl, h1, W.cls, W.nDone, look_done, _, _, rfl, rfl, _, rfl, ?_⟩
    refine ⟨L, _, rfl, SqL.of h2, fun p hp => ?_⟩
    have ec : cutV (as.map V.ref) none (some ((i : Int) + 1)) = (as.take (i + 1)).map V.ref := cutV_to V.ref as (i + 1)
    rw [ec]
    have sp : Same H (upd H p (.lst ((as.take (i + 1)).map V.ref))) := same_new hp
    have wp : upd H p (.lst ((as.take (i + 1)).map V.ref)) p = some (.lst ((as.take (i + 1)).map V.ref)) := upd_same
    generalize upd H p (.lst ((as.take (i + 1)).map V.ref)) = H1 at sp wp ⊢
    have pM : p ∉ M := g.out hp
    have st := (h3.take (i + 1)).same (swo sp)
    refine ⟨p, rfl, ⟨_, SqL.of wp⟩, fun D0 hD0 => ?_⟩
    have g1 := g.same sp
    have nD := g1.out hD0
    refine lc_list (K := K) (a := p) (xs := (as.take (i + 1)).map V.ref) (fun n H3 => ∃ acc : List V, Same H1 H3 ∧ H3 D0 = some (.lst acc) ∧ acc = (((ss.take (i + 1)).take n).filterMap St1.out).map V.int) ?_ ?_ ?_ ?_
    · exact ⟨[], same_new hD0, upd_same, rfl⟩
    · rintro n H3 _ ⟨acc, s3, _⟩
      exact SqL.of (s3 _ _ wp)
    · rintro n y H3 hn ⟨acc, s3, hD, ea⟩
      obtain ⟨a, ha, rfl⟩ := map_ref_at hn
      obtain ⟨s, hs, sa⟩ := st.at ha
      obtain ⟨dy, c, t, a1, a2, a3, a4, a5⟩ := sa
      have a1' := s3 _ _ (wo_le _ _ a1)
      have tm := take_more hs
      refine ⟨wipe_one, ?_⟩
      refine ⟨_, rfl, a, _, dy, _, _, rfl, a1', W.clsS, W.nOut, st_out, rfl, _, rfl, ?_⟩
      cases eo : s.out with
      | none =>
        refine iteNS rfl ?_
        refine ⟨acc, s3, hD, ?_⟩
        rw [tm, List.filterMap_append]
        simp [eo, ea]
      | some z =>
        refine iteN1 (fun e => by cases e) ?_
        refine ⟨_, rfl, a, _, dy, _, _, rfl, a1', W.clsS, W.nOut, st_out, acc, hD, ?_, acc ++ [ov s.out], ?_, upd_same, ?_⟩
        · rw [ea, List.length_map]
          refine Nat.lt_of_le_of_lt (List.length_filterMap_le _ _) ?_
          rw [List.length_take, List.length_take]
          omega
        · intro b o hb
          rw [upd_ne (ne_of_none hb hD0)]
          exact s3 _ _ hb
        · rw [tm, List.filterMap_append, List.map_append, ea]
          simp [eo, ov]
    · rintro H3 ⟨acc, s3, hD, ea⟩
      rw [List.length_map, (h3.take (i + 1)).1, List.take_length] at ea
      subst ea
      exact q _ _ (sp.trans s3) (g1.same s3) (rp_new nD hD (rp_ints.mpr rfl))
end
end SC
set_option maxRecDepth 100000
set_option maxHeartbeats 2000000
namespace SC
open PySem PySem.Spec PyProof.Rows L2 TL
section
variable {P : Program} {w : World} {K : PySem.W.Frag} {mg : Str → Option Value} {base : Heap}
theorem sc_chn : FnScope ["self"] ["self"] (defScope s_Worktop_chain_now) := ⟨rfl, rfl, rfl, by decide +kernel, rfl, by decide +kernel, by decide +kernel⟩
theorem ok_chainnow {f : Addr} {fd nd : FuncData} (F : Fun K "chain_now" "Worktop.chain_now" s_Worktop_chain_now f fd) (W : Wk K mg) (N : FnOk P w K mg base CX0 1 (He.ma K (WkC K) "now") nd ["self"] (spNow K)) (bN : Binds K nd ["self"] []) : FnOk P w K mg base CX0 2 f fd ["self"] (spChainNow K) := by
  refine F.ok sc_chn (fun vs H Q E h => ?_) (fun cdv A outer s0 H vs Q E hr h => ?_)
  · obtain ⟨M, wt, L, S, ss, i, s, rfl, _⟩ := h
    rfl
  · obtain ⟨M, wt, L, S, ss, i, s, rfl, x, hi, q⟩ := h
    obtain ⟨⟨dx, h1⟩, _⟩ := id x
    refine ⟨_, pss_one (ps_ret (pe_fld (pe_meth0 (pv 0) W.cls W.now N hr bN .nil pass0) rfl)), ?_⟩
    refine ⟨_, rfl, wt, dx, _, rfl, h1, wk_no (by decide +kernel) (by decide +kernel) (by decide +kernel), M, wt, L, S, ss, i, s, rfl, x, hi, fun a sa => ?_⟩
    obtain ⟨dy, c, t, a1, a2, a3, a4, a5⟩ := sa
    exact ⟨a, _, dy, _, _, rfl, wo_le _ _ a1, W.clsS, W.nChain, st_chain, q _ ⟨c, rfl, a2⟩⟩
theorem sc_und : FnScope ["self"] ["self"] (defScope s_Worktop_undo) := ⟨rfl, rfl, rfl, by decide +kernel, rfl, by decide +kernel, by decide +kernel⟩
theorem ok_undo {f : Addr} {fd : FuncData} (F : Fun K "undo" "Worktop.undo" s_Worktop_undo f fd) (W : Wk K mg) : FnOk P w K mg base CX0 1 f fd ["self"] (spUndo K) := by
  refine F.ok sc_und (fun vs H Q E h => ?_) (fun cdv A outer s0 H vs Q E hr h => ?_)
  · obtain ⟨M, wt, L, S, ss, i, rfl, _⟩ := h
    rfl
  · obtain ⟨M, wt, L, S, ss, i, rfl, g, x, q0, q1⟩ := h
    obtain ⟨⟨dx, h1⟩, ⟨as, h2, h3⟩, h4, h5, mw, ml, ne⟩ := x
    refine ⟨_, pss_cons (ps_if (pt_cmpR op_eq (pe_fld (pv 0) rfl) pe_int (nomark _)) (pss_one (ps_ret pe_bl)) pss_nil) (pss_cons (ps_fldaug (pv 0) pe_int in_sub) (pss_one (ps_ret pe_bl))), ?_⟩
    refine ⟨_, rfl, wt, _, dx, _, _, rfl, h1, W.cls, W.nDone, look_done, rfl, _, rfl, ?_⟩
    by_cases hi : i = 0
    · exact iteD1 (by rw [hi]; rfl) (q0 hi)
    · refine iteD0 (fun e => hi (by have := V.int.inj e; omega)) ?_
      refine ⟨_, rfl, wt, _, dx, _, _, rfl, h1, W.cls, W.nDone, look_done, _, _, rfl, rfl, dx, _, h1, (by show 3 < 1000; decide), ?_⟩
      rw [put_done (v := .int ((i : Int) - 1)) (j := i - 1) (by congr 1; omega)]
      have e4 : wo M (upd H wt (.ins (WkC K) dx (wkFs L S (i - 1)))) = wo M H := wo_upd mw
      exact q1 (by omega) _ FrW.atW (g.at (mut_wk W)) ⟨⟨dx, upd_same⟩, ⟨as, by rw [upd_ne ne.symm]; exact h2, by rw [e4]; exact h3⟩, by omega, h5, mw, ml, ne⟩
theorem sc_rdo : FnScope ["self"] ["self"] (defScope s_Worktop_redo) := ⟨rfl, rfl, rfl, by decide +kernel, rfl, by decide +kernel, by decide +kernel⟩
theorem ok_redo {f : Addr} {fd : FuncData} (F : Fun K "redo" "Worktop.redo" s_Worktop_redo f fd) (B : Bln mg) (W : Wk K mg) : FnOk P w K mg base CX0 1 f fd ["self"] (spRedo K) := by
  refine F.ok sc_rdo (fun vs H Q E h => ?_) (fun cdv A outer s0 H vs Q E hr h => ?_)
  · obtain ⟨M, wt, L, S, ss, i, rfl, _⟩ := h
    rfl
  · obtain ⟨M, wt, L, S, ss, i, rfl, g, x, q0, q1⟩ := h
    obtain ⟨⟨dx, h1⟩, ⟨as, h2, h3⟩, h4, h5, mw, ml, ne⟩ := x
    refine ⟨_, pss_cons (ps_if (pt_cmpR op_eq (pe_op op_add (pe_fld (pv 0) rfl) pe_int) (pe_callB call_len_seq (by rfl) B.len boot_len' (pa_cons (pe_fld (pv 0) rfl) pa_nil)) (nomark _)) (pss_one (ps_ret pe_bl)) pss_nil) (pss_cons (ps_fldaug (pv 0) pe_int in_add) (pss_one (ps_ret pe_bl))), ?_⟩
    refine ⟨_, rfl, wt, _, dx, _, _, rfl, h1, W.cls, W.nDone, look_done, _, _, rfl, rfl, _, rfl, wt, _, dx, _, _, rfl, h1, W.cls, W.nSteps, look_steps, L, _, rfl, .inl (SqL.of h2), rfl, _, rfl, ?_⟩
    rw [List.length_map, h3.1]
    by_cases hi : i + 1 = ss.length
    · exact iteD1 (by rw [← hi]; rfl) (q0 hi)
    · refine iteD0 (fun e => hi (by have := V.int.inj e; omega)) ?_
      refine ⟨_, rfl, wt, _, dx, _, _, rfl, h1, W.cls, W.nDone, look_done, _, _, rfl, rfl, dx, _, h1, (by show 3 < 1000; decide), ?_⟩
      rw [put_done (v := .int ((i : Int) + 1)) (j := i + 1) rfl]
      have e4 : wo M (upd H wt (.ins (WkC K) dx (wkFs L S (i + 1)))) = wo M H := wo_upd mw
      exact q1 (by omega) _ FrW.atW (g.at (mut_wk W)) ⟨⟨dx, upd_same⟩, ⟨as, by rw [upd_ne ne.symm]; exact h2, by rw [e4]; exact h3⟩, by omega, h5, mw, ml, ne⟩
def nmOps : List Str := ["self", "step"]
theorem sc_ops : FnScope nmOps ["self"] (defScope s_Worktop_operations) := ⟨rfl, rfl, rfl, by decide +kernel, rfl, by decide +kernel, by decide +kernel⟩
theorem ok_ops {f : Addr} {fd : FuncData} (F : Fun K "operations" "Worktop.operations" s_Worktop_operations f fd) (W : Wk K mg) : FnOk P w K mg base CX0 1 f fd ["self"] (spOps K) := by
  refine F.ok sc_ops (fun vs H Q E h => ?_) (fun cdv A outer s0 H vs Q E hr h => ?_)
  · obtain ⟨M, wt, L, S, ss, i, rfl, _⟩ := h
    rfl
  · obtain ⟨M, wt, L, S, ss, i, rfl, g, x, q⟩ := h
    have zz := line_big
    obtain ⟨⟨dx, h1⟩, ⟨as, h2, h3⟩, h4, h5, mw, ml, ne⟩ := x
    refine ⟨_, pss_one (ps_ret (pe_lc (own := [("step", 1)]) (g := gName 1) (by rfl) sc_ops.nd (pi_listK (K := K) rfl (pe_slice (r := rSlL K) sl_list (pe_fld (pv 0) rfl) (po_some pe_int) (po_some (pe_op op_add (pe_fld (pv 0) rfl) pe_int)))) (blkOk_by (own := [("step", 1)]) (N := nmOps) (sc := defScope s_Worktop_operations) (by decide +kernel))
      (fun _ _ _ _ _ => pg_name (i := 1) sc_ops.nd rfl (.inl rfl)) (fun _ _ _ _ _ => pts_nil) (fun _ _ _ _ _ => (pe_fldK (K := K) rfl (pv 1))))), ?_⟩
    refine ⟨_, rfl, wt, _, dx, _, _, rfl, h1, W.cls, W.nSteps, look_steps, _, rfl, _, rfl, wt, _, dx, _, _, rfl, h1, W.cls, W.nDone, look_done, _, _, rfl, rfl, _, rfl, ?_⟩
    refine ⟨L, _, rfl, SqL.of h2, fun p hp => ?_⟩
    have ec : cutV (as.map V.ref) (some 1) (some ((i : Int) + 1)) = ((as.take (i + 1)).drop 1).map V.ref := by
      have e1 : (some (1 : Int)) = some ((1 : Nat) : Int) := rfl
      have e2 : (some ((i : Int) + 1)) = some ((i + 1 : Nat) : Int) := rfl
      have ll := h3.1
      rw [steps_cut, e1, e2, HT.sIx_nat, HT.sIx_nat, Nat.min_eq_left (by omega), Nat.min_eq_left (by omega), List.drop_take]
    rw [ec]
    have sp : Same H (upd H p (.lst (((as.take (i + 1)).drop 1).map V.ref))) := same_new hp
    have wp : upd H p (.lst (((as.take (i + 1)).drop 1).map V.ref)) p = some (.lst (((as.take (i + 1)).drop 1).map V.ref)) := upd_same
    generalize upd H p (.lst (((as.take (i + 1)).drop 1).map V.ref)) = H1 at sp wp ⊢
    have st := ((h3.take (i + 1)).drop 1).same (swo sp)
    refine ⟨p, rfl, ⟨_, SqL.of wp⟩, fun D0 hD0 => ?_⟩
    have g1 := g.same sp
    have nD := g1.out hD0
    refine lc_list (K := K) (a := p) (xs := ((as.take (i + 1)).drop 1).map V.ref) (fun n H3 => ∃ acc : List V, Same H1 H3 ∧ H3 D0 = some (.lst acc) ∧ acc = ((((ss.take (i + 1)).drop 1).take n).map St1.word).map V.str) ?_ ?_ ?_ ?_
    · exact ⟨[], same_new hD0, upd_same, rfl⟩
    · rintro n H3 _ ⟨acc, s3, _⟩
      exact SqL.of (s3 _ _ wp)
    · rintro n y H3 hn ⟨acc, s3, hD, ea⟩
      obtain ⟨a, ha, rfl⟩ := map_ref_at hn
      obtain ⟨s, hs, sa⟩ := st.at ha
      obtain ⟨dy, c, t, a1, a2, a3, a4, a5⟩ := sa
      have a1' := s3 _ _ (wo_le _ _ a1)
      have tm := take_more hs
      refine ⟨wipe_one, ?_⟩
      refine ⟨_, rfl, a, _, dy, _, _, rfl, a1', W.clsS, W.nWord, st_word, acc, hD, ?_, acc ++ [.str s.word], ?_, upd_same, ?_⟩
      · rw [ea, List.length_map, List.length_map, List.length_take, List.length_drop, List.length_take]
        omega
      · intro b o hb
        rw [upd_ne (ne_of_none hb hD0)]
        exact s3 _ _ hb
      · rw [tm, List.map_append, List.map_append, ea]
        rfl
    · rintro H3 ⟨acc, s3, hD, ea⟩
      rw [List.length_map, ((h3.take (i + 1)).drop 1).1, List.take_length] at ea
      subst ea
      exact q _ _ (sp.trans s3) (g1.same s3) (rp_new nD hD (rp_strs.mpr rfl))
def nmTake : List Str := ["self", "index", "now", "taken", "numbers"]
theorem sc_take : FnScope nmTake ["self", "index"] (defScope s_Worktop_take) := ⟨rfl, rfl, rfl, by decide +kernel, rfl, by decide +kernel, by decide +kernel⟩
theorem ok_take {f g : Addr} {fd gd nd ad : FuncData} {n : Nat} (h6 : 3 ≤ n) (F : Fun K "take" "Worktop.take" s_Worktop_take f fd) (B : Bln mg) (W : Wk K mg) (C : ChainOk P w K mg base n) (G : FnOk P w K mg base (L2.CX P w) 2 g gd ["index", "many"] (spCheckIdx K)) (bG : Binds K gd ["index", "many"] []) (kG : PySem.W.keepIn K (.ref g) = true) (hg : mg "check_index" = some (.ref g))
    (N : FnOk P w K mg base CX0 1 (He.ma K (WkC K) "now") nd ["self"] (spNow K)) (bN : Binds K nd ["self"] []) (AD : FnOk P w K mg base CX0 3 (He.ma K (WkC K) "advance") ad ["self", "word", "chain", "numbers", "out"] (spAdvance K)) (bA : Binds K ad ["self", "word", "chain", "numbers", "out"] []) :
    FnOk P w K mg base CX0 (n + 2) f fd ["self", "index"] (spTake K) := by
  refine F.ok sc_take (fun vs H Q E h => ?_) (fun cdv A outer s0 H vs Q E hr h => ?_)
  · obtain ⟨M, wt, L, S, ss, i, s, k, v, rfl, _⟩ := h
    rfl
  · obtain ⟨M, wt, L, S, ss, i, s, k, v, rfl, g, x, few, hi, hk, q⟩ := h
    have zz := line_big
    obtain ⟨⟨dx, h1⟩, _⟩ := id x
    refine ⟨_, wpS_ok, ?_⟩
    have E0' : Env K M (L2.start nmTake [.ref wt, .int k]) H [.val (.ref wt), .val (.int k), .any, .any, .any] := env_start
    generalize L2.start nmTake [.ref wt, .int k] = σ0 at E0' ⊢
    refine wp_cons (ps_set (i := 2) sc_take.nd rfl (.inl rfl) (pe_meth0 (pv 0) W.cls W.now (N.mono (show 1 ≤ n + 1 by omega)) hr bN .nil pass0)) ?_
    refine ⟨_, E0'.val (i := 0) rfl, wt, dx, _, rfl, h1, wk_no (by decide +kernel) (by decide +kernel) (by decide +kernel), M, wt, L, S, ss, i, s, rfl, x, hi, fun a sa => ?_⟩
    have E1 := ((E0'.setv (i := 2) (v := .ref a)).asD (i := 1) (d := .int k) rfl rfl)
    dsimp only [List.set] at E1
    show wpS _ _ _ (σ0.set 2 (some (V.ref a))) H
    generalize σ0.set 2 (some (V.ref a)) = σ1 at E1 ⊢
    have hkl : k < s.hs.length := by
      rcases Nat.lt_or_ge k s.hs.length with z | z
      · exact z
      · rw [List.getElem?_eq_none z] at hk
        cases hk
    obtain ⟨_, _, _, _, ⟨_, _, _, _, _, _, _, l8⟩, _, b4, b5⟩ := id sa
    refine wp_cons (ps_expr (pe_call (G.mono (show 2 ≤ n + 1 by omega)) hr (by rfl) hg kG bG .nil passL (pa_cons (pv 1) (pa_cons (pe_callB (r := rLenC K) (call_lenC C hr) (by rfl) B.len boot_len' (pa_cons (pe_fld (pv 2) rfl) pa_nil)) pa_nil)))) ?_
    refine use_callE (rda_cons (E1.rd (i := 1) rfl) (rda_cons (rd_chlen (rda_cons (rd_stchain W (E1.val (i := 2) rfl) sa) rda_nil)) rda_nil)) g fun xs H1 s1 g1 r1 => ?_
    obtain ⟨w1, ws1, rfl, rw1, w2, ws2, rfl, rw2, rw3⟩ := r1
    cases rw1
    cases rw2
    cases rw3
    refine ⟨_, _, rfl, .inl ⟨(k : Int), rfl, fun _ => ?_, fun z => absurd ⟨by omega, by omega⟩ z⟩⟩
    have E2 := E1.same s1
    have sa2 := sa.same (swo s1)
    show wpS _ _ _ σ1 H1
    refine wp_cons (ps_set (i := 3) sc_take.nd rfl (.inl rfl) (pe_ix (r := rIxT K) ix_tup (pe_fld (pv 2) rfl) (pv 1) (fun _ _ => rfl))) ?_
    refine use_set (i := 3) (rd_atT (f := dO) hk (rd_stnums W (E2.val (i := 2) rfl) sa2) (E2.rd (i := 1) rfl)) g1 fun v3 H2 s2 g2 r3 => ?_
    have E3 := (E2.same s2).set (i := 3) (d := .int v) r3
    dsimp only [List.set] at E3
    have sa3 := sa2.same (swo s2)
    show wpS _ _ _ _ _
    generalize σ1.set 3 (some v3) = σ2 at E3 ⊢
    refine wp_cons (ps_if (pt_cmpR op_isN (pv 3) pe_non (nomark _)) pss_never pss_nil) ?_
    refine use_if0 (rdt_test (rd_isN (E3.rd (i := 3) rfl) rd_non)) g2 fun H3 s3 g3 => ?_
    have E4 := E3.same s3
    have sa4 := sa3.same (swo s3)
    refine wp_cons (ps_set (i := 4) sc_take.nd rfl (.inl rfl) (pe_op (r := rCatA K) op_catA (pe_op (r := rCatA K) op_catA (pe_slice (r := rSlA K) sl_tupA (pe_fld (pv 2) rfl) po_none (po_some (pv 1))) (pe_slice (r := rSlA K) sl_tupA (pe_fld (pv 2) rfl) (po_some (pe_op op_add (pv 1) pe_int)) po_none)) (pe_tup (pa_cons pe_non pa_nil)))) ?_
    refine use_set (i := 4) (rd_catTM (f := dO) (ys := [none]) ?_ (rd_catTM (f := dO) ?_ (rd_takeT (rd_stnums W (E4.val (i := 2) rfl) sa4) (E4.rd (i := 1) rfl)) (rd_dropT (n := k + 1) (rd_stnums W (E4.val (i := 2) rfl) sa4) (rd_add (E4.rd (i := 1) rfl) rd_int))) (rd_tupA (rda_cons rd_non rda_nil))) g3 fun v4 H4 s4 g4 r4 => ?_
    · rw [List.length_append, List.length_take, List.length_drop, List.length_singleton]
      omega
    · rw [List.length_take, List.length_drop]
      omega
    have E5 := (E4.same s4).set (i := 4) r4
    dsimp only [List.set] at E5
    have sa5 := sa4.same (swo s4)
    have sH : Same H H4 := ((s1.trans s2).trans s3).trans s4
    have x5 := x.same sH
    show wpS _ _ _ _ _
    generalize σ2.set 4 (some v4) = σ3 at E5 ⊢
    refine wp_cons (ps_expr (pe_meth (pv 0) W.cls W.advance (AD.mono (show 3 ≤ n + 1 by omega)) hr bA .nil pass0 (pa_cons pe_str (pa_cons (pe_fld (pv 2) rfl) (pa_cons (pv 4) (pa_cons pe_non pa_nil)))))) ?_
    obtain ⟨v5, e5, t5, vs5, rfl, h5, r5⟩ := E5.dat (i := 4) rfl
    rw [rp_opts.mp r5] at h5
    obtain ⟨dy, c, t, a1, a2, a3, a4, a5⟩ := id sa5
    refine ⟨_, E5.val (i := 0) rfl, wt, dx, _, rfl, sH _ _ h1, wk_no (by decide +kernel) (by decide +kernel) (by decide +kernel), ?_⟩
    refine ⟨_, E5.val (i := 2) rfl, a, _, dy, _, _, rfl, wo_le _ _ a1, W.clsS, W.nChain, st_chain, _, e5, ?_⟩
    refine ⟨M, wt, L, S, c, t5, ss, i, takeSt s k, rfl, g4, x5, few, a2, h5, ?_, take_fill b5 hk, fun H5 f5 g5 x6 => ?_⟩
    · exact (take_len hk).trans b4
    · refine wp_one (ps_ret (pv 3)) ?_
      obtain ⟨v7, e7, r7⟩ := E5.dat (i := 3) rfl
      cases r7
      exact ⟨_, e7, q H5 ((FrW.of sH).trans f5) g5 x6⟩
end
end SC
set_option maxRecDepth 100000
set_option maxHeartbeats 2000000
namespace SC
open PySem PySem.Spec PyProof.Rows L2 TL
section
variable {P : Program} {w : World} {K : PySem.W.Frag} {mg : Str → Option Value} {base : Heap}
theorem swp_eq {α : Type} {l : List α} {k : Nat} {x y : α} (hx : l[k]? = some x) (hy : l[k + 1]? = some y) : swp l k = (l.set k y).set (k + 1) x := by
  unfold swp
  rw [hx, hy]
theorem Cs.set {H : Hp} {as : List Addr} {rs : List Rule} {k : Nat} {a : Addr} {r : Rule} (c : Cs K H as rs) (h : CellAt K H a r) : Cs K H (as.set k a) (rs.set k r) := by
  refine ⟨by rw [List.length_set, List.length_set]; exact c.1, fun i b q h1 h2 => ?_⟩
  by_cases e : k = i
  · subst e
    by_cases hk : k < as.length
    · rw [List.getElem?_set_self hk] at h1
      rw [List.getElem?_set_self (by rw [← c.1]; exact hk)] at h2
      cases h1
      cases h2
      exact h
    · rw [List.getElem?_eq_none (by rw [List.length_set]; omega)] at h1
      cases h1
  · rw [List.getElem?_set_ne e] at h1 h2
    exact c.2 i b q h1 h2
def nmSwap : List Str := ["self", "index", "now", "cells"]
theorem sc_swap : FnScope nmSwap ["self", "index"] (defScope s_Worktop_swap) := ⟨rfl, rfl, rfl, by decide +kernel, rfl, by decide +kernel, by decide +kernel⟩
theorem ok_swap {f g : Addr} {fd gd nd ad : FuncData} {n : Nat} (h6 : 3 ≤ n) (F : Fun K "swap" "Worktop.swap" s_Worktop_swap f fd) (B : Bln mg) (W : Wk K mg) (T : Cells K mg) (LB : LabelsOk P w K mg base 1) (C : ChainOk P w K mg base n) (I0 : FnR P w K mg base CX0 1 (He.ma K (ChC K) "__init__") (spInit K)) (G : FnOk P w K mg base (L2.CX P w) 2 g gd ["index", "many"] (spCheckIdx K)) (bG : Binds K gd ["index", "many"] []) (kG : PySem.W.keepIn K (.ref g) = true) (hg : mg "check_index" = some (.ref g))
    (N : FnOk P w K mg base CX0 1 (He.ma K (WkC K) "now") nd ["self"] (spNow K)) (bN : Binds K nd ["self"] []) (AD : FnOk P w K mg base CX0 3 (He.ma K (WkC K) "advance") ad ["self", "word", "chain", "numbers", "out"] (spAdvance K)) (bA : Binds K ad ["self", "word", "chain", "numbers", "out"] []) :
    FnOk P w K mg base CX0 (n + 2) f fd ["self", "index"] (spSwap K) := by
  refine F.ok sc_swap (fun vs H Q E h => ?_) (fun cdv A outer s0 H vs Q E hr h => ?_)
  · obtain ⟨M, wt, L, S, ss, i, s, k, x, y, rfl, _⟩ := h
    rfl
  · obtain ⟨M, wt, L, S, ss, i, s, k, rx, ry, rfl, g, x, few, hi, hkx, hky, q⟩ := h
    have zz := line_big
    obtain ⟨⟨dx, h1⟩, _⟩ := id x
    refine ⟨_, wpS_ok, ?_⟩
    have E0' : Env K M (L2.start nmSwap [.ref wt, .int k]) H [.val (.ref wt), .val (.int k), .any, .any] := env_start
    generalize L2.start nmSwap [.ref wt, .int k] = σ0 at E0' ⊢
    refine wp_cons (ps_set (i := 2) sc_swap.nd rfl (.inl rfl) (pe_meth0 (pv 0) W.cls W.now (N.mono (show 1 ≤ n + 1 by omega)) hr bN .nil pass0)) ?_
    refine ⟨_, E0'.val (i := 0) rfl, wt, dx, _, rfl, h1, wk_no (by decide +kernel) (by decide +kernel) (by decide +kernel), M, wt, L, S, ss, i, s, rfl, x, hi, fun a sa => ?_⟩
    have E1v := E0'.setv (i := 2) (v := .ref a)
    have E1 := (E1v.asD (i := 1) (d := .int k) rfl rfl)
    dsimp only [List.set] at E1 E1v
    show wpS _ _ _ (σ0.set 2 (some (V.ref a))) H
    generalize σ0.set 2 (some (V.ref a)) = σ1 at E1 E1v ⊢
    have hkl : k + 1 < s.rs.length := by
      rcases Nat.lt_or_ge (k + 1) s.rs.length with z | z
      · exact z
      · rw [List.getElem?_eq_none z] at hky
        cases hky
    obtain ⟨_, _, _, _, ⟨_, _, _, _, _, _, _, l8⟩, _, b4, b5⟩ := id sa
    refine wp_cons (ps_expr (pe_call (G.mono (show 2 ≤ n + 1 by omega)) hr (by rfl) hg kG bG .nil passL (pa_cons (pv 1) (pa_cons (pe_op op_sub (pe_callB (r := rLenC K) (call_lenC C hr) (by rfl) B.len boot_len' (pa_cons (pe_fld (pv 2) rfl) pa_nil)) pe_int) pa_nil)))) ?_
    refine use_callE (rda_cons (E1.rd (i := 1) rfl) (rda_cons (rd_sub (rd_chlen (rda_cons (rd_stchain W (E1.val (i := 2) rfl) sa) rda_nil)) rd_int) rda_nil)) g fun xs H1 s1 g1 r1 => ?_
    obtain ⟨w1, ws1, rfl, rw1, w2, ws2, rfl, rw2, rw3⟩ := r1
    cases rw1
    cases rw2
    cases rw3
    refine ⟨_, _, rfl, .inl ⟨(k : Int), rfl, fun _ => ?_, fun z => absurd ⟨by omega, by omega⟩ z⟩⟩
    have sa2 := sa.same (swo s1)
    show wpS _ _ _ σ1 H1
    obtain ⟨dy, c, t, a1, a2, a3, a4, a5⟩ := id sa2
    obtain ⟨dc, tc, cs, c1, c2, c3, c4, c5⟩ := id (a2.same (wo_le (M := M) (H := H1)))
    have a1' := wo_le _ _ a1
    refine wp_cons (ps_set (i := 3) sc_swap.nd rfl (.inl rfl) (pe_callTy call_list_of (by rfl) B.list boot_list' (pa_cons (pe_fld (pe_fld (pv 2) rfl) rfl) pa_nil))) ?_
    refine ⟨_, E1v.val (i := 2) rfl, a, _, dy, _, _, rfl, a1', W.clsS, W.nChain, st_chain, c, _, dc, _, _, rfl, c1, C.t.cls, C.t.noC, cells_look, tc, _, rfl, .inr (SqT.of c2), fun Lc hLc => ?_⟩
    have LM : Lc ∉ M := g1.out hLc
    have sL : Same H1 (upd H1 Lc (.lst (cs.map V.ref))) := same_new hLc
    have wL : upd H1 Lc (.lst (cs.map V.ref)) Lc = some (.lst (cs.map V.ref)) := upd_same
    have e0 := E1v.val (i := 0) rfl
    have E2 : Env K M (σ1.set 3 (some (V.ref Lc))) (upd H1 Lc (.lst (cs.map V.ref))) [.val (.ref wt), .val (.int k), .val (.ref a), .val (.ref Lc)] := ((E1v.same s1).same sL).setv (i := 3) (v := .ref Lc)
    show wpS _ _ _ (σ1.set 3 (some (V.ref Lc))) (upd H1 Lc (.lst (cs.map V.ref)))
    have f0 := E2.val (i := 0) rfl
    have f1 := E2.val (i := 1) rfl
    have f2 := E2.val (i := 2) rfl
    have f3 := E2.val (i := 3) rfl
    generalize σ1.set 3 (some (V.ref Lc)) = σ2 at f0 f1 f2 f3 ⊢
    generalize upd H1 Lc (.lst (cs.map V.ref)) = H2 at sL wL ⊢
    have hc0 : k < cs.length := by rw [c3.1]; omega
    have hc1 : k + 1 < cs.length := by rw [c3.1]; omega
    /- exchanged -/
    refine wp_cons (ps_asg (pe_tup (pa_cons (pe_ix ix_list (pv 3) (pe_op op_add (pv 1) pe_int) (fun _ _ => rfl)) (pa_cons (pe_ix ix_list (pv 3) (pv 1) (fun _ _ => rfl)) pa_nil))) (pg_tup rfl (pgs_cons (pg_sub (pv 3) (pv 1) set_list) (pgs_cons (pg_sub (pv 3) (pe_op op_add (pv 1) pe_int) set_list) pgs_nil)))) ?_
    refine ⟨_, f3, _, f1, _, _, rfl, rfl, Lc, _, ((k + 1 : Nat) : Int), .ref cs[k + 1], rfl, rfl, SqL.of wL, atI_nat (j := k + 1) (by rw [List.getElem?_map, List.getElem?_eq_getElem hc1]; rfl), ?_⟩
    refine ⟨_, f3, _, f1, Lc, _, (k : Int), .ref cs[k], rfl, rfl, SqL.of wL, atI_nat (j := k) (by rw [List.getElem?_map, List.getElem?_eq_getElem hc0]; rfl), (by show 2 ≤ sizeLine; decide), fun p hp => ?_⟩
    have sp : Same H2 (upd H2 p (.tup [.ref cs[k + 1], .ref cs[k]])) := same_new hp
    have wp : upd H2 p (.tup [.ref cs[k + 1], .ref cs[k]]) p = some (.tup [.ref cs[k + 1], .ref cs[k]]) := upd_same
    generalize upd H2 p (.tup [.ref cs[k + 1], .ref cs[k]]) = H3 at sp wp ⊢
    refine ⟨p, _, rfl, SqT.of wp, rfl, _, _, rfl, ?_⟩
    refine ⟨_, f3, _, f1, Lc, _, (k : Int), k, rfl, rfl, sp _ _ wL, ixN_at (by rw [List.length_map]; exact hc0), ?_⟩
    refine ⟨_, _, rfl, ?_⟩
    refine ⟨_, f3, _, f1, _, _, rfl, rfl, Lc, _, ((k + 1 : Nat) : Int), k + 1, rfl, rfl, upd_same, ixN_at (by rw [List.length_set, List.length_map]; exact hc1), rfl, ?_⟩
    rw [upd_upd]
    have es : ((cs.map V.ref).set k (V.ref cs[k + 1])).set (k + 1) (V.ref cs[k]) = ((cs.set k cs[k + 1]).set (k + 1) cs[k]).map V.ref := by rw [List.map_set, List.map_set]
    rw [es]
    have hxr : s.rs[k]? = some s.rs[k] := List.getElem?_eq_getElem (by omega)
    have hyr : s.rs[k + 1]? = some s.rs[k + 1] := List.getElem?_eq_getElem hkl
    have ex : s.rs[k] = rx := by rw [hxr] at hkx; exact Option.some.inj hkx
    have ey : s.rs[k + 1] = ry := by rw [hyr] at hky; exact Option.some.inj hky
    have cx := c3.2 k _ _ (List.getElem?_eq_getElem hc0) hxr
    have cy := c3.2 (k + 1) _ _ (List.getElem?_eq_getElem hc1) hyr
    rw [ex] at cx
    rw [ey] at cy
    have sH3 : Same H1 H3 := sL.trans sp
    have wL3 := sp _ _ wL
    have sc : Cs K H3 ((cs.set k cs[k + 1]).set (k + 1) cs[k]) (swp s.rs k) := by
      rw [swp_eq hkx hky]
      exact ((c3.same sH3).set (cy.same sH3)).set (cx.same sH3)
    have frL : Fr1 Lc H3 (upd H3 Lc (.lst (((cs.set k cs[k + 1]).set (k + 1) cs[k]).map V.ref))) := Fr1.at
    have sc4 := sc.fr wL3 frL
    have wL4 : upd H3 Lc (.lst (((cs.set k cs[k + 1]).set (k + 1) cs[k]).map V.ref)) Lc = some (.lst (((cs.set k cs[k + 1]).set (k + 1) cs[k]).map V.ref)) := upd_same
    have s4 : Same H1 (upd H3 Lc (.lst (((cs.set k cs[k + 1]).set (k + 1) cs[k]).map V.ref))) := fun b o hb => by
      rw [upd_ne (ne_of_none hb hLc)]
      exact sH3 _ _ hb
    show wpS _ _ _ σ2 (upd H3 Lc (.lst (((cs.set k cs[k + 1]).set (k + 1) cs[k]).map V.ref)))
    have cx4 := (cx.same sH3).fr wL3 frL
    have cy4 := (cy.same sH3).fr wL3 frL
    generalize upd H3 Lc (.lst (((cs.set k cs[k + 1]).set (k + 1) cs[k]).map V.ref)) = H4 at sc4 wL4 s4 cx4 cy4 ⊢
    have hl' : (swp s.rs k).length = s.rs.length := by rw [swp_eq hkx hky, List.length_set, List.length_set]
    have sH : Same H H4 := s1.trans s4
    refine wp_cons (ps_expr (pe_meth (pv 0) W.cls W.advance (AD.mono (show 3 ≤ n + 1 by omega)) hr bA .nil pass0 (pa_cons pe_str (pa_cons (pe_makeS C.t.make (I0.mono (show 1 ≤ n by omega)) hr (by rfl) C.t.glo pass0 (pv 3)) (pa_cons (pe_fld (pv 2) rfl) (pa_cons pe_non pa_nil)))))) ?_
    refine ⟨_, f0, wt, dx, _, rfl, sH _ _ h1, wk_no (by decide +kernel) (by decide +kernel) (by decide +kernel), ?_⟩
    refine ⟨_, f3, Lc, _, rfl, .inr (SqL.of wL4), fun nx ndx b1 b2 b3 => ?_⟩
    have sm := made_same' (C := ChC K) (fs := []) b1 b2
    refine ⟨nx, ndx, _, swp s.rs k, rfl, upd_same, sc4.same sm, (fun z => by obtain ⟨o, ho⟩ := sc4.mem z; rw [b1] at ho; cases ho), by rw [hl']; omega, by rw [hl']; omega, fun H5 f5 ch5 => ⟨rfl, ?_⟩⟩
    have s5 : Same H4 H5 := fun b o hb => f5 b o (sm b o hb) (ne_of_none hb b1)
    refine ⟨_, f2, a, _, dy, _, _, rfl, s5 _ _ (s4 _ _ a1'), W.clsS, W.nNums, st_nums, ?_⟩
    have g5 : Gd K M H5 := (g.same sH).same s5
    have x5 := (x.same sH).same s5
    refine ⟨M, wt, L, S, nx, t, ss, i, swapSt s k, rfl, g5, x5, few, chain_wo g5 ch5, tup_wo g5 (s5 _ _ (s4 _ _ (wo_le _ _ a3))), ?_, b5, fun H6 f6 g6 x6 => ?_⟩
    · show s.hs.length = (swp s.rs k).length
      rw [hl']
      exact b4
    have nwt : ∀ {b : Addr} {o : HO}, H5 b = some o → b ∉ M → H6 b = some o := fun hb hM => f6 _ _ hb (fun z => hM (z ▸ x.mw)) (fun z => hM (z ▸ x.ml))
    have wL6 := nwt (s5 _ _ wL4) LM
    have cell6 : ∀ {b : Addr} {r : Rule}, CellAt K H4 b r → CellAt K H6 b r := fun {b r} hb => by
      have z := cell_wo g5 (hb.same s5)
      exact (z.same (f6.fm (K := K) x.mw x.ml)).same wo_le
    refine wp_one (ps_ret (pe_tup (pa_cons (pe_label (n := 1) T LB (hr.mono (by omega)) (pe_ix ix_list (pv 3) (pv 1) (fun _ _ => rfl))) (pa_cons (pe_label (n := 1) T LB (hr.mono (by omega)) (pe_ix ix_list (pv 3) (pe_op op_add (pv 1) pe_int) (fun _ _ => rfl))) pa_nil)))) ?_
    refine ⟨_, f3, _, f1, Lc, _, (k : Int), .ref cs[k + 1], rfl, rfl, SqL.of wL6, atI_nat (j := k) ?_, _, ry, rfl, cell6 cy4, ?_⟩
    · rw [List.getElem?_map, List.getElem?_set_ne (by omega), List.getElem?_set_self hc0]
      rfl
    refine ⟨_, f3, _, f1, _, _, rfl, rfl, Lc, _, ((k + 1 : Nat) : Int), .ref cs[k], rfl, rfl, SqL.of wL6, atI_nat (j := k + 1) ?_, _, rx, rfl, cell6 cx4, (by show 2 ≤ sizeLine; decide), fun pp hpp => ?_⟩
    · rw [List.getElem?_map, List.getElem?_set_self (by rw [List.length_set]; exact hc1)]
      rfl
    have sq : Same H6 (upd H6 pp (.tup [.str ry.label, .str rx.label])) := same_new hpp
    refine q _ _ (((FrW.of sH).trans (FrW.of s5)).trans (f6.trans (FrW.of sq))) (g6.same sq) (x6.same sq) ⟨pp, _, rfl, ?_, _, _, rfl, rfl, _, _, rfl, rfl, rfl⟩
    rw [wo_at (g6.out hpp), upd_same]
end
end SC
set_option maxRecDepth 100000
set_option maxHeartbeats 4000000
namespace SC
open PySem PySem.Spec PyProof.Rows L2 TL
def nmErr : List Str := ["_law_call", "e", "_law_kinds", "_law_names", "_law_name"]
theorem sc_err : FnScope nmErr ["_law_call"] (defScope s__law_error_of) := ⟨rfl, rfl, rfl, by decide +kernel, rfl, by decide +kernel, by decide +kernel⟩
/-- the suite's reading -/
theorem err_givesQ {X : Cx} {K : PySem.W.Frag} {mg : Str → Option Value} {g : Addr} {cdg : Value} {q : Str} (hK : X.K = K) (hmg : X.mg = mg) (B : Bln mg) (G : Errs K mg) {S : List Er} (T : ∀ e ∈ S, ErrX K e) :
    LamX.GivesTo X nmErr "_law_error_of" (defScope s__law_error_of) g cdg (defBody s__law_error_of) "_law_call" q (TErrQ K S) := by
  subst hK hmg
  intro f c' s H Q tl act hc h
  refine ⟨_, pss_cons (ps_try_as (i := 1) (X := (cxOf C8.CX0 X.prog X.w X.K X.mg X.base nmErr "_law_error_of" (defScope s__law_error_of) g cdg X.A X.stack s H C8.E0).nox) (c := .ref (He.ga X.K "SiftError"))
      (tb := fun W D σ H => ∃ Ec : XK, (∀ cls d σ' H', Ec cls d H' → σ'.length = nmErr.length → W cls d σ' H') ∧ σ[0]? = some (some (.ref f)) ∧ H c' = some (LamX.CodeO c' q) ∧ tl Ec H (fun _ H' => D.nx σ H'))
      (Wout := fun _ _ _ _ => False) rfl rfl sc_err.nd rfl rfl ⟨rfl, by decide, .inl G.sift⟩ takes0 (fun W pn xe tk _ => ⟨fun pins s1 σ H1 D I h1 => by
        obtain ⟨Ec, hW, e1, e2, e3⟩ := h1
        exact (pss_one (ps_expr (act _ pn xe Ec _ _ (takes_len tk) hW))).run pins s1 σ H1 D I ⟨e1, e2, e3⟩⟩)
      (fun a oe cls d pn hz hf => pss_cons (ps_set (i := 2) sc_err.nd rfl (.inl rfl) (pe_lst (pa_cons (pe_callB (call_isEQ hz hf) (by rfl) B.isinstance boot_isinstance' (pa_cons (pv 1) (pa_cons (pe_glob (v := .ref (He.ga X.K "InvalidNumber")) (by rfl) (G.glo .number) rfl) pa_nil))) (pa_cons (pe_callB (call_isEQ hz hf) (by rfl) B.isinstance boot_isinstance' (pa_cons (pv 1) (pa_cons (pe_glob (v := .ref (He.ga X.K "InvalidChain")) (by rfl) (G.glo .chain) rfl) pa_nil))) (pa_cons (pe_callB (call_isEQ hz hf) (by rfl) B.isinstance boot_isinstance' (pa_cons (pv 1) (pa_cons (pe_glob (v := .ref (He.ga X.K "UnknownCell")) (by rfl) (G.glo .cell) rfl) pa_nil))) pa_nil)))))
        (pss_cons (ps_set (i := 2) sc_err.nd rfl (.inl rfl) (pe_op op_cat (pv 2) (pe_lst (pa_cons (pe_callB (call_isEQ hz hf) (by rfl) B.isinstance boot_isinstance' (pa_cons (pv 1) (pa_cons (pe_glob (v := .ref (He.ga X.K "InvalidRow")) (by rfl) (G.glo .row) rfl) pa_nil))) (pa_cons (pe_callB (call_isEQ hz hf) (by rfl) B.isinstance boot_isinstance' (pa_cons (pv 1) (pa_cons (pe_glob (v := .ref (He.ga X.K "InvalidText")) (by rfl) (G.glo .text) rfl) pa_nil))) (pa_cons (pe_callB (call_isEQ hz hf) (by rfl) B.isinstance boot_isinstance' (pa_cons (pv 1) (pa_cons (pe_glob (v := .ref (He.ga X.K "TooMany")) (by rfl) (G.glo .many) rfl) pa_nil))) pa_nil))))))
        (pss_cons (ps_set (i := 2) sc_err.nd rfl (.inl rfl) (pe_op op_cat (pv 2) (pe_lst (pa_cons (pe_callB (call_isEQ hz hf) (by rfl) B.isinstance boot_isinstance' (pa_cons (pv 1) (pa_cons (pe_glob (v := .ref (He.ga X.K "Contradiction")) (by rfl) (G.glo .contradiction) rfl) pa_nil))) (pa_cons (pe_callB (call_isEQ hz hf) (by rfl) B.isinstance boot_isinstance' (pa_cons (pv 1) (pa_cons (pe_glob (v := .ref (He.ga X.K "InvalidName")) (by rfl) (G.glo .name) rfl) pa_nil))) (pa_cons (pe_callB (call_isEQ hz hf) (by rfl) B.isinstance boot_isinstance' (pa_cons (pv 1) (pa_cons (pe_glob (v := .ref (He.ga X.K "UnknownName")) (by rfl) (G.glo .unknown) rfl) pa_nil))) pa_nil))))))
        (pss_cons (ps_set (i := 2) sc_err.nd rfl (.inl rfl) (pe_op op_cat (pv 2) (pe_lst (pa_cons (pe_callB (call_isEQ hz hf) (by rfl) B.isinstance boot_isinstance' (pa_cons (pv 1) (pa_cons (pe_glob (v := .ref (He.ga X.K "InvalidOperation")) (by rfl) (G.glo .operation) rfl) pa_nil))) pa_nil))))
        (pss_cons (ps_if (PW.pt (pw_or (pt_cmpR op_ne (peC (tBM X.K "list" (rCountF X.K) (tVar 2) (tCons (tC (.bl true)) tNil)) (pe_bm PySem.F.plainAttrs_list PySem.F.slot_list_count PySem.F.type_list_count mt_countF (pv 2) (pa_cons pe_bl pa_nil))) pe_int (nomark _))
            (pw_or1 (pt_not (pt_val (pe_callB (call_isEQ hz hf) (by rfl) B.isinstance boot_isinstance' (pa_cons (pv 1) (pa_cons (pe_bltn (v := .ty "ValueError") (by rfl) G.ve boot_VE rfl) pa_nil))))))))
          (pss_one (ps_ret (pe_tup (pa_cons pe_str (pa_cons pe_int pa_nil))))) pss_nil)
        (pss_cons (ps_set (i := 3) sc_err.nd rfl (.inl rfl) (pe_lst (pa_cons pe_str (pa_cons pe_str (pa_cons pe_str (pa_cons pe_str (pa_cons pe_str (pa_cons pe_str (pa_cons pe_str (pa_cons pe_str (pa_cons pe_str (pa_cons pe_str pa_nil))))))))))))
        (pss_cons (ps_set (i := 4) sc_err.nd rfl (.inl rfl) (peC (tOp (rIxL X.K) (tVar 3) (tBM X.K "list" (rIndex X.K) (tVar 2) (tCons (tC (.bl true)) tNil))) (pe_ix ix_list (pv 3) (pe_bm PySem.F.plainAttrs_list PySem.F.slot_list_index PySem.F.type_list_index mt_index (pv 2) (pa_cons pe_bl pa_nil)) (fun _ _ => rfl))))
        (pss_cons (ps_if (ptC (tTest (tOp (rIn X.K false) (tVar 4) (tLst (tCons (tC (.str "chain")) (tCons (tC (.str "row")) tNil))))) (pt_cmpR op_in_seq (pv 4) (pe_lst (pa_cons pe_str (pa_cons pe_str pa_nil))) (by rfl))) (pss_one (ps_ret (pe_tup (pa_cons (pv 4) (pa_cons (pe_xfQ hz hf (pv 1)) pa_nil))))) pss_nil)
        (pss_one (ps_ret (pe_tup (pa_cons (pv 4) (pa_cons (pe_ifExp (pt_cmpR op_eq (pv 4) pe_str (nomark _)) (pe_xfQ hz hf (pv 1)) (pe_ifExp (pt_cmpR op_eq (pv 4) pe_str (nomark _)) (pe_xfQ hz hf (pv 1)) pe_int)) pa_nil)))))))))))))) (pss_one (ps_ret pe_non)), ?_⟩
  refine ⟨_, ?_, rfl, hc, h⟩
  rintro cls d σ' H' ⟨e, v, hE, rfl, hb0, hb1, k⟩ hlen
  obtain ⟨x0, x1, x2, x3, x4, rfl⟩ := five hlen
  have t := (T e hE).t
  have tx := (T e hE).xf
  have hd : DictAt H' d := by
    cases hb : e.bare with
    | true => exact .inl (hb0 hb).1
    | false =>
      obtain ⟨dd, e1, e2⟩ := hb1 hb
      exact .inr ⟨dd, _, e1, e2⟩
  refine ⟨true, t.exm, fun _ a ha => ?_, fun z => Bool.noConfusion z⟩
  refine ⟨_, rfl, _, _, _, _, rfl, hd, t.exk, rfl, fun u hu => hu, t.kit .number, _, rfl, _, _, _, _, rfl, hd, t.exk, rfl, fun u hu => hu, t.kit .chain, _, rfl, _, _, _, _, rfl, hd, t.exk, rfl, fun u hu => hu, t.kit .cell, (by show 3 ≤ sizeLine; decide), fun p1 hp1 => ?_⟩
  have s1 := same_new (o := .lst [V.bl (decide (Er.number = e)), V.bl (decide (Er.chain = e)), V.bl (decide (Er.cell = e))]) hp1
  -- three more
  refine ⟨_, rfl, _, rfl, _, _, _, _, rfl, (hd.same s1), t.exk, rfl, fun u hu => hu, t.kit .row, _, rfl, _, _, _, _, rfl, (hd.same s1), t.exk, rfl, fun u hu => hu, t.kit .text, _, rfl, _, _, _, _, rfl, (hd.same s1), t.exk, rfl, fun u hu => hu, t.kit .many, (by show 3 ≤ sizeLine; decide), fun p2 hp2 => ?_⟩
  have s2 := s1.trans (same_new (o := .lst [V.bl (decide (Er.row = e)), V.bl (decide (Er.text = e)), V.bl (decide (Er.many = e))]) hp2)
  refine ⟨p1, p2, _, _, rfl, rfl, same_new hp2 _ _ upd_same, upd_same, (by show 3 + 3 ≤ sizeLine; decide), fun p3 hp3 => ?_⟩
  have s3 := s2.trans (same_new (o := .lst [V.bl (decide (Er.number = e)), V.bl (decide (Er.chain = e)), V.bl (decide (Er.cell = e)), V.bl (decide (Er.row = e)), V.bl (decide (Er.text = e)), V.bl (decide (Er.many = e))]) hp3)
  refine ⟨_, rfl, _, rfl, _, _, _, _, rfl, (hd.same s3), t.exk, rfl, fun u hu => hu, t.kit .contradiction, _, rfl, _, _, _, _, rfl, (hd.same s3), t.exk, rfl, fun u hu => hu, t.kit .name, _, rfl, _, _, _, _, rfl, (hd.same s3), t.exk, rfl, fun u hu => hu, t.kit .unknown, (by show 3 ≤ sizeLine; decide), fun p4 hp4 => ?_⟩
  have s4 := s3.trans (same_new (o := .lst [V.bl (decide (Er.contradiction = e)), V.bl (decide (Er.name = e)), V.bl (decide (Er.unknown = e))]) hp4)
  refine ⟨p3, p4, _, _, rfl, rfl, same_new hp4 _ _ upd_same, upd_same, (by show 6 + 3 ≤ sizeLine; decide), fun p5 hp5 => ?_⟩
  have s5 := s4.trans (same_new (o := .lst [V.bl (decide (Er.number = e)), V.bl (decide (Er.chain = e)), V.bl (decide (Er.cell = e)), V.bl (decide (Er.row = e)), V.bl (decide (Er.text = e)), V.bl (decide (Er.many = e)), V.bl (decide (Er.contradiction = e)), V.bl (decide (Er.name = e)), V.bl (decide (Er.unknown = e))]) hp5)
  refine ⟨_, rfl, _, rfl, _, _, _, _, rfl, (hd.same s5), t.exk, rfl, fun u hu => hu, t.kit .operation, (by show 1 ≤ sizeLine; decide), fun p6 hp6 => ?_⟩
  have s6 := s5.trans (same_new (o := .lst [V.bl (decide (Er.operation = e))]) hp6)
  refine ⟨p5, p6, _, _, rfl, rfl, same_new hp6 _ _ upd_same, upd_same, (by show 9 + 1 ≤ sizeLine; decide), fun p7 hp7 => ?_⟩
  have s7 := s6.trans (same_new (o := .lst [V.bl (decide (Er.number = e)), V.bl (decide (Er.chain = e)), V.bl (decide (Er.cell = e)), V.bl (decide (Er.row = e)), V.bl (decide (Er.text = e)), V.bl (decide (Er.many = e)), V.bl (decide (Er.contradiction = e)), V.bl (decide (Er.name = e)), V.bl (decide (Er.unknown = e)), V.bl (decide (Er.operation = e))]) hp7)
  -- just one of them
  have fl : ([V.bl (decide (Er.number = e)), V.bl (decide (Er.chain = e)), V.bl (decide (Er.cell = e)), V.bl (decide (Er.row = e)), V.bl (decide (Er.text = e)), V.bl (decide (Er.many = e)), V.bl (decide (Er.contradiction = e)), V.bl (decide (Er.name = e)), V.bl (decide (Er.unknown = e)), V.bl (decide (Er.operation = e))] : List V).all flatV = true := rfl
  have one : ([V.bl (decide (Er.number = e)), V.bl (decide (Er.chain = e)), V.bl (decide (Er.cell = e)), V.bl (decide (Er.row = e)), V.bl (decide (Er.text = e)), V.bl (decide (Er.many = e)), V.bl (decide (Er.contradiction = e)), V.bl (decide (Er.name = e)), V.bl (decide (Er.unknown = e)), V.bl (decide (Er.operation = e))] : List V).countP (fun z => eqV z (.bl true)) = 1 := by cases e <;> rfl
  refine ⟨_, rfl, .inl ⟨rfl, _, SqL.of upd_same⟩, p7, [V.bl (decide (Er.number = e)), V.bl (decide (Er.chain = e)), V.bl (decide (Er.cell = e)), V.bl (decide (Er.row = e)), V.bl (decide (Er.text = e)), V.bl (decide (Er.many = e)), V.bl (decide (Er.contradiction = e)), V.bl (decide (Er.name = e)), V.bl (decide (Er.unknown = e)), V.bl (decide (Er.operation = e))], .bl true, rfl, rfl, SqL.of upd_same, rfl, fl, ?_⟩
  rw [one]
  refine ⟨rfl, _, rfl, iteNS rfl ?_⟩
  refine ⟨_, rfl, _, _, _, true, rfl, (hd.same s7), t.exk, rfl, fun u hu => hu, t.kitV, _, rfl, iteF ?_⟩
  -- its word
  refine ⟨(by show 10 ≤ sizeLine; decide), fun p8 hp8 => ?_⟩
  have s8 := s7.trans (same_new (o := .lst erWs) hp8)
  refine ⟨_, rfl, _, rfl, .inl ⟨rfl, _, SqL.of (same_new hp8 _ _ upd_same)⟩, p7, erBs e, .bl true, e.ix, .bl true, rfl, rfl, SqL.of (same_new hp8 _ _ upd_same), rfl, rfl, er_at e, rfl, er_first e, ?_⟩
  refine ⟨p8, erWs, _, .str e.word, rfl, rfl, SqL.of upd_same, atI_nat (er_word e), ?_⟩
  refine ⟨_, rfl, (by show 2 ≤ sizeLine; decide), fun p9 hp9 => ?_⟩
  have s9 := s8.trans (same_new (o := .lst [V.str "chain", V.str "row"]) hp9)
  refine ⟨p9, [V.str "chain", V.str "row"], rfl, .inl (SqL.of upd_same), rfl, rfl, inV (V.str e.word) [V.str "chain", V.str "row"], rfl, ?_⟩
  rcases er_key e with ⟨k1, k2, k3⟩ | ⟨k1, k2, k3, k4⟩ | ⟨k1, k2, k3, k4, k5⟩ | ⟨k1, k2, k3, k4⟩
  · rw [k1]
    obtain ⟨dd, e1, e2⟩ := hb1 k2
    obtain ⟨x1', x2'⟩ := tx k2
    rw [k3] at x2' e2
    refine ⟨_, rfl, _, x1', x2', _, rfl, rfl, rfl, dd, _, v, e1, s9 _ _ e2, by simp [List.lookup], (by show 2 ≤ sizeLine; decide), fun p hp => ?_⟩
    exact k p _ (s9.free hp) (s9.trans (same_new hp)) upd_same
  · rw [k1]
    obtain ⟨dd, e1, e2⟩ := hb1 k3
    obtain ⟨x1', x2'⟩ := tx k3
    rw [k4] at x2' e2
    refine iteF ?_
    refine ⟨_, rfl, _, rfl, rfl, _, rfl, iteD1 k2 ?_⟩
    refine ⟨_, x1', x2', _, rfl, rfl, rfl, dd, _, v, e1, s9 _ _ e2, by simp [List.lookup], (by show 2 ≤ sizeLine; decide), fun p hp => ?_⟩
    exact k p _ (s9.free hp) (s9.trans (same_new hp)) upd_same
  · rw [k1]
    obtain ⟨dd, e1, e2⟩ := hb1 k4
    obtain ⟨x1', x2'⟩ := tx k4
    rw [k5] at x2' e2
    refine iteF ?_
    refine ⟨_, rfl, _, rfl, rfl, _, rfl, iteD0 k2 ?_⟩
    refine ⟨_, rfl, rfl, _, rfl, iteD1 k3 ?_⟩
    refine ⟨_, x1', x2', _, rfl, rfl, rfl, dd, _, v, e1, s9 _ _ e2, by simp [List.lookup], (by show 2 ≤ sizeLine; decide), fun p hp => ?_⟩
    exact k p _ (s9.free hp) (s9.trans (same_new hp)) upd_same
  · rw [k1]
    obtain ⟨_, rfl⟩ := hb0 k4
    refine iteF ?_
    refine ⟨_, rfl, _, rfl, rfl, _, rfl, iteD0 k2 ?_⟩
    refine ⟨_, rfl, rfl, _, rfl, iteD0 k3 ?_⟩
    refine ⟨(by show 2 ≤ sizeLine; decide), fun p hp => ?_⟩
    exact k p _ (s9.free hp) (s9.trans (same_new hp)) upd_same
end SC
set_option maxRecDepth 100000
set_option maxHeartbeats 2000000
namespace SC
open PySem PySem.Spec PyProof.Rows L2 TL
/-- a new list -/
def NewL (H : Hp) (Q : VK) : Prop := ∀ (p : Addr) (xs : List V) (H' : Hp), H p = none → Same H H' → H' p = some (.lst xs) → xs.length ≤ 100000 → Q (.ref p) H'
def spLetOutF (K : PySem.W.Frag) : Sp := fun vs H Q _ => ∃ (M : List Addr) (wt L S : Addr) (ss : List St1) (i : Nat), vs = [.ref wt] ∧ Gd K M H ∧ WtAt K M H wt L S ss i ∧ NewL H Q
def spOpsF (K : PySem.W.Frag) : Sp := fun vs H Q _ => ∃ (M : List Addr) (wt L S : Addr) (ss : List St1) (i : Nat), vs = [.ref wt] ∧ Gd K M H ∧ WtAt K M H wt L S ss i ∧ NewL H Q
/-- an error without a field in the air -/
def BareErr (K : PySem.W.Frag) (H : Hp) (E : XK) (e : Er) : Prop := ∀ H', Same H H' → E (.ref (He.ga K e.cn)) none H'
def spPutX (K : PySem.W.Frag) : Sp := fun vs H _ E => ∃ (v0 : V) (n : Int), vs = [v0, .int n] ∧ ¬ numOk n ∧ BareErr K H E .number
def spTakeX (K : PySem.W.Frag) : Sp := fun vs H _ E => ∃ (M : List Addr) (wt L S : Addr) (ss : List St1) (i : Nat) (s : St1) (k : Nat) (e : Er), vs = [.ref wt, .int k] ∧ Gd K M H ∧ WtAt K M H wt L S ss i ∧ ss[i]? = some s ∧ ((s.rs.length ≤ k ∧ e = .cell) ∨ (k < s.rs.length ∧ s.hs[k]? = some none ∧ e = .number)) ∧ BareErr K H E e
def spSwapX (K : PySem.W.Frag) : Sp := fun vs H _ E => ∃ (M : List Addr) (wt L S : Addr) (ss : List St1) (i : Nat) (s : St1) (k : Nat), vs = [.ref wt, .int k] ∧ Gd K M H ∧ WtAt K M H wt L S ss i ∧ ss[i]? = some s ∧ s.rs.length ≤ k + 1 ∧ BareErr K H E .cell
section
variable {P : Program} {w : World} {K : PySem.W.Frag} {mg : Str → Option Value} {base : Heap}
theorem ok_letoutF {f : Addr} {fd : FuncData} (F : Fun K "let_out" "Worktop.let_out" s_Worktop_let_out f fd) (W : Wk K mg) : FnOk P w K mg base CX0 1 f fd ["self"] (spLetOutF K) := by
  refine F.ok sc_let (fun vs H Q E h => ?_) (fun cdv A outer s0 H vs Q E hr h => ?_)
  · obtain ⟨M, wt, L, S, ss, i, rfl, _⟩ := h
    rfl
  · obtain ⟨M, wt, L, S, ss, i, rfl, g, x, q⟩ := h
    have zz := line_big
    obtain ⟨⟨dx, h1⟩, ⟨as, h2, h3⟩, h4, h5, mw, ml, ne⟩ := x
    refine ⟨_, pss_one (ps_ret (pe_lc (own := [("step", 1)]) (g := gName 1) (by rfl) sc_let.nd (pi_listK (K := K) rfl (pe_slice (r := rSlL K) sl_list (pe_fld (pv 0) rfl) po_none (po_some (pe_op op_add (pe_fld (pv 0) rfl) pe_int)))) (blkOk_by (own := [("step", 1)]) (N := nmLet) (sc := defScope s_Worktop_let_out) (by decide +kernel))
      (fun _ _ _ _ _ => pg_name (i := 1) sc_let.nd rfl (.inl rfl)) (fun _ _ _ _ _ => pts_one (pt_cmpR op_notN (pe_fldK (K := K) rfl (pv 1)) pe_non (nomark _))) (fun _ _ _ _ _ => (pe_fldK (K := K) rfl (pv 1))))), ?_⟩
    refine ⟨_, rfl, wt, _, dx, _, _, rfl, h1, W.cls, W.nSteps, look_steps, _, rfl, wt, _, dx, _, _, rfl, h1, W.cls, W.nDone, look_done, _, _, rfl, rfl, _, rfl, ?_⟩
    refine ⟨L, _, rfl, SqL.of h2, fun p hp => ?_⟩
    have ec : cutV (as.map V.ref) none (some ((i : Int) + 1)) = (as.take (i + 1)).map V.ref := cutV_to V.ref as (i + 1)
    rw [ec]
    have sp : Same H (upd H p (.lst ((as.take (i + 1)).map V.ref))) := same_new hp
    have wp : upd H p (.lst ((as.take (i + 1)).map V.ref)) p = some (.lst ((as.take (i + 1)).map V.ref)) := upd_same
    generalize upd H p (.lst ((as.take (i + 1)).map V.ref)) = H1 at sp wp ⊢
    have pM : p ∉ M := g.out hp
    have st := (h3.take (i + 1)).same (swo sp)
    refine ⟨p, rfl, ⟨_, SqL.of wp⟩, fun D0 hD0 => ?_⟩
    have g1 := g.same sp
    have nD := g1.out hD0
    refine lc_list (K := K) (a := p) (xs := (as.take (i + 1)).map V.ref) (fun n H3 => ∃ acc : List V, Same H1 H3 ∧ H3 D0 = some (.lst acc) ∧ acc = (((ss.take (i + 1)).take n).filterMap St1.out).map V.int) ?_ ?_ ?_ ?_
    · exact ⟨[], same_new hD0, upd_same, rfl⟩
    · rintro n H3 _ ⟨acc, s3, _⟩
      exact SqL.of (s3 _ _ wp)
    · rintro n y H3 hn ⟨acc, s3, hD, ea⟩
      obtain ⟨a, ha, rfl⟩ := map_ref_at hn
      obtain ⟨s, hs, sa⟩ := st.at ha
      obtain ⟨dy, c, t, a1, a2, a3, a4, a5⟩ := sa
      have a1' := s3 _ _ (wo_le _ _ a1)
      have tm := take_more hs
      refine ⟨wipe_one, ?_⟩
      refine ⟨_, rfl, a, _, dy, _, _, rfl, a1', W.clsS, W.nOut, st_out, rfl, _, rfl, ?_⟩
      cases eo : s.out with
      | none =>
        refine iteNS rfl ?_
        refine ⟨acc, s3, hD, ?_⟩
        rw [tm, List.filterMap_append]
        simp [eo, ea]
      | some z =>
        refine iteN1 (fun e => by cases e) ?_
        refine ⟨_, rfl, a, _, dy, _, _, rfl, a1', W.clsS, W.nOut, st_out, acc, hD, ?_, acc ++ [ov s.out], ?_, upd_same, ?_⟩
        · rw [ea, List.length_map]
          refine Nat.lt_of_le_of_lt (List.length_filterMap_le _ _) ?_
          rw [List.length_take, List.length_take]
          omega
        · intro b o hb
          rw [upd_ne (ne_of_none hb hD0)]
          exact s3 _ _ hb
        · rw [tm, List.filterMap_append, List.map_append, ea]
          simp [eo, ov]
    · rintro H3 ⟨acc, s3, hD, ea⟩
      rw [List.length_map, (h3.take (i + 1)).1, List.take_length] at ea
      subst ea
      exact q D0 _ _ (sp.free hD0) (sp.trans s3) hD (by rw [List.length_map]; refine Nat.le_trans (List.length_filterMap_le _ _) ?_; rw [List.length_take]; omega)
theorem ok_opsF {f : Addr} {fd : FuncData} (F : Fun K "operations" "Worktop.operations" s_Worktop_operations f fd) (W : Wk K mg) : FnOk P w K mg base CX0 1 f fd ["self"] (spOpsF K) := by
  refine F.ok sc_ops (fun vs H Q E h => ?_) (fun cdv A outer s0 H vs Q E hr h => ?_)
  · obtain ⟨M, wt, L, S, ss, i, rfl, _⟩ := h
    rfl
  · obtain ⟨M, wt, L, S, ss, i, rfl, g, x, q⟩ := h
    have zz := line_big
    obtain ⟨⟨dx, h1⟩, ⟨as, h2, h3⟩, h4, h5, mw, ml, ne⟩ := x
    refine ⟨_, pss_one (ps_ret (pe_lc (own := [("step", 1)]) (g := gName 1) (by rfl) sc_ops.nd (pi_listK (K := K) rfl (pe_slice (r := rSlL K) sl_list (pe_fld (pv 0) rfl) (po_some pe_int) (po_some (pe_op op_add (pe_fld (pv 0) rfl) pe_int)))) (blkOk_by (own := [("step", 1)]) (N := nmOps) (sc := defScope s_Worktop_operations) (by decide +kernel))
      (fun _ _ _ _ _ => pg_name (i := 1) sc_ops.nd rfl (.inl rfl)) (fun _ _ _ _ _ => pts_nil) (fun _ _ _ _ _ => (pe_fldK (K := K) rfl (pv 1))))), ?_⟩
    refine ⟨_, rfl, wt, _, dx, _, _, rfl, h1, W.cls, W.nSteps, look_steps, _, rfl, _, rfl, wt, _, dx, _, _, rfl, h1, W.cls, W.nDone, look_done, _, _, rfl, rfl, _, rfl, ?_⟩
    refine ⟨L, _, rfl, SqL.of h2, fun p hp => ?_⟩
    have ec : cutV (as.map V.ref) (some 1) (some ((i : Int) + 1)) = ((as.take (i + 1)).drop 1).map V.ref := by
      have e1 : (some (1 : Int)) = some ((1 : Nat) : Int) := rfl
      have e2 : (some ((i : Int) + 1)) = some ((i + 1 : Nat) : Int) := rfl
      have ll := h3.1
      rw [steps_cut, e1, e2, HT.sIx_nat, HT.sIx_nat, Nat.min_eq_left (by omega), Nat.min_eq_left (by omega), List.drop_take]
    rw [ec]
    have sp : Same H (upd H p (.lst (((as.take (i + 1)).drop 1).map V.ref))) := same_new hp
    have wp : upd H p (.lst (((as.take (i + 1)).drop 1).map V.ref)) p = some (.lst (((as.take (i + 1)).drop 1).map V.ref)) := upd_same
    generalize upd H p (.lst (((as.take (i + 1)).drop 1).map V.ref)) = H1 at sp wp ⊢
    have st := ((h3.take (i + 1)).drop 1).same (swo sp)
    refine ⟨p, rfl, ⟨_, SqL.of wp⟩, fun D0 hD0 => ?_⟩
    have g1 := g.same sp
    have nD := g1.out hD0
    refine lc_list (K := K) (a := p) (xs := ((as.take (i + 1)).drop 1).map V.ref) (fun n H3 => ∃ acc : List V, Same H1 H3 ∧ H3 D0 = some (.lst acc) ∧ acc = ((((ss.take (i + 1)).drop 1).take n).map St1.word).map V.str) ?_ ?_ ?_ ?_
    · exact ⟨[], same_new hD0, upd_same, rfl⟩
    · rintro n H3 _ ⟨acc, s3, _⟩
      exact SqL.of (s3 _ _ wp)
    · rintro n y H3 hn ⟨acc, s3, hD, ea⟩
      obtain ⟨a, ha, rfl⟩ := map_ref_at hn
      obtain ⟨s, hs, sa⟩ := st.at ha
      obtain ⟨dy, c, t, a1, a2, a3, a4, a5⟩ := sa
      have a1' := s3 _ _ (wo_le _ _ a1)
      have tm := take_more hs
      refine ⟨wipe_one, ?_⟩
      refine ⟨_, rfl, a, _, dy, _, _, rfl, a1', W.clsS, W.nWord, st_word, acc, hD, ?_, acc ++ [.str s.word], ?_, upd_same, ?_⟩
      · rw [ea, List.length_map, List.length_map, List.length_take, List.length_drop, List.length_take]
        omega
      · intro b o hb
        rw [upd_ne (ne_of_none hb hD0)]
        exact s3 _ _ hb
      · rw [tm, List.map_append, List.map_append, ea]
        rfl
    · rintro H3 ⟨acc, s3, hD, ea⟩
      rw [List.length_map, ((h3.take (i + 1)).drop 1).1, List.take_length] at ea
      subst ea
      exact q D0 _ _ (sp.free hD0) (sp.trans s3) hD (by rw [List.length_map, List.length_map, List.length_drop, List.length_take]; omega)
theorem ok_putX {f g : Addr} {fd gd : FuncData} {n : Nat} (h6 : 3 ≤ n) (F : Fun K "put" "Worktop.put" s_Worktop_put f fd) (G : FnOk P w K mg base (L2.CX P w) 3 g gd ["value"] (spCheckNum K)) (bG : Binds K gd ["value"] []) (kG : PySem.W.keepIn K (.ref g) = true) (hg : mg "check_number" = some (.ref g)) :
    FnOk P w K mg base (L2.CX P w) (n + 1) f fd ["self", "number"] (spPutX K) := by
  refine F.okX sc_put (fun vs H Q E h => ?_) (fun cdv A outer s H vs Q E hr h => ?_)
  · obtain ⟨v0, m, rfl, _⟩ := h
    rfl
  · obtain ⟨v0, m, rfl, hm, q⟩ := h
    refine ⟨_, pss_cons (ps_expr (pe_call (G.mono h6) hr (by rfl) hg kG bG .nil (passes_call (takes_of rfl rfl rfl rfl) (fun _ _ _ _ h => h)) (pa_cons (pv 1) pa_nil))) pss_never, ?_⟩
    exact ⟨_, rfl, _, rfl, .inl ⟨m, rfl, fun z => absurd z hm, fun _ => q H (Same.refl _)⟩⟩
theorem ok_takeX {f g : Addr} {fd gd nd : FuncData} {n : Nat} (h6 : 3 ≤ n) (F : Fun K "take" "Worktop.take" s_Worktop_take f fd) (B : Bln mg) (W : Wk K mg) (C : ChainOk P w K mg base n) (G : FnOk P w K mg base (L2.CX P w) 2 g gd ["index", "many"] (spCheckIdx K)) (bG : Binds K gd ["index", "many"] []) (kG : PySem.W.keepIn K (.ref g) = true) (hg : mg "check_index" = some (.ref g))
    (N : FnOk P w K mg base CX0 1 (He.ma K (WkC K) "now") nd ["self"] (spNow K)) (bN : Binds K nd ["self"] []) (X : Err0 K mg "InvalidNumber") :
    FnOk P w K mg base (L2.CX P w) (n + 2) f fd ["self", "index"] (spTakeX K) := by
  refine F.okX sc_take (fun vs H Q E h => ?_) (fun cdv A outer s0 H vs Q E hr h => ?_)
  · obtain ⟨M, wt, L, S, ss, i, s, k, e, rfl, _⟩ := h
    rfl
  · obtain ⟨M, wt, L, S, ss, i, s, k, e, rfl, g, x, hi, hk, q⟩ := h
    have zz := line_big
    obtain ⟨⟨dx, h1⟩, _⟩ := id x
    refine ⟨_, wpS_ok, ?_⟩
    have E0' : Env K M (L2.start nmTake [.ref wt, .int k]) H [.val (.ref wt), .val (.int k), .any, .any, .any] := env_start
    generalize L2.start nmTake [.ref wt, .int k] = σ0 at E0' ⊢
    refine wp_cons (ps_set (i := 2) sc_take.nd rfl (.inl rfl) (pe_meth0 (pv 0) W.cls W.now (N.mono (show 1 ≤ n + 1 by omega)) hr bN .nil pass0)) ?_
    refine ⟨_, E0'.val (i := 0) rfl, wt, dx, _, rfl, h1, wk_no (by decide +kernel) (by decide +kernel) (by decide +kernel), M, wt, L, S, ss, i, s, rfl, x, hi, fun a sa => ?_⟩
    have E1 := ((E0'.setv (i := 2) (v := .ref a)).asD (i := 1) (d := .int k) rfl rfl)
    dsimp only [List.set] at E1
    show wpS _ _ _ (σ0.set 2 (some (V.ref a))) H
    generalize σ0.set 2 (some (V.ref a)) = σ1 at E1 ⊢
    refine wp_cons (ps_expr (pe_call (G.mono (show 2 ≤ n + 1 by omega)) hr (by rfl) hg kG bG .nil (passes_call (takes_of rfl rfl rfl rfl) (fun _ _ _ _ h => h)) (pa_cons (pv 1) (pa_cons (pe_callB (r := rLenC K) (call_lenC C hr) (by rfl) B.len boot_len' (pa_cons (pe_fld (pv 2) rfl) pa_nil)) pa_nil)))) ?_
    refine use_callE (rda_cons (E1.rd (i := 1) rfl) (rda_cons (rd_chlen (rda_cons (rd_stchain W (E1.val (i := 2) rfl) sa) rda_nil)) rda_nil)) g fun xs H1 s1 g1 r1 => ?_
    obtain ⟨w1, ws1, rfl, rw1, w2, ws2, rfl, rw2, rw3⟩ := r1
    cases rw1
    cases rw2
    cases rw3
    rcases hk with ⟨hk, rfl⟩ | ⟨hk, hn, rfl⟩
    · exact ⟨_, _, rfl, .inl ⟨(k : Int), rfl, fun z => absurd z.2 (by omega), fun _ => q H1 s1⟩⟩
    refine ⟨_, _, rfl, .inl ⟨(k : Int), rfl, fun _ => ?_, fun z => absurd ⟨by omega, by omega⟩ z⟩⟩
    have E2 := E1.same s1
    have sa2 := sa.same (swo s1)
    show wpS _ _ _ σ1 H1
    refine wp_cons (ps_set (i := 3) sc_take.nd rfl (.inl rfl) (pe_ix (r := rIxT K) ix_tup (pe_fld (pv 2) rfl) (pv 1) (fun _ _ => rfl))) ?_
    refine use_set (i := 3) (rd_atT (f := dO) hn (rd_stnums W (E2.val (i := 2) rfl) sa2) (E2.rd (i := 1) rfl)) g1 fun v3 H2 s2 g2 r3 => ?_
    have E3 := (E2.same s2).set (i := 3) (d := .non) r3
    dsimp only [List.set] at E3
    show wpS _ _ _ _ _
    generalize σ1.set 3 (some v3) = σ2 at E3 ⊢
    refine wp_cons (ps_if (pt_cmpR op_isN (pv 3) pe_non (nomark _)) (pss_one (ps_raise rfl (takes_of rfl rfl rfl rfl) (pmk_own PySem.F.excBase_ValueError X.ex X.gl X.kp (raises_own X.sb X.ty) (by exact rfl)))) pss_nil) ?_
    refine use_if (rdt_test (rd_isN (E3.rd (i := 3) rfl) rd_non)) g2 fun H3 s3 g3 => ?_
    exact (if_pos rfl).mpr (q H3 ((s1.trans s2).trans s3))
theorem ok_swapX {f g : Addr} {fd gd nd : FuncData} {n : Nat} (h6 : 3 ≤ n) (F : Fun K "swap" "Worktop.swap" s_Worktop_swap f fd) (B : Bln mg) (W : Wk K mg) (C : ChainOk P w K mg base n) (G : FnOk P w K mg base (L2.CX P w) 2 g gd ["index", "many"] (spCheckIdx K)) (bG : Binds K gd ["index", "many"] []) (kG : PySem.W.keepIn K (.ref g) = true) (hg : mg "check_index" = some (.ref g))
    (N : FnOk P w K mg base CX0 1 (He.ma K (WkC K) "now") nd ["self"] (spNow K)) (bN : Binds K nd ["self"] []) :
    FnOk P w K mg base (L2.CX P w) (n + 2) f fd ["self", "index"] (spSwapX K) := by
  refine F.okX sc_swap (fun vs H Q E h => ?_) (fun cdv A outer s0 H vs Q E hr h => ?_)
  · obtain ⟨M, wt, L, S, ss, i, s, k, rfl, _⟩ := h
    rfl
  · obtain ⟨M, wt, L, S, ss, i, s, k, rfl, g, x, hi, hk, q⟩ := h
    obtain ⟨⟨dx, h1⟩, _⟩ := id x
    refine ⟨_, wpS_ok, ?_⟩
    have E0' : Env K M (L2.start nmSwap [.ref wt, .int k]) H [.val (.ref wt), .val (.int k), .any, .any] := env_start
    generalize L2.start nmSwap [.ref wt, .int k] = σ0 at E0' ⊢
    refine wp_cons (ps_set (i := 2) sc_swap.nd rfl (.inl rfl) (pe_meth0 (pv 0) W.cls W.now (N.mono (show 1 ≤ n + 1 by omega)) hr bN .nil pass0)) ?_
    refine ⟨_, E0'.val (i := 0) rfl, wt, dx, _, rfl, h1, wk_no (by decide +kernel) (by decide +kernel) (by decide +kernel), M, wt, L, S, ss, i, s, rfl, x, hi, fun a sa => ?_⟩
    have E1 := ((E0'.setv (i := 2) (v := .ref a)).asD (i := 1) (d := .int k) rfl rfl)
    dsimp only [List.set] at E1
    show wpS _ _ _ (σ0.set 2 (some (V.ref a))) H
    generalize σ0.set 2 (some (V.ref a)) = σ1 at E1 ⊢
    refine wp_cons (ps_expr (pe_call (G.mono (show 2 ≤ n + 1 by omega)) hr (by rfl) hg kG bG .nil (passes_call (takes_of rfl rfl rfl rfl) (fun _ _ _ _ h => h)) (pa_cons (pv 1) (pa_cons (pe_op op_sub (pe_callB (r := rLenC K) (call_lenC C hr) (by rfl) B.len boot_len' (pa_cons (pe_fld (pv 2) rfl) pa_nil)) pe_int) pa_nil)))) ?_
    refine use_callE (rda_cons (E1.rd (i := 1) rfl) (rda_cons (rd_sub (rd_chlen (rda_cons (rd_stchain W (E1.val (i := 2) rfl) sa) rda_nil)) rd_int) rda_nil)) g fun xs H1 s1 g1 r1 => ?_
    obtain ⟨w1, ws1, rfl, rw1, w2, ws2, rfl, rw2, rw3⟩ := r1
    cases rw1
    cases rw2
    cases rw3
    exact ⟨_, _, rfl, .inl ⟨(k : Int), rfl, fun z => absurd z.2 (by omega), fun _ => q H1 s1⟩⟩
end
end SC
set_option maxRecDepth 100000
set_option maxHeartbeats 2000000
namespace SC
open PySem PySem.Spec PyProof.Rows L2 TL
def spDo (K : PySem.W.Frag) : Sp := fun vs H Q _ => ∃ (M : List Addr) (wt L S : Addr) (ss : List St1) (i : Nat) (op : Op) (w w' : W3) (d : D) (v0 : V), vs = [.ref wt, v0] ∧ Rp K (wo M H) op.d v0 ∧ op.ok ∧ Gd K M H ∧ WtAt K M H wt L S ss i ∧ ss.length < 100000 ∧ Rel ss i w ∧ workedW w op = .inr (d, w') ∧
  ∀ v H' ss' i', FrW wt L H H' → Gd K M H' → WtAt K M H' wt L S ss' i' → Rel ss' i' w' → ss'.length ≤ ss.length + 1 → Rp K (wo M H') d v → Q v H'
def spDoX (K : PySem.W.Frag) : Sp := fun vs H _ E => ∃ (M : List Addr) (wt L S : Addr) (ss : List St1) (i : Nat) (op : Op) (w : W3) (e : Er) (v0 : V), vs = [.ref wt, v0] ∧ Rp K (wo M H) op.d v0 ∧ op.ok ∧ Gd K M H ∧ WtAt K M H wt L S ss i ∧ Rel ss i w ∧ w.now.hs.length = w.now.rs.length ∧ workedW w op = .inl e ∧ BareErr K H E e
end SC
set_option maxRecDepth 100000
set_option maxHeartbeats 2000000
namespace SC
open PySem PySem.Spec PyProof.Rows L2 TL
def nmExe : List Str := ["self", "operation", "word"]
theorem sc_exe : FnScope nmExe ["self", "operation"] (defScope s_Worktop_execute) := ⟨rfl, rfl, rfl, by decide +kernel, rfl, by decide +kernel, by decide +kernel⟩
section
variable {P : Program} {w : World} {K : PySem.W.Frag} {mg : Str → Option Value} {base : Heap}
theorem ok_execute {f : Addr} {fd dp dt dsw du dr : FuncData} (F : Fun K "execute" "Worktop.execute" s_Worktop_execute f fd) (W : Wk K mg)
    (G_put : FnOk P w K mg base CX0 12 (He.ma K (WkC K) "put") dp ["self", "number"] (spPut K)) (b_put : Binds K dp ["self", "number"] []) (G_take : FnOk P w K mg base CX0 12 (He.ma K (WkC K) "take") dt ["self", "index"] (spTake K)) (b_take : Binds K dt ["self", "index"] [])
    (G_swap : FnOk P w K mg base CX0 12 (He.ma K (WkC K) "swap") dsw ["self", "index"] (spSwap K)) (b_swap : Binds K dsw ["self", "index"] []) (G_undo : FnOk P w K mg base CX0 1 (He.ma K (WkC K) "undo") du ["self"] (spUndo K)) (b_undo : Binds K du ["self"] []) (G_redo : FnOk P w K mg base CX0 1 (He.ma K (WkC K) "redo") dr ["self"] (spRedo K)) (b_redo : Binds K dr ["self"] []) :
    FnOk P w K mg base CX0 13 f fd ["self", "operation"] (spDo K) := by
  refine F.ok sc_exe (fun vs H Q E h => ?_) (fun cdv A outer s0 H vs Q E hr h => ?_)
  · obtain ⟨M, wt, L, S, ss, i, op, w, w', d, v0, rfl, _⟩ := h
    rfl
  · obtain ⟨M, wt, L, S', ss, i, op, w, w', d, v0, rfl, r0, ok, g, x, few, rel, e, q⟩ := h
    refine ⟨_, wpS_ok, ?_⟩
    have E0' : Env K M (L2.start nmExe [.ref wt, v0]) H [.val (.ref wt), .val v0, .any] := env_start
    have S : En K M (L2.start nmExe [.ref wt, v0]) H [.val (.ref wt), .dat op.d, .any] := ⟨E0'.asD (i := 1) rfl r0, g⟩
    generalize L2.start nmExe [.ref wt, v0] = σ0 at S ⊢
    clear E0'
    cases op with
    | put n =>
      refine wp_cons (ps_set (i := 2) sc_exe.nd rfl (.inl rfl) (pe_ix (r := rIxT K) ix_tup (pv 1) pe_int (fun _ _ => rfl))) ?_
      refine use_set (i := 2) (rd_ixT (d := .str "put") rfl (S.rd (i := 1) rfl) rd_int) S.g fun v1 H1 s1 g1 r1 => ?_
      have S : En K M (σ0.set 2 (some v1)) H1 _ := ⟨(S.e.same s1).set (i := 2) r1, g1⟩
      dsimp only [List.set] at S
      show wpS _ _ _ (σ0.set 2 (some v1)) H1
      generalize σ0.set 2 (some v1) = σ1 at S ⊢
      refine wp_cons (ps_if (pt_cmpR op_eq (pv 2) pe_str (nomark _)) wpS_ok pss_nil) ?_
      refine use_if (rdt_test (rd_eqS (S.rd (i := 2) rfl) rd_str)) S.g fun H2 s2 g2 => ?_
      have S := S.same s2
      refine (if_pos (by decide +kernel)).mpr ?_
      show wpS _ _ _ _ _
      have sA := (s1.trans s2)
      have x := x.same sA
      obtain ⟨⟨dx, h1⟩, _⟩ := id x
      refine wp_one (ps_ret (pe_meth (pv 0) W.cls W.put G_put hr b_put .nil pass0 (pa_cons (pe_ix (r := rIxT K) ix_tup (pv 1) pe_int (fun _ _ => rfl)) pa_nil))) ?_
      refine ⟨_, S.e.val (i := 0) rfl, wt, dx, _, rfl, h1, wk_no (by decide +kernel) (by decide +kernel) (by decide +kernel), ?_⟩
      refine (rd_ixT (d := .int n) rfl (S.rd (i := 1) rfl) rd_int) _ (Same.refl _) S.g _ fun v9 H9 s9 g9 r9 => ?_
      cases r9
      obtain ⟨s, hs, en⟩ := rel_at rel
      have x9 := x.same s9
      rw [worked3 (op := .put n) trivial] at e
      unfold onW at e
      dsimp only at e
      split at e
      · rename_i v2 e2
        cases e
      · rename_i v2 n2 e2
        split at e2
        · cases e2
        · rename_i hm
          cases e2
          cases e
          have nok : numOk n := ⟨ok, by omega⟩
          refine ⟨M, wt, L, S', ss, i, s, n, rfl, nok, g9, x9, few, hs, fun H10 f10 g10 x10 => ?_⟩
          have ra := rel_adv rel (putSt s n)
          refine q _ H10 _ _ ((FrW.of (sA.trans s9)).trans f10) g10 x10 ?_ ?_ ?_
          · rw [en] at ra ⊢
            exact ra
          · rw [List.length_append, List.length_take, List.length_singleton]
            omega
          · rw [en]
            exact rp_dO.mpr rfl
    | take n =>
      refine wp_cons (ps_set (i := 2) sc_exe.nd rfl (.inl rfl) (pe_ix (r := rIxT K) ix_tup (pv 1) pe_int (fun _ _ => rfl))) ?_
      refine use_set (i := 2) (rd_ixT (d := .str "take") rfl (S.rd (i := 1) rfl) rd_int) S.g fun v1 H1 s1 g1 r1 => ?_
      have S : En K M (σ0.set 2 (some v1)) H1 _ := ⟨(S.e.same s1).set (i := 2) r1, g1⟩
      dsimp only [List.set] at S
      show wpS _ _ _ (σ0.set 2 (some v1)) H1
      generalize σ0.set 2 (some v1) = σ1 at S ⊢
      refine wp_cons (ps_if (pt_cmpR op_eq (pv 2) pe_str (nomark _)) wpS_ok pss_nil) ?_
      refine use_if (rdt_test (rd_eqS (S.rd (i := 2) rfl) rd_str)) S.g fun H2 s2 g2 => ?_
      have S := S.same s2
      refine (if_neg (by decide +kernel)).mpr ?_
      show wpS _ _ _ _ _
      refine wp_cons (ps_if (pt_cmpR op_eq (pv 2) pe_str (nomark _)) wpS_ok pss_nil) ?_
      refine use_if (rdt_test (rd_eqS (S.rd (i := 2) rfl) rd_str)) S.g fun H3 s3 g3 => ?_
      have S := S.same s3
      refine (if_pos (by decide +kernel)).mpr ?_
      show wpS _ _ _ _ _
      have sA := ((s1.trans s2).trans s3)
      have x := x.same sA
      obtain ⟨⟨dx, h1⟩, _⟩ := id x
      refine wp_one (ps_ret (pe_meth (pv 0) W.cls W.take G_take hr b_take .nil pass0 (pa_cons (pe_ix (r := rIxT K) ix_tup (pv 1) pe_int (fun _ _ => rfl)) pa_nil))) ?_
      refine ⟨_, S.e.val (i := 0) rfl, wt, dx, _, rfl, h1, wk_no (by decide +kernel) (by decide +kernel) (by decide +kernel), ?_⟩
      refine (rd_ixT (d := .int n) rfl (S.rd (i := 1) rfl) rd_int) _ (Same.refl _) S.g _ fun v9 H9 s9 g9 r9 => ?_
      cases r9
      obtain ⟨s, hs, en⟩ := rel_at rel
      have x9 := x.same s9
      rw [worked3 (op := .take n) trivial] at e
      unfold onW at e
      dsimp only at e
      split at e
      · cases e
      · rename_i v2 n2 e2
        split at e2
        · split at e2
          · rename_i v hv
            cases e2
            cases e
            rw [en] at hv
            refine ⟨M, wt, L, S', ss, i, s, n, v, rfl, g9, x9, few, hs, hv, fun H10 f10 g10 x10 => ?_⟩
            have ra := rel_adv rel (takeSt s n)
            refine q _ H10 _ _ ((FrW.of (sA.trans s9)).trans f10) g10 x10 ?_ ?_ rfl
            · rw [en] at ra ⊢
              rw [show (takeSt s n).out.toList = [] from rfl, List.append_nil] at ra
              exact ra
            · rw [List.length_append, List.length_take, List.length_singleton]
              omega
          · cases e2
        · cases e2
    | swap n =>
      refine wp_cons (ps_set (i := 2) sc_exe.nd rfl (.inl rfl) (pe_ix (r := rIxT K) ix_tup (pv 1) pe_int (fun _ _ => rfl))) ?_
      refine use_set (i := 2) (rd_ixT (d := .str "swap") rfl (S.rd (i := 1) rfl) rd_int) S.g fun v1 H1 s1 g1 r1 => ?_
      have S : En K M (σ0.set 2 (some v1)) H1 _ := ⟨(S.e.same s1).set (i := 2) r1, g1⟩
      dsimp only [List.set] at S
      show wpS _ _ _ (σ0.set 2 (some v1)) H1
      generalize σ0.set 2 (some v1) = σ1 at S ⊢
      refine wp_cons (ps_if (pt_cmpR op_eq (pv 2) pe_str (nomark _)) wpS_ok pss_nil) ?_
      refine use_if (rdt_test (rd_eqS (S.rd (i := 2) rfl) rd_str)) S.g fun H2 s2 g2 => ?_
      have S := S.same s2
      refine (if_neg (by decide +kernel)).mpr ?_
      show wpS _ _ _ _ _
      refine wp_cons (ps_if (pt_cmpR op_eq (pv 2) pe_str (nomark _)) wpS_ok pss_nil) ?_
      refine use_if (rdt_test (rd_eqS (S.rd (i := 2) rfl) rd_str)) S.g fun H3 s3 g3 => ?_
      have S := S.same s3
      refine (if_neg (by decide +kernel)).mpr ?_
      show wpS _ _ _ _ _
      refine wp_cons (ps_if (pt_cmpR op_eq (pv 2) pe_str (nomark _)) wpS_ok pss_nil) ?_
      refine use_if (rdt_test (rd_eqS (S.rd (i := 2) rfl) rd_str)) S.g fun H4 s4 g4 => ?_
      have S := S.same s4
      refine (if_pos (by decide +kernel)).mpr ?_
      show wpS _ _ _ _ _
      have sA := (((s1.trans s2).trans s3).trans s4)
      have x := x.same sA
      obtain ⟨⟨dx, h1⟩, _⟩ := id x
      refine wp_one (ps_ret (pe_meth (pv 0) W.cls W.swap G_swap hr b_swap .nil pass0 (pa_cons (pe_ix (r := rIxT K) ix_tup (pv 1) pe_int (fun _ _ => rfl)) pa_nil))) ?_
      refine ⟨_, S.e.val (i := 0) rfl, wt, dx, _, rfl, h1, wk_no (by decide +kernel) (by decide +kernel) (by decide +kernel), ?_⟩
      refine (rd_ixT (d := .int n) rfl (S.rd (i := 1) rfl) rd_int) _ (Same.refl _) S.g _ fun v9 H9 s9 g9 r9 => ?_
      cases r9
      obtain ⟨s, hs, en⟩ := rel_at rel
      have x9 := x.same s9
      rw [worked3 (op := .swap n) trivial] at e
      unfold onW at e
      dsimp only at e
      split at e
      · cases e
      · rename_i v2 n2 e2
        split at e2
        · rename_i a b ha hb
          cases e2
          cases e
          rw [en] at ha hb
          refine ⟨M, wt, L, S', ss, i, s, n, a, b, rfl, g9, x9, few, hs, ha, hb, fun v10 H10 f10 g10 x10 r10 => ?_⟩
          have ra := rel_adv rel (swapSt s n)
          refine q _ H10 _ _ ((FrW.of (sA.trans s9)).trans f10) g10 x10 ?_ ?_ r10
          · rw [en] at ra ⊢
            rw [show (swapSt s n).out.toList = [] from rfl, List.append_nil] at ra
            exact ra
          · rw [List.length_append, List.length_take, List.length_singleton]
            omega
        · cases e2
    | undo =>
      refine wp_cons (ps_set (i := 2) sc_exe.nd rfl (.inl rfl) (pe_ix (r := rIxT K) ix_tup (pv 1) pe_int (fun _ _ => rfl))) ?_
      refine use_set (i := 2) (rd_ixT (d := .str "undo") rfl (S.rd (i := 1) rfl) rd_int) S.g fun v1 H1 s1 g1 r1 => ?_
      have S : En K M (σ0.set 2 (some v1)) H1 _ := ⟨(S.e.same s1).set (i := 2) r1, g1⟩
      dsimp only [List.set] at S
      show wpS _ _ _ (σ0.set 2 (some v1)) H1
      generalize σ0.set 2 (some v1) = σ1 at S ⊢
      refine wp_cons (ps_if (pt_cmpR op_eq (pv 2) pe_str (nomark _)) wpS_ok pss_nil) ?_
      refine use_if (rdt_test (rd_eqS (S.rd (i := 2) rfl) rd_str)) S.g fun H2 s2 g2 => ?_
      have S := S.same s2
      refine (if_neg (by decide +kernel)).mpr ?_
      show wpS _ _ _ _ _
      refine wp_cons (ps_if (pt_cmpR op_eq (pv 2) pe_str (nomark _)) wpS_ok pss_nil) ?_
      refine use_if (rdt_test (rd_eqS (S.rd (i := 2) rfl) rd_str)) S.g fun H3 s3 g3 => ?_
      have S := S.same s3
      refine (if_neg (by decide +kernel)).mpr ?_
      show wpS _ _ _ _ _
      refine wp_cons (ps_if (pt_cmpR op_eq (pv 2) pe_str (nomark _)) wpS_ok pss_nil) ?_
      refine use_if (rdt_test (rd_eqS (S.rd (i := 2) rfl) rd_str)) S.g fun H4 s4 g4 => ?_
      have S := S.same s4
      refine (if_neg (by decide +kernel)).mpr ?_
      show wpS _ _ _ _ _
      have sA := (((s1.trans s2).trans s3).trans s4)
      have x := x.same sA
      obtain ⟨⟨dx, h1⟩, _⟩ := id x
      refine wp_cons (ps_if (pt_cmpR op_eq (pv 2) pe_str (nomark _)) wpS_ok pss_nil) ?_
      refine use_if (rdt_test (rd_eqS (S.rd (i := 2) rfl) rd_str)) S.g fun H9 s9 g9 => ?_
      refine (if_pos (by decide +kernel)).mpr ?_
      refine wp_one (ps_ret (pe_meth0 (pv 0) W.cls W.undo G_undo (hr.mono (by decide)) b_undo .nil pass0)) ?_
      have x9 := x.same s9
      refine ⟨_, S.e.val (i := 0) rfl, wt, dx, _, rfl, s9 _ _ h1, wk_no (by decide +kernel) (by decide +kernel) (by decide +kernel), ?_⟩
      unfold workedW at e
      dsimp only at e
      refine ⟨M, wt, L, S', ss, i, rfl, g9, x9, fun h0 => ?_, fun h0 H10 f10 g10 x10 => ?_⟩
      · subst h0
        rw [rel_undo0 rel] at e
        cases e
        exact q _ H9 ss 0 (FrW.of (sA.trans s9)) g9 x9 rel (Nat.le_succ _) rfl
      · obtain ⟨j, rfl⟩ : ∃ j, i = j + 1 := ⟨i - 1, by omega⟩
        obtain ⟨p, hp, rel2⟩ := rel_undo rel
        rw [hp] at e
        cases e
        exact q _ H10 ss j ((FrW.of (sA.trans s9)).trans f10) g10 x10 rel2 (Nat.le_succ _) rfl
    | redo =>
      refine wp_cons (ps_set (i := 2) sc_exe.nd rfl (.inl rfl) (pe_ix (r := rIxT K) ix_tup (pv 1) pe_int (fun _ _ => rfl))) ?_
      refine use_set (i := 2) (rd_ixT (d := .str "redo") rfl (S.rd (i := 1) rfl) rd_int) S.g fun v1 H1 s1 g1 r1 => ?_
      have S : En K M (σ0.set 2 (some v1)) H1 _ := ⟨(S.e.same s1).set (i := 2) r1, g1⟩
      dsimp only [List.set] at S
      show wpS _ _ _ (σ0.set 2 (some v1)) H1
      generalize σ0.set 2 (some v1) = σ1 at S ⊢
      refine wp_cons (ps_if (pt_cmpR op_eq (pv 2) pe_str (nomark _)) wpS_ok pss_nil) ?_
      refine use_if (rdt_test (rd_eqS (S.rd (i := 2) rfl) rd_str)) S.g fun H2 s2 g2 => ?_
      have S := S.same s2
      refine (if_neg (by decide +kernel)).mpr ?_
      show wpS _ _ _ _ _
      refine wp_cons (ps_if (pt_cmpR op_eq (pv 2) pe_str (nomark _)) wpS_ok pss_nil) ?_
      refine use_if (rdt_test (rd_eqS (S.rd (i := 2) rfl) rd_str)) S.g fun H3 s3 g3 => ?_
      have S := S.same s3
      refine (if_neg (by decide +kernel)).mpr ?_
      show wpS _ _ _ _ _
      refine wp_cons (ps_if (pt_cmpR op_eq (pv 2) pe_str (nomark _)) wpS_ok pss_nil) ?_
      refine use_if (rdt_test (rd_eqS (S.rd (i := 2) rfl) rd_str)) S.g fun H4 s4 g4 => ?_
      have S := S.same s4
      refine (if_neg (by decide +kernel)).mpr ?_
      show wpS _ _ _ _ _
      have sA := (((s1.trans s2).trans s3).trans s4)
      have x := x.same sA
      obtain ⟨⟨dx, h1⟩, _⟩ := id x
      refine wp_cons (ps_if (pt_cmpR op_eq (pv 2) pe_str (nomark _)) wpS_ok pss_nil) ?_
      refine use_if (rdt_test (rd_eqS (S.rd (i := 2) rfl) rd_str)) S.g fun H9 s9 g9 => ?_
      refine (if_neg (by decide +kernel)).mpr ?_
      refine wp_one (ps_ret (pe_meth0 (pv 0) W.cls W.redo G_redo (hr.mono (by decide)) b_redo .nil pass0)) ?_
      have x9 := x.same s9
      refine ⟨_, S.e.val (i := 0) rfl, wt, dx, _, rfl, s9 _ _ h1, wk_no (by decide +kernel) (by decide +kernel) (by decide +kernel), ?_⟩
      unfold workedW at e
      dsimp only at e
      refine ⟨M, wt, L, S', ss, i, rfl, g9, x9, fun h0 => ?_, fun h0 H10 f10 g10 x10 => ?_⟩
      · rw [rel_redo0 rel h0] at e
        cases e
        exact q _ H9 ss i (FrW.of (sA.trans s9)) g9 x9 rel (Nat.le_succ _) rfl
      · obtain ⟨u, hu, rel2⟩ := rel_redo rel h0
        rw [hu] at e
        cases e
        exact q _ H10 ss (i + 1) ((FrW.of (sA.trans s9)).trans f10) g10 x10 rel2 (Nat.le_succ _) rfl
end
end SC
set_option maxRecDepth 100000
set_option maxHeartbeats 2000000
namespace SC
open PySem PySem.Spec PyProof.Rows L2 TL
section
variable {P : Program} {w : World} {K : PySem.W.Frag} {mg : Str → Option Value} {base : Heap}
theorem ok_executeX {f : Addr} {fd dp dt dsw : FuncData} (F : Fun K "execute" "Worktop.execute" s_Worktop_execute f fd) (W : Wk K mg)
    (X_put : FnOk P w K mg base (L2.CX P w) 12 (He.ma K (WkC K) "put") dp ["self", "number"] (spPutX K)) (b_put : Binds K dp ["self", "number"] []) (X_take : FnOk P w K mg base (L2.CX P w) 12 (He.ma K (WkC K) "take") dt ["self", "index"] (spTakeX K)) (b_take : Binds K dt ["self", "index"] [])
    (X_swap : FnOk P w K mg base (L2.CX P w) 12 (He.ma K (WkC K) "swap") dsw ["self", "index"] (spSwapX K)) (b_swap : Binds K dsw ["self", "index"] []) :
    FnOk P w K mg base (L2.CX P w) 13 f fd ["self", "operation"] (spDoX K) := by
  refine F.okX sc_exe (fun vs H Q E h => ?_) (fun cdv A outer s0 H vs Q E hr h => ?_)
  · obtain ⟨M, wt, L, S, ss, i, op, w, e, v0, rfl, _⟩ := h
    rfl
  · obtain ⟨M, wt, L, S', ss, i, op, w, e, v0, rfl, r0, ok, g, x, rel, hl, he, q⟩ := h
    refine ⟨_, wpS_ok, ?_⟩
    have E0' : Env K M (L2.start nmExe [.ref wt, v0]) H [.val (.ref wt), .val v0, .any] := env_start
    have S : En K M (L2.start nmExe [.ref wt, v0]) H [.val (.ref wt), .dat op.d, .any] := ⟨E0'.asD (i := 1) rfl r0, g⟩
    generalize L2.start nmExe [.ref wt, v0] = σ0 at S ⊢
    clear E0'
    cases op with
    | put n =>
      refine wp_cons (ps_set (i := 2) sc_exe.nd rfl (.inl rfl) (pe_ix (r := rIxT K) ix_tup (pv 1) pe_int (fun _ _ => rfl))) ?_
      refine use_set (i := 2) (rd_ixT (d := .str "put") rfl (S.rd (i := 1) rfl) rd_int) S.g fun v1 H1 s1 g1 r1 => ?_
      have S : En K M (σ0.set 2 (some v1)) H1 _ := ⟨(S.e.same s1).set (i := 2) r1, g1⟩
      dsimp only [List.set] at S
      show wpS _ _ _ (σ0.set 2 (some v1)) H1
      generalize σ0.set 2 (some v1) = σ1 at S ⊢
      refine wp_cons (ps_if (pt_cmpR op_eq (pv 2) pe_str (nomark _)) wpS_ok pss_nil) ?_
      refine use_if (rdt_test (rd_eqS (S.rd (i := 2) rfl) rd_str)) S.g fun H2 s2 g2 => ?_
      have S := S.same s2
      refine (if_pos (by decide +kernel)).mpr ?_
      show wpS _ _ _ _ _
      have sA := (s1.trans s2)
      have x := x.same sA
      obtain ⟨⟨dx, h1⟩, _⟩ := id x
      refine wp_one (ps_ret (pe_meth (pv 0) W.cls W.put X_put hr b_put .nil (passes_call (takes_of rfl rfl rfl rfl) (fun _ _ _ _ h => h)) (pa_cons (pe_ix (r := rIxT K) ix_tup (pv 1) pe_int (fun _ _ => rfl)) pa_nil))) ?_
      refine ⟨_, S.e.val (i := 0) rfl, wt, dx, _, rfl, h1, wk_no (by decide +kernel) (by decide +kernel) (by decide +kernel), ?_⟩
      refine (rd_ixT (d := .int n) rfl (S.rd (i := 1) rfl) rd_int) _ (Same.refl _) S.g _ fun v9 H9 s9 g9 r9 => ?_
      cases r9
      obtain ⟨s, hs, en⟩ := rel_at rel
      have x9 := x.same s9
      have q9 : BareErr K H9 E e := fun H' s' => q H' ((sA.trans s9).trans s')
      rw [worked3 (op := .put n) trivial] at he
      unfold onW at he
      dsimp only at he
      split at he
      · rename_i e2 h2
        cases he
        split at h2
        · cases h2
          rename_i hm
          exact ⟨_, n, rfl, fun z => absurd z.2 (by omega), q9⟩
        · cases h2
      · cases he
    | take n =>
      refine wp_cons (ps_set (i := 2) sc_exe.nd rfl (.inl rfl) (pe_ix (r := rIxT K) ix_tup (pv 1) pe_int (fun _ _ => rfl))) ?_
      refine use_set (i := 2) (rd_ixT (d := .str "take") rfl (S.rd (i := 1) rfl) rd_int) S.g fun v1 H1 s1 g1 r1 => ?_
      have S : En K M (σ0.set 2 (some v1)) H1 _ := ⟨(S.e.same s1).set (i := 2) r1, g1⟩
      dsimp only [List.set] at S
      show wpS _ _ _ (σ0.set 2 (some v1)) H1
      generalize σ0.set 2 (some v1) = σ1 at S ⊢
      refine wp_cons (ps_if (pt_cmpR op_eq (pv 2) pe_str (nomark _)) wpS_ok pss_nil) ?_
      refine use_if (rdt_test (rd_eqS (S.rd (i := 2) rfl) rd_str)) S.g fun H2 s2 g2 => ?_
      have S := S.same s2
      refine (if_neg (by decide +kernel)).mpr ?_
      show wpS _ _ _ _ _
      refine wp_cons (ps_if (pt_cmpR op_eq (pv 2) pe_str (nomark _)) wpS_ok pss_nil) ?_
      refine use_if (rdt_test (rd_eqS (S.rd (i := 2) rfl) rd_str)) S.g fun H3 s3 g3 => ?_
      have S := S.same s3
      refine (if_pos (by decide +kernel)).mpr ?_
      show wpS _ _ _ _ _
      have sA := ((s1.trans s2).trans s3)
      have x := x.same sA
      obtain ⟨⟨dx, h1⟩, _⟩ := id x
      refine wp_one (ps_ret (pe_meth (pv 0) W.cls W.take X_take hr b_take .nil (passes_call (takes_of rfl rfl rfl rfl) (fun _ _ _ _ h => h)) (pa_cons (pe_ix (r := rIxT K) ix_tup (pv 1) pe_int (fun _ _ => rfl)) pa_nil))) ?_
      refine ⟨_, S.e.val (i := 0) rfl, wt, dx, _, rfl, h1, wk_no (by decide +kernel) (by decide +kernel) (by decide +kernel), ?_⟩
      refine (rd_ixT (d := .int n) rfl (S.rd (i := 1) rfl) rd_int) _ (Same.refl _) S.g _ fun v9 H9 s9 g9 r9 => ?_
      cases r9
      obtain ⟨s, hs, en⟩ := rel_at rel
      have x9 := x.same s9
      have q9 : BareErr K H9 E e := fun H' s' => q H' ((sA.trans s9).trans s')
      rw [worked3 (op := .take n) trivial] at he
      unfold onW at he
      dsimp only at he
      split at he
      · rename_i e2 h2
        cases he
        split at h2
        · rename_i hk
          split at h2
          · cases h2
          · rename_i hn
            cases h2
            rw [en] at hk hn hl
            dsimp only at hk hn hl
            refine ⟨M, wt, L, S', ss, i, s, n, .number, rfl, g9, x9, hs, .inr ⟨hk, ?_, rfl⟩, q9⟩
            have hk2 : n < s.hs.length := by omega
            rw [List.getElem?_eq_getElem hk2] at hn ⊢
            cases hx : s.hs[n] with
            | none => rfl
            | some v => exact absurd (by rw [hx]) (hn v)
        · rename_i hk
          cases h2
          rw [en] at hk
          exact ⟨M, wt, L, S', ss, i, s, n, .cell, rfl, g9, x9, hs, .inl ⟨by dsimp only at hk; omega, rfl⟩, q9⟩
      · cases he
    | swap n =>
      refine wp_cons (ps_set (i := 2) sc_exe.nd rfl (.inl rfl) (pe_ix (r := rIxT K) ix_tup (pv 1) pe_int (fun _ _ => rfl))) ?_
      refine use_set (i := 2) (rd_ixT (d := .str "swap") rfl (S.rd (i := 1) rfl) rd_int) S.g fun v1 H1 s1 g1 r1 => ?_
      have S : En K M (σ0.set 2 (some v1)) H1 _ := ⟨(S.e.same s1).set (i := 2) r1, g1⟩
      dsimp only [List.set] at S
      show wpS _ _ _ (σ0.set 2 (some v1)) H1
      generalize σ0.set 2 (some v1) = σ1 at S ⊢
      refine wp_cons (ps_if (pt_cmpR op_eq (pv 2) pe_str (nomark _)) wpS_ok pss_nil) ?_
      refine use_if (rdt_test (rd_eqS (S.rd (i := 2) rfl) rd_str)) S.g fun H2 s2 g2 => ?_
      have S := S.same s2
      refine (if_neg (by decide +kernel)).mpr ?_
      show wpS _ _ _ _ _
      refine wp_cons (ps_if (pt_cmpR op_eq (pv 2) pe_str (nomark _)) wpS_ok pss_nil) ?_
      refine use_if (rdt_test (rd_eqS (S.rd (i := 2) rfl) rd_str)) S.g fun H3 s3 g3 => ?_
      have S := S.same s3
      refine (if_neg (by decide +kernel)).mpr ?_
      show wpS _ _ _ _ _
      refine wp_cons (ps_if (pt_cmpR op_eq (pv 2) pe_str (nomark _)) wpS_ok pss_nil) ?_
      refine use_if (rdt_test (rd_eqS (S.rd (i := 2) rfl) rd_str)) S.g fun H4 s4 g4 => ?_
      have S := S.same s4
      refine (if_pos (by decide +kernel)).mpr ?_
      show wpS _ _ _ _ _
      have sA := (((s1.trans s2).trans s3).trans s4)
      have x := x.same sA
      obtain ⟨⟨dx, h1⟩, _⟩ := id x
      refine wp_one (ps_ret (pe_meth (pv 0) W.cls W.swap X_swap hr b_swap .nil (passes_call (takes_of rfl rfl rfl rfl) (fun _ _ _ _ h => h)) (pa_cons (pe_ix (r := rIxT K) ix_tup (pv 1) pe_int (fun _ _ => rfl)) pa_nil))) ?_
      refine ⟨_, S.e.val (i := 0) rfl, wt, dx, _, rfl, h1, wk_no (by decide +kernel) (by decide +kernel) (by decide +kernel), ?_⟩
      refine (rd_ixT (d := .int n) rfl (S.rd (i := 1) rfl) rd_int) _ (Same.refl _) S.g _ fun v9 H9 s9 g9 r9 => ?_
      cases r9
      obtain ⟨s, hs, en⟩ := rel_at rel
      have x9 := x.same s9
      have q9 : BareErr K H9 E e := fun H' s' => q H' ((sA.trans s9).trans s')
      rw [worked3 (op := .swap n) trivial] at he
      unfold onW at he
      dsimp only at he
      split at he
      · rename_i e2 h2
        cases he
        split at h2
        · cases h2
        · rename_i hn
          cases h2
          rw [en] at hn
          dsimp only at hn
          refine ⟨M, wt, L, S', ss, i, s, n, rfl, g9, x9, hs, ?_, q9⟩
          rcases Nat.lt_or_ge (n + 1) s.rs.length with z | z
          · exact absurd (List.getElem?_eq_getElem z) (hn _ _ (List.getElem?_eq_getElem (by omega)))
          · exact z
      · cases he
    | undo =>
      unfold workedW at he
      dsimp only at he
      split at he <;> cases he
    | redo =>
      unfold workedW at he
      dsimp only at he
      split at he <;> cases he
end
end SC
set_option maxRecDepth 100000
set_option maxHeartbeats 2000000
namespace SC
open PySem PySem.Spec PyProof.Rows L2 TL
def ROn (ds : List D) (d : D) : Prop := ∃ (n : N3) (op : Op), ds = [n.d, op.d] ∧ n.ok 1000 ∧ op.is3 ∧ d = onD n (onW n op)
def nmOn : List Str := ["_law_now", "_law_operation_here", "_law_labels_here", "_law_held", "_law_outs", "_law_word", "_law_value", "_law_out", "_law_later"]
theorem sc_On : FnScope nmOn ["_law_now", "_law_operation_here"] (defScope s__law_worked_on) := ⟨rfl, rfl, rfl, by decide +kernel, rfl, by decide +kernel, by decide +kernel⟩
theorem lb_swp {rs : List Rule} {k : Nat} {x y : Rule} (hx : rs[k]? = some x) (hy : rs[k + 1]? = some y) : lbD (swp rs k) = (lbD rs).take k ++ [D.str y.label, D.str x.label] ++ (lbD rs).drop (k + 2) := by
  have kl : k + 1 < rs.length := by
    rcases Nat.lt_or_ge (k + 1) rs.length with u | u
    · exact u
    · rw [List.getElem?_eq_none u] at hy; cases hy
  have e : swp rs k = rs.take k ++ [y, x] ++ rs.drop (k + 2) := by
    unfold swp
    rw [hx, hy]
    dsimp only
    apply List.ext_getElem?
    intro j
    rw [List.append_assoc]
    rcases Nat.lt_or_ge j k with u | u
    · rw [List.getElem?_set_ne (by omega), List.getElem?_set_ne (by omega), List.getElem?_append_left (by rw [List.length_take]; omega), List.getElem?_take_of_lt u]
    · have tl : (rs.take k).length = k := by rw [List.length_take]; omega
      rw [List.getElem?_append_right (by omega), tl]
      rcases Nat.eq_or_lt_of_le u with rfl | u
      · rw [List.getElem?_set_ne (by omega), List.getElem?_set_self (by omega), Nat.sub_self]
        rfl
      rcases Nat.eq_or_lt_of_le u with rfl | u
      · rw [List.getElem?_set_self (by rw [List.length_set]; omega)]
        have : k + 1 - k = 1 := by omega
        rw [this]
        rfl
      · rw [List.getElem?_set_ne (by omega), List.getElem?_set_ne (by omega)]
        obtain ⟨m, rfl⟩ : ∃ m, j = k + 2 + m := ⟨j - (k + 2), by omega⟩
        have : k + 2 + m - k = m + 2 := by omega
        rw [this]
        show _ = (y :: x :: rs.drop (k + 2))[m + 2]?
        rw [List.getElem?_cons_succ, List.getElem?_cons_succ, List.getElem?_drop]
  rw [e]
  unfold lbD
  simp [List.map_append, List.map_take, List.map_drop]
theorem lb_at {rs : List Rule} {k : Nat} {x : Rule} (h : rs[k]? = some x) : (lbD rs)[k]? = some (.str x.label) := by
  unfold lbD
  rw [List.map_map, List.getElem?_map, h]
  rfl
theorem lb_len (rs : List Rule) : (lbD rs).length = rs.length := by
  unfold lbD
  rw [List.length_map, List.length_map]
section
variable {P : Program} {w : World} {K : PySem.W.Frag} {mg : Str → Option Value} {base : Heap}
theorem ok_on {f : Addr} {fd : FuncData} (F : Fun K "_law_worked_on" "_law_worked_on" s__law_worked_on f fd) (B : Bln mg) (GS : Fu P w K mg base CX0 2 "_law_step" ["_law_labels_here", "_law_held", "_law_number"] (spP K RStep)) : FnOk P w K mg base CX0 3 f fd ["_law_now", "_law_operation_here"] (spP K ROn) := by
  refine F.ok sc_On (fun vs H Q E h => ?_) (fun cdv A outer s0 H vs Q E hr h => ?_)
  · obtain ⟨M, ds, d, ⟨n, op, rfl, _⟩, _, r, _⟩ := h
    exact r.len
  · obtain ⟨M, ds, d, ⟨n, op, rfl, ⟨o1, o2, o3, o4, o5⟩, h3, rfl⟩, g, r, q⟩ := h
    have zz := line_big
    refine ⟨_, wpS_ok, ?_⟩
    have S : En K M (L2.start nmOn vs) H [.dat n.d, .dat op.d, .any, .any, .any, .any, .any, .any, .any] := ⟨env_startD (N := nmOn) r, g⟩
    generalize L2.start nmOn vs = σ0 at S ⊢
    refine en_tup3 (ps_asg (pv 0) (pg_tup rfl (pgs_cons (pg_name (i := 2) sc_On.nd rfl (by first | exact .inl rfl | exact .inr rfl)) (pgs_cons (pg_name (i := 3) sc_On.nd rfl (by first | exact .inl rfl | exact .inr rfl)) (pgs_cons (pg_name (i := 4) sc_On.nd rfl (by first | exact .inl rfl | exact .inr rfl)) pgs_nil))))) S (S.rd (i := 0) rfl) fun σ1 H1 s1 S => ?_
    dsimp only [List.set] at S
    cases op with
    | undo => exact h3.elim
    | redo => exact h3.elim
    | put m =>
      refine en_tup2 (ps_asg (pv 1) (pg_tup rfl (pgs_cons (pg_name (i := 5) sc_On.nd rfl (by first | exact .inl rfl | exact .inr rfl)) (pgs_cons (pg_name (i := 6) sc_On.nd rfl (by first | exact .inl rfl | exact .inr rfl)) pgs_nil)))) S (S.rd (i := 1) rfl) fun σ2 H2 s2 S => ?_
      dsimp only [List.set] at S
      refine en_if (ps_if (pt_cmpR op_eq (pv 5) pe_str (nomark _)) wpS_ok pss_nil) S (rdt_test (rd_eqS (S.rd (i := 5) rfl) rd_str)) (fun _ H3 s3 S => ?_) (fun z => absurd z (by decide +kernel))
      refine en_if (ps_if (pt_cmpR op_gt (pv 6) (pe_op op_pow pe_int pe_int) (nomark _)) wpS_ok pss_nil) S (rdt_test (rd_gt (S.rd (i := 6) rfl) (rd_pow ⟨by decide, by decide, by decide⟩ rd_int rd_int))) (fun z H4 s4 S => ?_) (fun z H4 s4 S => ?_)
      · have hz : 1000000000 < m := of_decide_eq_true z
        refine en_ret (ps_ret (pe_tup (pa_cons pe_str (pa_cons pe_int (pa_cons (pv 0) pa_nil))))) S (rd_tupA (rda_cons rd_str (rda_cons rd_int (rda_one (S.rd (i := 0) rfl))))) fun v H5 s5 g5 r5 => q v H5 (((((s1.trans s2).trans s3).trans s4)).trans s5) g5 ?_
        show Rp K _ (onD n (if 1000000000 < m then Sum.inl Er.number else _)) v
        rw [if_pos hz]
        exact r5
      · have hz : ¬ 1000000000 < m := of_decide_eq_false z
        refine en_tup2 (ps_asg (pe_fu GS hr (by decide) (by rfl) pass0 (pa_cons (pv 2) (pa_cons (pv 3) (pa_cons (pv 6) pa_nil)))) (pg_tup rfl (pgs_cons (pg_name (i := 3) sc_On.nd rfl (by first | exact .inl rfl | exact .inr rfl)) (pgs_cons (pg_name (i := 7) sc_On.nd rfl (by first | exact .inl rfl | exact .inr rfl)) pgs_nil)))) S (rd_P ⟨n.rs, n.hs, m, rfl, o1, o4, o3, rfl⟩ (rda_cons (S.rd (i := 2) rfl) (rda_cons (S.rd (i := 3) rfl) (rda_one (S.rd (i := 6) rfl))))) fun σ3 H5 s5 S => ?_
        dsimp only [List.set] at S
        have ro : Rd K M (tOp rCat (tVar 4) (tOp rRep (tLst (tCons (tVar 7) tNil)) (tCB (fun xs H Q => (∃ i, xs = [.int i] ∧ Q (.int i) H) ∨ ∃ k, xs = [.bl k] ∧ Q (.int (if k then 1 else 0)) H) (tCons (tOp (fun x y H Q => y = .non ∧ Q (.bl (!decide (x = .non))) H) (tVar 7) (tC .non)) tNil)))) σ3 H5 (.lst ((n.os ++ (stepR n.rs n.hs (some m)).2.toList).map D.int)) := by
          cases ho : (stepR n.rs n.hs (some m)).2 with
          | none =>
            refine (rd_cat (l := n.os.map D.int) (m := []) ?_ (S.rd (i := 4) rfl) ((rd_rep (n := 0) (by decide) (by decide) (by show _ * 0 ≤ _; omega) (rd_lstA (rda_one (S.rd (i := 7) rfl))) ((rd_intB (rda_one (rd_notN (S.rd (i := 7) rfl) rd_non))).cast (by rw [ho]; rfl))).cast rfl)).cast (by simp)
            rw [List.length_map]; show _ + 0 ≤ _; omega
          | some z0 =>
            have S7 := S.rd (i := 7) rfl
            rw [ho] at S7
            refine (rd_cat (l := n.os.map D.int) (m := [D.int z0]) ?_ (S.rd (i := 4) rfl) ((rd_rep (n := 1) (by decide) (by decide) (by show 1 * 1 ≤ _; omega) (rd_lstA (rda_one S7)) ((rd_intB (rda_one (rd_notN S7 rd_non))).cast rfl)).cast rfl)).cast (by simp)
            rw [List.length_map]; show _ + 1 ≤ _; omega
        refine en_ret (ps_ret (pe_tup (pa_cons pe_str (pa_cons (pv 7) (pa_cons (pe_tup (pa_cons (pv 2) (pa_cons (pv 3) (pa_cons (pe_op op_cat (pv 4) (pe_op op_rep (pe_lst (pa_cons (pv 7) pa_nil)) (pe_callTy call_int1 (by rfl) B.int boot_int' (pa_cons (pe_cmpR op_notN (pv 7) pe_non (nomark _)) pa_nil)))) pa_nil)))) pa_nil))))) S (rd_tupA (rda_cons rd_str (rda_cons (S.rd (i := 7) rfl) (rda_one (rd_tupA (rda_cons (S.rd (i := 2) rfl) (rda_cons (S.rd (i := 3) rfl) (rda_one ro)))))))) fun v H6 s6 g6 r6 => q v H6 ((((((s1.trans s2).trans s3).trans s4)).trans s5).trans s6) g6 ?_
        show Rp K _ (onD n (if 1000000000 < m then Sum.inl Er.number else _)) v
        rw [if_neg hz]
        exact r6
    | take m =>
      refine en_tup2 (ps_asg (pv 1) (pg_tup rfl (pgs_cons (pg_name (i := 5) sc_On.nd rfl (by first | exact .inl rfl | exact .inr rfl)) (pgs_cons (pg_name (i := 6) sc_On.nd rfl (by first | exact .inl rfl | exact .inr rfl)) pgs_nil)))) S (S.rd (i := 1) rfl) fun σ2 H2 s2 S => ?_
      dsimp only [List.set] at S
      refine en_if (ps_if (pt_cmpR op_eq (pv 5) pe_str (nomark _)) wpS_ok pss_nil) S (rdt_test (rd_eqS (S.rd (i := 5) rfl) rd_str)) (fun z => absurd z (by decide +kernel)) (fun _ H3 s3 S => ?_)
      refine en_if (ps_if (pt_cmpR op_ge (pv 6) (pe_op op_sub (pe_callB (r := rLenS K) call_len_seq (by rfl) B.len boot_len' (pa_cons (pv 2) pa_nil)) (pe_callTy call_int1 (by rfl) B.int boot_int' (pa_cons (pe_cmpR op_eq (pv 5) pe_str (nomark _)) pa_nil))) (nomark _)) wpS_ok pss_nil) S ((rdt_test (rd_ge (S.rd (i := 6) rfl) (rd_sub (rd_lenL (rda_one (S.rd (i := 2) rfl))) ((rd_intB (rda_one (rd_eqS (S.rd (i := 5) rfl) rd_str))).cast (d' := .int 0) (congrArg D.int (by decide +kernel)))))).cast (b' := decide (n.rs.length ≤ m)) (by rw [lb_len]; apply decide_eq_decide.mpr; omega)) (fun z H4 s4 S => ?_) (fun z H4 s4 S => ?_)
      · have hz : n.rs.length ≤ m := of_decide_eq_true z
        refine en_ret (ps_ret (pe_tup (pa_cons pe_str (pa_cons pe_int (pa_cons (pv 0) pa_nil))))) S (rd_tupA (rda_cons rd_str (rda_cons rd_int (rda_one (S.rd (i := 0) rfl))))) fun v H5 s5 g5 r5 => q v H5 ((((s1.trans s2).trans s3).trans s4).trans s5) g5 ?_
        show Rp K _ (onD n (if m < n.rs.length then _ else Sum.inl Er.cell)) v
        rw [if_neg (by omega)]
        exact r5
      · have hz : ¬ n.rs.length ≤ m := of_decide_eq_false z
        refine en_if (ps_if (pt_cmpR op_eq (pv 5) pe_str (nomark _)) wpS_ok pss_nil) S (rdt_test (rd_eqS (S.rd (i := 5) rfl) rd_str)) (fun z => absurd z (by decide +kernel)) (fun _ H5 s5 S => ?_)
        have hm : n.hs[m]? = some (n.hs[m]'(by omega)) := List.getElem?_eq_getElem (by omega)
        refine en_if (ps_if (pt_cmpR op_isN (pe_ix (r := rIxL K) ix_list (pv 3) (pv 6) (fun _ _ => rfl)) pe_non (nomark _)) wpS_ok pss_nil) S (rdt_test (rd_isN (rd_atM (f := dO) hm (S.rd (i := 3) rfl) (S.rd (i := 6) rfl)) rd_non)) (fun z H6 s6 S => ?_) (fun z H6 s6 S => ?_)
        · refine en_ret (ps_ret (pe_tup (pa_cons pe_str (pa_cons pe_int (pa_cons (pv 0) pa_nil))))) S (rd_tupA (rda_cons rd_str (rda_cons rd_int (rda_one (S.rd (i := 0) rfl))))) fun v H7 s7 g7 r7 => q v H7 ((((((s1.trans s2).trans s3).trans s4).trans s5).trans s6).trans s7) g7 ?_
          unfold onW
          dsimp only
          rw [if_pos (by omega), hm]
          cases hx : n.hs[m]'(by omega) with
          | none => exact r7
          | some v => rw [hx] at z; cases z
        · obtain ⟨v0, hv⟩ : ∃ v0, n.hs[m]'(by omega) = some v0 := by
            cases hx : n.hs[m]'(by omega) with
            | none => rw [hx] at z; cases z
            | some v => exact ⟨v, rfl⟩
          rw [hv] at hm
          refine en_ret (ps_ret (pe_tup (pa_cons pe_str (pa_cons (pe_ix (r := rIxL K) ix_list (pv 3) (pv 6) (fun _ _ => rfl)) (pa_cons (pe_tup (pa_cons (pv 2) (pa_cons (pe_op op_cat (pe_op op_cat (pe_slice (r := rSlL K) sl_list (pv 3) po_none (po_some (pv 6))) (pe_slice (r := rSlL K) sl_list (pv 3) (po_some (pe_op op_add (pv 6) pe_int)) po_none)) (pe_lst (pa_cons pe_non pa_nil))) (pa_cons (pv 4) pa_nil)))) pa_nil))))) S (rd_tupA (rda_cons rd_str (rda_cons (rd_atM (f := dO) hm (S.rd (i := 3) rfl) (S.rd (i := 6) rfl)) (rda_one (rd_tupA (rda_cons (S.rd (i := 2) rfl) (rda_cons (rd_catM (f := dO) (xs := n.hs.take m ++ n.hs.drop (m + 1)) (ys := [none]) ?_ (rd_catM (f := dO) ?_ (rd_takeM (S.rd (i := 3) rfl) (S.rd (i := 6) rfl)) (rd_dropM (n := m + 1) (S.rd (i := 3) rfl) ((rd_add (S.rd (i := 6) rfl) rd_int).cast rfl))) (rd_lstA (rda_one rd_non))) (rda_one (S.rd (i := 4) rfl)))))))))  fun v H7 s7 g7 r7 => q v H7 ((((((s1.trans s2).trans s3).trans s4).trans s5).trans s6).trans s7) g7 ?_
          · rw [List.length_append, List.length_take, List.length_drop, List.length_singleton]; omega
          · rw [List.length_take, List.length_drop]; omega
          · unfold onW
            dsimp only
            rw [if_pos (by omega), hm]
            exact r7
    | swap m =>
      refine en_tup2 (ps_asg (pv 1) (pg_tup rfl (pgs_cons (pg_name (i := 5) sc_On.nd rfl (by first | exact .inl rfl | exact .inr rfl)) (pgs_cons (pg_name (i := 6) sc_On.nd rfl (by first | exact .inl rfl | exact .inr rfl)) pgs_nil)))) S (S.rd (i := 1) rfl) fun σ2 H2 s2 S => ?_
      dsimp only [List.set] at S
      refine en_if (ps_if (pt_cmpR op_eq (pv 5) pe_str (nomark _)) wpS_ok pss_nil) S (rdt_test (rd_eqS (S.rd (i := 5) rfl) rd_str)) (fun z => absurd z (by decide +kernel)) (fun _ H3 s3 S => ?_)
      refine en_if (ps_if (pt_cmpR op_ge (pv 6) (pe_op op_sub (pe_callB (r := rLenS K) call_len_seq (by rfl) B.len boot_len' (pa_cons (pv 2) pa_nil)) (pe_callTy call_int1 (by rfl) B.int boot_int' (pa_cons (pe_cmpR op_eq (pv 5) pe_str (nomark _)) pa_nil))) (nomark _)) wpS_ok pss_nil) S ((rdt_test (rd_ge (S.rd (i := 6) rfl) (rd_sub (rd_lenL (rda_one (S.rd (i := 2) rfl))) ((rd_intB (rda_one (rd_eqS (S.rd (i := 5) rfl) rd_str))).cast (d' := .int 1) (congrArg D.int (by decide +kernel)))))).cast (b' := decide (n.rs.length ≤ m + 1)) (by rw [lb_len]; apply decide_eq_decide.mpr; omega)) (fun z H4 s4 S => ?_) (fun z H4 s4 S => ?_)
      · have hz : n.rs.length ≤ m + 1 := of_decide_eq_true z
        refine en_ret (ps_ret (pe_tup (pa_cons pe_str (pa_cons pe_int (pa_cons (pv 0) pa_nil))))) S (rd_tupA (rda_cons rd_str (rda_cons rd_int (rda_one (S.rd (i := 0) rfl))))) fun v H5 s5 g5 r5 => q v H5 ((((s1.trans s2).trans s3).trans s4).trans s5) g5 ?_
        unfold onW
        dsimp only
        rw [List.getElem?_eq_none (show n.rs.length ≤ m + 1 from hz)]
        cases n.rs[m]? <;> exact r5
      · have hz : ¬ n.rs.length ≤ m + 1 := of_decide_eq_false z
        refine en_if (ps_if (pt_cmpR op_eq (pv 5) pe_str (nomark _)) wpS_ok pss_nil) S (rdt_test (rd_eqS (S.rd (i := 5) rfl) rd_str)) (fun _ H5 s5 S => ?_) (fun z => absurd z (by decide +kernel))
        have hx : n.rs[m]? = some (n.rs[m]'(by omega)) := List.getElem?_eq_getElem (by omega)
        have hy : n.rs[m + 1]? = some (n.rs[m + 1]'(by omega)) := List.getElem?_eq_getElem (by omega)
        generalize n.rs[m]'(by omega) = x at hx
        generalize n.rs[m + 1]'(by omega) = y at hy
        have ll := lb_len n.rs
        refine en_set (ps_set (i := 8) sc_On.nd rfl (by first | exact .inl rfl | exact .inr rfl) (pe_op op_cat (pe_op op_cat (pe_slice (r := rSlL K) sl_list (pv 2) po_none (po_some (pv 6))) (pe_lst (pa_cons (pe_ix (r := rIxL K) ix_list (pv 2) (pe_op op_add (pv 6) pe_int) (fun _ _ => rfl)) (pa_cons (pe_ix (r := rIxL K) ix_list (pv 2) (pv 6) (fun _ _ => rfl)) pa_nil)))) (pe_slice (r := rSlL K) sl_list (pv 2) (po_some (pe_op op_add (pv 6) pe_int)) po_none))) S ((rd_cat ?_ (rd_cat ?_ (rd_slL (S.rd (i := 2) rfl) rdo_none (rdo_some (S.rd (i := 6) rfl))) (rd_lstA (rda_cons (rd_ixL (atI_nat (j := m + 1) (lb_at hy)) (S.rd (i := 2) rfl) (rd_add (S.rd (i := 6) rfl) rd_int)) (rda_one (rd_ixL (atI_nat (lb_at hx)) (S.rd (i := 2) rfl) (S.rd (i := 6) rfl)))))) (rd_slL (S.rd (i := 2) rfl) (rdo_some (rd_add (S.rd (i := 6) rfl) rd_int)) rdo_none)).cast (d' := .lst (lbD (swp n.rs m))) ?_) fun σ3 H6 s6 S => ?_
        · rw [cut_to, show ((m : Int) + 2) = ((m + 2 : Nat) : Int) from rfl, cut_from, List.length_append, List.length_take, List.length_drop, ll]; show _ + 2 + _ ≤ _; omega
        · rw [cut_to, List.length_take, ll]; show _ + 2 ≤ _; omega
        · rw [cut_to, show ((m : Int) + 2) = ((m + 2 : Nat) : Int) from rfl, cut_from, lb_swp hx hy]
        dsimp only [List.set] at S
        have l1 : (swp n.rs m)[m]? = some y := by
          unfold swp; rw [hx, hy]; dsimp only
          rw [List.getElem?_set_ne (by omega), List.getElem?_set_self (by omega)]
        have l2 : (swp n.rs m)[m + 1]? = some x := by
          unfold swp; rw [hx, hy]; dsimp only
          rw [List.getElem?_set_self (by rw [List.length_set]; omega)]
        refine en_ret (ps_ret (pe_tup (pa_cons pe_str (pa_cons (pe_tup (pa_cons (pe_ix (r := rIxL K) ix_list (pv 8) (pv 6) (fun _ _ => rfl)) (pa_cons (pe_ix (r := rIxL K) ix_list (pv 8) (pe_op op_add (pv 6) pe_int) (fun _ _ => rfl)) pa_nil))) (pa_cons (pe_tup (pa_cons (pv 8) (pa_cons (pv 3) (pa_cons (pv 4) pa_nil)))) pa_nil))))) S (rd_tupA (rda_cons rd_str (rda_cons (rd_tupA (rda_cons (rd_ixL (atI_nat (lb_at l1)) (S.rd (i := 8) rfl) (S.rd (i := 6) rfl)) (rda_one (rd_ixL (atI_nat (j := m + 1) (lb_at l2)) (S.rd (i := 8) rfl) (rd_add (S.rd (i := 6) rfl) rd_int))))) (rda_one (rd_tupA (rda_cons (S.rd (i := 8) rfl) (rda_cons (S.rd (i := 3) rfl) (rda_one (S.rd (i := 4) rfl))))))))) fun v H7 s7 g7 r7 => q v H7 ((((((s1.trans s2).trans s3).trans s4).trans s5).trans s6).trans s7) g7 ?_
        unfold onW
        dsimp only
        rw [hx, hy]
        exact r7
end
end SC
set_option maxRecDepth 100000
set_option maxHeartbeats 2000000
namespace SC
open PySem PySem.Spec PyProof.Rows L2 TL
def RWorked (ds : List D) (d : D) : Prop := ∃ (w : W3) (op : Op), ds = [w.d, op.d] ∧ w.ok 1000 ∧ d = workedD (workedW w op)
def nmWd : List Str := ["_law_w", "_law_operation_here", "_law_now", "_law_past", "_law_undone", "_law_word", "_law_entry", "_law_after", "_law_bad", "_law_value"]
theorem sc_Wd : FnScope nmWd ["_law_w", "_law_operation_here"] (defScope s__law_worked) := ⟨rfl, rfl, rfl, by decide +kernel, rfl, by decide +kernel, by decide +kernel⟩
theorem eqD_nil {α : Type} (f : α → D) (l : List α) : eqD (.lst (l.map f)) (.lst []) = decide (l = []) := by
  cases l <;> simp [eqD, toPy, toPyL, PyData.eqv, PyData.eqvAll]
theorem ok_n3 {n : N3} : Ok 2 n.d := .tup fun x hx => by
  rcases List.mem_cons.mp hx with rfl | hx
  · exact ok_lbs
  rcases List.mem_cons.mp hx with rfl | hx
  · exact ok_opts
  · rw [List.mem_singleton.mp hx]
    exact ok_ints
theorem Ok.up {n : Nat} {d : D} (h : Ok n d) : Ok (n + 1) d := by
  induction h with
  | non => exact .non
  | bl => exact .bl
  | int => exact .int
  | str h => exact .str h
  | lst h ih => exact .lst ih
  | tup h ih => exact .tup ih
theorem ok_past {p : Str × N3} (h : PyData.strOk p.1 = true) : Ok 3 (pastD p) := .tup fun x hx => by
  rcases List.mem_cons.mp hx with rfl | hx
  · exact .str h
  · rw [List.mem_singleton.mp hx]
    exact ok_n3
theorem ok_und {u : (Str × N3) × N3} (h : PyData.strOk u.1.1 = true) : Ok 4 (undD u) := .tup fun x hx => by
  rcases List.mem_cons.mp hx with rfl | hx
  · exact ok_past h
  · rw [List.mem_singleton.mp hx]
    exact ok_n3.up
theorem er_ne (e : Er) : ¬ e.word = "" := by cases e <;> decide +kernel
section
variable {P : Program} {w : World} {K : PySem.W.Frag} {mg : Str → Option Value} {base : Heap}
theorem en_unl3 {M : List Addr} {σ : L2.St} {H : Hp} {ρ : List Sl} {X : Cx} {st : Stmt} {b : List Stmt} {t : TE} {i j l : Nat} {x y z : D} {D : Ends} (hps : PS X st (tAsg t (gUnl K 3 (gCons (gName i) (gCons (gName j) (gCons (gName l) gNil)))))) (S : En K M σ H ρ) (h : Rd K M t σ H (.lst [x, y, z])) (k : ∀ σ' H', Same H H' → En K M σ' H' (((ρ.set i (.dat x)).set j (.dat y)).set l (.dat z)) → wpS X b D σ' H') : wpS X (st :: b) D σ H :=
  wp_cons hps (h H (Same.refl _) S.g _ fun w H2 s g2 r => by
    obtain ⟨a, vs, rfl, e, v, vs1, rfl, r1, u, vs2, rfl, r2, q, vs3, rfl, r3, r4⟩ := r
    cases r4
    exact ⟨a, [v, u, q], rfl, SqL.of (wo_le _ _ e), rfl, _, _, rfl, _, _, rfl, _, _, rfl, rfl, k _ H2 s ⟨(((S.e.same s).set r1).set r2).set r3, g2⟩⟩)
theorem ok_worked {f : Addr} {fd : FuncData} (F : Fun K "_law_worked" "_law_worked" s__law_worked f fd) (B : Bln mg) (GO : Fu P w K mg base CX0 3 "_law_worked_on" ["_law_now", "_law_operation_here"] (spP K ROn)) : FnOk P w K mg base CX0 4 f fd ["_law_w", "_law_operation_here"] (spP K RWorked) := by
  refine F.ok sc_Wd (fun vs H Q E h => ?_) (fun cdv A outer s0 H vs Q E hr h => ?_)
  · obtain ⟨M, ds, d, ⟨n, op, rfl, _⟩, _, r, _⟩ := h
    exact r.len
  · obtain ⟨M, ds, d, ⟨w, op, rfl, ⟨wo1, wo2, wo3, wo4, wo5⟩, rfl⟩, g, r, q⟩ := h
    have zz := line_big
    refine ⟨_, wpS_ok, ?_⟩
    have S : En K M (L2.start nmWd vs) H [.dat w.d, .dat op.d, .any, .any, .any, .any, .any, .any, .any, .any] := ⟨env_startD (N := nmWd) r, g⟩
    generalize L2.start nmWd vs = σ0 at S ⊢
    refine en_unl3 (ps_asg (pv 0) (pg_unl rfl (pgs_cons (pg_name (i := 2) sc_Wd.nd rfl (.inl rfl)) (pgs_cons (pg_name (i := 3) sc_Wd.nd rfl (.inl rfl)) (pgs_cons (pg_name (i := 4) sc_Wd.nd rfl (.inl rfl)) pgs_nil))))) S (S.rd (i := 0) rfl) fun σ1 H1 s1 S => ?_
    dsimp only [List.set] at S
    have okP : Ok 4 (.lst (w.past.map pastD)) := .lst fun x hx => by
      obtain ⟨p, hp, rfl⟩ := List.mem_map.mp hx
      exact ok_past (wo2 p hp).1
    have okU : Ok 5 (.lst (w.und.map undD)) := .lst fun x hx => by
      obtain ⟨p, hp, rfl⟩ := List.mem_map.mp hx
      exact ok_und (wo3 p hp).1.1
    have ok0 : Ok 1 (.lst []) := .lst (n := 0) fun x hx => by cases hx
    cases op with
    | put n =>
      refine en_set (ps_set (i := 5) sc_Wd.nd rfl (by first | exact .inl rfl | exact .inr rfl) (pe_ix (r := rIxT K) ix_tup (pv 1) pe_int (fun _ _ => rfl))) S (rd_ixT (d := .str "put") rfl (S.rd (i := 1) rfl) rd_int) fun σ2 H2 s2 S => ?_
      dsimp only [List.set] at S
      refine en_if (ps_if (pt_cmpR op_eq (pv 5) pe_str (nomark _)) wpS_ok pss_nil) S (rdt_test (rd_eqS (S.rd (i := 5) rfl) rd_str)) (fun z => absurd z (by decide +kernel)) (fun _ H3 s3 S => ?_)
      refine en_if (ps_if (pt_cmpR op_eq (pv 5) pe_str (nomark _)) wpS_ok pss_nil) S (rdt_test (rd_eqS (S.rd (i := 5) rfl) rd_str)) (fun z => absurd z (by decide +kernel)) (fun _ H4 s4 S => ?_)
      have rO := rd_P (K := K) (M := M) (σ := σ2) (H := H4) (R := ROn) (d := onD w.now (onW w.now (.put n))) ⟨w.now, .put n, rfl, wo1, trivial, rfl⟩ (rda_cons (S.rd (i := 2) rfl) (rda_one (S.rd (i := 1) rfl)))
      have e3 := worked3 (w := w) (op := .put n) trivial
      cases hq : onW w.now (.put n) with
      | inl e =>
        rw [hq] at rO e3
        refine en_tup3 (ps_asg (pe_fu GO hr (by decide) (by rfl) pass0 (pa_cons (pv 2) (pa_cons (pv 1) pa_nil))) (pg_tup rfl (pgs_cons (pg_name (i := 8) sc_Wd.nd rfl (by first | exact .inl rfl | exact .inr rfl)) (pgs_cons (pg_name (i := 9) sc_Wd.nd rfl (by first | exact .inl rfl | exact .inr rfl)) (pgs_cons (pg_name (i := 7) sc_Wd.nd rfl (by first | exact .inl rfl | exact .inr rfl)) pgs_nil))))) S rO fun σ3 H5 s5 S => ?_
        dsimp only [List.set] at S
        refine en_if (ps_if (pt_cmpR op_ne (pv 8) pe_str (nomark _)) wpS_ok pss_nil) S (rdt_test (rd_neS (S.rd (i := 8) rfl) rd_str)) (fun _ H6 s6 S => ?_) (fun z => absurd z (by rw [decide_eq_false (er_ne e)]; decide))
        refine en_ret (ps_ret (pe_tup (pa_cons (pv 8) (pa_cons pe_int pa_nil)))) S (rd_tupA (rda_cons (S.rd (i := 8) rfl) (rda_one rd_int))) fun v H7 s7 g7 r7 => q v H7 ((((((s1.trans s2).trans s3).trans s4).trans s5).trans s6).trans s7) g7 ?_
        rw [e3]
        exact r7
      | inr p =>
        obtain ⟨v0, n0⟩ := p
        rw [hq] at rO e3
        refine en_tup3 (ps_asg (pe_fu GO hr (by decide) (by rfl) pass0 (pa_cons (pv 2) (pa_cons (pv 1) pa_nil))) (pg_tup rfl (pgs_cons (pg_name (i := 8) sc_Wd.nd rfl (by first | exact .inl rfl | exact .inr rfl)) (pgs_cons (pg_name (i := 9) sc_Wd.nd rfl (by first | exact .inl rfl | exact .inr rfl)) (pgs_cons (pg_name (i := 7) sc_Wd.nd rfl (by first | exact .inl rfl | exact .inr rfl)) pgs_nil))))) S rO fun σ3 H5 s5 S => ?_
        dsimp only [List.set] at S
        refine en_if (ps_if (pt_cmpR op_ne (pv 8) pe_str (nomark _)) wpS_ok pss_nil) S (rdt_test (rd_neS (S.rd (i := 8) rfl) rd_str)) (fun z => absurd z (by decide +kernel)) (fun _ H6 s6 S => ?_)
        refine en_ret (ps_ret (pe_tup (pa_cons pe_str (pa_cons (pv 9) (pa_cons (pe_lst (pa_cons (pv 7) (pa_cons (pe_op op_cat (pv 3) (pe_lst (pa_cons (pe_tup (pa_cons (pv 5) (pa_cons (pv 2) pa_nil))) pa_nil))) (pa_cons (pe_lst pa_nil) pa_nil)))) pa_nil))))) S (rd_tupA (rda_cons rd_str (rda_cons (S.rd (i := 9) rfl) (rda_one (rd_lstA (rda_cons (S.rd (i := 7) rfl) (rda_cons (rd_catM (f := pastD) (ys := [(("put" : Str), w.now)]) ?_ (S.rd (i := 3) rfl) (rd_lstA (rda_one (rd_tupA (rda_cons (S.rd (i := 5) rfl) (rda_one (S.rd (i := 2) rfl))))))) (rda_one (rd_lstA rda_nil)))))))))  fun v H7 s7 g7 r7 => q v H7 ((((((s1.trans s2).trans s3).trans s4).trans s5).trans s6).trans s7) g7 ?_
        · rw [List.length_singleton]; omega
        rw [e3]
        exact r7
    | take n =>
      refine en_set (ps_set (i := 5) sc_Wd.nd rfl (by first | exact .inl rfl | exact .inr rfl) (pe_ix (r := rIxT K) ix_tup (pv 1) pe_int (fun _ _ => rfl))) S (rd_ixT (d := .str "take") rfl (S.rd (i := 1) rfl) rd_int) fun σ2 H2 s2 S => ?_
      dsimp only [List.set] at S
      refine en_if (ps_if (pt_cmpR op_eq (pv 5) pe_str (nomark _)) wpS_ok pss_nil) S (rdt_test (rd_eqS (S.rd (i := 5) rfl) rd_str)) (fun z => absurd z (by decide +kernel)) (fun _ H3 s3 S => ?_)
      refine en_if (ps_if (pt_cmpR op_eq (pv 5) pe_str (nomark _)) wpS_ok pss_nil) S (rdt_test (rd_eqS (S.rd (i := 5) rfl) rd_str)) (fun z => absurd z (by decide +kernel)) (fun _ H4 s4 S => ?_)
      have rO := rd_P (K := K) (M := M) (σ := σ2) (H := H4) (R := ROn) (d := onD w.now (onW w.now (.take n))) ⟨w.now, .take n, rfl, wo1, trivial, rfl⟩ (rda_cons (S.rd (i := 2) rfl) (rda_one (S.rd (i := 1) rfl)))
      have e3 := worked3 (w := w) (op := .take n) trivial
      cases hq : onW w.now (.take n) with
      | inl e =>
        rw [hq] at rO e3
        refine en_tup3 (ps_asg (pe_fu GO hr (by decide) (by rfl) pass0 (pa_cons (pv 2) (pa_cons (pv 1) pa_nil))) (pg_tup rfl (pgs_cons (pg_name (i := 8) sc_Wd.nd rfl (by first | exact .inl rfl | exact .inr rfl)) (pgs_cons (pg_name (i := 9) sc_Wd.nd rfl (by first | exact .inl rfl | exact .inr rfl)) (pgs_cons (pg_name (i := 7) sc_Wd.nd rfl (by first | exact .inl rfl | exact .inr rfl)) pgs_nil))))) S rO fun σ3 H5 s5 S => ?_
        dsimp only [List.set] at S
        refine en_if (ps_if (pt_cmpR op_ne (pv 8) pe_str (nomark _)) wpS_ok pss_nil) S (rdt_test (rd_neS (S.rd (i := 8) rfl) rd_str)) (fun _ H6 s6 S => ?_) (fun z => absurd z (by rw [decide_eq_false (er_ne e)]; decide))
        refine en_ret (ps_ret (pe_tup (pa_cons (pv 8) (pa_cons pe_int pa_nil)))) S (rd_tupA (rda_cons (S.rd (i := 8) rfl) (rda_one rd_int))) fun v H7 s7 g7 r7 => q v H7 ((((((s1.trans s2).trans s3).trans s4).trans s5).trans s6).trans s7) g7 ?_
        rw [e3]
        exact r7
      | inr p =>
        obtain ⟨v0, n0⟩ := p
        rw [hq] at rO e3
        refine en_tup3 (ps_asg (pe_fu GO hr (by decide) (by rfl) pass0 (pa_cons (pv 2) (pa_cons (pv 1) pa_nil))) (pg_tup rfl (pgs_cons (pg_name (i := 8) sc_Wd.nd rfl (by first | exact .inl rfl | exact .inr rfl)) (pgs_cons (pg_name (i := 9) sc_Wd.nd rfl (by first | exact .inl rfl | exact .inr rfl)) (pgs_cons (pg_name (i := 7) sc_Wd.nd rfl (by first | exact .inl rfl | exact .inr rfl)) pgs_nil))))) S rO fun σ3 H5 s5 S => ?_
        dsimp only [List.set] at S
        refine en_if (ps_if (pt_cmpR op_ne (pv 8) pe_str (nomark _)) wpS_ok pss_nil) S (rdt_test (rd_neS (S.rd (i := 8) rfl) rd_str)) (fun z => absurd z (by decide +kernel)) (fun _ H6 s6 S => ?_)
        refine en_ret (ps_ret (pe_tup (pa_cons pe_str (pa_cons (pv 9) (pa_cons (pe_lst (pa_cons (pv 7) (pa_cons (pe_op op_cat (pv 3) (pe_lst (pa_cons (pe_tup (pa_cons (pv 5) (pa_cons (pv 2) pa_nil))) pa_nil))) (pa_cons (pe_lst pa_nil) pa_nil)))) pa_nil))))) S (rd_tupA (rda_cons rd_str (rda_cons (S.rd (i := 9) rfl) (rda_one (rd_lstA (rda_cons (S.rd (i := 7) rfl) (rda_cons (rd_catM (f := pastD) (ys := [(("take" : Str), w.now)]) ?_ (S.rd (i := 3) rfl) (rd_lstA (rda_one (rd_tupA (rda_cons (S.rd (i := 5) rfl) (rda_one (S.rd (i := 2) rfl))))))) (rda_one (rd_lstA rda_nil)))))))))  fun v H7 s7 g7 r7 => q v H7 ((((((s1.trans s2).trans s3).trans s4).trans s5).trans s6).trans s7) g7 ?_
        · rw [List.length_singleton]; omega
        rw [e3]
        exact r7
    | swap n =>
      refine en_set (ps_set (i := 5) sc_Wd.nd rfl (by first | exact .inl rfl | exact .inr rfl) (pe_ix (r := rIxT K) ix_tup (pv 1) pe_int (fun _ _ => rfl))) S (rd_ixT (d := .str "swap") rfl (S.rd (i := 1) rfl) rd_int) fun σ2 H2 s2 S => ?_
      dsimp only [List.set] at S
      refine en_if (ps_if (pt_cmpR op_eq (pv 5) pe_str (nomark _)) wpS_ok pss_nil) S (rdt_test (rd_eqS (S.rd (i := 5) rfl) rd_str)) (fun z => absurd z (by decide +kernel)) (fun _ H3 s3 S => ?_)
      refine en_if (ps_if (pt_cmpR op_eq (pv 5) pe_str (nomark _)) wpS_ok pss_nil) S (rdt_test (rd_eqS (S.rd (i := 5) rfl) rd_str)) (fun z => absurd z (by decide +kernel)) (fun _ H4 s4 S => ?_)
      have rO := rd_P (K := K) (M := M) (σ := σ2) (H := H4) (R := ROn) (d := onD w.now (onW w.now (.swap n))) ⟨w.now, .swap n, rfl, wo1, trivial, rfl⟩ (rda_cons (S.rd (i := 2) rfl) (rda_one (S.rd (i := 1) rfl)))
      have e3 := worked3 (w := w) (op := .swap n) trivial
      cases hq : onW w.now (.swap n) with
      | inl e =>
        rw [hq] at rO e3
        refine en_tup3 (ps_asg (pe_fu GO hr (by decide) (by rfl) pass0 (pa_cons (pv 2) (pa_cons (pv 1) pa_nil))) (pg_tup rfl (pgs_cons (pg_name (i := 8) sc_Wd.nd rfl (by first | exact .inl rfl | exact .inr rfl)) (pgs_cons (pg_name (i := 9) sc_Wd.nd rfl (by first | exact .inl rfl | exact .inr rfl)) (pgs_cons (pg_name (i := 7) sc_Wd.nd rfl (by first | exact .inl rfl | exact .inr rfl)) pgs_nil))))) S rO fun σ3 H5 s5 S => ?_
        dsimp only [List.set] at S
        refine en_if (ps_if (pt_cmpR op_ne (pv 8) pe_str (nomark _)) wpS_ok pss_nil) S (rdt_test (rd_neS (S.rd (i := 8) rfl) rd_str)) (fun _ H6 s6 S => ?_) (fun z => absurd z (by rw [decide_eq_false (er_ne e)]; decide))
        refine en_ret (ps_ret (pe_tup (pa_cons (pv 8) (pa_cons pe_int pa_nil)))) S (rd_tupA (rda_cons (S.rd (i := 8) rfl) (rda_one rd_int))) fun v H7 s7 g7 r7 => q v H7 ((((((s1.trans s2).trans s3).trans s4).trans s5).trans s6).trans s7) g7 ?_
        rw [e3]
        exact r7
      | inr p =>
        obtain ⟨v0, n0⟩ := p
        rw [hq] at rO e3
        refine en_tup3 (ps_asg (pe_fu GO hr (by decide) (by rfl) pass0 (pa_cons (pv 2) (pa_cons (pv 1) pa_nil))) (pg_tup rfl (pgs_cons (pg_name (i := 8) sc_Wd.nd rfl (by first | exact .inl rfl | exact .inr rfl)) (pgs_cons (pg_name (i := 9) sc_Wd.nd rfl (by first | exact .inl rfl | exact .inr rfl)) (pgs_cons (pg_name (i := 7) sc_Wd.nd rfl (by first | exact .inl rfl | exact .inr rfl)) pgs_nil))))) S rO fun σ3 H5 s5 S => ?_
        dsimp only [List.set] at S
        refine en_if (ps_if (pt_cmpR op_ne (pv 8) pe_str (nomark _)) wpS_ok pss_nil) S (rdt_test (rd_neS (S.rd (i := 8) rfl) rd_str)) (fun z => absurd z (by decide +kernel)) (fun _ H6 s6 S => ?_)
        refine en_ret (ps_ret (pe_tup (pa_cons pe_str (pa_cons (pv 9) (pa_cons (pe_lst (pa_cons (pv 7) (pa_cons (pe_op op_cat (pv 3) (pe_lst (pa_cons (pe_tup (pa_cons (pv 5) (pa_cons (pv 2) pa_nil))) pa_nil))) (pa_cons (pe_lst pa_nil) pa_nil)))) pa_nil))))) S (rd_tupA (rda_cons rd_str (rda_cons (S.rd (i := 9) rfl) (rda_one (rd_lstA (rda_cons (S.rd (i := 7) rfl) (rda_cons (rd_catM (f := pastD) (ys := [(("swap" : Str), w.now)]) ?_ (S.rd (i := 3) rfl) (rd_lstA (rda_one (rd_tupA (rda_cons (S.rd (i := 5) rfl) (rda_one (S.rd (i := 2) rfl))))))) (rda_one (rd_lstA rda_nil)))))))))  fun v H7 s7 g7 r7 => q v H7 ((((((s1.trans s2).trans s3).trans s4).trans s5).trans s6).trans s7) g7 ?_
        · rw [List.length_singleton]; omega
        rw [e3]
        exact r7
    | undo =>
      refine en_set (ps_set (i := 5) sc_Wd.nd rfl (by first | exact .inl rfl | exact .inr rfl) (pe_ix (r := rIxT K) ix_tup (pv 1) pe_int (fun _ _ => rfl))) S (rd_ixT (d := .str "undo") rfl (S.rd (i := 1) rfl) rd_int) fun σ2 H2 s2 S => ?_
      dsimp only [List.set] at S
      refine en_if (ps_if (pt_cmpR op_eq (pv 5) pe_str (nomark _)) wpS_ok pss_nil) S (rdt_test (rd_eqS (S.rd (i := 5) rfl) rd_str)) (fun _ H3 s3 S => ?_) (fun z => absurd z (by decide +kernel))
      have tq := rd_eqD (K := K) (M := M) (σ := σ2) (H := H3) (ta := tVar 3) (tb := tLst tNil) okP (by decide) ok0 (by decide) (S.rd (i := 3) rfl) (rd_lstA rda_nil)
      rw [eqD_nil] at tq
      refine en_if (ps_if (pt_cmpR (r := rEqD K) (op_eqD hr.units) (pv 3) (pe_lst pa_nil) (nomark _)) wpS_ok pss_nil) S (rdt_test tq) (fun z H4 s4 S => ?_) (fun z H4 s4 S => ?_)
      · have z := of_decide_eq_true z
        refine en_ret (ps_ret (pe_tup (pa_cons pe_str (pa_cons pe_bl (pa_cons (pv 0) pa_nil))))) S (rd_tupA (rda_cons rd_str (rda_cons rd_bl (rda_one (S.rd (i := 0) rfl))))) fun v H5 s5 g5 r5 => q v H5 ((((s1.trans s2).trans s3).trans s4).trans s5) g5 ?_
        unfold workedW
        dsimp only
        rw [z]
        exact r5
      · have z := of_decide_eq_false z
        obtain ⟨p, hp⟩ : ∃ p, w.past.getLast? = some p := by
          cases hp : w.past.getLast? with
          | none => exact absurd (List.getLast?_eq_none_iff.mp hp) z
          | some p => exact ⟨p, rfl⟩
        refine en_ret (ps_ret (pe_tup (pa_cons pe_str (pa_cons pe_bl (pa_cons (pe_lst (pa_cons (pe_ix (r := rIxT K) ix_tup (pe_ix (r := rIxL K) ix_list (pv 3) (pe_un un_neg pe_int) (fun _ _ => rfl)) pe_int (fun _ _ => rfl)) (pa_cons (pe_slice (r := rSlL K) sl_list (pv 3) po_none (po_some (pe_un un_neg pe_int))) (pa_cons (pe_op op_cat (pv 4) (pe_lst (pa_cons (pe_tup (pa_cons (pe_ix (r := rIxL K) ix_list (pv 3) (pe_un un_neg pe_int) (fun _ _ => rfl)) (pa_cons (pv 2) pa_nil))) pa_nil))) pa_nil)))) pa_nil))))) S (rd_tupA (rda_cons rd_str (rda_cons rd_bl (rda_one (rd_lstA (rda_cons (rd_ixT (d := p.2.d) rfl ((rd_last (f := pastD) hp (S.rd (i := 3) rfl) (rd_negI rd_int)).cast (d' := .tup [.str p.1, p.2.d]) rfl) rd_int) (rda_cons (rd_initM (S.rd (i := 3) rfl) (rd_negI rd_int)) (rda_one (rd_catM (f := undD) (ys := [(p, w.now)]) ?_ (S.rd (i := 4) rfl) (rd_lstA (rda_one (rd_tupA (rda_cons (rd_last (f := pastD) hp (S.rd (i := 3) rfl) (rd_negI rd_int)) (rda_one (S.rd (i := 2) rfl))))))))))))))) fun v H5 s5 g5 r5 => q v H5 ((((s1.trans s2).trans s3).trans s4).trans s5) g5 ?_
        · rw [List.length_singleton]; omega
        unfold workedW
        dsimp only
        rw [hp]
        dsimp only
        rw [List.dropLast_eq_take]
        exact r5
    | redo =>
      refine en_set (ps_set (i := 5) sc_Wd.nd rfl (by first | exact .inl rfl | exact .inr rfl) (pe_ix (r := rIxT K) ix_tup (pv 1) pe_int (fun _ _ => rfl))) S (rd_ixT (d := .str "redo") rfl (S.rd (i := 1) rfl) rd_int) fun σ2 H2 s2 S => ?_
      dsimp only [List.set] at S
      refine en_if (ps_if (pt_cmpR op_eq (pv 5) pe_str (nomark _)) wpS_ok pss_nil) S (rdt_test (rd_eqS (S.rd (i := 5) rfl) rd_str)) (fun z => absurd z (by decide +kernel)) (fun _ H3 s3 S => ?_)
      refine en_if (ps_if (pt_cmpR op_eq (pv 5) pe_str (nomark _)) wpS_ok pss_nil) S (rdt_test (rd_eqS (S.rd (i := 5) rfl) rd_str)) (fun _ H4 s4 S => ?_) (fun z => absurd z (by decide +kernel))
      have tq := rd_eqD (K := K) (M := M) (σ := σ2) (H := H4) (ta := tVar 4) (tb := tLst tNil) okU (by decide) ok0 (by decide) (S.rd (i := 4) rfl) (rd_lstA rda_nil)
      rw [eqD_nil] at tq
      refine en_if (ps_if (pt_cmpR (r := rEqD K) (op_eqD hr.units) (pv 4) (pe_lst pa_nil) (nomark _)) wpS_ok pss_nil) S (rdt_test tq) (fun z H5 s5 S => ?_) (fun z H5 s5 S => ?_)
      · have z := of_decide_eq_true z
        refine en_ret (ps_ret (pe_tup (pa_cons pe_str (pa_cons pe_bl (pa_cons (pv 0) pa_nil))))) S (rd_tupA (rda_cons rd_str (rda_cons rd_bl (rda_one (S.rd (i := 0) rfl))))) fun v H6 s6 g6 r6 => q v H6 (((((s1.trans s2).trans s3).trans s4).trans s5).trans s6) g6 ?_
        unfold workedW
        dsimp only
        rw [z]
        exact r6
      · have z := of_decide_eq_false z
        obtain ⟨u, hu⟩ : ∃ u, w.und.getLast? = some u := by
          cases hp : w.und.getLast? with
          | none => exact absurd (List.getLast?_eq_none_iff.mp hp) z
          | some p => exact ⟨p, rfl⟩
        refine en_tup2 (ps_asg (pe_ix (r := rIxL K) ix_list (pv 4) (pe_un un_neg pe_int) (fun _ _ => rfl)) (pg_tup rfl (pgs_cons (pg_name (i := 6) sc_Wd.nd rfl (by first | exact .inl rfl | exact .inr rfl)) (pgs_cons (pg_name (i := 7) sc_Wd.nd rfl (by first | exact .inl rfl | exact .inr rfl)) pgs_nil)))) S ((rd_last (f := undD) hu (S.rd (i := 4) rfl) (rd_negI rd_int)).cast (d' := .tup [pastD u.1, u.2.d]) rfl) fun σ3 H6 s6 S => ?_
        dsimp only [List.set] at S
        refine en_ret (ps_ret (pe_tup (pa_cons pe_str (pa_cons pe_bl (pa_cons (pe_lst (pa_cons (pv 7) (pa_cons (pe_op op_cat (pv 3) (pe_lst (pa_cons (pv 6) pa_nil))) (pa_cons (pe_slice (r := rSlL K) sl_list (pv 4) po_none (po_some (pe_un un_neg pe_int))) pa_nil)))) pa_nil))))) S (rd_tupA (rda_cons rd_str (rda_cons rd_bl (rda_one (rd_lstA (rda_cons (S.rd (i := 7) rfl) (rda_cons (rd_catM (f := pastD) (ys := [u.1]) ?_ (S.rd (i := 3) rfl) (rd_lstA (rda_one (S.rd (i := 6) rfl)))) (rda_one (rd_initM (S.rd (i := 4) rfl) (rd_negI rd_int)))))))))) fun v H7 s7 g7 r7 => q v H7 ((((((s1.trans s2).trans s3).trans s4).trans s5).trans s6).trans s7) g7 ?_
        · rw [List.length_singleton]; omega
        unfold workedW
        dsimp only
        rw [hu]
        dsimp only
        rw [List.dropLast_eq_take]
        exact r7
end
end SC
set_option maxRecDepth 100000
set_option maxHeartbeats 2000000
namespace SC
open PySem PySem.Spec PyProof.Rows L2 TL
def spStands (K : PySem.W.Frag) : Sp := fun vs H Q _ => ∃ (M : List Addr) (wt L S : Addr) (ss : List St1) (i : Nat) (w : W3) (v1 : V), vs = [.ref wt, v1] ∧ Gd K M H ∧ WtAt K M H wt L S ss i ∧ Rel ss i w ∧ w.ok 1000 ∧ Rp K (wo M H) w.d v1 ∧ ∀ H', Same H H' → Q (.bl true) H'
def nmSd : List Str := ["_law_worktop", "_law_w", "_law_labels_here", "_law_held", "_law_outs", "_law_found", "_law_entry"]
theorem sc_Sd : FnScope nmSd ["_law_worktop", "_law_w"] (defScope s__law_stands) := ⟨rfl, rfl, rfl, by decide +kernel, rfl, by decide +kernel, by decide +kernel⟩
def spNew (K : PySem.W.Frag) : Sp := fun vs H Q _ => ∃ (M : List Addr) (dd : Addr), vs = [.ref dd] ∧ Gd K M H ∧ Src dd H ∧ dd ∈ M ∧ ∀ (rs : List Rule) (v : V) (H' : Hp), 1 ≤ rs.length → rs.length ≤ 5 → (∀ r ∈ rs, r.ok) → Fr1 dd H H' → Gd K M H' → Src dd H' → Rp K (wo M H') (W3.d ⟨⟨rs, nones rs.length, []⟩, [], []⟩) v → Q v H'
def nmNw : List Str := ["_law_d", "_law_labels_here"]
theorem sc_Nw : FnScope nmNw ["_law_d"] (defScope s__law_new) := ⟨rfl, rfl, rfl, by decide +kernel, rfl, by decide +kernel, by decide +kernel⟩
def spOper (K : PySem.W.Frag) : Sp := fun vs H Q _ => ∃ (M : List Addr) (dd : Addr) (rs : List Rule) (v1 : V), vs = [.ref dd, v1] ∧ Gd K M H ∧ Src dd H ∧ dd ∈ M ∧ Rp K (wo M H) (.lst (lbD rs)) v1 ∧ 1 ≤ rs.length ∧ rs.length ≤ 8 ∧ ∀ (op : Op) (v : V) (H' : Hp), op.ok → Fr1 dd H H' → Gd K M H' → Src dd H' → Rp K (wo M H') op.d v → Q v H'
def nmOp : List Str := ["_law_d", "_law_labels_here", "_law_kind", "_law_many"]
theorem sc_Op : FnScope nmOp ["_law_d", "_law_labels_here"] (defScope s__law_operation) := ⟨rfl, rfl, rfl, by decide +kernel, rfl, by decide +kernel, by decide +kernel⟩
theorem go_c {σ : L2.St} {H : Hp} {v : V} {Q : VK} (h : Q v H) : tC v σ H Q := h
theorem go_nil {σ : L2.St} {H : Hp} {Q : List V → Hp → Prop} (h : Q [] H) : tNil σ H Q := h
theorem dw_src {dd : Addr} {M : List Addr} (h : dd ∈ M) : Dw (Src dd) dd M := ⟨fun j s => j.same s, fun j => j, fun _ _ s => s, h⟩
section
variable {P : Program} {w : World} {K : PySem.W.Frag} {mg : Str → Option Value} {base : Heap}
theorem ok_stands {f : Addr} {fd dh dl dc do0 : FuncData} (F : Fun K "_law_stands" "_law_stands" s__law_stands f fd) (B : Bln mg) (C : ChainOk P w K mg base 10) (W : Wk K mg)
    (W_held : FnOk P w K mg base CX0 10 (pgA K "Worktop" "held") dh ["self"] (spHeld K)) (bW_held : Binds K dh ["self"] []) (W_let_out : FnOk P w K mg base CX0 10 (pgA K "Worktop" "let_out") dl ["self"] (spLetOut K)) (bW_let_out : Binds K dl ["self"] [])
    (W_chain_now : FnOk P w K mg base CX0 10 (pgA K "Worktop" "chain_now") dc ["self"] (spChainNow K)) (bW_chain_now : Binds K dc ["self"] []) (W_operations : FnOk P w K mg base CX0 10 (pgA K "Worktop" "operations") do0 ["self"] (spOps K)) (bW_operations : Binds K do0 ["self"] [])
    (GE : Fu P w K mg base CX0 4 "_law_equal" ["_law_actual", "_law_expected"] (spEqual K 3)) : FnOk P w K mg base CX0 12 f fd ["_law_worktop", "_law_w"] (spStands K) := by
  refine F.ok sc_Sd (fun vs H Q E h => ?_) (fun cdv A outer s0 H vs Q E hr h => ?_)
  · obtain ⟨M, wt, L, S, ss, i, w, v1, rfl, _⟩ := h
    rfl
  · obtain ⟨M, wt, L, S', ss, i, w, v1, rfl, g, x, rel, ⟨⟨o1, o2, o3, o4, o5⟩, wo2, wo3, wo4, wo5⟩, r1, q⟩ := h
    have zz := line_big
    have r11 := hr.mono (by decide : 10 + 1 ≤ 11)
    obtain ⟨dT, psT, TX, bT⟩ := C.text
    obtain ⟨s, WI, en⟩ := rel_at rel
    have ew := rel_words rel
    refine ⟨_, wpS_ok, ?_⟩
    have E0' : Env K M (L2.start nmSd [.ref wt, v1]) H [.val (.ref wt), .val v1, .any, .any, .any, .any, .any] := env_start
    have S : En K M (L2.start nmSd [.ref wt, v1]) H [.val (.ref wt), .dat w.d, .any, .any, .any, .any, .any] := ⟨E0'.asD (i := 1) rfl r1, g⟩
    generalize L2.start nmSd [.ref wt, v1] = σ0 at S ⊢
    clear E0'
    refine en_tup3 (ps_asg (pe_ix (r := rIxL K) ix_list (pv 1) pe_int (fun _ _ => rfl)) (pg_tup rfl (pgs_cons (pg_name (i := 2) sc_Sd.nd rfl (by first | exact .inl rfl | exact .inr rfl)) (pgs_cons (pg_name (i := 3) sc_Sd.nd rfl (by first | exact .inl rfl | exact .inr rfl)) (pgs_cons (pg_name (i := 4) sc_Sd.nd rfl (by first | exact .inl rfl | exact .inr rfl)) pgs_nil))))) S (rd_ixL (d := w.now.d) rfl (S.rd (i := 1) rfl) rd_int) fun σ1 H1 s1 S => ?_
    dsimp only [List.set] at S
    have WT := x.same s1
    refine en_set (ps_set (i := 5) sc_Sd.nd rfl (by first | exact .inl rfl | exact .inr rfl) (pe_lst (pa_cons (pe_prop (pe_prop (pv 0) W.cls W.chainNow W_chain_now r11 bW_chain_now .nil pass0 rfl) C.t.cls C.t.text TX r11 bT .nil pass0 rfl) (pa_cons (pe_prop (pv 0) W.cls W.held W_held r11 bW_held .nil pass0 rfl) (pa_cons (pe_prop (pv 0) W.cls W.letOut W_let_out r11 bW_let_out .nil pass0 rfl) (pa_cons (pe_prop (pv 0) W.cls W.operations W_operations r11 bW_operations .nil pass0 rfl) pa_nil)))))) S (rd_lstA (rda_cons (rd_chtext (rd_chainnow WT WI (wk_var (S.e.val (i := 0) rfl)))) (rda_cons (rd_held WT WI (wk_var (S.e.val (i := 0) rfl))) (rda_cons (rd_letout WT (wk_var (S.e.val (i := 0) rfl))) (rda_one (rd_ops WT (wk_var (S.e.val (i := 0) rfl)))))))) fun σ2 H2 s2 S => ?_
    dsimp only [List.set] at S
    have hi6 : 6 < σ2.length := by rw [S.e.1]; simp
    have rc := rd_mapL (K := K) (M := M) (σ := σ2) (H := H2) (i := 6) (te := tOp (rIxT K) (tVar 6) (tC (.int 0))) w.past pastD (fun p => D.str p.1) (by omega) (rd_ixL (d := .lst (w.past.map pastD)) (i := 1) rfl (S.rd (i := 1) rfl) rd_int) fun p hp H1 s1 M' H' v s f g rx => rd_ixT (l := [.str p.1, p.2.d]) (i := 0) rfl (rd_own hi6 rx) rd_int
    have e1 : w.now.rs = s.rs := by rw [en]
    have e2 : w.now.hs = s.hs := by rw [en]
    have e3 : w.now.os = (ss.take (i + 1)).filterMap St1.out := by rw [en]
    have el : (((ss.take (i + 1)).drop 1).map St1.word).map D.str = w.past.map (fun p => D.str p.1) := by rw [ew, List.map_map]; rfl
    have o5' : ((ss.take (i + 1)).filterMap St1.out).length ≤ 1000 := by rw [← e3]; exact o5
    refine en_ret (ps_ret (pe_fu GE hr (by decide) (by rfl) pass0 (pa_cons (pv 5) (pa_cons (pe_lst (pa_cons (pe_bm (r := rJn K) PySem.F.plainAttrs_str PySem.F.slot_str_join PySem.F.type_str_join mt_join pe_str (pa_cons (pv 2) pa_nil)) (pa_cons (pe_callTy (r := rTupOf K) call_tuple_of (by rfl) B.tuple boot_tuple' (pa_cons (pv 3) pa_nil)) (pa_cons (pv 4) (pa_cons (pe_lc (own := [("_law_entry", 6)]) (g := gName 6) (by rfl) sc_Sd.nd (pi_listK (K := K) rfl (pe_ix (r := rIxL K) ix_list (pv 1) pe_int (fun _ _ => rfl))) (blkOk_by (own := [("_law_entry", 6)]) (N := nmSd) (sc := defScope s__law_stands) (by decide +kernel)) (fun _ _ _ _ _ => pg_name (i := 6) sc_Sd.nd rfl (.inl rfl)) (fun _ _ _ _ _ => pts_nil) (fun _ _ _ _ _ => (pe_ix (r := rIxT K) ix_tup (pv 6) pe_int (fun _ _ => rfl)))) pa_nil))))) pa_nil)))) S (rd_equal (n := 3) ?_ ?_ (rda_cons (S.rd (i := 5) rfl) (rda_one (rd_lstA (rda_cons (rd_joinL (by omega) (labels_sum o1) rd_str (rda_one (S.rd (i := 2) rfl))) (rda_cons (rd_tupleL (rda_one (S.rd (i := 3) rfl))) (rda_cons (S.rd (i := 4) rfl) (rda_one rc)))))))) fun v H3 s3 g3 r3 => ?_
    · rw [e1, e2, e3, el]
    · refine .lst (by show 4 ≤ 100000; decide) fun x hx => ?_
      rcases List.mem_cons.mp hx with rfl | hx
      · exact .str
      rcases List.mem_cons.mp hx with rfl | hx
      · exact oks_optsT (n := 1) (by rw [← e2]; omega)
      rcases List.mem_cons.mp hx with rfl | hx
      · exact oks_ints (n := 1) (by omega)
      · rw [List.mem_singleton.mp hx, el]
        refine .lst (by rw [List.length_map]; omega) fun y hy => ?_
        obtain ⟨z, _, rfl⟩ := List.mem_map.mp hy
        exact .str
    · cases r3
      exact q H3 ((s1.trans s2).trans s3)
theorem ok_new {f : Addr} {fd : FuncData} (F : Fun K "_law_new" "_law_new" s__law_new f fd) (B : Bln mg) (GL : Fu P w K mg base CX0 2 "_law_labels" ["_law_d", "_law_most"] spLabels) : FnOk P w K mg base CX0 3 f fd ["_law_d"] (spNew K) := by
  refine F.ok sc_Nw (fun vs H Q E h => ?_) (fun cdv A outer s0 H vs Q E hr h => ?_)
  · obtain ⟨M, dd, rfl, _⟩ := h
    rfl
  · obtain ⟨M, dd, rfl, g, sr, hm, q⟩ := h
    have zz := line_big
    obtain ⟨ds, hD, hd⟩ := id sr
    refine ⟨_, wpS_ok, ?_⟩
    have E0' : Env K M (L2.start nmNw [.ref dd]) H [.val (.ref dd), .any] := env_start
    generalize L2.start nmNw [.ref dd] = σ0 at E0' ⊢
    refine wp_cons (ps_set (i := 1) sc_Nw.nd rfl (by first | exact .inl rfl | exact .inr rfl) (pe_fu GL hr (by decide) (by rfl) pass0 (pa_cons (pv 0) (pa_cons pe_int pa_nil)))) ?_
    refine ⟨_, E0'.val (i := 0) rfl, dd, 5, ds, rfl, by decide, by decide, hd, hD, fun p H1 rs ds' hp f hD' hd' el l1 lm ok => ?_⟩
    have F1 : Fm M H H1 := Fm.of1 hm f
    have g1 := g.fr1 f hd'
    have S : En K M (σ0.set 1 (some (.ref p))) H1 _ := ⟨(E0'.fm F1).set (i := 1) (rp_new (l := lbD rs) (g.out hp) el (rp_lbs.mpr rfl)), g1⟩
    dsimp only [List.set] at S
    show wpS _ _ _ (σ0.set 1 (some (.ref p))) H1
    generalize σ0.set 1 (some (V.ref p)) = σ1 at S ⊢
    have ll : (lbD rs).length = rs.length := by unfold lbD; rw [List.length_map, List.length_map]
    refine en_ret (ps_ret (pe_lst (pa_cons (pe_tup (pa_cons (pv 1) (pa_cons (pe_op op_rep (pe_lst (pa_cons pe_non pa_nil)) (pe_callB (r := rLenS K) call_len_seq (by rfl) B.len boot_len' (pa_cons (pv 1) pa_nil))) (pa_cons (pe_lst pa_nil) pa_nil)))) (pa_cons (pe_lst pa_nil) (pa_cons (pe_lst pa_nil) pa_nil))))) S (rd_lstA (rda_cons (rd_tupA (rda_cons (S.rd (i := 1) rfl) (rda_cons (rd_repM (f := dO) (x := none) (n := rs.length) (by omega) (rd_lstA (rda_one rd_non)) ((rd_lenL (rda_one (S.rd (i := 1) rfl))).cast (by rw [ll]))) (rda_one (rd_lstA rda_nil))))) (rda_cons (rd_lstA rda_nil) (rda_one (rd_lstA rda_nil))))) fun v H2 s2 g2 r2 => ?_
    exact q rs v H2 l1 (by omega) ok (f.trans (Fr1.of s2)) g2 (Src.same ⟨ds', hD', hd'⟩ s2) r2
theorem ok_oper {f : Addr} {fd : FuncData} (F : Fun K "_law_operation" "_law_operation" s__law_operation f fd) (B : Bln mg) (GB : Fu P w K mg base CX0 1 "_law_below" ["_law_d", "_law_limit"] spBelow) : FnOk P w K mg base CX0 3 f fd ["_law_d", "_law_labels_here"] (spOper K) := by
  refine F.ok sc_Op (fun vs H Q E h => ?_) (fun cdv A outer s0 H vs Q E hr h => ?_)
  · obtain ⟨M, dd, rs, v1, rfl, _⟩ := h
    rfl
  · obtain ⟨M, dd, rs, v1, rfl, g, sr, hm, r1, l1, l8, q⟩ := h
    have zz := line_big
    have w0 : Dw (Src dd) dd M := dw_src hm
    have ll : (lbD rs).length = rs.length := by unfold lbD; rw [List.length_map, List.length_map]
    refine ⟨_, wpS_ok, ?_⟩
    have E0' : Env K M (L2.start nmOp [.ref dd, v1]) H [.val (.ref dd), .val v1, .any, .any] := env_start
    have S : Sn K M (Src dd) (L2.start nmOp [.ref dd, v1]) H [.val (.ref dd), .dat (.lst (lbD rs)), .any, .any] := ⟨E0'.asD (i := 1) rfl r1, g, sr⟩
    generalize L2.start nmOp [.ref dd, v1] = σ0 at S ⊢
    clear E0'
    refine wp_cons (ps_par (i := 2) (j := 3) (by rfl) sc_Op.nd rfl rfl (by decide) rfl rfl (pa_cons (pe_fu GB hr (by decide) (by rfl) pass0 (pa_cons (pv 0) (pa_cons pe_int pa_nil))) (pa_cons (pe_callB (r := rLenS K) call_len_seq (by rfl) B.len boot_len' (pa_cons (pv 1) pa_nil)) pa_nil)) (by rfl)) ?_
    refine go_cons ?_
    refine dr_belowF w0 S rfl rd_int (by decide) (by decide) fun kind H1 hk f1 S => ?_
    refine go_cons ?_
    refine ((rd_lenL (rda_one (S.rd (i := 1) rfl))).cast (d' := .int rs.length) (by rw [ll])) _ (Same.refl _) S.g _ fun v2 H2 s2 g2 r2 => ?_
    cases r2
    have S : Sn K M (Src dd) ((σ0.set 2 (some (.int kind))).set 3 (some (.int rs.length))) H2 _ := ⟨((S.e.same s2).set (i := 2) (d := .int kind) (v := .int kind) rfl).set (i := 3) (d := .int rs.length) (v := .int rs.length) rfl, g2, S.j.same s2⟩
    dsimp only [List.set] at S
    refine ⟨_, _, rfl, ?_⟩
    show wpS _ _ _ ((σ0.set 2 (some (.int kind))).set 3 (some (.int rs.length))) H2
    generalize (σ0.set 2 (some (V.int kind))).set 3 (some (V.int rs.length)) = σ1 at S ⊢
    have F2 := f1.trans (Fr1.of s2)
    have fin : ∀ (op : Op) (v : V) (H' : Hp), op.ok → Fr1 dd H2 H' → Gd K M H' → Src dd H' → Rp K (wo M H') op.d v → Q v H' := fun op v H' o f g s r => q op v H' o (F2.trans f) g s r
    refine wp_cons (ps_if (pt_cmpR op_lt (pv 2) pe_int (nomark _)) wpS_ok pss_nil) ?_
    refine use_if (rdt_test (rd_lt (S.rd (i := 2) rfl) rd_int)) S.g fun H3 s3 g3 => ?_
    have S := S.same w0 s3
    by_cases k5 : (kind : Int) < 5
    · refine (if_pos (decide_eq_true k5)).mpr ?_
      refine wp_one (ps_ret (pe_tup (pa_cons pe_str (pa_cons (pe_ix (r := rIxL K) ix_list (pe_lst (pa_cons (pe_op op_sub (pe_fu GB hr (by decide) (by rfl) pass0 (pa_cons (pv 0) (pa_cons pe_int pa_nil))) pe_int) (pa_cons (pe_op op_pow pe_int pe_int) (pa_cons (pe_op op_add (pe_op op_pow pe_int pe_int) pe_int) pa_nil)))) (pe_ix (r := rIxL K) ix_list (pe_lst (pa_cons pe_int (pa_cons pe_int (pa_cons pe_int (pa_cons pe_int (pa_cons pe_int (pa_cons pe_int pa_nil))))))) (pe_fu GB hr (by decide) (by rfl) pass0 (pa_cons (pv 0) (pa_cons pe_int pa_nil))) (fun _ _ => rfl)) (fun _ _ => rfl)) pa_nil)))) ?_
      refine go_tup (go_cons (go_c ?_))
      refine go_cons (go_op (go_lst (go_cons (go_op ?_))))
      refine dr_belowF w0 S rfl rd_int (by decide) (by decide) fun z H4 hz f4 S => ?_
      refine ⟨_, _, rfl, rfl, ?_⟩
      show tOp (rIxL K) (tLst (tCons (tVal (.int ((z : Int) - 4))) (tCons (tOp (rI CPow fun i j => .int (i ^ j.toNat)) (tC (.int 10)) (tC (.int 9))) (tCons (tOp (rI0 fun i j => .int (i + j)) (tOp (rI CPow fun i j => .int (i ^ j.toNat)) (tC (.int 10)) (tC (.int 9))) (tC (.int 1))) tNil)))) (tOp (rIxL K) (tLst (tCons (tC (.int 0)) (tCons (tC (.int 0)) (tCons (tC (.int 0)) (tCons (tC (.int 0)) (tCons (tC (.int 1)) (tCons (tC (.int 2)) tNil))))))) (tCall spBelow [] E0 (tCons (tVar 0) (tCons (tC (.int 6)) tNil)))) _ _ _
      refine go_op ?_
      refine (rd_lstA (rda_cons (rd_val (d := .int ((z : Int) - 4)) rfl) (rda_cons (rd_pow ⟨by decide, by decide, by decide⟩ rd_int rd_int) (rda_one (rd_add (rd_pow ⟨by decide, by decide, by decide⟩ rd_int rd_int) rd_int))))) _ (Same.refl _) S.g _ fun vl H5 s5 g5 r5 => ?_
      refine dr_pickF w0 (S.same w0 s5) rfl (rd_lstA (rda_cons rd_int (rda_cons rd_int (rda_cons rd_int (rda_cons rd_int (rda_cons rd_int (rda_one rd_int))))))) rfl (by decide) (by decide) fun dx vx H6 hdx f6 S rx => ?_
      obtain ⟨j, rfl, hj⟩ : ∃ j : Nat, dx = .int (j : Int) ∧ j < 3 := by
        simp only [List.mem_cons, List.not_mem_nil, or_false] at hdx
        rcases hdx with rfl | rfl | rfl | rfl | rfl | rfl
        · exact ⟨0, rfl, by decide⟩
        · exact ⟨0, rfl, by decide⟩
        · exact ⟨0, rfl, by decide⟩
        · exact ⟨0, rfl, by decide⟩
        · exact ⟨1, rfl, by decide⟩
        · exact ⟨2, rfl, by decide⟩
      cases rx
      obtain ⟨m, hm2, mo⟩ : ∃ m : Int, [D.int ((z : Int) - 4), D.int ((10 : Int) ^ (9 : Int).toNat), D.int ((10 : Int) ^ (9 : Int).toNat + 1)][j]? = some (.int m) ∧ -1000000000 ≤ m := by
        match j, hj with
        | 0, _ => exact ⟨_, rfl, by omega⟩
        | 1, _ => exact ⟨_, rfl, by decide⟩
        | 2, _ => exact ⟨_, rfl, by decide⟩
      refine ix_pick (r5.fm (Fm.of1 w0.mem f6)) hm2 fun v rv => ?_
      cases rv
      refine ⟨by show 2 ≤ sizeLine; decide, fun p hp => ?_⟩
      exact new_tup (l := [.str "put", .int m]) S.g hp ⟨_, _, rfl, rfl, _, _, rfl, rfl, rfl⟩ fun v H7 s7 g7 r7 => fin (.put m) v H7 mo ((((Fr1.of s3).trans f4).trans ((Fr1.of s5).trans f6)).trans (Fr1.of s7)) g7 (S.j.same s7) r7
    refine (if_neg (by rw [decide_eq_false k5]; decide)).mpr ?_
    show wpS _ _ _ _ _
    refine wp_cons (ps_if (pt_cmpR op_lt (pv 2) pe_int (nomark _)) wpS_ok pss_nil) ?_
    refine use_if (rdt_test (rd_lt (S.rd (i := 2) rfl) rd_int)) S.g fun H4 s4 g4 => ?_
    have S := S.same w0 s4
    by_cases k7 : (kind : Int) < 7
    · refine (if_pos (decide_eq_true k7)).mpr ?_
      refine wp_one (ps_ret (pe_tup (pa_cons pe_str (pa_cons (pe_fu GB hr (by decide) (by rfl) pass0 (pa_cons (pv 0) (pa_cons (pe_op op_add (pv 3) (pe_callTy call_int1 (by rfl) B.int boot_int' (pa_cons (pe_cmpR op_eq (pe_fu GB hr (by decide) (by rfl) pass0 (pa_cons (pv 0) (pa_cons pe_int pa_nil))) pe_int (nomark _)) pa_nil))) pa_nil))) pa_nil)))) ?_
      refine go_tup (go_cons (go_c ?_))
      refine go_cons (go_call (go_cons ?_))
      refine ⟨_, S.e.val (i := 0) rfl, ?_⟩
      refine go_cons (go_op ?_)
      obtain ⟨v3, e3, r3⟩ := S.e.dat (i := 3) rfl
      cases r3
      refine ⟨_, e3, ?_⟩
      refine dr_belowF w0 S rfl rd_int (by decide) (by decide) fun z H5 hz f5 S => ?_
      refine ⟨rfl, .inr ⟨_, rfl, _, _, rfl, rfl, ?_⟩⟩
      refine go_nil ?_
      refine drawF w0 S.g S.j ?_ ?_ fun k H6 hk6 f6 g6 j6 => ?_
      · split <;> omega
      · split <;> omega
      refine ⟨by show 2 ≤ sizeLine; decide, fun p hp => ?_⟩
      exact new_tup (l := [.str "take", .int (k : Nat)]) g6 hp ⟨_, _, rfl, rfl, _, _, rfl, rfl, rfl⟩ fun v H7 s7 g7 r7 => fin (.take k) v H7 trivial (((((Fr1.of s3).trans (Fr1.of s4)).trans f5).trans f6).trans (Fr1.of s7)) g7 (Src.same j6 s7) r7
    refine (if_neg (by rw [decide_eq_false k7]; decide)).mpr ?_
    show wpS _ _ _ _ _
    refine wp_cons (ps_if (pt_cmpR op_lt (pv 2) pe_int (nomark _)) wpS_ok pss_nil) ?_
    refine use_if (rdt_test (rd_lt (S.rd (i := 2) rfl) rd_int)) S.g fun H5 s5 g5 => ?_
    have S := S.same w0 s5
    by_cases k9 : (kind : Int) < 9
    · refine (if_pos (decide_eq_true k9)).mpr ?_
      refine wp_one (ps_ret (pe_tup (pa_cons pe_str (pa_cons (pe_fu GB hr (by decide) (by rfl) pass0 (pa_cons (pv 0) (pa_cons (pv 3) pa_nil))) pa_nil)))) ?_
      refine go_tup (go_cons (go_c ?_))
      refine go_cons ?_
      refine dr_belowF w0 S rfl (S.rd (i := 3) rfl) (by omega) (by omega) fun k H6 hk6 f6 S => ?_
      refine ⟨by show 2 ≤ sizeLine; decide, fun p hp => ?_⟩
      exact new_tup (l := [.str "swap", .int (k : Nat)]) S.g hp ⟨_, _, rfl, rfl, _, _, rfl, rfl, rfl⟩ fun v H7 s7 g7 r7 => fin (.swap k) v H7 trivial (((((Fr1.of s3).trans (Fr1.of s4)).trans (Fr1.of s5)).trans f6).trans (Fr1.of s7)) g7 (S.j.same s7) r7
    refine (if_neg (by rw [decide_eq_false k9]; decide)).mpr ?_
    show wpS _ _ _ _ _
    obtain ⟨op, hop, ho⟩ : ∃ op : Op, atI [D.str "undo", D.str "undo", D.str "redo", D.str "redo", D.str "undo"] ((kind : Int) - 9) = some (.str op.word) ∧ op.d = .tup [.str op.word] ∧ op.ok := by
      have : kind = 9 ∨ kind = 10 ∨ kind = 11 ∨ kind = 12 ∨ kind = 13 := by omega
      rcases this with rfl | rfl | rfl | rfl | rfl
      · exact ⟨.undo, rfl, rfl, trivial⟩
      · exact ⟨.undo, rfl, rfl, trivial⟩
      · exact ⟨.redo, rfl, rfl, trivial⟩
      · exact ⟨.redo, rfl, rfl, trivial⟩
      · exact ⟨.undo, rfl, rfl, trivial⟩
    refine wp_one (ps_ret (pe_tup (pa_cons (pe_ix (r := rIxL K) ix_list (pe_lst (pa_cons pe_str (pa_cons pe_str (pa_cons pe_str (pa_cons pe_str (pa_cons pe_str pa_nil)))))) (pe_op op_sub (pv 2) pe_int) (fun _ _ => rfl)) pa_nil))) ?_
    refine use_ret (rd_tupA (rda_one (rd_ixL hop (rd_lstA (rda_cons rd_str (rda_cons rd_str (rda_cons rd_str (rda_cons rd_str (rda_one rd_str)))))) (rd_sub (S.rd (i := 2) rfl) rd_int)))) S.g fun v H6 s6 g6 r6 => ?_
    exact fin op v H6 ho.2 (((Fr1.of s3).trans (Fr1.of s4)).trans ((Fr1.of s5).trans (Fr1.of s6))) g6 (S.j.same s6) (by rw [ho.1]; exact r6)
end
end SC
set_option maxRecDepth 100000
set_option maxHeartbeats 2000000
/-! # is_operation, replay, batch -/
namespace SC
open PySem PySem.Spec PyProof.Rows L2 TL
/-- f(..), f an expression that gives the class -/
theorem pe_makeV {X : Cx} {CX : CXT} {k : Nat} {f C : Addr} {fd : FuncData} {ps : List Str} {sp : Sp} {E : XK} {fe e : Expr} {es : List Expr} {tf : TE} {t : TA} {pos : Pos} {ds : List Value} {dvs : List V} (M : Mk X.K C f) (F : FnOk X.prog X.w X.K X.mg X.base CX k f fd ps sp) (hr : Room (k + 1) X.A) (hf : PE X fe tf) (hb : Binds X.K fd ps ds) (hd : Vals dvs ds) (hx : Passes CX X E) (ha : PA X (e :: es) t)
    (ht : eval (.Call fe (e :: es) [] pos) X.env = (do callWith pos (← eval fe X.env) [] (backTo pos (starEach (e :: es) X.env)) (backToKw pos (keywordEach [] X.env))) := by rfl)
    (he : starEach (e :: es) X.env = (false, eval e X.env) :: starEach es X.env := by rfl) (hpl : (backTo pos (starEach es X.env)).any (·.1) = false := by rfl) : PE X (.Call fe (e :: es) [] pos) (fun σ H Q => tf σ H fun z H1 => z = .ref C ∧ tMake C sp dvs E t σ H1 Q) := by
  refine ⟨fun pins s σ H Q I h => Call_ (thn (hf.run pins s σ H _ I h) fun z s1 hz => ?_) ht⟩
  obtain ⟨zv, H1, I1, rz, ez, h1⟩ := hz
  subst ez
  obtain rfl : z = Value.ref C := rz
  exact PySem.W.callWith_K (h₀ := X.base) I1.ok.mod.kin M.kp (thn (ha.run pos pins s1 σ H1 _ I1 h1) fun us s2 ⟨vs, H2, I2, r, q⟩ => ⟨I2.kIn, run_make M F hr hb hd hx I2 r q⟩) he hpl
/-- operations, one by one -/
inductive Runs : W3 → List Op → List D → W3 → Prop
  | nil (w : W3) : Runs w [] [] w
  | cons {w w1 w2 : W3} {op : Op} {d : D} {ops : List Op} {ds : List D} : workedW w op = .inr (d, w1) → Runs w1 ops ds w2 → Runs w (op :: ops) (d :: ds) w2
theorem Runs.snoc {w w1 w2 : W3} {ops : List Op} {ds : List D} {op : Op} {d : D} (h : Runs w ops ds w1) (e : workedW w1 op = .inr (d, w2)) : Runs w (ops ++ [op]) (ds ++ [d]) w2 := by
  induction h with
  | nil w => exact .cons e (.nil _)
  | cons a b ih => exact .cons a (ih e)
theorem Runs.len {w w2 : W3} {ops : List Op} {ds : List D} (h : Runs w ops ds w2) : ds.length = ops.length := by
  induction h with
  | nil w => rfl
  | cons a b ih => rw [List.length_cons, List.length_cons, ih]
theorem Runs.split {w w2 : W3} {ops : List Op} {ds : List D} (h : Runs w ops ds w2) : ∀ n : Nat, ∃ w1, Runs w (ops.take n) (ds.take n) w1 ∧ Runs w1 (ops.drop n) (ds.drop n) w2 := by
  induction h with
  | nil w => intro n; exact ⟨w, by rw [List.take_nil, List.take_nil]; exact .nil _, by rw [List.drop_nil, List.drop_nil]; exact .nil _⟩
  | cons a b ih =>
    intro n
    cases n with
    | zero => exact ⟨_, .nil _, .cons a b⟩
    | succ n =>
      obtain ⟨w1, h1, h2⟩ := ih n
      exact ⟨w1, .cons a h1, h2⟩
theorem Runs.step {w w2 : W3} {ops : List Op} {ds : List D} {i : Nat} {op : Op} (h : Runs w (ops.drop i) (ds.drop i) w2) (e : ops[i]? = some op) : ∃ d w1, ds[i]? = some d ∧ workedW w op = .inr (d, w1) ∧ Runs w1 (ops.drop (i + 1)) (ds.drop (i + 1)) w2 := by
  have hl : i < ops.length := by
    rcases Nat.lt_or_ge i ops.length with z | z
    · exact z
    · rw [List.getElem?_eq_none z] at e
      cases e
  have eo : ops.drop i = op :: ops.drop (i + 1) := by
    rw [List.drop_eq_getElem_cons hl]
    rw [List.getElem?_eq_getElem hl] at e
    rw [Option.some.inj e]
  rw [eo] at h
  generalize ez : ds.drop i = z at h
  cases h with
  | cons a b =>
    rename_i w1 d rs
    have e1 : ds[i]? = some d := by
      have : (ds.drop i)[0]? = some d := by rw [ez]; rfl
      rw [List.getElem?_drop] at this
      exact this
    have e2 : ds.drop (i + 1) = rs := by
      rw [← List.drop_drop, ez]; rfl
    exact ⟨d, w1, e1, a, by rw [e2]; exact b⟩
theorem Runs.over {w w2 : W3} {ops : List Op} {ds : List D} (h : Runs w (ops.drop ops.length) (ds.drop ops.length) w2) : w = w2 := by
  rw [List.drop_length] at h
  generalize ds.drop ops.length = z at h
  cases h
  rfl
def opsD (ops : List Op) : D := .lst (ops.map Op.d)
def Op.many : Op → Nat
  | .put _ => 1
  | .take _ => 1
  | .swap _ => 1
  | _ => 0
theorem op_tup {K : PySem.W.Frag} {H : Hp} {op : Op} {v : V} (h : Rp K H op.d v) : ∃ p us, v = .ref p ∧ H p = some (.tup (.str op.word :: us)) ∧ us.length = op.many := by
  cases op <;>
  · obtain ⟨p, xs, rfl, h1, x1, xs1, rfl, h2, h3⟩ := h
    have e2 := h2
    first
    | (obtain ⟨x2, xs2, rfl, h4, h5⟩ := h3
       cases h5
       cases h2
       exact ⟨p, _, rfl, h1, rfl⟩)
    | (cases h3
       cases h2
       exact ⟨p, _, rfl, h1, rfl⟩)
abbrev argKv : List (Str × He.Dv) := [("put", .int 1), ("take", .int 1), ("swap", .int 1), ("undo", .int 0), ("redo", .int 0)]
theorem op_args {K : PySem.W.Frag} {A : Addr} (h : He.valsB K A argKv = true) (op : Op) : ∃ u, PySem.W.nsIn K A op.word = some (some u) ∧ RelV (.int (op.many : Nat)) u := by
  cases op with
  | put n => exact He.valsB_ok h (q := ("put", .int 1)) (List.mem_of_getElem? (i := 0) rfl)
  | take n => exact He.valsB_ok h (q := ("take", .int 1)) (List.mem_of_getElem? (i := 1) rfl)
  | swap n => exact He.valsB_ok h (q := ("swap", .int 1)) (List.mem_of_getElem? (i := 2) rfl)
  | undo => exact He.valsB_ok h (q := ("undo", .int 0)) (List.mem_of_getElem? (i := 3) rfl)
  | redo => exact He.valsB_ok h (q := ("redo", .int 0)) (List.mem_of_getElem? (i := 4) rfl)
def spIsOp (K : PySem.W.Frag) : Sp := fun vs H Q _ => ∃ (op : Op) (v0 : V), vs = [v0] ∧ Rp K H op.d v0 ∧ Q (.bl true) H
def spReplay (K : PySem.W.Frag) : Sp := fun vs H Q _ => ∃ (M : List Addr) (c : Addr) (rs : List Rule) (ops : List Op) (ds : List D) (w' : W3) (v0 : V), vs = [.ref (WkC K), .ref c, v0] ∧ ChainAt K H c rs ∧ Rp K (wo M H) (opsD ops) v0 ∧ (∀ op ∈ ops, op.ok) ∧ ops.length ≤ 1000 ∧ Gd K M H ∧ Runs ⟨⟨rs, nones rs.length, []⟩, [], []⟩ ops ds w' ∧
  ∀ x L S H' ss i, H x = none → H L = none → H S = none → L ≠ S → Same H H' → Gd K (x :: L :: S :: M) H' → WtAt K (x :: L :: S :: M) H' x L S ss i → H' S = some (.dK []) → Rel ss i w' → ss.length ≤ ops.length + 1 → Q (.ref x) H'
def spBatch (K : PySem.W.Frag) : Sp := fun vs H Q _ => ∃ (M : List Addr) (wt L S : Addr) (ss : List St1) (i : Nat) (ops : List Op) (ds : List D) (w w' : W3) (v0 : V), vs = [.ref wt, v0] ∧ Rp K (wo M H) (opsD ops) v0 ∧ (∀ op ∈ ops, op.ok) ∧ ops.length ≤ 1000 ∧ Gd K M H ∧ WtAt K M H wt L S ss i ∧ ss.length ≤ 90000 ∧ Rel ss i w ∧ Runs w ops ds w' ∧
  ∀ v H' ss' i', FrW wt L H H' → Gd K M H' → WtAt K M H' wt L S ss' i' → Rel ss' i' w' → ss'.length ≤ ss.length + ops.length → Rp K (wo M H') (.lst ds) v → Q v H'
theorem wo_three {M : List Addr} {H H' : Hp} {x L S : Addr} (hx : H x = none) (hL : H L = none) (hS : H S = none) (s : Same H H') : Same (wo M H) (wo (x :: L :: S :: M) H') := fun b o hb => by
  obtain ⟨b1, b2⟩ := wo_some hb
  rw [wo_at fun z => ?_]
  · exact s _ _ b2
  · rcases List.mem_cons.mp z with z | z
    · rw [z, hx] at b2; cases b2
    · rcases List.mem_cons.mp z with z | z
      · rw [z, hL] at b2; cases b2
      · rcases List.mem_cons.mp z with z | z
        · rw [z, hS] at b2; cases b2
        · exact b1 z
theorem ops_at {K : PySem.W.Frag} {H : Hp} {ops : List Op} {xs : List V} {i : Nat} {y : V} (r : RpL K H (ops.map Op.d) xs) (e : xs[i]? = some y) : ∃ op, ops[i]? = some op ∧ Rp K H op.d y := by
  obtain ⟨d, h1, h2⟩ := r.get' e
  rw [List.getElem?_map] at h1
  cases ho : ops[i]? with
  | none => rw [ho] at h1; cases h1
  | some op =>
    rw [ho] at h1
    cases h1
    exact ⟨op, rfl, h2⟩
section
variable {P : Program} {w : World} {K : PySem.W.Frag} {mg : Str → Option Value} {base : Heap}
def nmIsOp : List Str := ["value", "word"]
theorem sc_isop : FnScope nmIsOp ["value"] (defScope s_is_operation) := ⟨rfl, rfl, rfl, by decide +kernel, rfl, by decide +kernel, by decide +kernel⟩
theorem ok_isop {f : Addr} {fd : FuncData} {es : Array DictEntry} {n : Nat} (F : Fun K "is_operation" "is_operation" s_is_operation f fd) (B : Bln mg) (KD : KDict K w (He.ga K "ARGUMENTS") es n) (KV : He.valsB K (He.ga K "ARGUMENTS") argKv = true) (gA : mg "ARGUMENTS" = some (.ref (He.ga K "ARGUMENTS"))) : FnOk P w K mg base CX0 1 f fd ["value"] (spIsOp K) := by
  refine F.ok sc_isop (fun vs H Q E h => ?_) (fun cdv A outer s0 H vs Q E hr h => ?_)
  · obtain ⟨op, v0, rfl, _⟩ := h
    rfl
  · obtain ⟨op, v0, rfl, r0, q⟩ := h
    obtain ⟨p, us, rfl, hp, hl⟩ := op_tup r0
    obtain ⟨u, e1, e2⟩ := op_args KV op
    refine ⟨_, pss_cons (ps_if (PW.pt (pw_or (pt_not (pt_val (pe_callB call_isi (by rfl) B.isinstance boot_isinstance' (pa_cons (pv 0) (pa_cons (pe_bltn (v := .ty "tuple") (by rfl) B.tuple boot_tuple' rfl) pa_nil))))) (pw_or1 (pt_not (pt_truth (pv 0) (fun _ => rfl)))))) pss_never pss_nil)
      (pss_cons (ps_set (i := 1) sc_isop.nd rfl (.inl rfl) (pe_ix (r := rIxT K) ix_tup (pv 0) pe_int (fun _ _ => rfl)))
      (pss_one (ps_ret (pe_and (pe_callB call_isi (by rfl) B.isinstance boot_isinstance' (pa_cons (pv 1) (pa_cons (pe_bltn (v := .ty "str") (by rfl) B.str boot_str' rfl) pa_nil)))
        (pe_and (pe_cmpR (op_in_kd KD) (pv 1) (pe_glob (v := .ref (He.ga K "ARGUMENTS")) (by rfl) gA rfl) (by rfl))
          (pe_one (pe_cmpR op_eq (pe_callB call_len_seq (by rfl) B.len boot_len' (pa_cons (pv 0) pa_nil)) (pe_op op_add pe_int (pe_ix (r := rIxD K w) ix_kdict (pe_glob (v := .ref (He.ga K "ARGUMENTS")) (by rfl) gA rfl) (pv 1) (fun _ _ => rfl))) (nomark _)))))))), ?_⟩
    refine ⟨_, rfl, _, _, _, _, true, rfl, .ty "tuple", .base (.tup hp), kit_ty (by decide +kernel), true, rfl, iteF ?_⟩
    refine ⟨_, rfl, true, .inr (.inl ⟨_, SqT.of hp, rfl⟩), iteF ?_⟩
    refine ⟨_, rfl, p, _, (0 : Nat), .str op.word, rfl, rfl, SqT.of hp, atI_nat (j := 0) rfl, ?_⟩
    refine ⟨_, rfl, _, _, _, _, true, rfl, .ty "str", .base (.str _), kit_ty (by decide +kernel), true, rfl, iteT ?_⟩
    refine ⟨_, rfl, _, _, rfl, rfl, e1, _, rfl, iteT ?_⟩
    refine ⟨_, rfl, p, _, rfl, .inr (SqT.of hp), ?_⟩
    refine ⟨_, rfl, _, _, _, rfl, rfl, ⟨es, n, u, KD.at_, KD.lit, e1, e2⟩, _, _, rfl, rfl, rfl, ?_⟩
    have ee : (V.int ((((V.str op.word) :: us).length : Nat) : Int)) = V.int (1 + ((op.many : Nat) : Int)) := by
      rw [List.length_cons, hl]
      congr 1
      omega
    rw [ee, decide_eq_true rfl]
    exact q
end
end SC
set_option maxRecDepth 100000
set_option maxHeartbeats 2000000
namespace SC
open PySem PySem.Spec PyProof.Rows L2 TL
section
variable {P : Program} {w : World} {K : PySem.W.Frag} {mg : Str → Option Value} {base : Heap}
def nmBat : List Str := ["self", "operations", "place", "operation", "steps", "done"]
theorem sc_bat : FnScope nmBat ["self", "operations"] (defScope s_Worktop_batch) := ⟨rfl, rfl, rfl, by decide +kernel, rfl, by decide +kernel, by decide +kernel⟩
theorem ok_batch {f : Addr} {fd dx0 : FuncData} (F : Fun K "batch" "Worktop.batch" s_Worktop_batch f fd) (B : Bln mg) (hen : mg "enumerate" = none) (W : Wk K mg)
    (GI : Fu P w K mg base CX0 1 "is_operation" ["value"] (spIsOp K)) (EX : FnOk P w K mg base CX0 13 (He.ma K (WkC K) "execute") dx0 ["self", "operation"] (spDo K)) (bEX : Binds K dx0 ["self", "operation"] []) :
    FnOk P w K mg base CX0 14 f fd ["self", "operations"] (spBatch K) := by
  refine F.ok sc_bat (fun vs H Q E h => ?_) (fun cdv A outer s0 H vs Q E hr h => ?_)
  · obtain ⟨M, wt, L, S, ss, i, ops, ds, w, w', v0, rfl, _⟩ := h
    rfl
  · obtain ⟨M, wt, L, S, ss, i, ops, ds, w, w', v0, rfl, r0, hok, h1000, g, x, few, rel, run, q⟩ := h
    obtain ⟨a, xs, rfl, ha, rx⟩ := r0
    have zz := line_big
    have ha' := wo_le _ _ ha
    have lx : xs.length = ops.length := by rw [rx.len, List.length_map]
    refine ⟨_, pss_cons (ps_if (pt_not (pt_val (pe_callB call_isi (by rfl) B.isinstance boot_isinstance' (pa_cons (pv 1) (pa_cons (pe_bltn (v := .ty "list") (by rfl) B.list boot_list' rfl) pa_nil))))) pss_never pss_nil)
      (pss_cons (ps_for PassesOwn.never rfl (pi_enum (by rfl) hen (pa_cons (pv 1) pa_nil)) (pg_tup rfl (pgs_cons (pg_name (i := 2) sc_bat.nd rfl (.inl rfl)) (pgs_cons (pg_name (i := 3) sc_bat.nd rfl (.inl rfl)) pgs_nil)))
        (pss_one (ps_if (pt_not (pt_val (pe_fu GI hr (by decide) (by rfl) pass0 (pa_cons (pv 3) pa_nil)))) pss_never pss_nil)))
      (pss_cons (ps_set (i := 4) sc_bat.nd rfl (.inl rfl) (pe_callTy call_list_of (by rfl) B.list boot_list' (pa_cons (pe_fld (pv 0) rfl) pa_nil)))
      (pss_cons (ps_set (i := 5) sc_bat.nd rfl (.inl rfl) (pe_fld (pv 0) rfl))
      (pss_one (ps_try_thru0 (pss_one (ps_ret (pe_lc (own := [("operation", 3)]) (g := gName 3) (by rfl) sc_bat.nd (pi_list (pv 1)) (blkOk_by (own := [("operation", 3)]) (N := nmBat) (sc := defScope s_Worktop_batch) (by decide +kernel))
        (fun _ _ _ _ _ => pg_name (i := 3) sc_bat.nd rfl (.inl rfl)) (fun _ _ _ _ _ => pts_nil) (fun _ _ _ _ _ => pe_meth (pv 0) W.cls W.execute EX hr bEX .nil pass0 (pa_cons (pv 3) pa_nil)))))))))), ?_⟩
    refine ⟨_, rfl, _, _, _, _, true, rfl, .ty "list", .base (.lst ha'), kit_ty (by decide +kernel), true, rfl, iteF ?_⟩
    refine ⟨_, rfl, a, xs, rfl, SqL.of ha', for_enumL (K := K) (a := a) (xs := xs) (fun i σ H2 => ∃ (u v : Option V), σ = [some (.ref wt), some (.ref a), u, v, none, none] ∧ Same H H2)
      ⟨none, none, rfl, Same.refl _⟩ (fun i σ H2 ⟨_, _, _, s2⟩ => SqL.of (s2 _ _ ha')) ?_ ?_⟩
    · rintro i y2 T σ H2 hi ⟨u, v, rfl, s2⟩ hT
      obtain ⟨op, ho, r2⟩ := ops_at rx hi
      have s3 : Same H2 (upd H2 T (.tup [.int (i : Nat), y2])) := same_new hT
      refine ⟨T, _, rfl, SqT.of upd_same, rfl, _, _, rfl, _, _, rfl, rfl, ?_⟩
      refine ⟨_, rfl, op, y2, rfl, Rp.same (wo_le.trans (s2.trans s3)) _ r2, _, rfl, iteF ?_⟩
      exact ⟨_, _, rfl, s2.trans s3⟩
    · rintro σ H2 ⟨u, v, rfl, s2⟩
      have x2 := x.same s2
      obtain ⟨⟨dx, h1⟩, ⟨as, h2, h3⟩, h4, h5, mw, ml, ne⟩ := id x2
      refine ⟨_, rfl, wt, _, dx, _, _, rfl, h1, W.cls, W.nSteps, look_steps, L, _, rfl, .inl (SqL.of h2), fun l hl => ?_⟩
      have s3 : Same H2 (upd H2 l (.lst (as.map V.ref))) := same_new hl
      generalize upd H2 l (.lst (as.map V.ref)) = H3 at s3 ⊢
      have sA := s2.trans s3
      refine ⟨_, rfl, wt, _, dx, _, _, rfl, s3 _ _ h1, W.cls, W.nDone, look_done, ?_⟩
      refine ⟨_, rfl, a, rfl, ⟨xs, SqL.of (sA _ _ ha')⟩, fun D0 hD0 => ?_⟩
      have g3 := g.same sA
      have x3 := x.same sA
      have nD : D0 ∉ M := g3.out hD0
      have le0 : Same (wo M H3) (wo (D0 :: M) (upd H3 D0 (.lst []))) := wo_cons hD0 (same_new hD0)
      have x4 : WtAt K (D0 :: M) (upd H3 D0 (.lst [])) wt L S ss i := by
        obtain ⟨⟨dx', y1⟩, ⟨as', y2, y3⟩, y4, y5, y6, y7, y8⟩ := id x3
        exact ⟨⟨dx', same_new hD0 _ _ y1⟩, ⟨as', same_new hD0 _ _ y2, y3.same le0⟩, y4, y5, List.mem_cons_of_mem _ y6, List.mem_cons_of_mem _ y7, y8⟩
      have nDw : D0 ≠ wt := fun z => nD (z ▸ mw)
      have nDl : D0 ≠ L := fun z => nD (z ▸ ml)
      refine lc_list (K := K) (a := a) (xs := xs) (fun n H4 => ∃ (acc : List V) (ssn : List St1) (jn : Nat) (wn : W3), FrW wt L H H4 ∧ Same (wo M H3) (wo (D0 :: M) H4) ∧ Gd K (D0 :: M) H4 ∧ WtAt K (D0 :: M) H4 wt L S ssn jn ∧ Rel ssn jn wn ∧ ssn.length ≤ ss.length + n ∧ Runs wn (ops.drop n) (ds.drop n) w' ∧ H4 D0 = some (.lst acc) ∧ RpL K (wo (D0 :: M) H4) (ds.take n) acc) ?_ ?_ ?_ ?_
      · exact ⟨[], ss, i, w, FrW.of (sA.trans (same_new hD0)), le0, (g3.same (same_new hD0)).lst upd_same, x4, rel, Nat.le_refl _, run, upd_same, rfl⟩
      · rintro n H4 _ ⟨acc, ssn, jn, wn, f4, l4, _⟩
        exact SqL.of (wo_le _ _ (l4 _ _ (swo sA _ _ ha)))
      · rintro n y H4 hi ⟨acc, ssn, jn, wn, f4, l4, g4, x4, rel4, ln, rn, hD, ra⟩
        obtain ⟨op, ho, r2⟩ := ops_at rx hi
        obtain ⟨d, w1, hd, hw, rn2⟩ := rn.step ho
        have hlt : n < ops.length := by
          rcases Nat.lt_or_ge n ops.length with z | z
          · exact z
          · rw [List.getElem?_eq_none z] at ho
            cases ho
        refine ⟨wipe_one, ?_⟩
        simp only [tYes, if_true]
        obtain ⟨⟨dx4, h6⟩, _⟩ := id x4
        refine ⟨_, rfl, wt, dx4, _, rfl, h6, wk_no (by decide +kernel) (by decide +kernel) (by decide +kernel), ?_⟩
        refine ⟨_, rfl, D0 :: M, wt, L, S, ssn, jn, op, wn, w1, d, y, rfl, Rp.same ((swo sA).trans l4) _ r2, hok op (List.mem_of_getElem? ho), g4, x4, by omega, rel4, hw, fun v5 H5 ss5 i5 f5 g5 x5 rel5 l5 r5 => ?_⟩
        have hD5 : H5 D0 = some (.lst acc) := f5 _ _ hD nDw nDl
        have F5 : Fm (D0 :: M) H4 H5 := FrW.fm (K := K) f5 x5.mw x5.ml
        have ra5 : RpL K (wo (D0 :: M) H5) (ds.take n) acc := RpL.same F5 _ ra
        have la : acc.length ≤ n := by rw [ra.len, List.length_take]; omega
        refine ⟨acc, hD5, by omega, acc ++ [v5], ss5, i5, w1, ?_, ?_, g5.at trivial, ?_, rel5, by omega, rn2, upd_same, ?_⟩
        · intro b o hb nb1 nb2
          have b4 := f4 _ _ hb nb1 nb2
          rw [upd_ne (fun z => by
            have h9 := sA _ _ hb
            rw [z, hD0] at h9
            cases h9)]
          exact f5 _ _ b4 nb1 nb2
        · rw [wo_upd List.mem_cons_self]
          exact l4.trans F5
        · obtain ⟨⟨dx', y1⟩, ⟨as', y2, y3⟩, y4, y5, y6, y7, y8⟩ := id x5
          exact ⟨⟨dx', by rw [upd_ne nDw.symm]; exact y1⟩, ⟨as', by rw [upd_ne nDl.symm]; exact y2, by rw [wo_upd List.mem_cons_self]; exact y3⟩, y4, y5, y6, y7, y8⟩
        · rw [wo_upd List.mem_cons_self, take_more hd]
          exact ra5.snoc r5
      · rintro H4 ⟨acc, ssn, jn, wn, f4, l4, g4, x4, rel4, ln, rn, hD, ra⟩
        rw [lx] at rn ln ra
        have ew := rn.over
        subst ew
        rw [← run.len, List.take_length] at ra
        have x9 : WtAt K M H4 wt L S ssn jn := by
          obtain ⟨⟨dx', y1⟩, ⟨as', y2, y3⟩, y4, y5, y6, y7, y8⟩ := id x4
          exact ⟨⟨dx', y1⟩, ⟨as', y2, y3.same (wo_sub fun x hx => List.mem_cons_of_mem _ hx)⟩, y4, y5, mw, ml, y8⟩
        exact q _ H4 ssn jn f4 g4.tl x9 rel4 ln (lc_done nD hD ra)
end
end SC
set_option maxRecDepth 100000
set_option maxHeartbeats 2000000
namespace SC
open PySem PySem.Spec PyProof.Rows L2 TL
abbrev TL1 (K : PySem.W.Frag) : List (Addr × Str) := [((He.cT K ("law", none)).2, ("law" : Str) ++ ".<locals>." ++ "<lambda>")]
theorem tabs_frW {T : List (Addr × Str)} {wt L : Addr} {H H' : Hp} {xs : List V} {C dx : Addr} {fs : List (Str × V)} (t : LamX.Tabs T H) (hw : H wt = some (.ins C dx fs)) (hl : H L = some (.lst xs)) (f : FrW wt L H H') : LamX.Tabs T H' := fun p hp => by
  obtain ⟨ps, h1, h2, h3⟩ := t p hp
  refine ⟨ps, f _ _ h1 (ne_of h1 hw (fun z => by cases z)) (ne_of h1 hl (fun z => by cases z)), h2, fun pos cv hc => ?_⟩
  obtain ⟨c, e1, e2⟩ := h3 pos cv hc
  refine ⟨c, e1, f _ _ e2 (ne_of e2 hw fun z => ?_) (ne_of e2 hl fun z => ?_)⟩
  · unfold LamX.CodeO at z; cases z
  · unfold LamX.CodeO at z; cases z
theorem StepAt.ext {K : PySem.W.Frag} {H H' : Hp} {a : Addr} {s : St1} (h : StepAt K H a s) (e : LamX.ExtN H H') : StepAt K H' a s := by
  obtain ⟨dx, c, t, h1, h2, h3, h4⟩ := h
  exact ⟨dx, c, t, e _ _ h1 (fun _ z => by cases z), h2.ext e, e _ _ h3 (fun _ z => by cases z), h4⟩
theorem WtAt.ext {K : PySem.W.Frag} {M : List Addr} {H H' : Hp} {wt L S : Addr} {ss : List St1} {i : Nat} (x : WtAt K M H wt L S ss i) (e : LamX.ExtN H H') : WtAt K M H' wt L S ss i := by
  obtain ⟨⟨dx, h1⟩, ⟨as, h2, h3⟩, h4, h5, h6, h7, h8⟩ := x
  exact ⟨⟨dx, e _ _ h1 (fun _ z => by cases z)⟩, ⟨as, e _ _ h2 (fun _ z => by cases z), h3.1, fun j b s e1 e2 => (h3.2 j b s e1 e2).ext (wo_ext e)⟩, h4, h5, h6, h7, h8⟩
theorem W3.ok.mono {N N' : Nat} {w : W3} (h : w.ok N) (l : N ≤ N') : w.ok N' :=
  ⟨h.now.mono l, fun p hp => ⟨(h.past p hp).1, (h.past p hp).2.mono l⟩, fun u hu => ⟨⟨(h.und u hu).1.1, (h.und u hu).1.2.mono l⟩, (h.und u hu).2.mono l⟩, Nat.le_trans h.lp l, Nat.le_trans h.lu l⟩
theorem worked_er {w : W3} {op : Op} {e : Er} (h : workedW w op = .inl e) : e = .number ∨ e = .cell := by
  by_cases h3 : op.is3
  · rw [worked3 h3] at h
    split at h
    · rename_i e2 h2
      cases h
      cases op with
      | put n => unfold onW at h2; dsimp only at h2; split at h2 <;> cases h2; exact .inl rfl
      | take n =>
        unfold onW at h2; dsimp only at h2
        split at h2
        · split at h2 <;> cases h2
          exact .inl rfl
        · cases h2; exact .inr rfl
      | swap n => unfold onW at h2; dsimp only at h2; split at h2 <;> cases h2; exact .inr rfl
      | undo => exact h3.elim
      | redo => exact h3.elim
    · cases h
  · cases op with
    | put n => exact absurd trivial h3
    | take n => exact absurd trivial h3
    | swap n => exact absurd trivial h3
    | undo => unfold workedW at h; dsimp only at h; split at h <;> cases h
    | redo => unfold workedW at h; dsimp only at h; split at h <;> cases h
theorem worked_oks {w w' : W3} {op : Op} {v : D} (h : workedW w op = .inr (v, w')) : OkS 3 v := by
  by_cases h3 : op.is3
  · rw [worked3 h3] at h
    split at h
    · cases h
    · rename_i v2 n2 h2
      cases h
      cases op with
      | put n => unfold onW at h2; dsimp only at h2; split at h2 <;> cases h2; exact oks_dO
      | take n =>
        unfold onW at h2; dsimp only at h2
        split at h2
        · split at h2 <;> cases h2
          exact .int
        · cases h2
      | swap n =>
        unfold onW at h2; dsimp only at h2
        split at h2 <;> cases h2
        exact .tup (by show 2 ≤ 100000; decide) fun x hx => by
          rcases List.mem_cons.mp hx with rfl | hx
          · exact .str
          · rw [List.mem_singleton.mp hx]
            exact .str
      | undo => exact h3.elim
      | redo => exact h3.elim
  · cases op with
    | put n => exact absurd trivial h3
    | take n => exact absurd trivial h3
    | swap n => exact absurd trivial h3
    | undo => unfold workedW at h; dsimp only at h; split at h <;> cases h <;> exact .bl
    | redo => unfold workedW at h; dsimp only at h; split at h <;> cases h <;> exact .bl
theorem tabs_frD {T : List (Addr × Str)} {S : Addr} {H H' : Hp} {kvs : List (Key × V)} (t : LamX.Tabs T H) (hw : H S = some (.dK kvs)) (f : Fr1 S H H') : LamX.Tabs T H' := fun p hp => by
  obtain ⟨ps, h1, h2, h3⟩ := t p hp
  refine ⟨ps, f _ _ h1 (ne_of h1 hw (fun z => by cases z)), h2, fun pos cv hc => ?_⟩
  obtain ⟨c, e1, e2⟩ := h3 pos cv hc
  refine ⟨c, e1, f _ _ e2 (ne_of e2 hw fun z => ?_)⟩
  unfold LamX.CodeO at z; cases z
theorem tabs_fr1 {T : List (Addr × Str)} {x : Addr} {H H' : Hp} {C dx : Addr} {fs : List (Str × V)} (t : LamX.Tabs T H) (hw : H x = some (.ins C dx fs)) (f : Fr1 x H H') : LamX.Tabs T H' := fun p hp => by
  obtain ⟨ps, h1, h2, h3⟩ := t p hp
  refine ⟨ps, f _ _ h1 (ne_of h1 hw (fun z => by cases z)), h2, fun pos cv hc => ?_⟩
  obtain ⟨c, e1, e2⟩ := h3 pos cv hc
  refine ⟨c, e1, f _ _ e2 (ne_of e2 hw fun z => ?_)⟩
  unfold LamX.CodeO at z; cases z
/-! the law's own snapshots -/
abbrev Kp := Str → Option W3
def KeptAt (K : PySem.W.Frag) (M : List Addr) (H : Hp) (D : Addr) (N : Nat) (kp : Kp) : Prop := ∃ kvs : List (Key × V), H D = some (.dK kvs) ∧ kvs.length ≤ N ∧ ∀ n : Str, (kp n = none → valV kvs (.inr n) = none) ∧ ∀ w, kp n = some w → ∃ v, valV kvs (.inr n) = some v ∧ Rp K (wo M H) w.d v
def putKp (kp : Kp) (n : Str) (x : W3) : Kp := fun m => if m = n then some x else kp m
theorem KeptAt.le {K : PySem.W.Frag} {M M' : List Addr} {H H' : Hp} {S : Addr} {N : Nat} {kp : Kp} (h : KeptAt K M H S N kp) (s : Same (wo M H) (wo M' H')) (e : H' S = H S) : KeptAt K M' H' S N kp := by
  obtain ⟨kvs, h1, h2, h3⟩ := h
  refine ⟨kvs, by rw [e]; exact h1, h2, fun n => ⟨(h3 n).1, fun w hs => ?_⟩⟩
  obtain ⟨v, a, b⟩ := (h3 n).2 w hs
  exact ⟨v, a, Rp.same s _ b⟩
theorem KeptAt.mono {K : PySem.W.Frag} {M : List Addr} {H : Hp} {S : Addr} {N N' : Nat} {kp : Kp} (h : KeptAt K M H S N kp) (l : N ≤ N') : KeptAt K M H S N' kp := by
  obtain ⟨kvs, h1, h2, h3⟩ := h
  exact ⟨kvs, h1, Nat.le_trans h2 l, h3⟩
theorem SavedAt.mono {K : PySem.W.Frag} {M : List Addr} {H : Hp} {S : Addr} {N N' : Nat} {sv : Sv} (h : SavedAt K M H S N sv) (l : N ≤ N') : SavedAt K M H S N' sv := by
  obtain ⟨kvs, h1, h2, h3⟩ := h
  exact ⟨kvs, h1, Nat.le_trans h2 l, h3⟩
theorem SavedAt.ob {K : PySem.W.Frag} {M : List Addr} {H : Hp} {S : Addr} {N : Nat} {sv : Sv} (h : SavedAt K M H S N sv) : ∃ kvs, H S = some (.dK kvs) := by
  obtain ⟨kvs, h1, _⟩ := h
  exact ⟨kvs, h1⟩
theorem KeptAt.ob {K : PySem.W.Frag} {M : List Addr} {H : Hp} {S : Addr} {N : Nat} {kp : Kp} (h : KeptAt K M H S N kp) : ∃ kvs, H S = some (.dK kvs) := by
  obtain ⟨kvs, h1, _⟩ := h
  exact ⟨kvs, h1⟩
theorem KeptAt.put {K : PySem.W.Frag} {M : List Addr} {H : Hp} {S : Addr} {N : Nat} {kp : Kp} {n : Str} {w : W3} {v : V} {kvs : List (Key × V)} (hS : S ∈ M) (hl : kvs.length ≤ N)
    (h3 : ∀ n : Str, (kp n = none → valV kvs (.inr n) = none) ∧ ∀ w, kp n = some w → ∃ v, valV kvs (.inr n) = some v ∧ Rp K (wo M H) w.d v) (hv : Rp K (wo M H) w.d v) : KeptAt K M (upd H S (.dK (putK kvs (.inr n) v))) S (N + 1) (putKp kp n w) := by
  refine ⟨_, upd_same, Nat.le_trans (putK_len _ _ _) (by omega), fun m => ?_⟩
  have le : Same (wo M H) (wo M (upd H S (.dK (putK kvs (.inr n) v)))) := by rw [wo_upd hS]; exact Same.refl _
  by_cases e : m = n
  · subst e
    have e1 : valV (putK kvs (.inr m) v) (.inr m) = some v := by rw [valV_put, if_pos rfl]
    have e2 : putKp kp m w m = some w := by unfold putKp; rw [if_pos rfl]
    rw [e1, e2]
    refine ⟨(fun z => by cases z), fun w' z => ?_⟩
    cases z
    exact ⟨v, rfl, Rp.same le _ hv⟩
  · have e1 : valV (putK kvs (.inr n) v) (.inr m) = valV kvs (.inr m) := by
      rw [valV_put]
      exact if_neg (fun z => e (Sum.inr.inj z))
    have e2 : putKp kp n w m = kp m := by unfold putKp; rw [if_neg e]
    rw [e1, e2]
    refine ⟨(h3 m).1, fun w' z => ?_⟩
    obtain ⟨u, a, b⟩ := (h3 m).2 w' z
    exact ⟨u, a, Rp.same le _ b⟩
def Agr (k : Nat) (sv : Sv) (kp : Kp) : Prop := ∀ n, (kp n = none → sv n = none) ∧ ∀ w, kp n = some w → ∃ ss i, sv n = some (ss, i) ∧ Rel ss i w ∧ w.ok k ∧ ss.length ≤ k + 1
theorem Agr.mono {k k' : Nat} {sv : Sv} {kp : Kp} (h : Agr k sv kp) (l : k ≤ k') : Agr k' sv kp := fun n => ⟨(h n).1, fun w e => by
  obtain ⟨ss, i, a, b, c, d⟩ := (h n).2 w e
  exact ⟨ss, i, a, b, c.mono l, by omega⟩⟩
theorem Agr.put {k : Nat} {sv : Sv} {kp : Kp} {n : Str} {ss : List St1} {i : Nat} {w : W3} (h : Agr k sv kp) (r : Rel ss i w) (o : w.ok k) (l : ss.length ≤ k + 1) : Agr k (putSv sv n (ss, i)) (putKp kp n w) := fun m => by
  by_cases e : m = n
  · have e1 : putSv sv n (ss, i) m = some (ss, i) := by unfold putSv; rw [if_pos e]
    have e2 : putKp kp n w m = some w := by unfold putKp; rw [if_pos e]
    rw [e1, e2]
    refine ⟨(fun z => by cases z), fun w' z => ?_⟩
    cases z
    exact ⟨ss, i, rfl, r, o, l⟩
  · have e1 : putSv sv n (ss, i) m = sv m := by unfold putSv; rw [if_neg e]
    have e2 : putKp kp n w m = kp m := by unfold putKp; rw [if_neg e]
    rw [e1, e2]
    exact h m
theorem SnapV.ext {K : PySem.W.Frag} {M : List Addr} {H H' : Hp} {ss : List St1} {i : Nat} {v : V} (h : SnapV K M H ss i v) (e : LamX.ExtN H H') : SnapV K M H' ss i v := by
  obtain ⟨p, q, as, h1, h2, h3, h4, h5⟩ := h
  exact ⟨p, q, as, h1, wo_ext e _ _ h2 (fun _ z => by cases z), wo_ext e _ _ h3 (fun _ z => by cases z), ⟨h4.1, fun j b s e1 e2 => (h4.2 j b s e1 e2).ext (wo_ext e)⟩, h5⟩
theorem SavedAt.ext {K : PySem.W.Frag} {M : List Addr} {H H' : Hp} {S : Addr} {N : Nat} {sv : Sv} (h : SavedAt K M H S N sv) (e : LamX.ExtN H H') : SavedAt K M H' S N sv := by
  obtain ⟨kvs, h1, h2, h3⟩ := h
  refine ⟨kvs, e _ _ h1 (fun _ z => by cases z), h2, fun n => ⟨(h3 n).1, fun ss i hs => ?_⟩⟩
  obtain ⟨v, a, b⟩ := (h3 n).2 ss i hs
  exact ⟨v, a, b.ext e⟩
theorem KeptAt.ext {K : PySem.W.Frag} {M : List Addr} {H H' : Hp} {S : Addr} {N : Nat} {kp : Kp} (h : KeptAt K M H S N kp) (e : LamX.ExtN H H') : KeptAt K M H' S N kp := by
  obtain ⟨kvs, h1, h2, h3⟩ := h
  refine ⟨kvs, e _ _ h1 (fun _ z => by cases z), h2, fun n => ⟨(h3 n).1, fun w hs => ?_⟩⟩
  obtain ⟨v, a, b⟩ := (h3 n).2 w hs
  exact ⟨v, a, Rp.ext (wo_ext e) _ b⟩
/-- no tables among what may change -/
def Nt (M : List Addr) (H : Hp) : Prop := ∀ m ∈ M, ∃ o, H m = some o ∧ ∀ ps, o ≠ .tbl ps
theorem Nt.ne {M : List Addr} {H : Hp} (h : Nt M H) : ∀ m ∈ M, ∀ ps, H m ≠ some (.tbl ps) := fun m hm ps z => by
  obtain ⟨o, h1, h2⟩ := h m hm
  rw [h1] at z
  exact h2 ps (Option.some.inj z)
theorem Nt.same {M : List Addr} {H H' : Hp} (h : Nt M H) (s : Same H H') : Nt M H' := fun m hm => by
  obtain ⟨o, h1, h2⟩ := h m hm
  exact ⟨o, s _ _ h1, h2⟩
theorem Nt.ext {M : List Addr} {H H' : Hp} (h : Nt M H) (s : LamX.ExtN H H') : Nt M H' := fun m hm => by
  obtain ⟨o, h1, h2⟩ := h m hm
  exact ⟨o, s _ _ h1 h2, h2⟩
theorem Nt.fr1 {M : List Addr} {H H' : Hp} {c : Addr} {o : HO} (h : Nt M H) (f : Fr1 c H H') (hc : H' c = some o) (ho : ∀ ps, o ≠ .tbl ps) : Nt M H' := fun m hm => by
  by_cases e : m = c
  · rw [e]
    exact ⟨o, hc, ho⟩
  · obtain ⟨o', h1, h2⟩ := h m hm
    exact ⟨o', f _ _ h1 e, h2⟩
theorem Nt.frW {K : PySem.W.Frag} {M M' : List Addr} {H H' : Hp} {x L S : Addr} {ss : List St1} {i : Nat} (h : Nt M H) (f : FrW x L H H') (w : WtAt K M' H' x L S ss i) : Nt M H' := fun m hm => by
  by_cases e : m = x
  · obtain ⟨dx, h⟩ := w.obj
    rw [e]
    exact ⟨_, h, fun ps z => by cases z⟩
  by_cases e2 : m = L
  · obtain ⟨as, h, _⟩ := w.lst
    rw [e2]
    exact ⟨_, h, fun ps z => by cases z⟩
  obtain ⟨o', h1, h2⟩ := h m hm
  exact ⟨o', f _ _ h1 e e2, h2⟩
theorem Nt.cons {M : List Addr} {H : Hp} {c : Addr} {o : HO} (h : Nt M H) (hc : H c = some o) (ho : ∀ ps, o ≠ .tbl ps) : Nt (c :: M) H := fun m hm => by
  rcases List.mem_cons.mp hm with rfl | hm
  · exact ⟨o, hc, ho⟩
  · exact h m hm
/-- what stands while the worktop is worked on -/
structure JN (K : PySem.W.Frag) (M : List Addr) (d x Lw S0 D0 : Addr) (T : List (Addr × Str)) (N : Nat) (ss : List St1) (i : Nat) (sv : Sv) (kp : Kp) (H : Hp) : Prop where
  src : Src d H
  tab : LamX.Tabs T H
  wt : WtAt K M H x Lw S0 ss i
  sav : SavedAt K M H S0 N sv
  kep : KeptAt K M H D0 N kp
  nt : Nt M H
/-- what never changes of it -/
structure Ms (M : List Addr) (d S0 D0 Lw : Addr) : Prop where
  hd : d ∈ M
  hS : S0 ∈ M
  hD : D0 ∈ M
  nL : Lw ≠ d
  nD : S0 ≠ D0
section
variable {K : PySem.W.Frag} {M : List Addr} {d x Lw S0 D0 : Addr} {T : List (Addr × Str)} {N : Nat} {ss : List St1} {i : Nat} {sv : Sv} {kp : Kp} {H H' : Hp}
theorem JN.xd (j : JN K M d x Lw S0 D0 T N ss i sv kp H) : x ≠ d := fun z => by
  obtain ⟨_, _, h1⟩ := j.src
  obtain ⟨dx, h2⟩ := j.wt.obj
  rw [z, h1] at h2; cases h2
theorem JN.sd (j : JN K M d x Lw S0 D0 T N ss i sv kp H) : S0 ≠ d := fun z => by
  obtain ⟨_, _, h1⟩ := j.src
  obtain ⟨dx, h2⟩ := j.sav.ob
  rw [z, h1] at h2; cases h2
theorem JN.dd (j : JN K M d x Lw S0 D0 T N ss i sv kp H) : D0 ≠ d := fun z => by
  obtain ⟨_, _, h1⟩ := j.src
  obtain ⟨dx, h2⟩ := j.kep.ob
  rw [z, h1] at h2; cases h2
theorem JN.sx (j : JN K M d x Lw S0 D0 T N ss i sv kp H) : S0 ≠ x := fun z => by
  obtain ⟨_, h1⟩ := j.wt.obj
  obtain ⟨dx, h2⟩ := j.sav.ob
  rw [z, h1] at h2; cases h2
theorem JN.dx (j : JN K M d x Lw S0 D0 T N ss i sv kp H) : D0 ≠ x := fun z => by
  obtain ⟨_, h1⟩ := j.wt.obj
  obtain ⟨dx, h2⟩ := j.kep.ob
  rw [z, h1] at h2; cases h2
theorem JN.sL (j : JN K M d x Lw S0 D0 T N ss i sv kp H) : S0 ≠ Lw := fun z => by
  obtain ⟨_, h1, _⟩ := j.wt.lst
  obtain ⟨dx, h2⟩ := j.sav.ob
  rw [z, h1] at h2; cases h2
theorem JN.dL (j : JN K M d x Lw S0 D0 T N ss i sv kp H) : D0 ≠ Lw := fun z => by
  obtain ⟨_, h1, _⟩ := j.wt.lst
  obtain ⟨dx, h2⟩ := j.kep.ob
  rw [z, h1] at h2; cases h2
theorem JN.mono {N' : Nat} (j : JN K M d x Lw S0 D0 T N ss i sv kp H) (l : N ≤ N') : JN K M d x Lw S0 D0 T N' ss i sv kp H := ⟨j.src, j.tab, j.wt, j.sav.mono l, j.kep.mono l, j.nt⟩
theorem JN.ext (j : JN K M d x Lw S0 D0 T N ss i sv kp H) (e : LamX.ExtN H H') (t : LamX.Tabs T H') : JN K M d x Lw S0 D0 T N ss i sv kp H' := ⟨j.src.ext e, t, j.wt.ext e, j.sav.ext e, j.kep.ext e, j.nt.ext e⟩
theorem dwn (m : Ms M d S0 D0 Lw) : Dw (JN K M d x Lw S0 D0 T N ss i sv kp) d M := by
  refine ⟨fun {H H'} j s => ?_, fun j => j.src, fun {H H'} j f s => ?_, m.hd⟩
  · obtain ⟨k1, h1⟩ := j.sav.ob
    obtain ⟨k2, h2⟩ := j.kep.ob
    exact ⟨j.src.same s, j.tab.ext s, j.wt.same s, j.sav.le (swo s) (by rw [h1]; exact s _ _ h1), j.kep.le (swo s) (by rw [h2]; exact s _ _ h2), j.nt.same s⟩
  · obtain ⟨k1, h1⟩ := j.sav.ob
    obtain ⟨k2, h2⟩ := j.kep.ob
    obtain ⟨_, _, h9⟩ := id s
    exact ⟨s, j.src.fr1 j.tab f, j.wt.fr f m.hd j.xd m.nL, j.sav.le (Fm.of1 m.hd f) (by rw [h1]; exact f _ _ h1 j.sd), j.kep.le (Fm.of1 m.hd f) (by rw [h2]; exact f _ _ h2 j.dd), j.nt.fr1 f h9 (fun ps z => by cases z)⟩
theorem JN.frW {ss' : List St1} {i' : Nat} (j : JN K M d x Lw S0 D0 T N ss i sv kp H) (m : Ms M d S0 D0 Lw) (f : FrW x Lw H H') (w : WtAt K M H' x Lw S0 ss' i') : JN K M d x Lw S0 D0 T N ss' i' sv kp H' := by
  obtain ⟨k1, h1⟩ := j.sav.ob
  obtain ⟨k2, h2⟩ := j.kep.ob
  obtain ⟨dx, h3⟩ := j.wt.obj
  obtain ⟨as, h4, _⟩ := j.wt.lst
  have F : Fm M H H' := FrW.fm (K := K) f w.mw w.ml
  refine ⟨?_, tabs_frW j.tab h3 h4 f, w, j.sav.le F (by rw [h1]; exact f _ _ h1 j.sx j.sL), j.kep.le F (by rw [h2]; exact f _ _ h2 j.dx j.dL), j.nt.frW f w⟩
  obtain ⟨ds, a, b⟩ := j.src
  exact ⟨ds, a, f _ _ b j.xd.symm m.nL.symm⟩
/-- a snapshot saved -/
theorem JN.save {sv' : Sv} (j : JN K M d x Lw S0 D0 T N ss i sv kp H) (m : Ms M d S0 D0 Lw) (f : Fr1 S0 H H') (w : WtAt K M H' x Lw S0 ss i) (s : SavedAt K M H' S0 (N + 1) sv') : JN K M d x Lw S0 D0 T (N + 1) ss i sv' kp H' := by
  obtain ⟨k1, h1⟩ := j.sav.ob
  obtain ⟨k2, h2⟩ := j.kep.ob
  obtain ⟨k9, h9⟩ := s.ob
  refine ⟨?_, tabs_frD j.tab h1 f, w, s, (j.kep.le (Fm.of1 m.hS f) (by rw [h2]; exact f _ _ h2 m.nD.symm)).mono (Nat.le_succ _), j.nt.fr1 f h9 (fun ps z => by cases z)⟩
  obtain ⟨ds, a, b⟩ := j.src
  exact ⟨ds, a, f _ _ b j.sd.symm⟩
/-- the law's own, put -/
theorem JN.keep {kp' : Kp} {kvs : List (Key × V)} (j : JN K M d x Lw S0 D0 T N ss i sv kp H) (m : Ms M d S0 D0 Lw) (s : KeptAt K M (upd H D0 (.dK kvs)) D0 N kp') : JN K M d x Lw S0 D0 T N ss i sv kp' (upd H D0 (.dK kvs)) := by
  obtain ⟨k1, h1⟩ := j.sav.ob
  obtain ⟨k2, h2⟩ := j.kep.ob
  refine ⟨?_, tabs_frD j.tab h2 Fr1.at, j.wt.fr Fr1.at m.hD j.dx.symm j.dL.symm, j.sav.le (Fm.at m.hD) (by rw [upd_ne m.nD]), s, j.nt.fr1 Fr1.at upd_same (fun ps z => by cases z)⟩
  obtain ⟨ds, a, b⟩ := j.src
  exact ⟨ds, a, by rw [upd_ne j.dd.symm]; exact b⟩
/-- a snapshot restored -/
theorem JN.restore {L' : Addr} {ss' : List St1} {i' : Nat} (j : JN K M d x Lw S0 D0 T N ss i sv kp H) (hL : H L' = none) (f : Fr1 x H H') (w : WtAt K (L' :: M) H' x L' S0 ss' i') : Same (wo M H) (wo (L' :: M) H') ∧ JN K (L' :: M) d x L' S0 D0 T N ss' i' sv kp H' := by
  obtain ⟨k1, h1⟩ := j.sav.ob
  obtain ⟨k2, h2⟩ := j.kep.ob
  obtain ⟨dx, h3⟩ := j.wt.obj
  obtain ⟨dx8, h8⟩ := w.obj
  obtain ⟨as9, h9, _⟩ := w.lst
  have le : Same (wo M H) (wo (L' :: M) H') := fun b o hb => by
    obtain ⟨b1, b2⟩ := wo_some hb
    rw [wo_at fun z => ?_]
    · exact f _ _ b2 (fun z => b1 (z ▸ j.wt.mw))
    · rcases List.mem_cons.mp z with z | z
      · rw [z, hL] at b2; cases b2
      · exact b1 z
  refine ⟨le, ?_, tabs_fr1 j.tab h3 f, w, j.sav.le le (by rw [h1]; exact f _ _ h1 j.sx), j.kep.le le (by rw [h2]; exact f _ _ h2 j.dx), (j.nt.fr1 f h8 (fun ps z => by cases z)).cons h9 (fun ps z => by cases z)⟩
  obtain ⟨ds, a, b⟩ := j.src
  exact ⟨ds, a, f _ _ b j.xd.symm⟩
theorem use_undo {wt L S : Addr} {w : W3} (rel : Rel ss i w) : ∃ (b : Bool) (w' : W3) (i' : Nat), workedW w .undo = .inr (.bl b, w') ∧ Rel ss i' w' ∧ ∀ (H : Hp), Gd K M H → WtAt K M H wt L S ss i → ∀ (Q : VK) (E : XK), (∀ H', FrW wt L H H' → Gd K M H' → WtAt K M H' wt L S ss i' → Q (.bl b) H') → spUndo K [.ref wt] H Q E := by
  cases i with
  | zero =>
    refine ⟨false, w, 0, ?_, rel, fun H g x Q E q => ⟨M, wt, L, S, ss, 0, rfl, g, x, fun _ => q H (FrW.of (Same.refl _)) g x, fun z => absurd z (by omega)⟩⟩
    unfold workedW
    dsimp only
    rw [rel_undo0 rel]
  | succ i =>
    obtain ⟨p, e, r⟩ := rel_undo rel
    refine ⟨true, _, i, ?_, r, fun H g x Q E q => ⟨M, wt, L, S, ss, i + 1, rfl, g, x, (fun z => absurd z (by omega)), fun _ H' f g' x' => q H' f g' x'⟩⟩
    unfold workedW
    dsimp only
    rw [e]
theorem use_redo {wt L S : Addr} {w : W3} (rel : Rel ss i w) : ∃ (b : Bool) (w' : W3) (i' : Nat), workedW w .redo = .inr (.bl b, w') ∧ Rel ss i' w' ∧ ∀ (H : Hp), Gd K M H → WtAt K M H wt L S ss i → ∀ (Q : VK) (E : XK), (∀ H', FrW wt L H H' → Gd K M H' → WtAt K M H' wt L S ss i' → Q (.bl b) H') → spRedo K [.ref wt] H Q E := by
  by_cases hi : i + 1 = ss.length
  · refine ⟨false, w, i, ?_, rel, fun H g x Q E q => ⟨M, wt, L, S, ss, i, rfl, g, x, fun _ => q H (FrW.of (Same.refl _)) g x, fun z => absurd z (by omega)⟩⟩
    unfold workedW
    dsimp only
    rw [rel_redo0 rel hi]
  · have hl := rel.lt
    obtain ⟨p, e, r⟩ := rel_redo rel (by omega)
    refine ⟨true, _, i + 1, ?_, r, fun H g x Q E q => ⟨M, wt, L, S, ss, i, rfl, g, x, (fun z => absurd z hi), fun _ H' f g' x' => q H' f g' x'⟩⟩
    unfold workedW
    dsimp only
    rw [e]
/-- name in the law's own dict -/
theorem rdt_din {σ : L2.St} {ρ : List Sl} {a b : Nat} {n : Str} {bb : Bool} {J : Hp → Prop} (S : Sn K M J σ H ρ) (kep : KeptAt K M H D0 N kp) (ha : ρ[a]? = some (.dat (.str n))) (hb : ρ[b]? = some (.val (.ref D0))) (e : (kp n).isSome = bb) : RdT K M (tB (tDIn (tVar a) (tVar b))) σ H bb := fun H1 s1 g Q k => by
  obtain ⟨kvs, k1, k2, k3⟩ := kep
  obtain ⟨v, e1, r⟩ := S.e.dat ha
  cases r
  refine ⟨_, e1, _, S.e.val hb, D0, _, rfl, DGet.k (k := .inr n) (s1 _ _ k1), _, rfl, ?_⟩
  have : (valV kvs (.inr n)).isSome = bb := by
    cases hk : kp n with
    | none => rw [(k3 n).1 hk, ← e, hk]; rfl
    | some w =>
      obtain ⟨v, h, _⟩ := (k3 n).2 w hk
      rw [h, ← e, hk]; rfl
  rw [this]
  exact k H1 (Same.refl _) g
end
section
variable {P : Program} {w : World} {K : PySem.W.Frag} {mg : Str → Option Value} {base : Heap}
theorem wp_join2 {σ : L2.St} {H : Hp} {X : Cx} {st : Stmt} {b body orelse : List Stmt} {tt : TT} {D : Ends} (Jn : L2.St → Hp → Prop) (hps : PS X st (tIfS tt (wpS X body) (wpS X orelse))) (h : ∀ Nx : L2.St → Hp → Prop, (∀ σ H, Jn σ H → Nx σ H) → tt σ H (fun bb H1 => if bb = true then wpS X body { D with nx := Nx } σ H1 else wpS X orelse { D with nx := Nx } σ H1))
    (k : ∀ σ H, Jn σ H → wpS X b D σ H) : wpS X (st :: b) D σ H := wp_cons hps (h _ k)
theorem go_ifN {σ : L2.St} {H : Hp} {te : TE} {u : TS} {D : Ends} (h : te σ H fun v H1 => ∃ b, v = .bl b ∧ (if (!b) = true then u D σ H1 else tNext D σ H1)) : tIfS (tNot (tB te)) u tNext D σ H := h
theorem rd_stands {M : List Addr} {σ : L2.St} {H : Hp} {wt L S : Addr} {ss : List St1} {i : Nat} {w : W3} {ta tb : TE} (x : WtAt K M H wt L S ss i) (rel : Rel ss i w) (ok : w.ok 1000) (ha : ∀ H1, Same H H1 → ∀ Q : VK, Q (.ref wt) H1 → ta σ H1 Q) (hb : Rd K M tb σ H w.d) : Rd K M (tCall (spStands K) [] E0 (tCons ta (tCons tb tNil))) σ H (.bl true) := fun H1 s1 g Q k =>
  ha H1 s1 _ (hb H1 s1 g _ fun v H2 s2 g2 r2 => ⟨M, wt, L, S, ss, i, w, v, rfl, g2, x.same (s1.trans s2), rel, ok, r2, fun H3 s3 => k _ H3 (s2.trans s3) (g2.same s3) rfl⟩)
end
end SC
set_option maxRecDepth 100000
set_option maxHeartbeats 2000000
/-! # lists of operations in the laws -/
namespace SC
open PySem PySem.Spec PyProof.Rows L2 TL
theorem worked_ok1 {w w' : W3} {op : Op} {v : D} (h : workedW w op = .inr (v, w')) : Ok 1 v ∧ OkS 1 v := by
  by_cases h3 : op.is3
  · rw [worked3 h3] at h
    split at h
    · cases h
    · rename_i v2 n2 h2
      cases h
      cases op with
      | put n => unfold onW at h2; dsimp only at h2; split at h2 <;> cases h2; exact ⟨ok_dO, oks_dO⟩
      | take n =>
        unfold onW at h2; dsimp only at h2
        split at h2
        · split at h2 <;> cases h2
          exact ⟨.int, .int⟩
        · cases h2
      | swap n =>
        unfold onW at h2; dsimp only at h2
        split at h2 <;> cases h2
        refine ⟨.tup fun x hx => ?_, .tup (by show 2 ≤ 100000; decide) fun x hx => ?_⟩
        · rcases List.mem_cons.mp hx with rfl | hx
          · exact .str label_small
          · rw [List.mem_singleton.mp hx]
            exact .str label_small
        · rcases List.mem_cons.mp hx with rfl | hx
          · exact .str
          · rw [List.mem_singleton.mp hx]
            exact .str
      | undo => exact h3.elim
      | redo => exact h3.elim
  · cases op with
    | put n => exact absurd trivial h3
    | take n => exact absurd trivial h3
    | swap n => exact absurd trivial h3
    | undo => unfold workedW at h; dsimp only at h; split at h <;> cases h <;> exact ⟨.bl, .bl⟩
    | redo => unfold workedW at h; dsimp only at h; split at h <;> cases h <;> exact ⟨.bl, .bl⟩
theorem Runs.okd {w w' : W3} {ops : List Op} {ds : List D} (h : Runs w ops ds w') : ∀ d ∈ ds, Ok 1 d := by
  induction h with
  | nil w => intro d hd; cases hd
  | cons a b ih =>
    intro d hd
    rcases List.mem_cons.mp hd with rfl | hd
    · exact (worked_ok1 a).1
    · exact ih d hd
theorem Runs.wok {w w' : W3} {ops : List Op} {ds : List D} {N : Nat} (h : Runs w ops ds w') (o : w.ok N) : w'.ok (N + ops.length) := by
  induction h generalizing N with
  | nil w => exact o
  | cons a b ih =>
    rename_i ops' ds'
    have := ih (worked_ok o a)
    refine this.mono ?_
    rw [List.length_cons]
    omega
/-- the state of the beginning -/
def W3.first (w : W3) : N3 := match w.past with
  | [] => w.now
  | p :: _ => p.2
theorem rel_first {ss : List St1} {i : Nat} {w : W3} (h : Rel ss i w) : w.first = stAt ss 0 := by
  cases i with
  | zero =>
    have e := List.eq_nil_of_length_eq_zero h.pl
    unfold W3.first
    rw [e]
    exact h.now
  | succ i =>
    have e := h.pa 0 (Nat.succ_pos _)
    unfold W3.first
    cases hp : w.past with
    | nil => rw [hp] at e; cases e
    | cons p ps =>
      rw [hp] at e
      cases e
      rfl
theorem first_worked {ss : List St1} {i : Nat} {w w' : W3} {op : Op} {d : D} (rel : Rel ss i w) (h : workedW w op = .inr (d, w')) : w'.first = w.first := by
  by_cases h3 : op.is3
  · rw [worked3 h3] at h
    split at h
    · cases h
    · cases h
      unfold W3.first
      dsimp only
      cases hp : w.past with
      | nil => rfl
      | cons p ps => rfl
  · cases op with
    | put n => exact absurd trivial h3
    | take n => exact absurd trivial h3
    | swap n => exact absurd trivial h3
    | undo =>
      unfold workedW at h
      dsimp only at h
      cases i with
      | zero =>
        rw [rel_undo0 rel] at h
        cases h
        rfl
      | succ i =>
        obtain ⟨p, e, r⟩ := rel_undo rel
        rw [e] at h
        cases h
        rw [rel_first r, rel_first rel]
    | redo =>
      unfold workedW at h
      dsimp only at h
      by_cases hi : i + 1 = ss.length
      · rw [rel_redo0 rel hi] at h
        cases h
        rfl
      · have hl := rel.lt
        obtain ⟨p, e, r⟩ := rel_redo rel (by omega)
        rw [e] at h
        cases h
        rw [rel_first r, rel_first rel]
theorem atI_last {acc : List V} {v : V} : atI (acc ++ [v]) (-1) = some v := by
  have e : ixN (acc ++ [v]).length (-1) = some acc.length := by
    unfold ixN
    rw [List.length_append, List.length_singleton, if_neg (by decide), if_pos (by omega)]
    congr 1
    omega
  unfold atI
  rw [e]
  show (acc ++ [v])[acc.length]? = some v
  rw [List.getElem?_append_right (Nat.le_refl _), Nat.sub_self]
  rfl
section
variable {K : PySem.W.Frag} {M : List Addr} {σ : L2.St} {H : Hp}
theorem rd_lastR {R : Addr} {acc : List V} {v : V} {i : Nat} {d : D} {tb : TE} (e : σ[i]? = some (some (.ref R))) (hR : H R = some (.lst (acc ++ [v]))) (r : Rp K (wo M H) d v) (hb : Rd K M tb σ H (.int (-1))) : Rd K M (tOp (rIxL K) (tVar i) tb) σ H d := fun H1 s1 g Q k =>
  ⟨_, e, hb H1 s1 g _ fun y H2 s2 g2 ry => by
    cases ry
    exact ⟨R, _, -1, v, rfl, rfl, SqL.of ((s1.trans s2) _ _ hR), atI_last, k v H2 s2 g2 (Rp.same (swo (s1.trans s2)) _ r)⟩⟩
/-- a worktop beside another that works -/
theorem WtAt.other {x L S y L' : Addr} {H' : Hp} {ss : List St1} {i : Nat} (w : WtAt K M H x L S ss i) (f : FrW y L' H H') (hy : y ∈ M) (hL : L' ∈ M) (n1 : x ≠ y) (n2 : x ≠ L') (n3 : L ≠ y) (n4 : L ≠ L') : WtAt K M H' x L S ss i := by
  obtain ⟨⟨dx, h1⟩, ⟨as, h2, h3⟩, h4, h5, h6, h7, h8⟩ := w
  exact ⟨⟨dx, f _ _ h1 n1 n2⟩, ⟨as, f _ _ h2 n3 n4, h3.same (FrW.fm (K := K) f hy hL)⟩, h4, h5, h6, h7, h8⟩
theorem WtAt.le {x L S : Addr} {M' : List Addr} {H' : Hp} {ss : List St1} {i : Nat} (w : WtAt K M H x L S ss i) (le : Same (wo M H) (wo M' H')) (s : Same H H') (hm : ∀ a ∈ M, a ∈ M') : WtAt K M' H' x L S ss i := by
  obtain ⟨⟨dx, h1⟩, ⟨as, h2, h3⟩, h4, h5, h6, h7, h8⟩ := w
  exact ⟨⟨dx, s _ _ h1⟩, ⟨as, s _ _ h2, h3.same le⟩, h4, h5, hm _ h6, hm _ h7, h8⟩
theorem WtAt.tl {x L S m : Addr} {ss : List St1} {i : Nat} (w : WtAt K (m :: M) H x L S ss i) (h1 : x ∈ M) (h2 : L ∈ M) : WtAt K M H x L S ss i := by
  obtain ⟨y1, ⟨as', y2, y3⟩, y4, y5, y6, y7, y8⟩ := w
  exact ⟨y1, ⟨as', y2, y3.same (wo_sub fun x hx => List.mem_cons_of_mem _ hx)⟩, y4, y5, h1, h2, y8⟩
/-- [.. for k in range(n)] where each turn moves a worktop -/
theorem lc_wk {x L S : Addr} {ss : List St1} {j : Nat → Nat} {bs : List Bool} {n iv : Nat} {ta : TA} {te : TE} {Q : VK} (ha : RdA K M ta σ H [.int n]) (g : Gd K M H) (w : WtAt K M H x L S ss (j 0)) (hl : bs.length = n) (hn : n < 1000)
    (turn : ∀ (D0 : Addr) (m : Nat) (H' : Hp) (b : Bool), bs[m]? = some b → Gd K (D0 :: M) H' → WtAt K (D0 :: M) H' x L S ss (j m) → ∀ Q' : VK, (∀ H'', FrW x L H' H'' → Gd K (D0 :: M) H'' → WtAt K (D0 :: M) H'' x L S ss (j (m + 1)) → Q' (.bl b) H'') → te ((L2.wipe σ [iv]).set iv (some (.int (m : Int)))) H' Q')
    (k : ∀ v H', FrW x L H H' → Gd K M H' → WtAt K M H' x L S ss (j n) → Rp K (wo M H') (.lst (bs.map D.bl)) v → Q v H') : tLc (iRng1 ta) (gName iv) tYes te [iv] σ H Q := by
  refine ha H (Same.refl _) g _ fun xs H1 s1 g1 r1 => ?_
  obtain ⟨v, rfl, rv⟩ := rp1 r1
  cases rv
  have hs : sizeLine < 2 ^ 62 := by decide
  have zz := line_big
  refine ⟨n, rfl, by omega, by omega, fun D0 hD0 => ?_⟩
  have en : ((n : Int)).toNat = n := Int.toNat_natCast n
  rw [en]
  have w1 := w.same s1
  have nD : D0 ∉ M := g1.out hD0
  have nDw : D0 ≠ x := fun z => nD (z ▸ w.mw)
  have nDl : D0 ≠ L := fun z => nD (z ▸ w.ml)
  have le0 : Same (wo M H1) (wo (D0 :: M) (upd H1 D0 (.lst []))) := wo_cons hD0 (same_new hD0)
  refine lc_range (lo := 0) (n := n) (fun m H3 => ∃ acc : List V, FrW x L H H3 ∧ Gd K (D0 :: M) H3 ∧ WtAt K (D0 :: M) H3 x L S ss (j m) ∧ H3 D0 = some (.lst acc) ∧ acc = (bs.take m).map V.bl) ?_ ?_ ?_
  · exact ⟨[], FrW.of (s1.trans (same_new hD0)), (g1.same (same_new hD0)).lst upd_same, w1.le le0 (same_new hD0) (fun a h => List.mem_cons_of_mem _ h), upd_same, rfl⟩
  · rintro m H3 hm ⟨acc, f3, g3, w3, hD, ea⟩
    rw [Int.zero_add]
    refine ⟨wipe_one, ?_⟩
    simp only [tYes, if_true]
    have hb : bs[m]? = some bs[m] := List.getElem?_eq_getElem (by omega)
    refine turn D0 m H3 _ hb g3 w3 _ fun H4 f4 g4 w4 => ?_
    have hD4 : H4 D0 = some (.lst acc) := f4 _ _ hD nDw nDl
    refine ⟨acc, hD4, ?_, acc ++ [.bl bs[m]], ?_, g4.at trivial, ?_, upd_same, ?_⟩
    · rw [ea, List.length_map, List.length_take]
      omega
    · intro b o hb2 n1 n2
      rw [upd_ne (fun z => by
        have h9 := s1 _ _ hb2
        rw [z, hD0] at h9
        cases h9)]
      exact f4 _ _ (f3 _ _ hb2 n1 n2) n1 n2
    · obtain ⟨⟨dx', y1⟩, ⟨as', y2, y3⟩, y4, y5, y6, y7, y8⟩ := id w4
      exact ⟨⟨dx', by rw [upd_ne nDw.symm]; exact y1⟩, ⟨as', by rw [upd_ne nDl.symm]; exact y2, by rw [wo_upd List.mem_cons_self]; exact y3⟩, y4, y5, y6, y7, y8⟩
    · rw [take_more hb, List.map_append, ea]
      rfl
  · rintro H3 ⟨acc, f3, g3, w3, hD, ea⟩
    rw [← hl, List.take_length] at ea
    refine k _ H3 f3 g3.tl (w3.tl w.mw w.ml) (lc_done nD hD ?_)
    rw [ea]
    clear ea k turn hl w3 f3 g3 hD
    induction bs with
    | nil => exact rfl
    | cons b bs ih => exact ⟨_, _, rfl, rfl, ih⟩
/-- what stands while results are written down -/
structure JA (K : PySem.W.Frag) (M : List Addr) (d x L S R : Addr) (ss : List St1) (i : Nat) (ds : List D) (H : Hp) : Prop where
  src : Src d H
  wt : WtAt K M H x L S ss i
  res : ∃ acc, H R = some (.lst acc) ∧ RpL K (wo M H) ds acc
structure MsA (M : List Addr) (d x L R : Addr) : Prop where
  hd : d ∈ M
  hR : R ∈ M
  nL : L ≠ d
  nR : R ≠ d
  nRL : R ≠ L
  nRx : R ≠ x
  nx : x ≠ d
theorem dwA {d x L S R : Addr} {ss : List St1} {i : Nat} {ds : List D} (m : MsA M d x L R) : Dw (JA K M d x L S R ss i ds) d M := by
  refine ⟨fun {H H'} j s => ?_, fun j => j.src, fun {H H'} j f s => ?_, m.hd⟩
  · obtain ⟨acc, h1, h2⟩ := j.res
    exact ⟨j.src.same s, j.wt.same s, acc, s _ _ h1, RpL.same (swo s) _ h2⟩
  · obtain ⟨acc, h1, h2⟩ := j.res
    exact ⟨s, j.wt.fr f m.hd m.nx m.nL, acc, f _ _ h1 m.nR, RpL.same (Fm.of1 m.hd f) _ h2⟩
theorem JA.work {d x L S R : Addr} {ss ss' : List St1} {i i' : Nat} {ds : List D} {H' : Hp} (j : JA K M d x L S R ss i ds H) (m : MsA M d x L R) (f : FrW x L H H') (w : WtAt K M H' x L S ss' i') : JA K M d x L S R ss' i' ds H' := by
  obtain ⟨acc, h1, h2⟩ := j.res
  obtain ⟨da, hDa, hda⟩ := j.src
  exact ⟨⟨da, hDa, f _ _ hda m.nx.symm m.nL.symm⟩, w, acc, f _ _ h1 m.nRx m.nRL, RpL.same (FrW.fm (K := K) f w.mw w.ml) _ h2⟩
theorem JA.app {d x L S R : Addr} {ss : List St1} {i : Nat} {ds : List D} {acc : List V} {dv : D} {v : V} (j : JA K M d x L S R ss i ds H) (m : MsA M d x L R) (h : H R = some (.lst acc)) (r : RpL K (wo M H) ds acc) (rv : Rp K (wo M H) dv v) : JA K M d x L S R ss i (ds ++ [dv]) (upd H R (.lst (acc ++ [v]))) := by
  obtain ⟨da, hDa, hda⟩ := j.src
  refine ⟨⟨da, hDa, by rw [upd_ne m.nR.symm]; exact hda⟩, j.wt.fr Fr1.at m.hR m.nRx.symm m.nRL.symm, _, upd_same, ?_⟩
  rw [wo_upd m.hR]
  exact r.snoc rv
/-- what stands behind it -/
structure JB (K : PySem.W.Frag) (M : List Addr) (d x L S : Addr) (ss : List St1) (i : Nat) (H : Hp) : Prop where
  src : Src d H
  wt : WtAt K M H x L S ss i
theorem dwB {d x L S : Addr} {ss : List St1} {i : Nat} (hd : d ∈ M) (nx : x ≠ d) (nL : L ≠ d) : Dw (JB K M d x L S ss i) d M := by
  refine ⟨fun {H H'} j s => ?_, fun j => j.src, fun {H H'} j f s => ?_, hd⟩
  · exact ⟨j.src.same s, j.wt.same s⟩
  · exact ⟨s, j.wt.fr f hd nx nL⟩
/-- Worktop(chain) -/
theorem mk_wk {mg : Str → Option Value} {c : Addr} {rs : List Rule} {Q : VK} {E : XK} (W : Wk K mg) (g : Gd K M H) (cc : ChainAt K H c rs)
    (k : ∀ x L S H', H x = none → H L = none → H S = none → L ≠ S → Same H H' → Gd K (x :: L :: S :: M) H' → WtAt K (x :: L :: S :: M) H' x L S [⟨"", rs, nones rs.length, none⟩] 0 → H' S = some (.dK []) → Q (.ref x) H') :
    ∀ x dx, H x = none → H dx = none → dx ≠ x → spWkInit K (.ref x :: ([.ref c] ++ [])) (upd (upd H dx (.own x)) x (.ins (WkC K) dx [])) (fun v H2 => v = .non ∧ Q (.ref x) H2) E := fun x dx a1 a2 a3 => by
  have sx : Same H (upd (upd H dx (.own x)) x (.ins (WkC K) dx [])) := fun b o e => by
    rw [upd_ne (ne_of_none e a1), upd_ne (ne_of_none e a2)]
    exact e
  refine ⟨x, dx, c, rs, rfl, upd_same, cc.same sx, fun L S y H1 hL hS hy nLS f1 e1 e2 e3 st => ⟨rfl, ?_⟩⟩
  have ff : Same H H1 := fun b o hb => f1 _ _ (sx _ _ hb) (ne_of_none hb a1)
  have hyx : y ≠ x := fun z => by rw [z, upd_same] at hy; cases hy
  obtain ⟨g1, x1⟩ := wt_new (dx' := dx) W g ff a1 (sx.free hL) (sx.free hS) (sx.free hy) hyx e1 e2 e3 st
  exact k x L S H1 a1 (sx.free hL) (sx.free hS) nLS ff g1 x1 e3
theorem rel_new {rs : List Rule} : Rel [⟨"", rs, nones rs.length, none⟩] 0 ⟨⟨rs, nones rs.length, []⟩, [], []⟩ := ⟨Nat.zero_lt_one, rfl, rfl, fun j hj => by omega, rfl, fun t ht => by cases ht⟩
theorem ok_new0 {rs : List Rule} (ok1 : ∀ r ∈ rs, r.ok) (l1 : 1 ≤ rs.length) (l5 : rs.length ≤ 5) : W3.ok 0 ⟨⟨rs, nones rs.length, []⟩, [], []⟩ := ⟨⟨ok1, l1, by show rs.length ≤ 8; omega, nones_len _, Nat.zero_le _⟩, (fun p hp => by cases hp), (fun u hu => by cases hu), Nat.zero_le _, Nat.zero_le _⟩
/-- a snapshot of another is restored -/
theorem wo_rest {y L' : Addr} {H' : Hp} (hy : y ∈ M) (hL : H L' = none) (f : Fr1 y H H') : Same (wo M H) (wo (L' :: M) H') := fun b o hb => by
  obtain ⟨b1, b2⟩ := wo_some hb
  rw [wo_at fun z => ?_]
  · exact f _ _ b2 (fun z => b1 (z ▸ hy))
  · rcases List.mem_cons.mp z with z | z
    · rw [z, hL] at b2; cases b2
    · exact b1 z
theorem WtAt.rest {x L S y L' : Addr} {H' : Hp} {ss : List St1} {i : Nat} (w : WtAt K M H x L S ss i) (hy : y ∈ M) (hL : H L' = none) (f : Fr1 y H H') (n1 : x ≠ y) (n2 : L ≠ y) : WtAt K (L' :: M) H' x L S ss i := by
  obtain ⟨⟨dx, h1⟩, ⟨as, h2, h3⟩, h4, h5, h6, h7, h8⟩ := w
  exact ⟨⟨dx, f _ _ h1 n1⟩, ⟨as, f _ _ h2 n2, h3.same (wo_rest hy hL f)⟩, h4, h5, List.mem_cons_of_mem _ h6, List.mem_cons_of_mem _ h7, h8⟩
theorem Src.frW {d y L : Addr} {H' : Hp} (s : Src d H) (f : FrW y L H H') (n1 : d ≠ y) (n2 : d ≠ L) : Src d H' := by
  obtain ⟨ds, h1, h2⟩ := s
  exact ⟨ds, h1, f _ _ h2 n1 n2⟩
theorem Src.fr' {d y : Addr} {H' : Hp} (s : Src d H) (f : Fr1 y H H') (n1 : d ≠ y) : Src d H' := by
  obtain ⟨ds, h1, h2⟩ := s
  exact ⟨ds, h1, f _ _ h2 n1⟩
theorem WtAt.nd {x L S d : Addr} {ss : List St1} {i : Nat} (w : WtAt K M H x L S ss i) (s : Src d H) : d ≠ x := fun z => by
  obtain ⟨_, _, h1⟩ := s
  obtain ⟨dx, h2⟩ := w.obj
  rw [← z, h1] at h2; cases h2
theorem WtAt.nxl {x L S y L' S' : Addr} {ss ss' : List St1} {i i' : Nat} (w : WtAt K M H x L S ss i) (u : WtAt K M H y L' S' ss' i') : x ≠ L' := fun z => by
  obtain ⟨dx, h1⟩ := w.obj
  obtain ⟨as, h2, _⟩ := u.lst
  rw [z, h2] at h1; cases h1
theorem go_mk1 {mg : Str → Option Value} {c : Addr} {rs : List Rule} {i : Nat} {Q : VK} {E : XK} (e : σ[i]? = some (some (.ref c))) (W : Wk K mg) (g : Gd K M H) (cc : ChainAt K H c rs)
    (k : ∀ x L S H', H x = none → H L = none → H S = none → L ≠ S → Same H H' → Gd K (x :: L :: S :: M) H' → WtAt K (x :: L :: S :: M) H' x L S [⟨"", rs, nones rs.length, none⟩] 0 → H' S = some (.dK []) → Q (.ref x) H') : tMake (WkC K) (spWkInit K) [] E (tCons (tVar i) tNil) σ H Q := ⟨_, e, mk_wk (Q := Q) W g cc k⟩
theorem oks_zero {d : D} {n : Nat} (h : OkS 0 d) : OkS n d := by
  cases h with
  | non => exact .non
  | bl => exact .bl
  | int => exact .int
  | str => exact .str
theorem oks_up {d : D} (h : OkS 1 d) : OkS 2 d := by
  cases h with
  | non => exact .non
  | bl => exact .bl
  | int => exact .int
  | str => exact .str
  | lst a b => exact .lst a fun y hy => oks_zero (b y hy)
  | tup a b => exact .tup a fun y hy => oks_zero (b y hy)
theorem go_ret {t : TE} {D : Ends} (h : t σ H D.rt) : tRet t D σ H := h
theorem go_andV {ta tb : TE} {Q : VK} (h : ta σ H fun x H1 => ∃ c, x = .bl c ∧ if c = true then tb σ H1 Q else Q (.bl false) H1) : tAndV ta tb σ H Q := h
/-- not unequal -/
theorem ne_no {d : D} {x y : V} {n : Nat} {Q : VK} (o : Ok n d) (hn : n ≤ 64) (hx : Rp K H d x) (hy : Rp K H d y) (q : Q (.bl false) H) : rNeD K x y H Q :=
  ⟨toPy d, toPy d, Ok.dp (fun _ => rfl) d o hx, Ok.dp (fun _ => rfl) d o hy, o.shaped hn, o.shaped hn, by
    have e : PyData.eqv (toPy d) (toPy d) = true := eqD_self o hn
    rw [e]
    exact q⟩
theorem eq_yes {d : D} {x y : V} {n : Nat} {Q : VK} (o : Ok n d) (hn : n ≤ 64) (hx : Rp K H d x) (hy : Rp K H d y) (q : Q (.bl true) H) : rEqD K x y H Q :=
  ⟨toPy d, toPy d, Ok.dp (fun _ => rfl) d o hx, Ok.dp (fun _ => rfl) d o hy, o.shaped hn, o.shaped hn, by
    have e : PyData.eqv (toPy d) (toPy d) = true := eqD_self o hn
    rw [e]
    exact q⟩
end
end SC
set_option maxRecDepth 100000
set_option maxHeartbeats 2000000
/-! # a batch that fails -/
namespace SC
open PySem PySem.Spec PyProof.Rows L2 TL
theorem fn_or {P : Program} {w : World} {K : PySem.W.Frag} {mg : Str → Option Value} {base : Heap} {k : Nat} {f : Addr} {fd : FuncData} {ps : List Str} {sp1 sp2 : Sp} (F1 : FnOk P w K mg base CX0 k f fd ps sp1) (F2 : FnOk P w K mg base (L2.CX P w) k f fd ps sp2) : FnOk P w K mg base (L2.CX P w) k f fd ps (fun vs H Q E => sp1 vs H Q E ∨ sp2 vs H Q E) := by
  refine ⟨fun vs H Q E h => h.elim (F1.len vs H Q E) (F2.len vs H Q E), fun A outer s H args us vs Q E hr he hb hv h => ?_⟩
  rcases h with h | h
  · refine codeAny_mono (F1.run A outer s H args us vs Q E hr he hb hv h) fun r s' q => ?_
    cases r with
    | error e => exact (show False from q).elim
    | ok fl => cases fl <;> exact q
  · exact F2.run A outer s H args us vs Q E hr he hb hv h
theorem ps_fldK {X : Cx} {K : PySem.W.Frag} {o value : Expr} {f : Str} {pos pos' : Pos} {ta tv : TE} (hK : X.K = K) (ha : PE X o ta) (hv : PE X value tv) (hs : swapsWith value (some (.Attribute o f pos')) pos.line X.env = pure false) : PS X (.Assign [.Attribute o f pos'] value pos) (sFld K ta tv f) := hK ▸ ps_fld ha hv hs
def spExe (K : PySem.W.Frag) : Sp := fun vs H Q E => spDo K vs H Q E ∨ spDoX K vs H Q E
def spBatchX (K : PySem.W.Frag) : Sp := fun vs H _ E => ∃ (M : List Addr) (wt L S : Addr) (ss : List St1) (i N : Nat) (ops ops' : List Op) (op : Op) (ds : List D) (w w1 : W3) (e : Er) (v0 : V), vs = [.ref wt, v0] ∧ Rp K (wo M H) (opsD (ops ++ op :: ops')) v0 ∧ (∀ o ∈ ops ++ op :: ops', o.ok) ∧ (ops ++ op :: ops').length ≤ 1000 ∧ Gd K M H ∧ WtAt K M H wt L S ss i ∧ ss.length ≤ 90000 ∧ Rel ss i w ∧ w.ok N ∧ Runs w ops ds w1 ∧ workedW w1 op = .inl e ∧
  ∀ L' H', H L' = none → FrW wt L H H' → (∃ ys, H' L = some (.lst ys)) → Gd K (L' :: M) H' → WtAt K (L' :: M) H' wt L' S ss i → E (.ref (He.ga K e.cn)) none H'
section
variable {P : Program} {w : World} {K : PySem.W.Frag} {mg : Str → Option Value} {base : Heap}
theorem ok_batchX {f : Addr} {fd dx0 : FuncData} (F : Fun K "batch" "Worktop.batch" s_Worktop_batch f fd) (B : Bln mg) (hen : mg "enumerate" = none) (gS : mg "SiftError" = some (.ref (He.ga K "SiftError"))) (W : Wk K mg) (ET : ∀ e : Er, e = .number ∨ e = .cell → ErrT K e)
    (GI : Fu P w K mg base CX0 1 "is_operation" ["value"] (spIsOp K)) (EX : FnOk P w K mg base (L2.CX P w) 13 (He.ma K (WkC K) "execute") dx0 ["self", "operation"] (spExe K)) (bEX : Binds K dx0 ["self", "operation"] []) :
    FnOk P w K mg base (L2.CX P w) 14 f fd ["self", "operations"] (spBatchX K) := by
  refine F.okX sc_bat (fun vs H Q E h => ?_) (fun cdv A outer s0 H vs Q E hr h => ?_)
  · obtain ⟨M, wt, L, S, ss, i, N, ops, ops', op, ds, w, w1, e, v0, rfl, _⟩ := h
    rfl
  · obtain ⟨M, wt, L, S, ss, i, N, ops, ops', op, ds, w, w1, e, v0, rfl, r0, hok, h1000, g, x, few, rel, wok, run, bad, q⟩ := h
    obtain ⟨a, xs, rfl, ha, rx⟩ := r0
    have zz := line_big
    have ha' := wo_le _ _ ha
    have lx : xs.length = ops.length + (ops'.length + 1) := by rw [rx.len, List.length_map, List.length_append, List.length_cons]
    have lo : ops.length + (ops'.length + 1) ≤ 1000 := by rw [List.length_append, List.length_cons] at h1000; exact h1000
    refine ⟨_, pss_cons (ps_if (pt_not (pt_val (pe_callB call_isi (by rfl) B.isinstance boot_isinstance' (pa_cons (pv 1) (pa_cons (pe_bltn (v := .ty "list") (by rfl) B.list boot_list' rfl) pa_nil))))) pss_never pss_nil)
      (pss_cons (ps_for (passes_of rfl) rfl (pi_enum (by rfl) hen (pa_cons (pv 1) pa_nil)) (pg_tup rfl (pgs_cons (pg_name (i := 2) sc_bat.nd rfl (.inl rfl)) (pgs_cons (pg_name (i := 3) sc_bat.nd rfl (.inl rfl)) pgs_nil)))
        (pss_one (ps_if (pt_not (pt_val (pe_fu GI hr (by decide) (by rfl) pass0 (pa_cons (pv 3) pa_nil)))) pss_never pss_nil)))
      (pss_cons (ps_set (i := 4) sc_bat.nd rfl (.inl rfl) (pe_callTy call_list_of (by rfl) B.list boot_list' (pa_cons (pe_fld (pv 0) rfl) pa_nil)))
      (pss_cons (ps_set (i := 5) sc_bat.nd rfl (.inl rfl) (pe_fld (pv 0) rfl))
      (pss_one (ps_try_bare (c := .ref (He.ga K "SiftError")) rfl rfl ⟨rfl, by decide, .inl gS⟩ (L2H.passesAt_of rfl) (takes_of rfl rfl rfl rfl)
        (fun Wt pn xe tk _ => pss_one (ps_ret (pe_lcX (own := [("operation", 3)]) (g := gName 3) (Wx := Wt) rfl sc_bat.nd rfl rfl tk (pi_listK (K := K) rfl (pv 1)) (blkOk_by (own := [("operation", 3)]) (N := nmBat) (sc := defScope s_Worktop_batch) (by decide +kernel))
          (fun _ _ _ _ _ => pg_name (i := 3) sc_bat.nd rfl (.inl rfl)) (fun _ _ _ _ _ _ _ hx => pe_meth (pv 0) W.cls W.execute EX hr bEX .nil hx (pa_cons (pv 3) pa_nil)))))
        (fun a cls d pn again => pss_cons (ps_fldK (K := K) rfl (pv 0) (pv 4) rfl) (pss_cons (ps_fldK (K := K) rfl (pv 0) (pv 5) rfl) (pss_one (again _))))))))), ?_⟩
    refine ⟨_, rfl, _, _, _, _, true, rfl, .ty "list", .base (.lst ha'), kit_ty (by decide +kernel), true, rfl, iteF ?_⟩
    refine ⟨_, rfl, a, xs, rfl, SqL.of ha', for_enumL (K := K) (a := a) (xs := xs) (fun i σ H2 => ∃ (u v : Option V), σ = [some (.ref wt), some (.ref a), u, v, none, none] ∧ Same H H2)
      ⟨none, none, rfl, Same.refl _⟩ (fun i σ H2 ⟨_, _, _, s2⟩ => SqL.of (s2 _ _ ha')) ?_ ?_⟩
    · rintro i y2 T σ H2 hi ⟨u, v, rfl, s2⟩ hT
      obtain ⟨op, ho, r2⟩ := ops_at rx hi
      have s3 : Same H2 (upd H2 T (.tup [.int (i : Nat), y2])) := same_new hT
      refine ⟨T, _, rfl, SqT.of upd_same, rfl, _, _, rfl, _, _, rfl, rfl, ?_⟩
      refine ⟨_, rfl, op, y2, rfl, Rp.same (wo_le.trans (s2.trans s3)) _ r2, _, rfl, iteF ?_⟩
      exact ⟨_, _, rfl, s2.trans s3⟩
    · rintro σ H2 ⟨u, v, rfl, s2⟩
      have x2 := x.same s2
      obtain ⟨⟨dx, h1⟩, ⟨as, h2, h3⟩, h4, h5, mw, ml, ne⟩ := id x2
      refine ⟨_, rfl, wt, _, dx, _, _, rfl, h1, W.cls, W.nSteps, look_steps, L, _, rfl, .inl (SqL.of h2), fun l hl => ?_⟩
      have s3 : Same H2 (upd H2 l (.lst (as.map V.ref))) := same_new hl
      have wl : upd H2 l (.lst (as.map V.ref)) l = some (.lst (as.map V.ref)) := upd_same
      generalize upd H2 l (.lst (as.map V.ref)) = H3 at s3 wl ⊢
      have sA := s2.trans s3
      have hl0 : H l = none := s2.free hl
      refine ⟨_, rfl, wt, _, dx, _, _, rfl, s3 _ _ h1, W.cls, W.nDone, look_done, ?_⟩
      refine ⟨_, rfl, a, rfl, ⟨xs, SqL.of (sA _ _ ha')⟩, fun D0 hD0 => ?_⟩
      have g3 := g.same sA
      have x3 := x.same sA
      have nD : D0 ∉ M := g3.out hD0
      have lM : l ∉ M := (g.same s2).out hl
      have nlD : l ≠ D0 := fun z => by rw [z, hD0] at wl; cases wl
      have nlw : l ≠ wt := fun z => lM (z ▸ mw)
      have nll : l ≠ L := fun z => lM (z ▸ ml)
      have le0 : Same (wo M H3) (wo (D0 :: M) (upd H3 D0 (.lst []))) := wo_cons hD0 (same_new hD0)
      have x4 : WtAt K (D0 :: M) (upd H3 D0 (.lst [])) wt L S ss i := by
        obtain ⟨⟨dx', y1⟩, ⟨as', y2, y3⟩, y4, y5, y6, y7, y8⟩ := id x3
        exact ⟨⟨dx', same_new hD0 _ _ y1⟩, ⟨as', same_new hD0 _ _ y2, y3.same le0⟩, y4, y5, List.mem_cons_of_mem _ y6, List.mem_cons_of_mem _ y7, y8⟩
      have nDw : D0 ≠ wt := fun z => nD (z ▸ mw)
      have nDl : D0 ≠ L := fun z => nD (z ▸ ml)
      refine lc_list (K := K) (a := a) (xs := xs) (fun n H4 => n ≤ ops.length ∧ ∃ (acc : List V) (ssn : List St1) (jn : Nat) (wn : W3), FrW wt L H H4 ∧ Same (wo M H3) (wo (D0 :: M) H4) ∧ Gd K (D0 :: M) H4 ∧ WtAt K (D0 :: M) H4 wt L S ssn jn ∧ Rel ssn jn wn ∧ ssn.length ≤ ss.length + n ∧ wn.ok (N + n) ∧ Runs wn (ops.drop n) (ds.drop n) w1 ∧ H4 D0 = some (.lst acc) ∧ acc.length ≤ n ∧ H4 l = some (.lst (as.map V.ref))) ?_ ?_ ?_ ?_
      · exact ⟨Nat.zero_le _, [], ss, i, w, FrW.of (sA.trans (same_new hD0)), le0, (g3.same (same_new hD0)).lst upd_same, x4, rel, Nat.le_refl _, wok, run, upd_same, Nat.le_refl _, by rw [upd_ne nlD]; exact wl⟩
      · rintro n H4 _ ⟨_, acc, ssn, jn, wn, f4, l4, _⟩
        exact SqL.of (wo_le _ _ (l4 _ _ (swo sA _ _ ha)))
      · rintro n y H4 hi ⟨hn, acc, ssn, jn, wn, f4, l4, g4, x4, rel4, ln, okn, rn, hD, la, hl4⟩
        obtain ⟨o, ho, r2⟩ := ops_at rx hi
        refine ⟨wipe_one, ?_⟩
        simp only [tYes, if_true]
        obtain ⟨⟨dx4, h6⟩, _⟩ := id x4
        refine ⟨_, rfl, wt, dx4, _, rfl, h6, wk_no (by decide +kernel) (by decide +kernel) (by decide +kernel), ?_⟩
        have r2' := Rp.same ((swo sA).trans l4) _ r2
        have ook := hok o (List.mem_of_getElem? ho)
        refine ⟨_, rfl, ?_⟩
        rcases Nat.lt_or_ge n ops.length with hlt | hge
        · rw [List.getElem?_append_left hlt] at ho
          obtain ⟨d, w2, hd, hw, rn2⟩ := rn.step ho
          refine .inl ⟨D0 :: M, wt, L, S, ssn, jn, o, wn, w2, d, y, rfl, r2', ook, g4, x4, by omega, rel4, hw, fun v5 H5 ss5 i5 f5 g5 x5 rel5 l5 r5 => ?_⟩
          have hD5 : H5 D0 = some (.lst acc) := f5 _ _ hD nDw nDl
          have F5 : Fm (D0 :: M) H4 H5 := FrW.fm (K := K) f5 x5.mw x5.ml
          refine ⟨acc, hD5, by omega, hlt, acc ++ [v5], ss5, i5, w2, ?_, ?_, g5.at trivial, ?_, rel5, by omega, (worked_ok okn hw).mono (by omega), rn2, upd_same, by rw [List.length_append, List.length_singleton]; omega, by rw [upd_ne nlD]; exact f5 _ _ hl4 nlw nll⟩
          · intro b o hb nb1 nb2
            have b4 := f4 _ _ hb nb1 nb2
            rw [upd_ne (fun z => by
              have h9 := sA _ _ hb
              rw [z, hD0] at h9
              cases h9)]
            exact f5 _ _ b4 nb1 nb2
          · rw [wo_upd List.mem_cons_self]
            exact l4.trans F5
          · obtain ⟨⟨dx', y1⟩, ⟨as', y2, y3⟩, y4, y5, y6, y7, y8⟩ := id x5
            exact ⟨⟨dx', by rw [upd_ne nDw.symm]; exact y1⟩, ⟨as', by rw [upd_ne nDl.symm]; exact y2, by rw [wo_upd List.mem_cons_self]; exact y3⟩, y4, y5, y6, y7, y8⟩
        · have en : n = ops.length := by omega
          subst en
          have ew := rn.over
          subst ew
          rw [List.getElem?_append_right (Nat.le_refl _), Nat.sub_self] at ho
          cases ho
          refine .inr ⟨D0 :: M, wt, L, S, ssn, jn, op, wn, e, y, rfl, r2', ook, g4, x4, rel4, okn.now.2.2.2.1, bad, fun H5 s5 => ?_⟩
          refine ⟨true, (ET e (worked_er bad)).exm, fun _ z hz => ?_, fun z => by cases z⟩
          have h7 := s5 _ _ h6
          obtain ⟨asn, hLn, _⟩ := x4.lst
          refine ⟨_, rfl, _, rfl, wt, _, dx4, _, rfl, h7, W.cls, W.nSteps, (by show 3 < 1000; decide), ?_⟩
          rw [put_steps]
          refine ⟨_, rfl, _, rfl, wt, _, dx4, _, rfl, upd_same, W.cls, W.nDone, (by show 3 < 1000; decide), ?_⟩
          rw [put_done (v := .int (i : Int)) (j := i) rfl, upd_upd]
          have hl5 : upd H5 wt (.ins (WkC K) dx4 (wkFs l S i)) l = some (.lst (as.map V.ref)) := by rw [upd_ne nlw]; exact s5 _ _ hl4
          have le5 : Same (wo M H2) (wo (l :: M) (upd H5 wt (.ins (WkC K) dx4 (wkFs l S i)))) := fun b o hb => by
            obtain ⟨b1, b2⟩ := wo_some hb
            obtain ⟨b3, b4⟩ := wo_some (l4 b o (swo s3 b o hb))
            rw [wo_at fun z => ?_]
            · rw [upd_ne (show b ≠ wt from fun z => b1 (z ▸ mw))]
              exact s5 _ _ b4
            · rcases List.mem_cons.mp z with z | z
              · rw [z, hl] at b2; cases b2
              · exact b1 z
          refine q l _ hl0 ?_ ⟨_, by rw [upd_ne ne.symm]; exact s5 _ _ hLn⟩ (((g4.tl.same s5).at (mut_wk W)).lst hl5) ⟨⟨dx4, upd_same⟩, ⟨as, hl5, h3.same le5⟩, h4, h5, List.mem_cons_of_mem _ mw, List.mem_cons_self, nlw.symm⟩
          intro b o hb nb1 nb2
          rw [upd_ne nb1]
          exact s5 _ _ (f4 _ _ hb nb1 nb2)
      · rintro H4 ⟨hn, _⟩
        exact absurd hn (by omega)
end
end SC
set_option maxRecDepth 100000
set_option maxHeartbeats 2000000
/-! # what stands in a law with errors of batches -/
namespace SC
open PySem PySem.Spec PyProof.Rows L2 TL
theorem Runs.oks {w w' : W3} {ops : List Op} {ds : List D} (h : Runs w ops ds w') : ∀ d ∈ ds, OkS 1 d := by
  induction h with
  | nil w => intro d hd; cases hd
  | cons a b ih =>
    intro d hd
    rcases List.mem_cons.mp hd with rfl | hd
    · exact (worked_ok1 a).2
    · exact ih d hd
section
variable {K : PySem.W.Frag} {M : List Addr} {σ : L2.St} {H H' : Hp} {d x Lw S0 : Addr} {T : List (Addr × Str)} {ss : List St1} {i : Nat}
/-- if _law_error_of(lambda: ..) != e: return False, where the call changes what may change -/
theorem use_errM {t : XK → TE} {tb : TE} {S : List Er} {e : Er} {w : TS} {D : Ends} (Post : Hp → Prop) (hE : e ∈ S) (hbare : e.bare = true) (hT : LamX.Tabs T H)
    (hR : ∀ H1, LamX.ExtN H H1 → LamX.Tabs T H1 → ∀ (E : XK) (Q : VK), (∀ H', Post H' → E (.ref (He.ga K e.cn)) none H') → t E σ H1 Q) (hP : ∀ H' H'', Post H' → Same H' H'' → Post H'')
    (hb : ∀ H', Post H' → Rd K [] tb σ H' (.tup [.str e.word, .int 0])) (k : ∀ H', Post H' → D.nx σ H') : tIfS (tTest (tOp (rNeD K) (LamX.tLam T (TErrQ K S) t) tb)) w tNext D σ H := by
  refine ⟨hT, fun H1 e1 T1 => hR H1 e1 T1 _ _ fun H2 p2 => ⟨e, .int 0, hE, rfl, fun _ => ⟨rfl, rfl⟩, (fun z => by rw [hbare] at z; cases z), fun p H3 hp s3 h3 => ?_⟩⟩
  have p3 := hP _ _ p2 s3
  refine hb H3 p3 H3 (Same.refl _) Gd.nil _ fun y H4 s4 g4 ry => ?_
  have rx : Rp K H4 (.tup [.str e.word, .int 0]) (.ref p) := ⟨p, _, rfl, s4 _ _ h3, _, _, rfl, rfl, _, _, rfl, rfl, rfl⟩
  exact ne_no (er_ok (e := e) (i := 0)) (by decide) rx ry.here ⟨false, rfl, iteF (k H4 (hP _ _ p3 s4))⟩
structure JC (K : PySem.W.Frag) (M : List Addr) (d x Lw S0 : Addr) (T : List (Addr × Str)) (ss : List St1) (i : Nat) (H : Hp) : Prop where
  src : Src d H
  tab : LamX.Tabs T H
  wt : WtAt K M H x Lw S0 ss i
  nt : Nt M H
structure MC (M : List Addr) (d Lw : Addr) : Prop where
  hd : d ∈ M
  nL : Lw ≠ d
theorem dwC (m : MC M d Lw) : Dw (JC K M d x Lw S0 T ss i) d M := by
  refine ⟨fun {H H'} j s => ⟨j.src.same s, j.tab.ext s, j.wt.same s, j.nt.same s⟩, fun j => j.src, fun {H H'} j f s => ?_, m.hd⟩
  obtain ⟨_, _, h9⟩ := id s
  exact ⟨s, j.src.fr1 j.tab f, j.wt.fr f m.hd (j.wt.nd j.src).symm m.nL, j.nt.fr1 f h9 (fun ps z => by cases z)⟩
theorem JC.frW {ss' : List St1} {i' : Nat} (j : JC K M d x Lw S0 T ss i H) (m : MC M d Lw) (f : FrW x Lw H H') (w : WtAt K M H' x Lw S0 ss' i') : JC K M d x Lw S0 T ss' i' H' := by
  obtain ⟨dx, h3⟩ := j.wt.obj
  obtain ⟨as, h4, _⟩ := j.wt.lst
  exact ⟨j.src.frW f (j.wt.nd j.src) m.nL.symm, tabs_frW j.tab h3 h4 f, w, j.nt.frW f w⟩
theorem JC.ext (j : JC K M d x Lw S0 T ss i H) (e : LamX.ExtN H H') (t : LamX.Tabs T H') : JC K M d x Lw S0 T ss i H' := ⟨j.src.ext e, t, j.wt.ext e, j.nt.ext e⟩
theorem JC.back {L' : Addr} (j : JC K M d x Lw S0 T ss i H) (m : MC M d Lw) (hL : H L' = none) (f : FrW x Lw H H') (hy : ∃ ys, H' Lw = some (.lst ys)) (w : WtAt K (L' :: M) H' x L' S0 ss i) : JC K (L' :: M) d x L' S0 T ss i H' ∧ MC (L' :: M) d L' ∧ Same (wo M H) (wo (L' :: M) H') := by
  obtain ⟨dx, h3⟩ := j.wt.obj
  obtain ⟨as, h4, _⟩ := j.wt.lst
  obtain ⟨dx', h5⟩ := w.obj
  obtain ⟨as', h6, _⟩ := w.lst
  obtain ⟨ys, h7⟩ := hy
  refine ⟨⟨j.src.frW f (j.wt.nd j.src) m.nL.symm, tabs_frW j.tab h3 h4 f, w, ?_⟩, ⟨List.mem_cons_of_mem _ m.hd, fun z => ?_⟩, fun b o hb => ?_⟩
  · refine Nt.cons (fun n hn => ?_) h6 (fun ps z => by cases z)
    by_cases e : n = x
    · rw [e]
      exact ⟨_, h5, fun ps z => by cases z⟩
    by_cases e2 : n = Lw
    · rw [e2]
      exact ⟨_, h7, fun ps z => by cases z⟩
    obtain ⟨o', n1, n2⟩ := j.nt n hn
    exact ⟨o', f _ _ n1 e e2, n2⟩
  · obtain ⟨_, _, z1⟩ := j.src
    rw [← z, hL] at z1
    cases z1
  · obtain ⟨b1, b2⟩ := wo_some hb
    rw [wo_at fun z => ?_]
    · exact f _ _ b2 (fun z => b1 (z ▸ j.wt.mw)) (fun z => b1 (z ▸ j.wt.ml))
    · rcases List.mem_cons.mp z with z | z
      · rw [z, hL] at b2
        cases b2
      · exact b1 z
/-- .. while operations are written down at O -/
structure JD (K : PySem.W.Frag) (M : List Addr) (d x Lw S0 : Addr) (T : List (Addr × Str)) (O : Addr) (ss : List St1) (i : Nat) (ops : List Op) (H : Hp) : Prop where
  c : JC K M d x Lw S0 T ss i H
  res : ∃ acc, H O = some (.lst acc) ∧ RpL K (wo M H) (ops.map Op.d) acc
structure MD (M : List Addr) (d x Lw O : Addr) : Prop where
  c : MC M d Lw
  hO : O ∈ M
  nO : O ≠ d
  nOL : O ≠ Lw
  nOx : O ≠ x
theorem dwD {O : Addr} {ops : List Op} (m : MD M d x Lw O) : Dw (JD K M d x Lw S0 T O ss i ops) d M := by
  refine ⟨fun {H H'} j s => ?_, fun j => j.c.src, fun {H H'} j f s => ?_, m.c.hd⟩
  · obtain ⟨acc, h1, h2⟩ := j.res
    exact ⟨(dwC m.c).same j.c s, acc, s _ _ h1, RpL.same (swo s) _ h2⟩
  · obtain ⟨acc, h1, h2⟩ := j.res
    exact ⟨(dwC m.c).fr j.c f s, acc, f _ _ h1 m.nO, RpL.same (Fm.of1 m.c.hd f) _ h2⟩
theorem JD.app {O : Addr} {ops : List Op} {acc : List V} {op : Op} {v : V} (j : JD K M d x Lw S0 T O ss i ops H) (m : MD M d x Lw O) (h : H O = some (.lst acc)) (r : RpL K (wo M H) (ops.map Op.d) acc) (rv : Rp K (wo M H) op.d v) : JD K M d x Lw S0 T O ss i (ops ++ [op]) (upd H O (.lst (acc ++ [v]))) := by
  refine ⟨⟨j.c.src.fr' Fr1.at m.nO.symm, ?_, j.c.wt.fr Fr1.at m.hO m.nOx.symm m.nOL.symm, j.c.nt.fr1 Fr1.at upd_same (fun ps z => by cases z)⟩, _, upd_same, ?_⟩
  · exact tabs_fr j.c.tab h Fr1.at
  · rw [wo_upd m.hO, List.map_append]
    exact r.snoc rv
end
end SC
set_option maxRecDepth 100000
set_option maxHeartbeats 2000000
namespace SC
open PySem PySem.Spec PyProof.Rows L2 TL
def nmLaw : List Str := ["_law_script", "_law_d", "_law_w", "_law_worktop", "_law_turn", "_law_undone", "_law_before", "_law_operations", "_law_results", "_law_bad", "_law_k", "_law_found", "_law_given", "_law_again"]
theorem sc_law : FnScope nmLaw ["_law_script"] (defScope s_law) := ⟨rfl, rfl, rfl, by decide +kernel, rfl, by decide +kernel, by decide +kernel⟩
def spLaw (K : PySem.W.Frag) : Sp := fun vs H Q _ => ∃ (a : Addr) (ns : List Int), vs = [.ref a] ∧ SqL K H a (ns.map V.int) ∧ ns.length ≤ 63 ∧ H (He.cT K ("law", none)).2 = some (.tbl #[]) ∧ ∀ H', Q (.bl true) H'
theorem ok_opsD {ops : List Op} : Ok 2 (opsD ops) := .lst fun y hy => by
  obtain ⟨op, _, rfl⟩ := List.mem_map.mp hy
  have two : ∀ (s : Str) (n : Int), PyData.strOk s = true → Ok 1 (.tup [.str s, .int n]) := fun s n h => .tup fun z hz => by
    rcases List.mem_cons.mp hz with rfl | hz
    · exact .str h
    · rw [List.mem_singleton.mp hz]; exact .int
  have one : ∀ (s : Str), PyData.strOk s = true → Ok 1 (.tup [.str s]) := fun s h => .tup fun z hz => by
    rw [List.mem_singleton.mp hz]; exact .str h
  have h := word_ok op
  cases op with
  | put n => exact two _ _ h
  | take n => exact two _ _ h
  | swap n => exact two _ _ h
  | undo => exact one _ h
  | redo => exact one _ h
section
variable {P : Program} {w : World} {K : PySem.W.Frag} {mg : Str → Option Value} {base : Heap}
theorem ok_law {f fX : Addr} {fd di du0 de0 db : FuncData} (F : Fun K "law" "law" s_law f fd) (hf : f = He.ga K "law") (B : Bln mg) (C : ChainOk P w K mg base 10) (ER : Errs K mg) (ET : ∀ e ∈ [Er.number, Er.cell], ErrX K e) (W : Wk K mg)
    (W_init : FnOk P w K mg base CX0 10 (He.ma K (WkC K) "__init__") di ["self", "chain"] (spWkInit K)) (bW_init : Binds K di ["self", "chain"] [])
    (W_undo : FnOk P w K mg base CX0 11 (He.ma K (WkC K) "undo") du0 ["self"] (spUndo K)) (bW_undo : Binds K du0 ["self"] []) (W_redo : FnOk P w K mg base CX0 11 (He.ma K (WkC K) "redo") de0 ["self"] (spRedo K)) (bW_redo : Binds K de0 ["self"] [])
    (W_batch : FnOk P w K mg base CX0 14 (He.ma K (WkC K) "batch") db ["self", "operations"] (spBatch K)) (bW_batch : Binds K db ["self", "operations"] []) (W_batchX : FnOk P w K mg base (L2.CX P w) 14 (He.ma K (WkC K) "batch") db ["self", "operations"] (spBatchX K))
    (GR : Fu P w K mg base CX0 1 "_law_random" ["_law_script", "_law_salt"] (spRandom K)) (GB : Fu P w K mg base CX0 1 "_law_below" ["_law_d", "_law_limit"] spBelow) (GN : Fu P w K mg base CX0 3 "_law_new" ["_law_d"] (spNew K)) (GC : Fu P w K mg base CX0 11 "_law_chain" ["_law_labels_here"] (spChainOf K)) (GP : Fu P w K mg base CX0 3 "_law_operation" ["_law_d", "_law_labels_here"] (spOper K))
    (GW : Fu P w K mg base CX0 4 "_law_worked" ["_law_w", "_law_operation_here"] (spP K RWorked)) (GE : Fu P w K mg base CX0 4 "_law_equal" ["_law_actual", "_law_expected"] (spEqual K 3))
    (GS : Fu P w K mg base CX0 12 "_law_stands" ["_law_worktop", "_law_w"] (spStands K))
    (FX : ∃ fdX, Fun K "_law_error_of" "_law_error_of" s__law_error_of fX fdX) (gX : mg "_law_error_of" = some (.ref fX))
    (TB : LamX.TabB base mg (He.cT K ("law", none)).1 (He.cT K ("law", none)).2) :
    FnOk P w K mg base CX0 20 f fd ["_law_script"] (spLaw K) := by
  obtain ⟨fdX, FX⟩ := FX
  have bX := FX.binds (ps := ["_law_call"]) fun _ _ _ _ _ _ us hl => match us, hl with | [_], _ => rfl
  obtain ⟨⟨ocX, odX, kVX, docX, pmX, anX, cdX0, ctX, oslX, rfl, lkX, cdX⟩, kX⟩ := FX
  obtain ⟨⟨oc, od, kV, doc, pm, an, cdv, ct, osl, rfl, lk, hcd⟩, kp⟩ := F
  obtain ⟨c0, rfl⟩ := He.codeIn_ref hcd
  have ec : He.codeOf K ("law", none) = c0 := by
    subst hf
    exact He.codeOf_eq (p := ("law", none)) lk rfl
  have hcode0 : (He.cT K ("law", none)).1 = c0 := ec
  refine fn_of lk hcd sc_law (fun vs H Q E h => ?_) (fun A outer s H vs Q E hr h => ?_)
  · obtain ⟨a, ns, rfl, _⟩ := h
    rfl
  · obtain ⟨a, ns, rfl, hS, hl, hT0, q⟩ := h
    have hcode : (cxOf CX0 P w K mg base nmLaw "law" (defScope s_law) f (.ref c0) A outer s H E).nox.env.code = .ref (He.cT K ("law", none)).1 := by
      rw [hcode0]
      rfl
    have r11 := hr.mono (by decide : 10 + 1 ≤ 19)
    have r14 := hr.mono (by decide : 14 ≤ 19)
    have zz := line_big
    refine ⟨_, PSs.nox wpS_ok, ?_⟩
    refine wp_cons (ps_set (i := 1) sc_law.nd rfl (by first | exact .inl rfl | exact .inr rfl) (pe_fu GR hr (by decide) (by rfl) pass0 (pa_cons (pv 0) (pa_cons pe_int pa_nil)))) ?_
    refine ⟨_, rfl, a, ns, 14, rfl, hS, hl, by decide, by decide, fun d H1 ds hd0 s1 hD hd => ?_⟩
    have T0 : LamX.Tabs (TL1 K) H1 := fun p hp => by
      rw [List.mem_singleton.mp hp]
      exact LamX.TabS.nil (s1 _ _ hT0)
    have w0 : Dw (JS d (TL1 K)) d [d] := dw_js
    have E00 : Env K [d] (L2.start nmLaw [.ref a]) H1 [.val (.ref a), .any, .any, .any, .any, .any, .any, .any, .any, .any, .any, .any, .any, .any] := env_start
    have S : Sn K [d] (JS d (TL1 K)) ((L2.start nmLaw [.ref a]).set 1 (some (.ref d))) H1 _ := ⟨E00.setv (i := 1) (v := .ref d), Gd.nil.lst hd, ⟨ds, hD, hd⟩, T0⟩
    dsimp only [List.set] at S
    show wpS _ _ _ ((L2.start nmLaw [.ref a]).set 1 (some (.ref d))) H1
    generalize (L2.start nmLaw [V.ref a]).set 1 (some (V.ref d)) = σ0 at S ⊢
    clear E00 T0
    /- w -/
    refine wp_cons (ps_set (i := 2) sc_law.nd rfl (by first | exact .inl rfl | exact .inr rfl) (pe_fu GN hr (by decide) (by rfl) pass0 (pa_cons (pv 1) pa_nil))) ?_
    refine go_asg (go_call (go_cons ?_))
    refine ⟨_, S.e.val (i := 1) rfl, ?_⟩
    refine ⟨[d], d, rfl, S.g, S.j.1, w0.mem, fun rs vw H2 l1 l5 ok1 f2 g2 sr2 rw2 => ?_⟩
    have S : Sn K [d] (JS d (TL1 K)) σ0 H2 _ := ⟨S.e.fm (Fm.of1 w0.mem f2), g2, sr2, S.j.1.fr1 S.j.2 f2⟩
    refine sn_put S rw2 fun σ1 S => ?_
    dsimp only [List.set] at S
    show wpS _ _ _ _ _
    clear rw2 sr2 g2 f2
    /- worktop -/
    refine wp_cons (ps_set (i := 3) sc_law.nd rfl (by first | exact .inl rfl | exact .inr rfl) (pe_make W.mkW W_init r11 (by rfl) W.glo bW_init .nil pass0 (pa_cons (pe_fu GC hr (by decide) (by rfl) pass0 (pa_cons (pe_ix (r := rIxT K) ix_tup (pe_ix (r := rIxL K) ix_list (pv 2) pe_int (fun _ _ => rfl)) pe_int (fun _ _ => rfl)) pa_nil)) pa_nil))) ?_
    refine (rd_chainOf ok1 l1 (by omega) (rda_one (rd_ixT (d := .lst (lbD rs)) rfl (rd_ixL (d := N3.d ⟨rs, nones rs.length, []⟩) rfl (S.rd (i := 2) rfl) rd_int) rd_int))) _ (Same.refl _) S.g _ fun vc H6 s6 g6 rc => ?_
    have S6 := S.same w0 s6
    obtain ⟨c2, rfl, cc2⟩ := rc
    intro x0 dx0 b1 b2 b3
    refine mk_wk (Q := fun v H7 => gName 3 v σ1 H7 _) W g6 (cc2.same wo_le) (fun x Lw S0 H7 hx hL hS0 nLS s7 g7 x7 d7 => ?_) x0 dx0 b1 b2 b3
    clear b1 b2 b3 x0 dx0
    have le := wo_three (M := [d]) hx hL hS0 s7
    have src7 : Src d H7 := S6.j.1.same s7
    have nt7 : Nt (x :: Lw :: S0 :: [d]) H7 := by
      obtain ⟨_, _, z1⟩ := id src7
      obtain ⟨dx, z2⟩ := x7.obj
      obtain ⟨as, z3, _⟩ := x7.lst
      have nt0 : Nt [d] H7 := fun m hm => by
        rw [List.mem_singleton.mp hm]
        exact ⟨_, z1, fun ps z => by cases z⟩
      exact ((nt0.cons d7 (fun ps z => by cases z)).cons z3 (fun ps z => by cases z)).cons z2 (fun ps z => by cases z)
    have mc0 : MC (x :: Lw :: S0 :: [d]) d Lw := ⟨by simp, fun z => by obtain ⟨_, _, z2⟩ := S6.j.1; rw [← z, hL] at z2; cases z2⟩
    have S7 : Sn K (x :: Lw :: S0 :: [d]) (JC K (x :: Lw :: S0 :: [d]) d x Lw S0 (TL1 K) [⟨"", rs, nones rs.length, none⟩] 0) (σ1.set 3 (some (.ref x))) H7 _ := ⟨(S6.e.le le).setv (i := 3) (v := .ref x), g7, src7, S6.j.2.ext s7, x7, nt7⟩
    dsimp only [List.set] at S7
    show wpS _ _ _ (σ1.set 3 (some (V.ref x))) H7
    generalize σ1.set 3 (some (V.ref x)) = σ2 at S7 ⊢
    generalize x :: Lw :: S0 :: [d] = M0 at S7 mc0
    clear S S6 le nt7 src7 x7 g7 s7 d7 nLS hx hL hS0 cc2 s6 g6
    have ok0 := ok_new0 ok1 l1 l5
    /- four turns -/
    refine wp_cons (ps_for PassesOwn.never rfl (pi_range1 (by rfl) B.range (pa_cons pe_int pa_nil)) (pg_name (i := 4) sc_law.nd rfl (.inl rfl)) wpS_ok) ?_
    refine ⟨4, rfl, by decide, by decide, ?_⟩
    refine for_range (lo := 0) (n := 4) (fun t σ H => ∃ (M : List Addr) (Lw : Addr) (ss : List St1) (i : Nat) (w : W3), MC M d Lw ∧ Rel ss i w ∧ w.ok (20 * (t)) ∧ ss.length ≤ 20 * (t) + 1 ∧ Sn K M (JC K M d x Lw S0 (TL1 K) ss i) σ H [.val (.ref a), .val (.ref d), .dat w.d, .val (.ref x), .any, .any, .any, .any, .any, .any, .any, .any, .any, .any]) ⟨M0, Lw, _, 0, _, mc0, rel_new, ok0, Nat.le_refl _, S7⟩ ?_ ?_
    rotate_left
    · rintro σ H2 _
      exact wp_one (ps_ret pe_bl) (q _)
    rintro t σ3 H8 ht ⟨M, Lw, ss, i, w, mc, rel, ok, lss, S⟩
    clear S7 ok0 mc0
    refine sn_putv S fun σ4 S => ?_
    dsimp only [List.set] at S
    show wpS _ _ _ _ _
    have wkC : ∀ {ss : List St1} {i : Nat}, Dw (JC K M d x Lw S0 (TL1 K) ss i) d M := dwC mc
    have ok1000 := ok.mono (show 20 * t ≤ 1000 by omega)
    /- undone -/
    refine sn_set (ps_set (i := 5) sc_law.nd rfl (by first | exact .inl rfl | exact .inr rfl) (pe_fu GW hr (by decide) (by rfl) pass0 (pa_cons (pv 2) (pa_cons (pe_tup (pa_cons pe_str pa_nil)) pa_nil)))) S wkC (rd_P (d := workedD (workedW w .undo)) ⟨w, .undo, rfl, ok1000, rfl⟩ (rda_cons (S.rd (i := 2) rfl) (rda_one (rd_tupA (rda_one rd_str))))) fun σ5 H9 s9 S => ?_
    dsimp only [List.set] at S
    obtain ⟨bq, w', i', hq, rel', use⟩ := use_undo (K := K) (M := M) (wt := x) (L := Lw) (S := S0) rel
    rw [hq] at S
    refine wp_join (fun σ H => ∃ (i : Nat) (w : W3), Rel ss i w ∧ w.ok (20 * t + 1) ∧ Sn K M (JC K M d x Lw S0 (TL1 K) ss i) σ H [.val (.ref a), .val (.ref d), .dat w.d, .val (.ref x), .any, .any, .any, .any, .any, .any, .any, .any, .any, .any]) (ps_if (pt_cmpR op_eq (pe_fu GB hr (by decide) (by rfl) pass0 (pa_cons (pv 1) (pa_cons pe_int pa_nil))) pe_int (nomark _)) wpS_ok pss_nil) (fun Ny hM => ?_) ?_
    · show tCall _ _ _ _ _ _ _
      refine dr_below wkC S (i := 1) rfl rd_int (by decide) (by decide) fun k8 H14 h8 f14 S => ?_
      refine ⟨rfl, _, rfl, ?_⟩
      by_cases h8' : k8 = 0
      · subst h8'
        refine (if_pos (decide_eq_true rfl)).mpr ?_
        refine sn_set (ps_set (i := 2) sc_law.nd rfl (by first | exact .inl rfl | exact .inr rfl) (pe_ix (r := rIxT K) ix_tup (pv 5) pe_int (fun _ _ => rfl))) S wkC (rd_ixT (d := w'.d) rfl ((S.rd (i := 5) rfl).cast (d' := .tup [.str "", .bl bq, w'.d]) rfl) rd_int) fun σ7 H15 s15 S => ?_
        dsimp only [List.set] at S
        refine wp_one (ps_if (pt_not (pt_val (pe_fu GE hr (by decide) (by rfl) pass0 (pa_cons (pe_meth0 (pv 3) W.cls W.undo W_undo r11 bW_undo .nil pass0) (pa_cons (pe_ix (r := rIxT K) ix_tup (pv 5) pe_int (fun _ _ => rfl)) pa_nil))))) pss_never pss_nil) ?_
        refine go_ifN (go_call (go_cons ?_))
        obtain ⟨⟨dx1, hx1⟩, _⟩ := id S.j.wt
        refine ⟨_, S.e.val (i := 3) rfl, x, dx1, _, rfl, hx1, wk_no (by decide +kernel) (by decide +kernel) (by decide +kernel), ?_⟩
        refine go_nil (use _ S.g S.j.wt _ _ fun H24 f24 g24 x24 => ?_)
        have F24 : Fm M _ H24 := FrW.fm (K := K) f24 x24.mw x24.ml
        have S := Sn.mk (S.e.fm F24) g24 (S.j.frW mc f24 x24)
        refine (rda_one (rd_ixT (d := .bl bq) rfl ((S.rd (i := 5) rfl).cast (d' := .tup [.str "", .bl bq, w'.d]) rfl) rd_int)) _ (Same.refl _) S.g _ fun xs H25 s25 g25 r25 => ?_
        obtain ⟨v2, rfl, rv2⟩ := rp1 r25
        refine ⟨.bl bq, v2, rfl, eqn_of (d := .bl bq) .bl rfl rv2.here, fun H26 s26 => ⟨true, rfl, iteF ?_⟩⟩
        have S := S.same (dwC mc) (s25.trans s26)
        exact hM _ _ ⟨i', w', rel', worked_ok ok hq, S.fgt (by repeat (first | exact Fgt.nil | apply Fgt.keep | apply Fgt.any))⟩
      · refine (if_neg (fun z => h8' (by have := V.int.inj (of_decide_eq_true z); omega))).mpr ?_
        exact hM _ _ ⟨i, w, rel, ok.mono (Nat.le_succ _), S.fgt (by repeat (first | exact Fgt.nil | apply Fgt.keep | apply Fgt.any))⟩
    clear use rel' hq S
    rintro σ7 H15 ⟨i1, w1, rel1, okw1, S⟩
    /- before, operations, results, bad -/
    refine wp_cons (ps_asg (pe_tup (pa_cons (pv 2) (pa_cons (pe_lst pa_nil) (pa_cons (pe_lst pa_nil) (pa_cons pe_non pa_nil))))) (pg_tup rfl (pgs_cons (pg_name (i := 6) sc_law.nd rfl (by first | exact .inl rfl | exact .inr rfl)) (pgs_cons (pg_name (i := 7) sc_law.nd rfl (by first | exact .inl rfl | exact .inr rfl)) (pgs_cons (pg_name (i := 8) sc_law.nd rfl (by first | exact .inl rfl | exact .inr rfl)) (pgs_cons (pg_name (i := 9) sc_law.nd rfl (by first | exact .inl rfl | exact .inr rfl)) pgs_nil)))))) ?_
    obtain ⟨v2, e2, r2⟩ := S.e.dat (i := 2) rfl
    refine go_asg (go_tup (go_cons ⟨_, e2, go_cons ⟨Nat.zero_le _, fun O hO => go_cons ⟨Nat.zero_le _, fun R hR => ?_⟩⟩⟩))
    refine ⟨(by show 4 ≤ sizeLine; omega), fun p hp => ?_⟩
    refine ⟨p, _, rfl, SqT.of upd_same, rfl, _, _, rfl, _, _, rfl, _, _, rfl, _, _, rfl, rfl, ?_⟩
    have sO : Same H15 (upd H15 O (.lst [])) := same_new hO
    have sR : Same (upd H15 O (.lst [])) (upd (upd H15 O (.lst [])) R (.lst [])) := same_new hR
    have sp : Same (upd (upd H15 O (.lst [])) R (.lst [])) (upd (upd (upd H15 O (.lst [])) R (.lst [])) p (.tup [v2, .ref O, .ref R, .non])) := same_new hp
    have hO2 := sp _ _ (sR _ _ (upd_same (H := H15) (a := O) (o := .lst [])))
    have hR2 := sp _ _ (upd_same (H := upd H15 O (.lst [])) (a := R) (o := .lst []))
    have hR7 : H15 R = none := sO.free hR
    have s78 : Same H15 (upd (upd (upd H15 O (.lst [])) R (.lst [])) p (.tup [v2, .ref O, .ref R, .non])) := (sO.trans sR).trans sp
    have nRO : R ≠ O := fun z => by rw [z, upd_same] at hR; cases hR
    generalize upd (upd (upd H15 O (.lst [])) R (.lst [])) p (.tup [v2, .ref O, .ref R, .non]) = H16 at hR2 hO2 s78 ⊢
    clear sR sO sp
    have nOM : O ∉ M := S.g.out hO
    have RM : R ∉ O :: M := fun z => by
      rcases List.mem_cons.mp z with z | z
      · exact nRO z
      · exact S.g.out hR7 z
    have mx := S.j.wt.mw
    have mL := S.j.wt.ml
    have md : MD (O :: M) d x Lw O := ⟨⟨List.mem_cons_of_mem _ mc.hd, mc.nL⟩, List.mem_cons_self, fun z => nOM (z ▸ mc.hd), fun z => nOM (z ▸ mL), fun z => nOM (z ▸ mx)⟩
    have leO : Same (wo M H15) (wo (O :: M) H16) := wo_cons hO s78
    have j16 : JD K (O :: M) d x Lw S0 (TL1 K) O ss i1 [] H16 := ⟨⟨S.j.src.same s78, S.j.tab.ext s78, S.j.wt.le leO s78 (fun a h => List.mem_cons_of_mem _ h), (S.j.nt.same s78).cons hO2 (fun ps z => by cases z)⟩, [], hO2, rfl⟩
    have rR : Rp K (wo (O :: M) H16) (.lst []) (.ref R) := ⟨R, [], rfl, by rw [wo_at RM]; exact hR2, rfl⟩
    have S : Sn K (O :: M) (JD K (O :: M) d x Lw S0 (TL1 K) O ss i1 []) ((((σ7.set 6 (some v2)).set 7 (some (.ref O))).set 8 (some (.ref R))).set 9 (some .non)) H16 _ := ⟨((((S.e.le leO).set (i := 6) (Rp.same leO _ r2)).setv (i := 7) (v := .ref O)).set (i := 8) rR).set (i := 9) (d := .non) rfl, (S.g.same s78).lst hO2, j16⟩
    dsimp only [List.set] at S
    show wpS _ _ _ ((((σ7.set 6 (some v2)).set 7 (some (V.ref O))).set 8 (some (V.ref R))).set 9 (some V.non)) H16
    generalize (((σ7.set 6 (some v2)).set 7 (some (V.ref O))).set 8 (some (V.ref R))).set 9 (some V.non) = σ8 at S ⊢
    clear j16 rR leO hO2 hR2 hR7 s78 RM nRO hp hR hO e2 r2
    /- the list -/
    refine wp_cons (ps_for PassesOwn.never rfl (pi_range1 (by rfl) B.range (pa_cons (pe_fu GB hr (by decide) (by rfl) pass0 (pa_cons (pv 1) (pa_cons (pe_ix (r := rIxL K) ix_list (pe_lst (pa_cons pe_int (pa_cons pe_int pa_nil))) (pe_fu GB hr (by decide) (by rfl) pass0 (pa_cons (pv 1) (pa_cons pe_int pa_nil))) (fun _ _ => rfl)) pa_nil))) pa_nil)) (pg_name (i := 10) sc_law.nd rfl (.inl rfl)) wpS_ok) ?_
    show tCall spBelow [] E0 (tCons (tVar 1) (tCons (tOp (rIxL K) (tLst (tCons (tC (.int 4)) (tCons (tC (.int 8)) tNil))) (tCall spBelow [] E0 (tCons (tVar 1) (tCons (tC (.int 2)) tNil)))) tNil)) _ _ _
    refine go_call (go_cons ⟨_, S.e.val (i := 1) rfl, go_cons ?_⟩)
    refine dr_pick (dwD md) S (i := 1) rfl (rd_lstA (rda_cons rd_int (rda_one rd_int))) rfl (by decide) (by decide) fun dn v H17 hn f17 S rv => ?_
    obtain ⟨lim, rfl, hl0, hl8⟩ : ∃ lim : Nat, dn = .int lim ∧ 0 < lim ∧ lim ≤ 8 := by
      rcases List.mem_cons.mp hn with rfl | hn
      · exact ⟨4, rfl, by decide, by decide⟩
      · rw [List.mem_singleton.mp hn]
        exact ⟨8, rfl, by decide, by decide⟩
    cases rv
    refine go_nil (draw (dwD md) S.g S.j (lim := (lim : Int)) (by omega) (by omega) fun n H18 hn2 f18 g18 j18 => ?_)
    have S := Sn.mk (S.e.fm f18) g18 j18
    refine ⟨(n : Int), rfl, by omega, by omega, ?_⟩
    rw [Int.toNat_natCast]
    refine for_range (lo := 0) (n := n) (fun k σ H => ∃ (w2 : W3) (ops : List Op) (ds : List D) (bd : D), w2.ok (20 * t + 1 + (k)) ∧ ops.length ≤ k ∧ (∀ op ∈ ops, op.ok) ∧ ((bd = .non ∧ Runs w1 ops ds w2) ∨ (∃ (o1 : List Op) (op : Op) (o2 : List Op) (e : Er), ops = o1 ++ op :: o2 ∧ Runs w1 o1 ds w2 ∧ workedW w2 op = .inl e ∧ bd = .tup [.str e.word, .int 0])) ∧ Sn K (O :: M) (JD K (O :: M) d x Lw S0 (TL1 K) O ss i1 ops) σ H [.val (.ref a), .val (.ref d), .dat w2.d, .val (.ref x), .any, .any, .dat w1.d, .val (.ref O), .dat (.lst ds), .dat bd, .any, .any, .any, .any]) ⟨w1, [], [], .non, okw1, Nat.le_refl _, (fun op h => by cases h), .inl ⟨rfl, .nil _⟩, S.fgt (by repeat (first | exact Fgt.nil | apply Fgt.keep | apply Fgt.any))⟩ ?_ ?_
    · rintro k σ9 H19 hk ⟨w2, ops, ds, bd, okw, lops, oks, cs, S⟩
      refine sn_putv S fun σ10 S => ?_
      dsimp only [List.set] at S
      show wpS _ _ _ _ _
      have okw1000 := okw.mono (show 20 * t + 1 + k ≤ 1000 by omega)
      obtain ⟨o1, o2, o3, o4, o5⟩ := id okw1000.now
      obtain ⟨acc0, hO0, ra0⟩ := id S.j.res
      /- append -/
      refine wp_cons (ps_expr (pe_bm PySem.F.plainAttrs_list PySem.F.slot_list_append PySem.F.type_list_append mt_append (pv 7) (pa_cons (pe_fu GP hr (by decide) (by rfl) pass0 (pa_cons (pv 1) (pa_cons (pe_ix (r := rIxT K) ix_tup (pe_ix (r := rIxL K) ix_list (pv 2) pe_int (fun _ _ => rfl)) pe_int (fun _ _ => rfl)) pa_nil))) pa_nil))) ?_
      refine ⟨_, S.e.val (i := 7) rfl, .inl ⟨rfl, _, SqL.of hO0⟩, ?_⟩
      refine go_cons (go_call (go_cons ⟨_, S.e.val (i := 1) rfl, go_cons ?_⟩))
      refine (rd_ixT (d := .lst (lbD w2.now.rs)) rfl (rd_ixL (d := w2.now.d) rfl (S.rd (i := 2) rfl) rd_int) rd_int) _ (Same.refl _) S.g _ fun v1 H20 s20 g20 r20 => ?_
      have S := S.same (dwD md) s20
      refine ⟨O :: M, d, w2.now.rs, v1, rfl, g20, S.j.c.src, md.c.hd, r20, o2, o3, fun op v H21 oop f21 g21 sr21 rv => ?_⟩
      have S := S.fr1 (dwD md) f21 g21 ((dwD md).fr S.j f21 sr21)
      obtain ⟨acc, hO, ra⟩ := id S.j.res
      have la : acc.length = ops.length := by rw [ra.len, List.length_map]
      refine ⟨O, _, _, rfl, rfl, hO, by omega, ?_⟩
      have j22 := S.j.app md hO ra rv
      have e22 : wo (O :: M) (upd H21 O (.lst (acc ++ [v]))) = wo (O :: M) H21 := wo_upd md.hO
      have S := Sn.mk (S.e.le (M' := O :: M) (H' := upd H21 O (.lst (acc ++ [v]))) (by rw [e22]; exact Same.refl _)) (S.g.at trivial) j22
      have hO22 : upd H21 O (.lst (acc ++ [v])) O = some (.lst (acc ++ [v])) := upd_same
      have rv22 : Rp K (wo (O :: M) (upd H21 O (.lst (acc ++ [v])))) op.d v := by rw [e22]; exact rv
      show wpS _ _ _ _ (upd H21 O (.lst (acc ++ [v])))
      generalize upd H21 O (.lst (acc ++ [v])) = H22 at S hO22 rv22 ⊢
      clear j22 e22 rv ra hO
      have oks' : ∀ o ∈ ops ++ [op], o.ok := fun o ho => by
        rcases List.mem_append.mp ho with ho | ho
        · exact oks o ho
        · rw [List.mem_singleton.mp ho]
          exact oop
      have lops' : (ops ++ [op]).length ≤ k + 1 := by rw [List.length_append, List.length_singleton]; omega
      refine wp_join (fun σ H => ∃ (w2 : W3) (ops : List Op) (ds : List D) (bd : D), w2.ok (20 * t + 1 + (k + 1)) ∧ ops.length ≤ k + 1 ∧ (∀ op ∈ ops, op.ok) ∧ ((bd = .non ∧ Runs w1 ops ds w2) ∨ (∃ (o1 : List Op) (op : Op) (o2 : List Op) (e : Er), ops = o1 ++ op :: o2 ∧ Runs w1 o1 ds w2 ∧ workedW w2 op = .inl e ∧ bd = .tup [.str e.word, .int 0])) ∧ Sn K (O :: M) (JD K (O :: M) d x Lw S0 (TL1 K) O ss i1 ops) σ H [.val (.ref a), .val (.ref d), .dat w2.d, .val (.ref x), .any, .any, .dat w1.d, .val (.ref O), .dat (.lst ds), .dat bd, .any, .any, .any, .any]) (ps_if (pt_cmpR op_isN (pv 9) pe_non (nomark _)) wpS_ok pss_nil) (fun Nx hN => ?_) (fun σ H h => wp_nil h)
      refine (rdt_test (rd_isN (S.rd (i := 9) rfl) rd_non)) _ (Same.refl _) S.g _ fun H23 s23 g23 => ?_
      have S := S.same (dwD md) s23
      have hO23 := s23 _ _ hO22
      have rv23 := Rp.same (swo s23) _ rv22
      rcases cs with ⟨rfl, runs⟩ | ⟨q1, op1, q2, e, rfl, runs, bad, rfl⟩
      · refine (if_pos rfl).mpr ?_
        refine sn_set (ps_set (i := 11) sc_law.nd rfl (by first | exact .inl rfl | exact .inr rfl) (pe_fu GW hr (by decide) (by rfl) pass0 (pa_cons (pv 2) (pa_cons (pe_ix (r := rIxL K) ix_list (pv 7) (pe_un un_neg pe_int) (fun _ _ => rfl)) pa_nil)))) S (dwD md) (rd_P (d := workedD (workedW w2 op)) ⟨w2, op, rfl, okw1000, rfl⟩ (rda_cons (S.rd (i := 2) rfl) (rda_one (rd_lastR (S.e.val (i := 7) rfl) hO23 rv23 (rd_negI rd_int))))) fun σ11 H24 s24 S => ?_
        dsimp only [List.set] at S
        refine wp_one (ps_if (pt_cmpR op_ne (pe_ix (r := rIxT K) ix_tup (pv 11) pe_int (fun _ _ => rfl)) pe_str (nomark _)) wpS_ok wpS_ok) ?_
        cases hq : workedW w2 op with
        | inl e =>
          rw [hq] at S
          refine (rdt_test (rd_neS (rd_ixT (d := .str e.word) rfl ((S.rd (i := 11) rfl).cast (d' := .tup [.str e.word, .int 0]) rfl) rd_int) rd_str)) _ (Same.refl _) S.g _ fun H25 s25 g25 => ?_
          have S := S.same (dwD md) s25
          refine (if_pos (by rw [decide_eq_false (er_ne e)]; rfl)).mpr ?_
          refine sn_set (ps_set (i := 9) sc_law.nd rfl (by first | exact .inl rfl | exact .inr rfl) (pv 11)) S (dwD md) ((S.rd (i := 11) rfl).cast (d' := .tup [.str e.word, .int 0]) rfl) fun σ12 H26 s26 S => ?_
          dsimp only [List.set] at S
          exact wp_nil (hN _ _ ⟨w2, ops ++ [op], ds, _, okw.mono (by omega), lops', oks', .inr ⟨ops, op, [], e, rfl, runs, hq, rfl⟩, S.fgt (by repeat (first | exact Fgt.nil | apply Fgt.keep | apply Fgt.any))⟩)
        | inr pq =>
          obtain ⟨dv, w3⟩ := pq
          rw [hq] at S
          refine (rdt_test (rd_neS (rd_ixT (d := .str "") rfl ((S.rd (i := 11) rfl).cast (d' := .tup [.str "", dv, w3.d]) rfl) rd_int) rd_str)) _ (Same.refl _) S.g _ fun H25 s25 g25 => ?_
          have S := S.same (dwD md) s25
          refine (if_neg (by decide +kernel)).mpr ?_
          have lds := runs.len
          refine sn_par (ps_par (i := 8) (j := 2) (by rfl) sc_law.nd rfl rfl (by decide) rfl rfl (pa_cons (pe_op op_cat (pv 8) (pe_lst (pa_cons (pe_ix (r := rIxT K) ix_tup (pv 11) pe_int (fun _ _ => rfl)) pa_nil))) (pa_cons (pe_ix (r := rIxT K) ix_tup (pv 11) pe_int (fun _ _ => rfl)) pa_nil)) (by rfl)) S (dwD md) (rda_cons (rd_cat (by rw [List.length_singleton]; omega) (S.rd (i := 8) rfl) (rd_lstA (rda_one (rd_ixT (d := dv) rfl ((S.rd (i := 11) rfl).cast (d' := .tup [.str "", dv, w3.d]) rfl) rd_int)))) (rda_one (rd_ixT (d := w3.d) rfl ((S.rd (i := 11) rfl).cast (d' := .tup [.str "", dv, w3.d]) rfl) rd_int))) fun σ12 H26 s26 S => ?_
          dsimp only [List.set] at S
          exact wp_nil (hN _ _ ⟨w3, ops ++ [op], ds ++ [dv], .non, (worked_ok okw hq).mono (by omega), lops', oks', .inl ⟨rfl, runs.snoc hq⟩, S.fgt (by repeat (first | exact Fgt.nil | apply Fgt.keep | apply Fgt.any))⟩)
      · refine (if_neg (fun z => by cases z)).mpr ?_
        exact hN _ _ ⟨w2, _, ds, _, okw.mono (by omega), lops', oks', .inr ⟨q1, op1, q2 ++ [op], e, by rw [List.append_assoc]; rfl, runs, bad, rfl⟩, S.fgt (by repeat (first | exact Fgt.nil | apply Fgt.keep | apply Fgt.any))⟩
    rintro σ9 H19 ⟨w2, ops, ds, bd, okw, lops, oks, cs, S⟩
    obtain ⟨acc, hO, ra⟩ := id S.j.res
    have rO : Rp K (wo M H19) (opsD ops) (.ref O) := ⟨O, acc, rfl, by rw [wo_at nOM]; exact hO, RpL.same (wo_sub fun x hx => List.mem_cons_of_mem _ hx) _ ra⟩
    have S : Sn K M (JC K M d x Lw S0 (TL1 K) ss i1) σ9 H19 _ := ⟨S.e.less.asD (i := 7) rfl rO, S.g.tl, S.j.c.src, S.j.c.tab, S.j.c.wt.tl mx mL, fun m hm => S.j.c.nt m (List.mem_cons_of_mem _ hm)⟩
    dsimp only [List.set] at S
    clear rO ra hO md nOM
    have lops7 : ops.length ≤ 7 := by omega
    /- given -/
    refine sn_set (ps_set (i := 12) sc_law.nd rfl (by first | exact .inl rfl | exact .inr rfl) (pe_callTy (r := rListOf K) call_list_of (by rfl) B.list boot_list' (pa_cons (pv 7) pa_nil))) S wkC ((rd_listL (rda_one (S.rd (i := 7) rfl))).cast (d' := opsD ops) rfl) fun σ10 H20 s20 S => ?_
    dsimp only [List.set] at S
    refine wp_join2 (fun σ H => ∃ (M : List Addr) (Lw : Addr) (ss : List St1) (i : Nat) (w : W3), MC M d Lw ∧ Rel ss i w ∧ w.ok (20 * t + 10) ∧ ss.length ≤ 20 * t + 10 ∧ Sn K M (JC K M d x Lw S0 (TL1 K) ss i) σ H [.val (.ref a), .val (.ref d), .dat w.d, .val (.ref x), .any, .any, .any, .dat (opsD ops), .any, .any, .any, .any, .dat (opsD ops), .any]) (ps_if (pt_cmpR op_notN (pv 9) pe_non (nomark _)) wpS_ok wpS_ok) (fun Nx hN => ?_) ?_
    · refine (rdt_test (rd_notN (S.rd (i := 9) rfl) rd_non)) _ (Same.refl _) S.g _ fun H21 s21 g21 => ?_
      have S := S.same wkC s21
      rcases cs with ⟨rfl, runs⟩ | ⟨q1, op1, q2, e, rfl, runs, bad, rfl⟩
      · refine (if_neg (fun z => by cases z)).mpr ?_
        refine wp_one (ps_if (pt_not (pt_val (pe_fu GE hr (by decide) (by rfl) pass0 (pa_cons (pe_meth (pv 3) W.cls W.batch W_batch r14 bW_batch .nil pass0 (pa_cons (pv 12) pa_nil)) (pa_cons (pv 8) pa_nil))))) pss_never pss_nil) ?_
        refine go_ifN (go_call (go_cons ?_))
        obtain ⟨⟨dx1, hx1⟩, _⟩ := id S.j.wt
        obtain ⟨v12, e12, r12⟩ := S.e.dat (i := 12) rfl
        refine ⟨_, S.e.val (i := 3) rfl, x, dx1, _, rfl, hx1, wk_no (by decide +kernel) (by decide +kernel) (by decide +kernel), _, e12, ?_⟩
        refine ⟨M, x, Lw, S0, ss, i1, ops, ds, w1, w2, v12, rfl, r12, oks, by omega, S.g, S.j.wt, by omega, rel1, runs, fun v H22 ss' i' f22 g22 x22 rel' l' rv => ?_⟩
        have F22 : Fm M _ H22 := FrW.fm (K := K) f22 x22.mw x22.ml
        have S := Sn.mk (S.e.fm F22) g22 (S.j.frW mc f22 x22)
        refine (rda_one (S.rd (i := 8) rfl)) _ (Same.refl _) S.g _ fun xs H25 s25 g25 r25 => ?_
        obtain ⟨v2, rfl, rv2⟩ := rp1 r25
        have lds := runs.len
        refine ⟨v, v2, rfl, eqn_of (d := .lst ds) (.lst (by omega) fun y hy => oks_up (runs.oks y hy)) (rv.fm (Fm.of s25)).here rv2.here, fun H26 s26 => ⟨true, rfl, iteF ?_⟩⟩
        have S := S.same (dwC mc) (s25.trans s26)
        exact hN _ _ ⟨M, Lw, ss', i', w2, mc, rel', okw.mono (by omega), by omega, S.fgt (by repeat (first | exact Fgt.nil | apply Fgt.keep | apply Fgt.any))⟩
      · refine (if_pos rfl).mpr ?_
        refine sn_set (ps_set (i := 2) sc_law.nd rfl (by first | exact .inl rfl | exact .inr rfl) (pv 6)) S wkC (S.rd (i := 6) rfl) fun σ11 H22 s22 S => ?_
        dsimp only [List.set] at S
        refine wp_one (ps_if (pt_cmpR (r := rNeD K) (op_neD hr.units) (LamX.pe_lamcall (k := 14) (T := TL1 K) (TT := TErrQ K [.number, .cell]) (c := (He.cT K ("law", none)).1) (P := (He.cT K ("law", none)).2) (by rfl) gX kX lkX cdX bX sc_err rfl (.inl rfl) (err_givesQ rfl rfl B ER ET) TB hcode List.mem_cons_self (fun p hp _ => by rw [List.mem_singleton.mp hp]; rfl) (hr.mono (by decide)) (LamX.lamS_by (sc := defScope s_law) (by decide +kernel)) rfl (fun _ _ _ _ _ => rfl)
            (fun A0 outer0 s0 H0 E1 f0 c0 hr0 => pe_meth (pv 3) W.cls W.batch W_batchX hr0 bW_batch .nil (passes_call (takes_of rfl rfl rfl rfl) (fun _ _ _ _ h => h)) (pa_cons (pv 12) pa_nil))) (pv 9) (nomark _)) pss_never pss_nil) ?_
        have lq : (q1 ++ op1 :: q2).length ≤ 1000 := by omega
        refine use_errM (fun H' => ∃ L', MC (L' :: M) d L' ∧ Sn K (L' :: M) (JC K (L' :: M) d x L' S0 (TL1 K) ss i1) σ11 H' [.val (.ref a), .val (.ref d), .dat w1.d, .val (.ref x), .any, .any, .any, .dat (opsD (q1 ++ op1 :: q2)), .any, .dat (.tup [.str e.word, .int 0]), .any, .any, .dat (opsD (q1 ++ op1 :: q2)), .any]) (by rcases worked_er bad with rfl | rfl <;> simp) (by rcases worked_er bad with rfl | rfl <;> rfl) S.j.tab (fun H23 e23 T23 E Q hE => ?_) (fun H' H'' ⟨L', mc', S'⟩ s' => ⟨L', mc', S'.same (dwC mc') s'⟩) (fun H' ⟨L', mc', S'⟩ => (S'.e.nil.rd (i := 9) rfl).cast rfl) (fun H' ⟨L', mc', S'⟩ => ?_)
        · have S1 : Sn K M (JC K M d x Lw S0 (TL1 K) ss i1) σ11 H23 _ := ⟨S.e.ext e23, S.g.ext e23 S.j.nt.ne, S.j.ext e23 T23⟩
          obtain ⟨dx1, hx1⟩ := S1.j.wt.obj
          obtain ⟨v12, e12, r12⟩ := S1.e.dat (i := 12) rfl
          refine ⟨_, S1.e.val (i := 3) rfl, x, dx1, _, rfl, hx1, wk_no (by decide +kernel) (by decide +kernel) (by decide +kernel), _, e12, ?_⟩
          refine ⟨M, x, Lw, S0, ss, i1, _, q1, q2, op1, ds, w1, w2, e, v12, rfl, r12, oks, lq, S1.g, S1.j.wt, by omega, rel1, okw1, runs, bad, fun L' H' hL' f' hy g' x' => hE H' ?_⟩
          obtain ⟨j', mc', le'⟩ := S1.j.back mc hL' f' hy x'
          exact ⟨L', mc', Sn.fgt ⟨S1.e.le le', g', j'⟩ (by repeat (first | exact Fgt.nil | apply Fgt.keep | apply Fgt.any))⟩
        · exact hN _ _ ⟨L' :: M, L', ss, i1, w1, mc', rel1, okw1.mono (by omega), by omega, S'.fgt (by repeat (first | exact Fgt.nil | apply Fgt.keep | apply Fgt.any))⟩
    clear S wkC mx mL cs okw rel1 rel ok mc
    rintro σ11 H21 ⟨M, Lw, ss, i, w, mc, rel, ok, lss, S⟩
    have wkC : ∀ {ss : List St1} {i : Nat}, Dw (JC K M d x Lw S0 (TL1 K) ss i) d M := dwC mc
    have ok1000 := ok.mono (show 20 * t + 10 ≤ 1000 by omega)
    refine sn_if0 (ps_if (PW.pt (pw_or (pt_cmpR (r := rNeD K) (op_neD hr.units) (pv 12) (pv 7) (nomark _)) (pw_or1 (pt_not (pt_val (pe_fu GS hr (by decide) (by rfl) pass0 (pa_cons (pv 3) (pa_cons (pv 2) pa_nil)))))))) pss_never pss_nil) S wkC (rdt_nor (rdt_ne0 (n := 2) rfl ok_opsD (by decide) (S.rd (i := 12) rfl) (S.rd (i := 7) rfl)) (rdt_not (rdt_val (rd_stands S.j.wt rel ok1000 (wk_var (S.e.val (i := 3) rfl)) (S.rd (i := 2) rfl))))) fun H22 s22 S => ?_
    /- again -/
    refine sn_set (ps_set (i := 13) sc_law.nd rfl (by first | exact .inl rfl | exact .inr rfl) (pe_fu GW hr (by decide) (by rfl) pass0 (pa_cons (pv 2) (pa_cons (pe_tup (pa_cons pe_str pa_nil)) pa_nil)))) S wkC (rd_P (d := workedD (workedW w .redo)) ⟨w, .redo, rfl, ok1000, rfl⟩ (rda_cons (S.rd (i := 2) rfl) (rda_one (rd_tupA (rda_one rd_str))))) fun σ12 H23 s23 S => ?_
    dsimp only [List.set] at S
    obtain ⟨bq, w', i', hq, rel', use⟩ := use_redo (K := K) (M := M) (wt := x) (L := Lw) (S := S0) rel
    rw [hq] at S
    refine wp_join (fun σ H => ∃ (M : List Addr) (Lw : Addr) (ss : List St1) (i : Nat) (w : W3), MC M d Lw ∧ Rel ss i w ∧ w.ok (20 * (t + 1)) ∧ ss.length ≤ 20 * (t + 1) + 1 ∧ Sn K M (JC K M d x Lw S0 (TL1 K) ss i) σ H [.val (.ref a), .val (.ref d), .dat w.d, .val (.ref x), .any, .any, .any, .any, .any, .any, .any, .any, .any, .any]) (ps_if (pt_cmpR op_eq (pe_fu GB hr (by decide) (by rfl) pass0 (pa_cons (pv 1) (pa_cons pe_int pa_nil))) pe_int (nomark _)) wpS_ok pss_nil) (fun Ny hM => ?_) (fun σ H h => wp_nil h)
    show tCall _ _ _ _ _ _ _
    refine dr_below wkC S (i := 1) rfl rd_int (by decide) (by decide) fun k8 H14 h8 f14 S => ?_
    refine ⟨rfl, _, rfl, ?_⟩
    by_cases h8' : k8 = 0
    · subst h8'
      refine (if_pos (decide_eq_true rfl)).mpr ?_
      refine sn_set (ps_set (i := 2) sc_law.nd rfl (by first | exact .inl rfl | exact .inr rfl) (pe_ix (r := rIxT K) ix_tup (pv 13) pe_int (fun _ _ => rfl))) S wkC (rd_ixT (d := w'.d) rfl ((S.rd (i := 13) rfl).cast (d' := .tup [.str "", .bl bq, w'.d]) rfl) rd_int) fun σ13 H24 s24 S => ?_
      dsimp only [List.set] at S
      refine wp_one (ps_if (pt_not (pt_val (pe_fu GE hr (by decide) (by rfl) pass0 (pa_cons (pe_meth0 (pv 3) W.cls W.redo W_redo r11 bW_redo .nil pass0) (pa_cons (pe_ix (r := rIxT K) ix_tup (pv 13) pe_int (fun _ _ => rfl)) pa_nil))))) pss_never pss_nil) ?_
      refine go_ifN (go_call (go_cons ?_))
      obtain ⟨⟨dx1, hx1⟩, _⟩ := id S.j.wt
      refine ⟨_, S.e.val (i := 3) rfl, x, dx1, _, rfl, hx1, wk_no (by decide +kernel) (by decide +kernel) (by decide +kernel), ?_⟩
      refine go_nil (use _ S.g S.j.wt _ _ fun H24 f24 g24 x24 => ?_)
      have F24 : Fm M _ H24 := FrW.fm (K := K) f24 x24.mw x24.ml
      have S := Sn.mk (S.e.fm F24) g24 (S.j.frW mc f24 x24)
      refine (rda_one (rd_ixT (d := .bl bq) rfl ((S.rd (i := 13) rfl).cast (d' := .tup [.str "", .bl bq, w'.d]) rfl) rd_int)) _ (Same.refl _) S.g _ fun xs H25 s25 g25 r25 => ?_
      obtain ⟨v2, rfl, rv2⟩ := rp1 r25
      refine ⟨.bl bq, v2, rfl, eqn_of (d := .bl bq) .bl rfl rv2.here, fun H26 s26 => ⟨true, rfl, iteF ?_⟩⟩
      have S := S.same (dwC mc) (s25.trans s26)
      exact hM _ _ ⟨M, Lw, ss, i', w', mc, rel', (worked_ok ok hq).mono (by omega), by omega, S.fgt (by repeat (first | exact Fgt.nil | apply Fgt.keep | apply Fgt.any))⟩
    · refine (if_neg (fun z => h8' (by have := V.int.inj (of_decide_eq_true z); omega))).mpr ?_
      exact hM _ _ ⟨M, Lw, ss, i, w, mc, rel, ok.mono (by omega), by omega, S.fgt (by repeat (first | exact Fgt.nil | apply Fgt.keep | apply Fgt.any))⟩
end
end SC
set_option maxRecDepth 100000
set_option maxHeartbeats 4000000
namespace SC
open PySem PySem.Spec PyProof.Rows L2 TL
section
variable {h : Heap} {K : PySem.W.Frag} {mg : Str → Option Value}
theorem mkBln (c : Says dps fxs tfs h K) (X : K.In h) (G : h.Ns mainGlobals mg) : Bln mg := ⟨He.free_ok X G (c.fact _ (List.mem_of_getElem? (l := fxs) (i := 0) rfl)), He.free_ok X G (c.fact _ (List.mem_of_getElem? (l := fxs) (i := 1) rfl)), He.free_ok X G (c.fact _ (List.mem_of_getElem? (l := fxs) (i := 2) rfl)), He.free_ok X G (c.fact _ (List.mem_of_getElem? (l := fxs) (i := 3) rfl)), He.free_ok X G (c.fact _ (List.mem_of_getElem? (l := fxs) (i := 4) rfl)), He.free_ok X G (c.fact _ (List.mem_of_getElem? (l := fxs) (i := 5) rfl)), He.free_ok X G (c.fact _ (List.mem_of_getElem? (l := fxs) (i := 6) rfl)), He.free_ok X G (c.fact _ (List.mem_of_getElem? (l := fxs) (i := 7) rfl)), He.free_ok X G (c.fact _ (List.mem_of_getElem? (l := fxs) (i := 8) rfl)), He.free_ok X G (c.fact _ (List.mem_of_getElem? (l := fxs) (i := 9) rfl)), He.free_ok X G (c.fact _ (List.mem_of_getElem? (l := fxs) (i := 10) rfl)), He.free_ok X G (c.fact _ (List.mem_of_getElem? (l := fxs) (i := 11) rfl))⟩
theorem mkCells (c : Says dps fxs tfs h K) (X : K.In h) (G : h.Ns mainGlobals mg) : Cells K mg := by
  constructor
  · intro k
    cases k with
    | first => exact He.cls_ok (c.fact _ (List.mem_of_getElem? (l := fxs) (i := 66) rfl))
    | last => exact He.cls_ok (c.fact _ (List.mem_of_getElem? (l := fxs) (i := 67) rfl))
    | less => exact He.cls_ok (c.fact _ (List.mem_of_getElem? (l := fxs) (i := 68) rfl))
    | greater => exact He.cls_ok (c.fact _ (List.mem_of_getElem? (l := fxs) (i := 69) rfl))
    | near => exact He.cls_ok (c.fact _ (List.mem_of_getElem? (l := fxs) (i := 70) rfl))
  · intro k
    cases k with
    | first => exact fx_isi (c.fact _ (List.mem_of_getElem? (l := fxs) (i := 96) rfl))
    | last => exact fx_isi (c.fact _ (List.mem_of_getElem? (l := fxs) (i := 97) rfl))
    | less => exact fx_isi (c.fact _ (List.mem_of_getElem? (l := fxs) (i := 98) rfl))
    | greater => exact fx_isi (c.fact _ (List.mem_of_getElem? (l := fxs) (i := 99) rfl))
    | near => exact fx_isi (c.fact _ (List.mem_of_getElem? (l := fxs) (i := 100) rfl))
  · intro k
    cases k with
    | first => exact He.glo_ok X G (c.fact _ (List.mem_of_getElem? (l := fxs) (i := 54) rfl))
    | last => exact He.glo_ok X G (c.fact _ (List.mem_of_getElem? (l := fxs) (i := 55) rfl))
    | less => exact He.glo_ok X G (c.fact _ (List.mem_of_getElem? (l := fxs) (i := 56) rfl))
    | greater => exact He.glo_ok X G (c.fact _ (List.mem_of_getElem? (l := fxs) (i := 57) rfl))
    | near => exact He.glo_ok X G (c.fact _ (List.mem_of_getElem? (l := fxs) (i := 58) rfl))
  · intro k
    cases k with
    | first => exact fx_spec (c.fact _ (List.mem_of_getElem? (l := fxs) (i := 76) rfl))
    | last => exact fx_spec (c.fact _ (List.mem_of_getElem? (l := fxs) (i := 77) rfl))
    | less => exact fx_spec (c.fact _ (List.mem_of_getElem? (l := fxs) (i := 78) rfl))
    | greater => exact fx_spec (c.fact _ (List.mem_of_getElem? (l := fxs) (i := 79) rfl))
    | near => exact fx_spec (c.fact _ (List.mem_of_getElem? (l := fxs) (i := 80) rfl))
  · intro k
    cases k with
    | first => exact fx_spec (c.fact _ (List.mem_of_getElem? (l := fxs) (i := 81) rfl))
    | last => exact fx_spec (c.fact _ (List.mem_of_getElem? (l := fxs) (i := 82) rfl))
    | less => exact fx_spec (c.fact _ (List.mem_of_getElem? (l := fxs) (i := 83) rfl))
    | greater => exact fx_spec (c.fact _ (List.mem_of_getElem? (l := fxs) (i := 84) rfl))
    | near => exact fx_spec (c.fact _ (List.mem_of_getElem? (l := fxs) (i := 85) rfl))
  · intro k
    cases k with
    | first => exact fx_spec (c.fact _ (List.mem_of_getElem? (l := fxs) (i := 86) rfl))
    | last => exact fx_spec (c.fact _ (List.mem_of_getElem? (l := fxs) (i := 87) rfl))
    | less => exact fx_spec (c.fact _ (List.mem_of_getElem? (l := fxs) (i := 88) rfl))
    | greater => exact fx_spec (c.fact _ (List.mem_of_getElem? (l := fxs) (i := 89) rfl))
    | near => exact fx_spec (c.fact _ (List.mem_of_getElem? (l := fxs) (i := 90) rfl))
  · intro k
    cases k with
    | first => exact fx_none (c.fact _ (List.mem_of_getElem? (l := fxs) (i := 91) rfl))
    | last => exact fx_none (c.fact _ (List.mem_of_getElem? (l := fxs) (i := 92) rfl))
    | less => exact fx_none (c.fact _ (List.mem_of_getElem? (l := fxs) (i := 93) rfl))
    | greater => exact fx_none (c.fact _ (List.mem_of_getElem? (l := fxs) (i := 94) rfl))
    | near => exact fx_none (c.fact _ (List.mem_of_getElem? (l := fxs) (i := 95) rfl))
  · intro k
    cases k with
    | first => exact fx_prop (c.fact _ (List.mem_of_getElem? (l := fxs) (i := 71) rfl))
    | last => exact fx_prop (c.fact _ (List.mem_of_getElem? (l := fxs) (i := 72) rfl))
    | less => exact fx_prop (c.fact _ (List.mem_of_getElem? (l := fxs) (i := 73) rfl))
    | greater => exact fx_prop (c.fact _ (List.mem_of_getElem? (l := fxs) (i := 74) rfl))
    | near => exact fx_prop (c.fact _ (List.mem_of_getElem? (l := fxs) (i := 75) rfl))
  · intro k
    cases k with
    | first => exact fx_con (c.fact _ (List.mem_of_getElem? (l := fxs) (i := 117) rfl))
    | last => exact fx_con (c.fact _ (List.mem_of_getElem? (l := fxs) (i := 118) rfl))
    | less => exact fx_con (c.fact _ (List.mem_of_getElem? (l := fxs) (i := 119) rfl))
    | greater => exact fx_con (c.fact _ (List.mem_of_getElem? (l := fxs) (i := 120) rfl))
    | near => exact fx_con (c.fact _ (List.mem_of_getElem? (l := fxs) (i := 121) rfl))
  · intro k l
    cases k <;> cases l
    · exact fx_sub (c.fact _ (List.mem_of_getElem? (l := fxs) (i := 127) rfl))
    · exact fx_sub (c.fact _ (List.mem_of_getElem? (l := fxs) (i := 128) rfl))
    · exact fx_sub (c.fact _ (List.mem_of_getElem? (l := fxs) (i := 129) rfl))
    · exact fx_sub (c.fact _ (List.mem_of_getElem? (l := fxs) (i := 130) rfl))
    · exact fx_sub (c.fact _ (List.mem_of_getElem? (l := fxs) (i := 131) rfl))
    · exact fx_sub (c.fact _ (List.mem_of_getElem? (l := fxs) (i := 132) rfl))
    · exact fx_sub (c.fact _ (List.mem_of_getElem? (l := fxs) (i := 133) rfl))
    · exact fx_sub (c.fact _ (List.mem_of_getElem? (l := fxs) (i := 134) rfl))
    · exact fx_sub (c.fact _ (List.mem_of_getElem? (l := fxs) (i := 135) rfl))
    · exact fx_sub (c.fact _ (List.mem_of_getElem? (l := fxs) (i := 136) rfl))
    · exact fx_sub (c.fact _ (List.mem_of_getElem? (l := fxs) (i := 137) rfl))
    · exact fx_sub (c.fact _ (List.mem_of_getElem? (l := fxs) (i := 138) rfl))
    · exact fx_sub (c.fact _ (List.mem_of_getElem? (l := fxs) (i := 139) rfl))
    · exact fx_sub (c.fact _ (List.mem_of_getElem? (l := fxs) (i := 140) rfl))
    · exact fx_sub (c.fact _ (List.mem_of_getElem? (l := fxs) (i := 141) rfl))
    · exact fx_sub (c.fact _ (List.mem_of_getElem? (l := fxs) (i := 142) rfl))
    · exact fx_sub (c.fact _ (List.mem_of_getElem? (l := fxs) (i := 143) rfl))
    · exact fx_sub (c.fact _ (List.mem_of_getElem? (l := fxs) (i := 144) rfl))
    · exact fx_sub (c.fact _ (List.mem_of_getElem? (l := fxs) (i := 145) rfl))
    · exact fx_sub (c.fact _ (List.mem_of_getElem? (l := fxs) (i := 146) rfl))
    · exact fx_sub (c.fact _ (List.mem_of_getElem? (l := fxs) (i := 147) rfl))
    · exact fx_sub (c.fact _ (List.mem_of_getElem? (l := fxs) (i := 148) rfl))
    · exact fx_sub (c.fact _ (List.mem_of_getElem? (l := fxs) (i := 149) rfl))
    · exact fx_sub (c.fact _ (List.mem_of_getElem? (l := fxs) (i := 150) rfl))
    · exact fx_sub (c.fact _ (List.mem_of_getElem? (l := fxs) (i := 151) rfl))
  · intro k
    cases k with
    | first => exact fx_sub (c.fact _ (List.mem_of_getElem? (l := fxs) (i := 152) rfl))
    | last => exact fx_sub (c.fact _ (List.mem_of_getElem? (l := fxs) (i := 153) rfl))
    | less => exact fx_sub (c.fact _ (List.mem_of_getElem? (l := fxs) (i := 154) rfl))
    | greater => exact fx_sub (c.fact _ (List.mem_of_getElem? (l := fxs) (i := 155) rfl))
    | near => exact fx_sub (c.fact _ (List.mem_of_getElem? (l := fxs) (i := 156) rfl))
  · intro k
    cases k with
    | first => exact fx_kit (c.fact _ (List.mem_of_getElem? (l := fxs) (i := 106) rfl))
    | last => exact fx_kit (c.fact _ (List.mem_of_getElem? (l := fxs) (i := 107) rfl))
    | less => exact fx_kit (c.fact _ (List.mem_of_getElem? (l := fxs) (i := 108) rfl))
    | greater => exact fx_kit (c.fact _ (List.mem_of_getElem? (l := fxs) (i := 109) rfl))
    | near => exact fx_kit (c.fact _ (List.mem_of_getElem? (l := fxs) (i := 110) rfl))
  · exact fx_kit (c.fact _ (List.mem_of_getElem? (l := fxs) (i := 126) rfl))
  · intro k hk
    cases k with
    | first => exact fx_mk0 (c.fact _ (List.mem_of_getElem? (l := fxs) (i := 111) rfl))
    | last => exact fx_mk0 (c.fact _ (List.mem_of_getElem? (l := fxs) (i := 112) rfl))
    | less => exact fx_mk0 (c.fact _ (List.mem_of_getElem? (l := fxs) (i := 113) rfl))
    | greater => exact fx_mk0 (c.fact _ (List.mem_of_getElem? (l := fxs) (i := 114) rfl))
    | near => exact absurd rfl hk
  · exact He.mkr_ok (c.fact _ (List.mem_of_getElem? (l := fxs) (i := 115) rfl))
  · exact He.noat_ok (c.fact _ (List.mem_of_getElem? (l := fxs) (i := 116) rfl))
theorem mkCellsC (c : Says dps fxs tfs h K) : CellsC K := by
  constructor
  · intro k
    cases k with
    | first => exact fx_cls (c.fact _ (List.mem_of_getElem? (l := fxs) (i := 101) rfl))
    | last => exact fx_cls (c.fact _ (List.mem_of_getElem? (l := fxs) (i := 102) rfl))
    | less => exact fx_cls (c.fact _ (List.mem_of_getElem? (l := fxs) (i := 103) rfl))
    | greater => exact fx_cls (c.fact _ (List.mem_of_getElem? (l := fxs) (i := 104) rfl))
    | near => exact fx_cls (c.fact _ (List.mem_of_getElem? (l := fxs) (i := 105) rfl))
  · intro k hk
    cases k with
    | first => exact fx_cstr (c.fact _ (List.mem_of_getElem? (l := fxs) (i := 122) rfl))
    | last => exact fx_cstr (c.fact _ (List.mem_of_getElem? (l := fxs) (i := 123) rfl))
    | less => exact fx_cstr (c.fact _ (List.mem_of_getElem? (l := fxs) (i := 124) rfl))
    | greater => exact fx_cstr (c.fact _ (List.mem_of_getElem? (l := fxs) (i := 125) rfl))
    | near => exact absurd rfl hk
theorem mkChains (c : Says dps fxs tfs h K) (X : K.In h) (G : h.Ns mainGlobals mg) : Chains K mg :=
  ⟨He.cls_ok (c.fact _ (List.mem_of_getElem? (l := fxs) (i := 247) rfl)), fx_isi (c.fact _ (List.mem_of_getElem? (l := fxs) (i := 255) rfl)), He.glo_ok X G (c.fact _ (List.mem_of_getElem? (l := fxs) (i := 59) rfl)), He.mkr_ok (c.fact _ (List.mem_of_getElem? (l := fxs) (i := 248) rfl)), He.noat_ok (c.fact _ (List.mem_of_getElem? (l := fxs) (i := 249) rfl)), fx_con (c.fact _ (List.mem_of_getElem? (l := fxs) (i := 250) rfl)), fx_cint (c.fact _ (List.mem_of_getElem? (l := fxs) (i := 251) rfl)), fx_cls (c.fact _ (List.mem_of_getElem? (l := fxs) (i := 252) rfl)), fx_cmet (c.fact _ (List.mem_of_getElem? (l := fxs) (i := 253) rfl)), fx_slf (c.fact _ (List.mem_of_getElem? (l := fxs) (i := 254) rfl)), fx_kit (c.fact _ (List.mem_of_getElem? (l := fxs) (i := 256) rfl)),
   fx_prop (c.fact _ (List.mem_of_getElem? (l := fxs) (i := 257) rfl)), fx_prop (c.fact _ (List.mem_of_getElem? (l := fxs) (i := 258) rfl)), He.meth_ok (c.fact _ (List.mem_of_getElem? (l := fxs) (i := 259) rfl)), fx_spec (c.fact _ (List.mem_of_getElem? (l := fxs) (i := 260) rfl)), fx_spec (c.fact _ (List.mem_of_getElem? (l := fxs) (i := 261) rfl)), fx_spec (c.fact _ (List.mem_of_getElem? (l := fxs) (i := 262) rfl)), fx_spec (c.fact _ (List.mem_of_getElem? (l := fxs) (i := 263) rfl)), fx_spec (c.fact _ (List.mem_of_getElem? (l := fxs) (i := 264) rfl)), fx_spec (c.fact _ (List.mem_of_getElem? (l := fxs) (i := 265) rfl)), fx_none (c.fact _ (List.mem_of_getElem? (l := fxs) (i := 266) rfl))⟩
theorem mkErr0_InvalidNumber (c : Says dps fxs tfs h K) (X : K.In h) (G : h.Ns mainGlobals mg) : Err0 K mg "InvalidNumber" := by
  obtain ⟨h1, h2, h3, h4⟩ := He.exc_ok (c.fact _ (List.mem_of_getElem? (l := fxs) (i := 157) rfl))
  exact ⟨h1, h2, h3, h4, He.glo_ok X G (c.fact _ (List.mem_of_getElem? (l := fxs) (i := 44) rfl))⟩
theorem mkErr0_UnknownCell (c : Says dps fxs tfs h K) (X : K.In h) (G : h.Ns mainGlobals mg) : Err0 K mg "UnknownCell" := by
  obtain ⟨h1, h2, h3, h4⟩ := He.exc_ok (c.fact _ (List.mem_of_getElem? (l := fxs) (i := 158) rfl))
  exact ⟨h1, h2, h3, h4, He.glo_ok X G (c.fact _ (List.mem_of_getElem? (l := fxs) (i := 46) rfl))⟩
theorem mkErr0_TooMany (c : Says dps fxs tfs h K) (X : K.In h) (G : h.Ns mainGlobals mg) : Err0 K mg "TooMany" := by
  obtain ⟨h1, h2, h3, h4⟩ := He.exc_ok (c.fact _ (List.mem_of_getElem? (l := fxs) (i := 159) rfl))
  exact ⟨h1, h2, h3, h4, He.glo_ok X G (c.fact _ (List.mem_of_getElem? (l := fxs) (i := 49) rfl))⟩
theorem mkErr0_Contradiction (c : Says dps fxs tfs h K) (X : K.In h) (G : h.Ns mainGlobals mg) : Err0 K mg "Contradiction" := by
  obtain ⟨h1, h2, h3, h4⟩ := He.exc_ok (c.fact _ (List.mem_of_getElem? (l := fxs) (i := 160) rfl))
  exact ⟨h1, h2, h3, h4, He.glo_ok X G (c.fact _ (List.mem_of_getElem? (l := fxs) (i := 50) rfl))⟩
theorem mkErr0_InvalidName (c : Says dps fxs tfs h K) (X : K.In h) (G : h.Ns mainGlobals mg) : Err0 K mg "InvalidName" := by
  obtain ⟨h1, h2, h3, h4⟩ := He.exc_ok (c.fact _ (List.mem_of_getElem? (l := fxs) (i := 161) rfl))
  exact ⟨h1, h2, h3, h4, He.glo_ok X G (c.fact _ (List.mem_of_getElem? (l := fxs) (i := 51) rfl))⟩
theorem mkErr0_UnknownName (c : Says dps fxs tfs h K) (X : K.In h) (G : h.Ns mainGlobals mg) : Err0 K mg "UnknownName" := by
  obtain ⟨h1, h2, h3, h4⟩ := He.exc_ok (c.fact _ (List.mem_of_getElem? (l := fxs) (i := 162) rfl))
  exact ⟨h1, h2, h3, h4, He.glo_ok X G (c.fact _ (List.mem_of_getElem? (l := fxs) (i := 52) rfl))⟩
theorem mkErrs (c : Says dps fxs tfs h K) (X : K.In h) (G : h.Ns mainGlobals mg) : Errs K mg := by
  constructor
  · intro e
    cases e with
    | number => exact He.glo_ok X G (c.fact _ (List.mem_of_getElem? (l := fxs) (i := 44) rfl))
    | chain => exact He.glo_ok X G (c.fact _ (List.mem_of_getElem? (l := fxs) (i := 45) rfl))
    | cell => exact He.glo_ok X G (c.fact _ (List.mem_of_getElem? (l := fxs) (i := 46) rfl))
    | row => exact He.glo_ok X G (c.fact _ (List.mem_of_getElem? (l := fxs) (i := 47) rfl))
    | text => exact He.glo_ok X G (c.fact _ (List.mem_of_getElem? (l := fxs) (i := 48) rfl))
    | many => exact He.glo_ok X G (c.fact _ (List.mem_of_getElem? (l := fxs) (i := 49) rfl))
    | contradiction => exact He.glo_ok X G (c.fact _ (List.mem_of_getElem? (l := fxs) (i := 50) rfl))
    | name => exact He.glo_ok X G (c.fact _ (List.mem_of_getElem? (l := fxs) (i := 51) rfl))
    | unknown => exact He.glo_ok X G (c.fact _ (List.mem_of_getElem? (l := fxs) (i := 52) rfl))
    | operation => exact He.glo_ok X G (c.fact _ (List.mem_of_getElem? (l := fxs) (i := 53) rfl))
  · exact He.glo_ok X G (c.fact _ (List.mem_of_getElem? (l := fxs) (i := 43) rfl))
  · exact He.free_ok X G (c.fact _ (List.mem_of_getElem? (l := fxs) (i := 12) rfl))
theorem mkErrT_number (c : Says dps fxs tfs h K) : ErrT K .number := by
  constructor
  · exact He.exm_ok (c.fact _ (List.mem_of_getElem? (l := fxs) (i := 165) rfl))
  · exact fx_exk (c.fact _ (List.mem_of_getElem? (l := fxs) (i := 163) rfl)) (c.fact _ (List.mem_of_getElem? (l := fxs) (i := 164) rfl))
  · intro y
    cases y with
    | number => exact fx_kit (c.fact _ (List.mem_of_getElem? (l := fxs) (i := 167) rfl))
    | chain => exact fx_kit (c.fact _ (List.mem_of_getElem? (l := fxs) (i := 168) rfl))
    | cell => exact fx_kit (c.fact _ (List.mem_of_getElem? (l := fxs) (i := 169) rfl))
    | row => exact fx_kit (c.fact _ (List.mem_of_getElem? (l := fxs) (i := 170) rfl))
    | text => exact fx_kit (c.fact _ (List.mem_of_getElem? (l := fxs) (i := 171) rfl))
    | many => exact fx_kit (c.fact _ (List.mem_of_getElem? (l := fxs) (i := 172) rfl))
    | contradiction => exact fx_kit (c.fact _ (List.mem_of_getElem? (l := fxs) (i := 173) rfl))
    | name => exact fx_kit (c.fact _ (List.mem_of_getElem? (l := fxs) (i := 174) rfl))
    | unknown => exact fx_kit (c.fact _ (List.mem_of_getElem? (l := fxs) (i := 175) rfl))
    | operation => exact fx_kit (c.fact _ (List.mem_of_getElem? (l := fxs) (i := 176) rfl))
  · exact fx_kit (c.fact _ (List.mem_of_getElem? (l := fxs) (i := 166) rfl))
theorem mkErrT_cell (c : Says dps fxs tfs h K) : ErrT K .cell := by
  constructor
  · exact He.exm_ok (c.fact _ (List.mem_of_getElem? (l := fxs) (i := 179) rfl))
  · exact fx_exk (c.fact _ (List.mem_of_getElem? (l := fxs) (i := 177) rfl)) (c.fact _ (List.mem_of_getElem? (l := fxs) (i := 178) rfl))
  · intro y
    cases y with
    | number => exact fx_kit (c.fact _ (List.mem_of_getElem? (l := fxs) (i := 181) rfl))
    | chain => exact fx_kit (c.fact _ (List.mem_of_getElem? (l := fxs) (i := 182) rfl))
    | cell => exact fx_kit (c.fact _ (List.mem_of_getElem? (l := fxs) (i := 183) rfl))
    | row => exact fx_kit (c.fact _ (List.mem_of_getElem? (l := fxs) (i := 184) rfl))
    | text => exact fx_kit (c.fact _ (List.mem_of_getElem? (l := fxs) (i := 185) rfl))
    | many => exact fx_kit (c.fact _ (List.mem_of_getElem? (l := fxs) (i := 186) rfl))
    | contradiction => exact fx_kit (c.fact _ (List.mem_of_getElem? (l := fxs) (i := 187) rfl))
    | name => exact fx_kit (c.fact _ (List.mem_of_getElem? (l := fxs) (i := 188) rfl))
    | unknown => exact fx_kit (c.fact _ (List.mem_of_getElem? (l := fxs) (i := 189) rfl))
    | operation => exact fx_kit (c.fact _ (List.mem_of_getElem? (l := fxs) (i := 190) rfl))
  · exact fx_kit (c.fact _ (List.mem_of_getElem? (l := fxs) (i := 180) rfl))
theorem mkErrT_many (c : Says dps fxs tfs h K) : ErrT K .many := by
  constructor
  · exact He.exm_ok (c.fact _ (List.mem_of_getElem? (l := fxs) (i := 193) rfl))
  · exact fx_exk (c.fact _ (List.mem_of_getElem? (l := fxs) (i := 191) rfl)) (c.fact _ (List.mem_of_getElem? (l := fxs) (i := 192) rfl))
  · intro y
    cases y with
    | number => exact fx_kit (c.fact _ (List.mem_of_getElem? (l := fxs) (i := 195) rfl))
    | chain => exact fx_kit (c.fact _ (List.mem_of_getElem? (l := fxs) (i := 196) rfl))
    | cell => exact fx_kit (c.fact _ (List.mem_of_getElem? (l := fxs) (i := 197) rfl))
    | row => exact fx_kit (c.fact _ (List.mem_of_getElem? (l := fxs) (i := 198) rfl))
    | text => exact fx_kit (c.fact _ (List.mem_of_getElem? (l := fxs) (i := 199) rfl))
    | many => exact fx_kit (c.fact _ (List.mem_of_getElem? (l := fxs) (i := 200) rfl))
    | contradiction => exact fx_kit (c.fact _ (List.mem_of_getElem? (l := fxs) (i := 201) rfl))
    | name => exact fx_kit (c.fact _ (List.mem_of_getElem? (l := fxs) (i := 202) rfl))
    | unknown => exact fx_kit (c.fact _ (List.mem_of_getElem? (l := fxs) (i := 203) rfl))
    | operation => exact fx_kit (c.fact _ (List.mem_of_getElem? (l := fxs) (i := 204) rfl))
  · exact fx_kit (c.fact _ (List.mem_of_getElem? (l := fxs) (i := 194) rfl))
theorem mkErrT_contradiction (c : Says dps fxs tfs h K) : ErrT K .contradiction := by
  constructor
  · exact He.exm_ok (c.fact _ (List.mem_of_getElem? (l := fxs) (i := 207) rfl))
  · exact fx_exk (c.fact _ (List.mem_of_getElem? (l := fxs) (i := 205) rfl)) (c.fact _ (List.mem_of_getElem? (l := fxs) (i := 206) rfl))
  · intro y
    cases y with
    | number => exact fx_kit (c.fact _ (List.mem_of_getElem? (l := fxs) (i := 209) rfl))
    | chain => exact fx_kit (c.fact _ (List.mem_of_getElem? (l := fxs) (i := 210) rfl))
    | cell => exact fx_kit (c.fact _ (List.mem_of_getElem? (l := fxs) (i := 211) rfl))
    | row => exact fx_kit (c.fact _ (List.mem_of_getElem? (l := fxs) (i := 212) rfl))
    | text => exact fx_kit (c.fact _ (List.mem_of_getElem? (l := fxs) (i := 213) rfl))
    | many => exact fx_kit (c.fact _ (List.mem_of_getElem? (l := fxs) (i := 214) rfl))
    | contradiction => exact fx_kit (c.fact _ (List.mem_of_getElem? (l := fxs) (i := 215) rfl))
    | name => exact fx_kit (c.fact _ (List.mem_of_getElem? (l := fxs) (i := 216) rfl))
    | unknown => exact fx_kit (c.fact _ (List.mem_of_getElem? (l := fxs) (i := 217) rfl))
    | operation => exact fx_kit (c.fact _ (List.mem_of_getElem? (l := fxs) (i := 218) rfl))
  · exact fx_kit (c.fact _ (List.mem_of_getElem? (l := fxs) (i := 208) rfl))
theorem mkErrT_name (c : Says dps fxs tfs h K) : ErrT K .name := by
  constructor
  · exact He.exm_ok (c.fact _ (List.mem_of_getElem? (l := fxs) (i := 221) rfl))
  · exact fx_exk (c.fact _ (List.mem_of_getElem? (l := fxs) (i := 219) rfl)) (c.fact _ (List.mem_of_getElem? (l := fxs) (i := 220) rfl))
  · intro y
    cases y with
    | number => exact fx_kit (c.fact _ (List.mem_of_getElem? (l := fxs) (i := 223) rfl))
    | chain => exact fx_kit (c.fact _ (List.mem_of_getElem? (l := fxs) (i := 224) rfl))
    | cell => exact fx_kit (c.fact _ (List.mem_of_getElem? (l := fxs) (i := 225) rfl))
    | row => exact fx_kit (c.fact _ (List.mem_of_getElem? (l := fxs) (i := 226) rfl))
    | text => exact fx_kit (c.fact _ (List.mem_of_getElem? (l := fxs) (i := 227) rfl))
    | many => exact fx_kit (c.fact _ (List.mem_of_getElem? (l := fxs) (i := 228) rfl))
    | contradiction => exact fx_kit (c.fact _ (List.mem_of_getElem? (l := fxs) (i := 229) rfl))
    | name => exact fx_kit (c.fact _ (List.mem_of_getElem? (l := fxs) (i := 230) rfl))
    | unknown => exact fx_kit (c.fact _ (List.mem_of_getElem? (l := fxs) (i := 231) rfl))
    | operation => exact fx_kit (c.fact _ (List.mem_of_getElem? (l := fxs) (i := 232) rfl))
  · exact fx_kit (c.fact _ (List.mem_of_getElem? (l := fxs) (i := 222) rfl))
theorem mkErrT_unknown (c : Says dps fxs tfs h K) : ErrT K .unknown := by
  constructor
  · exact He.exm_ok (c.fact _ (List.mem_of_getElem? (l := fxs) (i := 235) rfl))
  · exact fx_exk (c.fact _ (List.mem_of_getElem? (l := fxs) (i := 233) rfl)) (c.fact _ (List.mem_of_getElem? (l := fxs) (i := 234) rfl))
  · intro y
    cases y with
    | number => exact fx_kit (c.fact _ (List.mem_of_getElem? (l := fxs) (i := 237) rfl))
    | chain => exact fx_kit (c.fact _ (List.mem_of_getElem? (l := fxs) (i := 238) rfl))
    | cell => exact fx_kit (c.fact _ (List.mem_of_getElem? (l := fxs) (i := 239) rfl))
    | row => exact fx_kit (c.fact _ (List.mem_of_getElem? (l := fxs) (i := 240) rfl))
    | text => exact fx_kit (c.fact _ (List.mem_of_getElem? (l := fxs) (i := 241) rfl))
    | many => exact fx_kit (c.fact _ (List.mem_of_getElem? (l := fxs) (i := 242) rfl))
    | contradiction => exact fx_kit (c.fact _ (List.mem_of_getElem? (l := fxs) (i := 243) rfl))
    | name => exact fx_kit (c.fact _ (List.mem_of_getElem? (l := fxs) (i := 244) rfl))
    | unknown => exact fx_kit (c.fact _ (List.mem_of_getElem? (l := fxs) (i := 245) rfl))
    | operation => exact fx_kit (c.fact _ (List.mem_of_getElem? (l := fxs) (i := 246) rfl))
  · exact fx_kit (c.fact _ (List.mem_of_getElem? (l := fxs) (i := 236) rfl))
theorem mkWk (c : Says dps fxs tfs h K) (X : K.In h) (G : h.Ns mainGlobals mg) (CH : Chains K mg) (TC : Cells K mg) : Wk K mg :=
  ⟨He.cls_ok (c.fact _ (List.mem_of_getElem? (l := fxs) (i := 269) rfl)), He.mkr_ok (c.fact _ (List.mem_of_getElem? (l := fxs) (i := 270) rfl)), He.glo_ok X G (c.fact _ (List.mem_of_getElem? (l := fxs) (i := 60) rfl)), He.noat_ok (c.fact _ (List.mem_of_getElem? (l := fxs) (i := 271) rfl)), He.noat_ok (c.fact _ (List.mem_of_getElem? (l := fxs) (i := 272) rfl)), He.noat_ok (c.fact _ (List.mem_of_getElem? (l := fxs) (i := 273) rfl)), He.noat_ok (c.fact _ (List.mem_of_getElem? (l := fxs) (i := 274) rfl)),
   He.cls_ok (c.fact _ (List.mem_of_getElem? (l := fxs) (i := 275) rfl)), He.mkr_ok (c.fact _ (List.mem_of_getElem? (l := fxs) (i := 276) rfl)), He.glo_ok X G (c.fact _ (List.mem_of_getElem? (l := fxs) (i := 61) rfl)), He.noat_ok (c.fact _ (List.mem_of_getElem? (l := fxs) (i := 277) rfl)), He.noat_ok (c.fact _ (List.mem_of_getElem? (l := fxs) (i := 278) rfl)), He.noat_ok (c.fact _ (List.mem_of_getElem? (l := fxs) (i := 279) rfl)),
   He.meth_ok (c.fact _ (List.mem_of_getElem? (l := fxs) (i := 280) rfl)), He.meth_ok (c.fact _ (List.mem_of_getElem? (l := fxs) (i := 281) rfl)), He.meth_ok (c.fact _ (List.mem_of_getElem? (l := fxs) (i := 282) rfl)), He.meth_ok (c.fact _ (List.mem_of_getElem? (l := fxs) (i := 283) rfl)), He.meth_ok (c.fact _ (List.mem_of_getElem? (l := fxs) (i := 284) rfl)), He.meth_ok (c.fact _ (List.mem_of_getElem? (l := fxs) (i := 285) rfl)), He.meth_ok (c.fact _ (List.mem_of_getElem? (l := fxs) (i := 286) rfl)), He.meth_ok (c.fact _ (List.mem_of_getElem? (l := fxs) (i := 287) rfl)), He.meth_ok (c.fact _ (List.mem_of_getElem? (l := fxs) (i := 288) rfl)), He.meth_ok (c.fact _ (List.mem_of_getElem? (l := fxs) (i := 289) rfl)), He.meth_ok (c.fact _ (List.mem_of_getElem? (l := fxs) (i := 290) rfl)),
   fx_prop (c.fact _ (List.mem_of_getElem? (l := fxs) (i := 291) rfl)), fx_prop (c.fact _ (List.mem_of_getElem? (l := fxs) (i := 292) rfl)), fx_prop (c.fact _ (List.mem_of_getElem? (l := fxs) (i := 293) rfl)), fx_prop (c.fact _ (List.mem_of_getElem? (l := fxs) (i := 294) rfl)),
   wk_neC (fx_kit (c.fact _ (List.mem_of_getElem? (l := fxs) (i := 298) rfl))) CH, wk_neK (fx_kit (c.fact _ (List.mem_of_getElem? (l := fxs) (i := 299) rfl))) TC⟩
theorem mkErrX_number (c : Says dps fxs tfs h K) : ErrX K .number := ⟨mkErrT_number c, fun z => by cases z⟩
theorem mkErrX_cell (c : Says dps fxs tfs h K) : ErrX K .cell := ⟨mkErrT_cell c, fun z => by cases z⟩
theorem mkErrX_many (c : Says dps fxs tfs h K) : ErrX K .many := ⟨mkErrT_many c, fun z => by cases z⟩
theorem mkErrX_contradiction (c : Says dps fxs tfs h K) : ErrX K .contradiction := ⟨mkErrT_contradiction c, fun z => by cases z⟩
theorem mkErrX_name (c : Says dps fxs tfs h K) : ErrX K .name := ⟨mkErrT_name c, fun z => by cases z⟩
theorem mkErrX_unknown (c : Says dps fxs tfs h K) : ErrX K .unknown := ⟨mkErrT_unknown c, fun z => by cases z⟩
end
theorem fnR_of {P : Program} {w : World} {K : PySem.W.Frag} {mg : Str → Option Value} {base : Heap} {CX : CXT} {k : Nat} {f : Addr} {fd : FuncData} {ps : List Str} {sp : Sp} (F : FnOk P w K mg base CX k f fd ps sp) (hb : Binds K fd ps []) : FnR P w K mg base CX k f sp :=
  (F.raw (dvs := []) hb .nil).imp fun vs H Q E h => by
    show sp (vs ++ []) H Q E
    rw [List.append_nil]
    exact h
theorem lawAt (w : World) (K : PySem.W.Frag) (h : Heap) (mg : Str → Option Value) (fa : Addr) (X : K.In h) (G : h.Ns mainGlobals mg) (hfa : mg ("law" : Str) = some (.ref fa)) (c : Says dps fxs tfs h K) (cd : ∀ t ∈ tabs, ∃ es n, KDict K w (t.1 K) es n) :
    LamX.LawAtS PySem.Challenge.rw_siftchain_k14_batches_of_operations w K CX0 20 63 "_law_script" mg fa h := by
  have B := mkBln c X G
  have TC := mkCells c X G
  have TCC := mkCellsC c
  have CH := mkChains c X G
  have E0_InvalidNumber := mkErr0_InvalidNumber c X G
  have E0_UnknownCell := mkErr0_UnknownCell c X G
  have E0_TooMany := mkErr0_TooMany c X G
  have E0_Contradiction := mkErr0_Contradiction c X G
  have E0_InvalidName := mkErr0_InvalidName c X G
  have E0_UnknownName := mkErr0_UnknownName c X G
  have ER := mkErrs c X G
  have h_ValueError := He.free_ok X G (c.fact _ (List.mem_of_getElem? (l := fxs) (i := 12) rfl))
  have h_enumerate := He.free_ok X G (c.fact _ (List.mem_of_getElem? (l := fxs) (i := 13) rfl))
  have h_zip := He.free_ok X G (c.fact _ (List.mem_of_getElem? (l := fxs) (i := 14) rfl))
  have h_sorted := He.free_ok X G (c.fact _ (List.mem_of_getElem? (l := fxs) (i := 15) rfl))
  have h_sum := He.free_ok X G (c.fact _ (List.mem_of_getElem? (l := fxs) (i := 16) rfl))
  have h_set := He.free_ok X G (c.fact _ (List.mem_of_getElem? (l := fxs) (i := 17) rfl))
  have h_dict := He.free_ok X G (c.fact _ (List.mem_of_getElem? (l := fxs) (i := 18) rfl))
  have h_reversed := He.free_ok X G (c.fact _ (List.mem_of_getElem? (l := fxs) (i := 19) rfl))
  obtain ⟨fd__wall, F__wall⟩ := c.defs _ (List.mem_of_getElem? (l := dps) (i := 0) rfl) rfl
  obtain ⟨fd_is_within, F_is_within⟩ := c.defs _ (List.mem_of_getElem? (l := dps) (i := 1) rfl) rfl
  obtain ⟨fd_is_number, F_is_number⟩ := c.defs _ (List.mem_of_getElem? (l := dps) (i := 2) rfl) rfl
  obtain ⟨fd_check_number, F_check_number⟩ := c.defs _ (List.mem_of_getElem? (l := dps) (i := 3) rfl) rfl
  obtain ⟨fd_check_index, F_check_index⟩ := c.defs _ (List.mem_of_getElem? (l := dps) (i := 4) rfl) rfl
  obtain ⟨fd_check_row, F_check_row⟩ := c.defs _ (List.mem_of_getElem? (l := dps) (i := 5) rfl) rfl
  obtain ⟨fd_Cell_call, F_Cell_call⟩ := c.defs _ (List.mem_of_getElem? (l := dps) (i := 6) rfl) rfl
  obtain ⟨fd_Cell_eq, F_Cell_eq⟩ := c.defs _ (List.mem_of_getElem? (l := dps) (i := 7) rfl) rfl
  obtain ⟨fd_Cell_neg, F_Cell_neg⟩ := c.defs _ (List.mem_of_getElem? (l := dps) (i := 8) rfl) rfl
  obtain ⟨fd_Cell_label, F_Cell_label⟩ := c.defs _ (List.mem_of_getElem? (l := dps) (i := 9) rfl) rfl
  obtain ⟨fd_Last_call, F_Last_call⟩ := c.defs _ (List.mem_of_getElem? (l := dps) (i := 10) rfl) rfl
  obtain ⟨fd_Last_eq, F_Last_eq⟩ := c.defs _ (List.mem_of_getElem? (l := dps) (i := 11) rfl) rfl
  obtain ⟨fd_Last_neg, F_Last_neg⟩ := c.defs _ (List.mem_of_getElem? (l := dps) (i := 12) rfl) rfl
  obtain ⟨fd_Last_label, F_Last_label⟩ := c.defs _ (List.mem_of_getElem? (l := dps) (i := 13) rfl) rfl
  obtain ⟨fd_Less_call, F_Less_call⟩ := c.defs _ (List.mem_of_getElem? (l := dps) (i := 14) rfl) rfl
  obtain ⟨fd_Less_eq, F_Less_eq⟩ := c.defs _ (List.mem_of_getElem? (l := dps) (i := 15) rfl) rfl
  obtain ⟨fd_Less_neg, F_Less_neg⟩ := c.defs _ (List.mem_of_getElem? (l := dps) (i := 16) rfl) rfl
  obtain ⟨fd_Less_label, F_Less_label⟩ := c.defs _ (List.mem_of_getElem? (l := dps) (i := 17) rfl) rfl
  obtain ⟨fd_Greater_call, F_Greater_call⟩ := c.defs _ (List.mem_of_getElem? (l := dps) (i := 18) rfl) rfl
  obtain ⟨fd_Greater_eq, F_Greater_eq⟩ := c.defs _ (List.mem_of_getElem? (l := dps) (i := 19) rfl) rfl
  obtain ⟨fd_Greater_neg, F_Greater_neg⟩ := c.defs _ (List.mem_of_getElem? (l := dps) (i := 20) rfl) rfl
  obtain ⟨fd_Greater_label, F_Greater_label⟩ := c.defs _ (List.mem_of_getElem? (l := dps) (i := 21) rfl) rfl
  obtain ⟨fd_Near_init, F_Near_init⟩ := c.defs _ (List.mem_of_getElem? (l := dps) (i := 22) rfl) rfl
  obtain ⟨fd_Near_call, F_Near_call⟩ := c.defs _ (List.mem_of_getElem? (l := dps) (i := 23) rfl) rfl
  obtain ⟨fd_Near_eq, F_Near_eq⟩ := c.defs _ (List.mem_of_getElem? (l := dps) (i := 24) rfl) rfl
  obtain ⟨fd_Near_neg, F_Near_neg⟩ := c.defs _ (List.mem_of_getElem? (l := dps) (i := 25) rfl) rfl
  obtain ⟨fd_Near_label, F_Near_label⟩ := c.defs _ (List.mem_of_getElem? (l := dps) (i := 26) rfl) rfl
  obtain ⟨fd_near_of, F_near_of⟩ := c.defs _ (List.mem_of_getElem? (l := dps) (i := 27) rfl) rfl
  obtain ⟨fd_cell_of, F_cell_of⟩ := c.defs _ (List.mem_of_getElem? (l := dps) (i := 28) rfl) rfl
  obtain ⟨fd_Chain_init, F_Chain_init⟩ := c.defs _ (List.mem_of_getElem? (l := dps) (i := 29) rfl) rfl
  obtain ⟨fd_Chain_parse, F_Chain_parse⟩ := c.defs _ (List.mem_of_getElem? (l := dps) (i := 30) rfl) rfl
  obtain ⟨fd_Chain_text, F_Chain_text⟩ := c.defs _ (List.mem_of_getElem? (l := dps) (i := 31) rfl) rfl
  obtain ⟨fd_Chain_empty, F_Chain_empty⟩ := c.defs _ (List.mem_of_getElem? (l := dps) (i := 32) rfl) rfl
  obtain ⟨fd_Chain_step, F_Chain_step⟩ := c.defs _ (List.mem_of_getElem? (l := dps) (i := 33) rfl) rfl
  obtain ⟨fd_Chain_call, F_Chain_call⟩ := c.defs _ (List.mem_of_getElem? (l := dps) (i := 34) rfl) rfl
  obtain ⟨fd_Chain_len, F_Chain_len⟩ := c.defs _ (List.mem_of_getElem? (l := dps) (i := 35) rfl) rfl
  obtain ⟨fd_Chain_getitem, F_Chain_getitem⟩ := c.defs _ (List.mem_of_getElem? (l := dps) (i := 36) rfl) rfl
  obtain ⟨fd_Chain_iter, F_Chain_iter⟩ := c.defs _ (List.mem_of_getElem? (l := dps) (i := 37) rfl) rfl
  obtain ⟨fd_Chain_rshift, F_Chain_rshift⟩ := c.defs _ (List.mem_of_getElem? (l := dps) (i := 38) rfl) rfl
  obtain ⟨fd_Chain_rrshift, F_Chain_rrshift⟩ := c.defs _ (List.mem_of_getElem? (l := dps) (i := 39) rfl) rfl
  obtain ⟨fd_Chain_neg, F_Chain_neg⟩ := c.defs _ (List.mem_of_getElem? (l := dps) (i := 40) rfl) rfl
  obtain ⟨fd_Chain_eq, F_Chain_eq⟩ := c.defs _ (List.mem_of_getElem? (l := dps) (i := 41) rfl) rfl
  obtain ⟨fd_is_operation, F_is_operation⟩ := c.defs _ (List.mem_of_getElem? (l := dps) (i := 42) rfl) rfl
  obtain ⟨fd_Step_init, F_Step_init⟩ := c.defs _ (List.mem_of_getElem? (l := dps) (i := 43) rfl) rfl
  obtain ⟨fd_Worktop_init, F_Worktop_init⟩ := c.defs _ (List.mem_of_getElem? (l := dps) (i := 44) rfl) rfl
  obtain ⟨fd_Worktop_replay, F_Worktop_replay⟩ := c.defs _ (List.mem_of_getElem? (l := dps) (i := 45) rfl) rfl
  obtain ⟨fd_Worktop_now, F_Worktop_now⟩ := c.defs _ (List.mem_of_getElem? (l := dps) (i := 46) rfl) rfl
  obtain ⟨fd_Worktop_advance, F_Worktop_advance⟩ := c.defs _ (List.mem_of_getElem? (l := dps) (i := 47) rfl) rfl
  obtain ⟨fd_Worktop_put, F_Worktop_put⟩ := c.defs _ (List.mem_of_getElem? (l := dps) (i := 48) rfl) rfl
  obtain ⟨fd_Worktop_take, F_Worktop_take⟩ := c.defs _ (List.mem_of_getElem? (l := dps) (i := 49) rfl) rfl
  obtain ⟨fd_Worktop_swap, F_Worktop_swap⟩ := c.defs _ (List.mem_of_getElem? (l := dps) (i := 50) rfl) rfl
  obtain ⟨fd_Worktop_undo, F_Worktop_undo⟩ := c.defs _ (List.mem_of_getElem? (l := dps) (i := 51) rfl) rfl
  obtain ⟨fd_Worktop_redo, F_Worktop_redo⟩ := c.defs _ (List.mem_of_getElem? (l := dps) (i := 52) rfl) rfl
  obtain ⟨fd_Worktop_chain_now, F_Worktop_chain_now⟩ := c.defs _ (List.mem_of_getElem? (l := dps) (i := 53) rfl) rfl
  obtain ⟨fd_Worktop_held, F_Worktop_held⟩ := c.defs _ (List.mem_of_getElem? (l := dps) (i := 54) rfl) rfl
  obtain ⟨fd_Worktop_let_out, F_Worktop_let_out⟩ := c.defs _ (List.mem_of_getElem? (l := dps) (i := 55) rfl) rfl
  obtain ⟨fd_Worktop_operations, F_Worktop_operations⟩ := c.defs _ (List.mem_of_getElem? (l := dps) (i := 56) rfl) rfl
  obtain ⟨fd_Worktop_save, F_Worktop_save⟩ := c.defs _ (List.mem_of_getElem? (l := dps) (i := 57) rfl) rfl
  obtain ⟨fd_Worktop_restore, F_Worktop_restore⟩ := c.defs _ (List.mem_of_getElem? (l := dps) (i := 58) rfl) rfl
  obtain ⟨fd_Worktop_execute, F_Worktop_execute⟩ := c.defs _ (List.mem_of_getElem? (l := dps) (i := 59) rfl) rfl
  obtain ⟨fd_Worktop_batch, F_Worktop_batch⟩ := c.defs _ (List.mem_of_getElem? (l := dps) (i := 60) rfl) rfl
  obtain ⟨fd__law_random, F__law_random⟩ := c.defs _ (List.mem_of_getElem? (l := dps) (i := 61) rfl) rfl
  obtain ⟨fd__law_below, F__law_below⟩ := c.defs _ (List.mem_of_getElem? (l := dps) (i := 62) rfl) rfl
  obtain ⟨fd__law_labels, F__law_labels⟩ := c.defs _ (List.mem_of_getElem? (l := dps) (i := 63) rfl) rfl
  obtain ⟨fd__law_new, F__law_new⟩ := c.defs _ (List.mem_of_getElem? (l := dps) (i := 64) rfl) rfl
  obtain ⟨fd__law_chain, F__law_chain⟩ := c.defs _ (List.mem_of_getElem? (l := dps) (i := 65) rfl) rfl
  obtain ⟨fd__law_kept, F__law_kept⟩ := c.defs _ (List.mem_of_getElem? (l := dps) (i := 66) rfl) rfl
  obtain ⟨fd__law_step, F__law_step⟩ := c.defs _ (List.mem_of_getElem? (l := dps) (i := 67) rfl) rfl
  obtain ⟨fd__law_worked_on, F__law_worked_on⟩ := c.defs _ (List.mem_of_getElem? (l := dps) (i := 68) rfl) rfl
  obtain ⟨fd__law_worked, F__law_worked⟩ := c.defs _ (List.mem_of_getElem? (l := dps) (i := 69) rfl) rfl
  obtain ⟨fd__law_equal, F__law_equal⟩ := c.defs _ (List.mem_of_getElem? (l := dps) (i := 70) rfl) rfl
  obtain ⟨fd__law_operation, F__law_operation⟩ := c.defs _ (List.mem_of_getElem? (l := dps) (i := 71) rfl) rfl
  obtain ⟨fd__law_error_of, F__law_error_of⟩ := c.defs _ (List.mem_of_getElem? (l := dps) (i := 72) rfl) rfl
  obtain ⟨fd__law_stands, F__law_stands⟩ := c.defs _ (List.mem_of_getElem? (l := dps) (i := 73) rfl) rfl
  obtain ⟨fd_law, F_law⟩ := c.defs _ (List.mem_of_getElem? (l := dps) (i := 74) rfl) rfl
  obtain ⟨t_LIMIT, c_LIMIT⟩ := He.int_ok X G (c.fact _ (List.mem_of_getElem? (l := fxs) (i := 62) rfl))
  obtain ⟨t_LONGEST_ROW, c_LONGEST_ROW⟩ := He.int_ok X G (c.fact _ (List.mem_of_getElem? (l := fxs) (i := 63) rfl))
  obtain ⟨t_MOST_DIGITS, c_MOST_DIGITS⟩ := He.int_ok X G (c.fact _ (List.mem_of_getElem? (l := fxs) (i := 64) rfl))
  obtain ⟨t_NEAR_START, c_NEAR_START⟩ := He.str_ok X G (c.fact _ (List.mem_of_getElem? (l := fxs) (i := 65) rfl))
  obtain ⟨es_ARGUMENTS, n_ARGUMENTS, KD_ARGUMENTS⟩ := cd _ (List.mem_of_getElem? (l := tabs) (i := 0) rfl)
  have KV_ARGUMENTS := fx_gen (c.fact _ (List.mem_of_getElem? (l := fxs) (i := 268) rfl))
  have g_ARGUMENTS := He.glo_ok X G (c.fact _ (List.mem_of_getElem? (l := fxs) (i := 267) rfl))
  have e := hfa.symm.trans (He.glo_ok X G (c.fact _ (List.mem_of_getElem? (l := fxs) (i := 42) rfl)))
  cases e
  have b__wall := F__wall.binds (ps := ["k"]) fun _ _ _ _ _ _ us hl => match us, hl with | [_], _ => rfl
  have b_is_within := F_is_within.binds (ps := ["value", "least", "most"]) fun _ _ _ _ _ _ us hl => match us, hl with | [_, _, _], _ => rfl
  have b_is_number := F_is_number.binds (ps := ["value"]) fun _ _ _ _ _ _ us hl => match us, hl with | [_], _ => rfl
  have b_check_number := F_check_number.binds (ps := ["value"]) fun _ _ _ _ _ _ us hl => match us, hl with | [_], _ => rfl
  have b_check_index := F_check_index.binds (ps := ["index", "many"]) fun _ _ _ _ _ _ us hl => match us, hl with | [_, _], _ => rfl
  have b_check_row := F_check_row.binds (ps := ["row", "longest"]) fun _ _ _ _ _ _ us hl => match us, hl with | [_, _], _ => rfl
  have b_Cell_call := F_Cell_call.binds (ps := ["self", "held", "came"]) fun _ _ _ _ _ _ us hl => match us, hl with | [_, _, _], _ => rfl
  have b_Cell_eq := F_Cell_eq.binds (ps := ["self", "other"]) fun _ _ _ _ _ _ us hl => match us, hl with | [_, _], _ => rfl
  have b_Cell_neg := F_Cell_neg.binds (ps := ["self"]) fun _ _ _ _ _ _ us hl => match us, hl with | [_], _ => rfl
  have b_Cell_label := F_Cell_label.binds (ps := ["self"]) fun _ _ _ _ _ _ us hl => match us, hl with | [_], _ => rfl
  have b_Last_call := F_Last_call.binds (ps := ["self", "held", "came"]) fun _ _ _ _ _ _ us hl => match us, hl with | [_, _, _], _ => rfl
  have b_Last_eq := F_Last_eq.binds (ps := ["self", "other"]) fun _ _ _ _ _ _ us hl => match us, hl with | [_, _], _ => rfl
  have b_Last_neg := F_Last_neg.binds (ps := ["self"]) fun _ _ _ _ _ _ us hl => match us, hl with | [_], _ => rfl
  have b_Last_label := F_Last_label.binds (ps := ["self"]) fun _ _ _ _ _ _ us hl => match us, hl with | [_], _ => rfl
  have b_Less_call := F_Less_call.binds (ps := ["self", "held", "came"]) fun _ _ _ _ _ _ us hl => match us, hl with | [_, _, _], _ => rfl
  have b_Less_eq := F_Less_eq.binds (ps := ["self", "other"]) fun _ _ _ _ _ _ us hl => match us, hl with | [_, _], _ => rfl
  have b_Less_neg := F_Less_neg.binds (ps := ["self"]) fun _ _ _ _ _ _ us hl => match us, hl with | [_], _ => rfl
  have b_Less_label := F_Less_label.binds (ps := ["self"]) fun _ _ _ _ _ _ us hl => match us, hl with | [_], _ => rfl
  have b_Greater_call := F_Greater_call.binds (ps := ["self", "held", "came"]) fun _ _ _ _ _ _ us hl => match us, hl with | [_, _, _], _ => rfl
  have b_Greater_eq := F_Greater_eq.binds (ps := ["self", "other"]) fun _ _ _ _ _ _ us hl => match us, hl with | [_, _], _ => rfl
  have b_Greater_neg := F_Greater_neg.binds (ps := ["self"]) fun _ _ _ _ _ _ us hl => match us, hl with | [_], _ => rfl
  have b_Greater_label := F_Greater_label.binds (ps := ["self"]) fun _ _ _ _ _ _ us hl => match us, hl with | [_], _ => rfl
  have b_Near_init := F_Near_init.binds (ps := ["self", "mark"]) fun _ _ _ _ _ _ us hl => match us, hl with | [_, _], _ => rfl
  have b_Near_call := F_Near_call.binds (ps := ["self", "held", "came"]) fun _ _ _ _ _ _ us hl => match us, hl with | [_, _, _], _ => rfl
  have b_Near_eq := F_Near_eq.binds (ps := ["self", "other"]) fun _ _ _ _ _ _ us hl => match us, hl with | [_, _], _ => rfl
  have b_Near_neg := F_Near_neg.binds (ps := ["self"]) fun _ _ _ _ _ _ us hl => match us, hl with | [_], _ => rfl
  have b_Near_label := F_Near_label.binds (ps := ["self"]) fun _ _ _ _ _ _ us hl => match us, hl with | [_], _ => rfl
  have b_near_of := F_near_of.binds (ps := ["word"]) fun _ _ _ _ _ _ us hl => match us, hl with | [_], _ => rfl
  have b_cell_of := F_cell_of.binds (ps := ["word"]) fun _ _ _ _ _ _ us hl => match us, hl with | [_], _ => rfl
  have b_Chain_parse := F_Chain_parse.binds (ps := ["cls", "text"]) fun _ _ _ _ _ _ us hl => match us, hl with | [_, _], _ => rfl
  have b_Chain_text := F_Chain_text.binds (ps := ["self"]) fun _ _ _ _ _ _ us hl => match us, hl with | [_], _ => rfl
  have b_Chain_empty := F_Chain_empty.binds (ps := ["self"]) fun _ _ _ _ _ _ us hl => match us, hl with | [_], _ => rfl
  have b_Chain_step := F_Chain_step.binds (ps := ["self", "held", "came"]) fun _ _ _ _ _ _ us hl => match us, hl with | [_, _, _], _ => rfl
  have b_Chain_call := F_Chain_call.binds (ps := ["self", "row"]) fun _ _ _ _ _ _ us hl => match us, hl with | [_, _], _ => rfl
  have b_Chain_len := F_Chain_len.binds (ps := ["self"]) fun _ _ _ _ _ _ us hl => match us, hl with | [_], _ => rfl
  have b_Chain_getitem := F_Chain_getitem.binds (ps := ["self", "index"]) fun _ _ _ _ _ _ us hl => match us, hl with | [_, _], _ => rfl
  have b_Chain_rshift := F_Chain_rshift.binds (ps := ["self", "other"]) fun _ _ _ _ _ _ us hl => match us, hl with | [_, _], _ => rfl
  have b_Chain_neg := F_Chain_neg.binds (ps := ["self"]) fun _ _ _ _ _ _ us hl => match us, hl with | [_], _ => rfl
  have b_Chain_eq := F_Chain_eq.binds (ps := ["self", "other"]) fun _ _ _ _ _ _ us hl => match us, hl with | [_, _], _ => rfl
  have b_is_operation := F_is_operation.binds (ps := ["value"]) fun _ _ _ _ _ _ us hl => match us, hl with | [_], _ => rfl
  have b_Step_init := F_Step_init.binds (ps := ["self", "word", "chain", "numbers", "out"]) fun _ _ _ _ _ _ us hl => match us, hl with | [_, _, _, _, _], _ => rfl
  have b_Worktop_init := F_Worktop_init.binds (ps := ["self", "chain"]) fun _ _ _ _ _ _ us hl => match us, hl with | [_, _], _ => rfl
  have b_Worktop_replay := F_Worktop_replay.binds (ps := ["cls", "chain", "operations"]) fun _ _ _ _ _ _ us hl => match us, hl with | [_, _, _], _ => rfl
  have b_Worktop_now := F_Worktop_now.binds (ps := ["self"]) fun _ _ _ _ _ _ us hl => match us, hl with | [_], _ => rfl
  have b_Worktop_advance := F_Worktop_advance.binds (ps := ["self", "word", "chain", "numbers", "out"]) fun _ _ _ _ _ _ us hl => match us, hl with | [_, _, _, _, _], _ => rfl
  have b_Worktop_put := F_Worktop_put.binds (ps := ["self", "number"]) fun _ _ _ _ _ _ us hl => match us, hl with | [_, _], _ => rfl
  have b_Worktop_take := F_Worktop_take.binds (ps := ["self", "index"]) fun _ _ _ _ _ _ us hl => match us, hl with | [_, _], _ => rfl
  have b_Worktop_swap := F_Worktop_swap.binds (ps := ["self", "index"]) fun _ _ _ _ _ _ us hl => match us, hl with | [_, _], _ => rfl
  have b_Worktop_undo := F_Worktop_undo.binds (ps := ["self"]) fun _ _ _ _ _ _ us hl => match us, hl with | [_], _ => rfl
  have b_Worktop_redo := F_Worktop_redo.binds (ps := ["self"]) fun _ _ _ _ _ _ us hl => match us, hl with | [_], _ => rfl
  have b_Worktop_chain_now := F_Worktop_chain_now.binds (ps := ["self"]) fun _ _ _ _ _ _ us hl => match us, hl with | [_], _ => rfl
  have b_Worktop_held := F_Worktop_held.binds (ps := ["self"]) fun _ _ _ _ _ _ us hl => match us, hl with | [_], _ => rfl
  have b_Worktop_let_out := F_Worktop_let_out.binds (ps := ["self"]) fun _ _ _ _ _ _ us hl => match us, hl with | [_], _ => rfl
  have b_Worktop_operations := F_Worktop_operations.binds (ps := ["self"]) fun _ _ _ _ _ _ us hl => match us, hl with | [_], _ => rfl
  have b_Worktop_save := F_Worktop_save.binds (ps := ["self", "name"]) fun _ _ _ _ _ _ us hl => match us, hl with | [_, _], _ => rfl
  have b_Worktop_restore := F_Worktop_restore.binds (ps := ["self", "name"]) fun _ _ _ _ _ _ us hl => match us, hl with | [_, _], _ => rfl
  have b_Worktop_execute := F_Worktop_execute.binds (ps := ["self", "operation"]) fun _ _ _ _ _ _ us hl => match us, hl with | [_, _], _ => rfl
  have b_Worktop_batch := F_Worktop_batch.binds (ps := ["self", "operations"]) fun _ _ _ _ _ _ us hl => match us, hl with | [_, _], _ => rfl
  have b__law_random := F__law_random.binds (ps := ["_law_script", "_law_salt"]) fun _ _ _ _ _ _ us hl => match us, hl with | [_, _], _ => rfl
  have b__law_below := F__law_below.binds (ps := ["_law_d", "_law_limit"]) fun _ _ _ _ _ _ us hl => match us, hl with | [_, _], _ => rfl
  have b__law_labels := F__law_labels.binds (ps := ["_law_d", "_law_most"]) fun _ _ _ _ _ _ us hl => match us, hl with | [_, _], _ => rfl
  have b__law_new := F__law_new.binds (ps := ["_law_d"]) fun _ _ _ _ _ _ us hl => match us, hl with | [_], _ => rfl
  have b__law_chain := F__law_chain.binds (ps := ["_law_labels_here"]) fun _ _ _ _ _ _ us hl => match us, hl with | [_], _ => rfl
  have b__law_kept := F__law_kept.binds (ps := ["_law_label", "_law_held", "_law_came"]) fun _ _ _ _ _ _ us hl => match us, hl with | [_, _, _], _ => rfl
  have b__law_step := F__law_step.binds (ps := ["_law_labels_here", "_law_held", "_law_number"]) fun _ _ _ _ _ _ us hl => match us, hl with | [_, _, _], _ => rfl
  have b__law_worked_on := F__law_worked_on.binds (ps := ["_law_now", "_law_operation_here"]) fun _ _ _ _ _ _ us hl => match us, hl with | [_, _], _ => rfl
  have b__law_worked := F__law_worked.binds (ps := ["_law_w", "_law_operation_here"]) fun _ _ _ _ _ _ us hl => match us, hl with | [_, _], _ => rfl
  have b__law_equal := F__law_equal.binds (ps := ["_law_actual", "_law_expected"]) fun _ _ _ _ _ _ us hl => match us, hl with | [_, _], _ => rfl
  have b__law_operation := F__law_operation.binds (ps := ["_law_d", "_law_labels_here"]) fun _ _ _ _ _ _ us hl => match us, hl with | [_, _], _ => rfl
  have b__law_error_of := F__law_error_of.binds (ps := ["_law_call"]) fun _ _ _ _ _ _ us hl => match us, hl with | [_], _ => rfl
  have b__law_stands := F__law_stands.binds (ps := ["_law_worktop", "_law_w"]) fun _ _ _ _ _ _ us hl => match us, hl with | [_, _], _ => rfl
  have g__wall := He.glo_ok X G (c.fact _ (List.mem_of_getElem? (l := fxs) (i := 20) rfl))
  have g_is_within := He.glo_ok X G (c.fact _ (List.mem_of_getElem? (l := fxs) (i := 21) rfl))
  have g_is_number := He.glo_ok X G (c.fact _ (List.mem_of_getElem? (l := fxs) (i := 22) rfl))
  have g_check_number := He.glo_ok X G (c.fact _ (List.mem_of_getElem? (l := fxs) (i := 23) rfl))
  have g_check_index := He.glo_ok X G (c.fact _ (List.mem_of_getElem? (l := fxs) (i := 24) rfl))
  have g_check_row := He.glo_ok X G (c.fact _ (List.mem_of_getElem? (l := fxs) (i := 25) rfl))
  have g_near_of := He.glo_ok X G (c.fact _ (List.mem_of_getElem? (l := fxs) (i := 26) rfl))
  have g_cell_of := He.glo_ok X G (c.fact _ (List.mem_of_getElem? (l := fxs) (i := 27) rfl))
  have g_is_operation := He.glo_ok X G (c.fact _ (List.mem_of_getElem? (l := fxs) (i := 28) rfl))
  have g__law_random := He.glo_ok X G (c.fact _ (List.mem_of_getElem? (l := fxs) (i := 29) rfl))
  have g__law_below := He.glo_ok X G (c.fact _ (List.mem_of_getElem? (l := fxs) (i := 30) rfl))
  have g__law_labels := He.glo_ok X G (c.fact _ (List.mem_of_getElem? (l := fxs) (i := 31) rfl))
  have g__law_new := He.glo_ok X G (c.fact _ (List.mem_of_getElem? (l := fxs) (i := 32) rfl))
  have g__law_chain := He.glo_ok X G (c.fact _ (List.mem_of_getElem? (l := fxs) (i := 33) rfl))
  have g__law_kept := He.glo_ok X G (c.fact _ (List.mem_of_getElem? (l := fxs) (i := 34) rfl))
  have g__law_step := He.glo_ok X G (c.fact _ (List.mem_of_getElem? (l := fxs) (i := 35) rfl))
  have g__law_worked_on := He.glo_ok X G (c.fact _ (List.mem_of_getElem? (l := fxs) (i := 36) rfl))
  have g__law_worked := He.glo_ok X G (c.fact _ (List.mem_of_getElem? (l := fxs) (i := 37) rfl))
  have g__law_equal := He.glo_ok X G (c.fact _ (List.mem_of_getElem? (l := fxs) (i := 38) rfl))
  have g__law_operation := He.glo_ok X G (c.fact _ (List.mem_of_getElem? (l := fxs) (i := 39) rfl))
  have g__law_error_of := He.glo_ok X G (c.fact _ (List.mem_of_getElem? (l := fxs) (i := 40) rfl))
  have g__law_stands := He.glo_ok X G (c.fact _ (List.mem_of_getElem? (l := fxs) (i := 41) rfl))
  have g_law := He.glo_ok X G (c.fact _ (List.mem_of_getElem? (l := fxs) (i := 42) rfl))
  refine ⟨fd_law, [He.cT K ("law", none)], spLaw K, fun p hp => ?_, fun p hp => ?_, fun p hp => ?_, fun s u => ?_, fun H a ns hl _ hT hS => ?_, fun base _ _ TB => ?_⟩
  · rw [List.mem_singleton.mp hp]
    exact c.empty ("law", none) List.mem_cons_self
  · rw [List.mem_singleton.mp hp]
    exact c.out ("law", none) List.mem_cons_self
  · rw [List.mem_singleton.mp hp]
    exact PySem.W.codeHd_of_K X (c.hd ("law", none) List.mem_cons_self)
  · obtain ⟨⟨oc, od, kV, doc, pm, an, cdv, ct, osl, e, _⟩, _⟩ := F_law
    rw [e]
    exact .of_eq rfl
  · exact ⟨a, ns, rfl, hS, hl, hT _ List.mem_cons_self, fun _ => rfl⟩
  · have LB : LabelsOk PySem.Challenge.rw_siftchain_k14_batches_of_operations.prog w K mg base 1 := by
      intro k
      cases k with
      | first => exact ⟨_, _, ok_Cell_label F_Cell_label TC, b_Cell_label⟩
      | last => exact ⟨_, _, ok_Last_label F_Last_label TC, b_Last_label⟩
      | less => exact ⟨_, _, ok_Less_label F_Less_label TC, b_Less_label⟩
      | greater => exact ⟨_, _, ok_Greater_label F_Greater_label TC, b_Greater_label⟩
      | near => exact ⟨_, _, ok_Near_label F_Near_label TC, b_Near_label⟩
    have GI := ok_within (P := PySem.Challenge.rw_siftchain_k14_batches_of_operations.prog) (w := w) (base := base) F_is_within B
    have GW := ok_number (P := PySem.Challenge.rw_siftchain_k14_batches_of_operations.prog) (w := w) (base := base) F_is_number F_is_within B g_is_within c_LIMIT
    have GCN := ok_checknum F_check_number GW b_is_number F_is_number.kp g_is_number E0_InvalidNumber
    have GN := ok_ninit F_Near_init GCN b_check_number F_check_number.kp g_check_number TC
    have CO : CellsOk PySem.Challenge.rw_siftchain_k14_batches_of_operations.prog w K mg base 6 := by
      refine ⟨TC, fun k => ?_, fun k => ?_, fun k => ?_⟩
      · cases k with
        | first => exact (fnR_of (ok_Cell_call F_Cell_call B TC) b_Cell_call).mono (by decide)
        | last => exact (fnR_of (ok_Last_call F_Last_call B TC) b_Last_call).mono (by decide)
        | less => exact (fnR_of (ok_Less_call F_Less_call B TC) b_Less_call).mono (by decide)
        | greater => exact (fnR_of (ok_Greater_call F_Greater_call B TC) b_Greater_call).mono (by decide)
        | near => exact (fnR_of (ok_Near_call F_Near_call B TC) b_Near_call).mono (by decide)
      · cases k with
        | first => exact (fnR_of (ok_Cell_eq F_Cell_eq B TC LB) b_Cell_eq).mono (by decide)
        | last => exact (fnR_of (ok_Last_eq F_Last_eq B TC LB) b_Last_eq).mono (by decide)
        | less => exact (fnR_of (ok_Less_eq F_Less_eq B TC LB) b_Less_eq).mono (by decide)
        | greater => exact (fnR_of (ok_Greater_eq F_Greater_eq B TC LB) b_Greater_eq).mono (by decide)
        | near => exact (fnR_of (ok_Near_eq F_Near_eq B TC LB) b_Near_eq).mono (by decide)
      · cases k with
        | first => exact (fnR_of (ok_Cell_neg F_Cell_neg TC) b_Cell_neg).mono (by decide)
        | last => exact (fnR_of (ok_Last_neg F_Last_neg TC) b_Last_neg).mono (by decide)
        | less => exact (fnR_of (ok_Less_neg F_Less_neg TC) b_Less_neg).mono (by decide)
        | greater => exact (fnR_of (ok_Greater_neg F_Greater_neg TC) b_Greater_neg).mono (by decide)
        | near => exact (fnR_of (ok_Near_neg F_Near_neg TC GN b_Near_init) b_Near_neg).mono (by decide)
    have GB := ok_below (P := PySem.Challenge.rw_siftchain_k14_batches_of_operations.prog) (w := w) (base := base) F__law_below B
    have GR := ok_random (P := PySem.Challenge.rw_siftchain_k14_batches_of_operations.prog) (w := w) (base := base) F__law_random B
    have NO := ok_near F_near_of B TC GW b_is_number F_is_number.kp g_is_number GN b_Near_init c_NEAR_START c_MOST_DIGITS
    have CE := ok_cellof F_cell_of TC TCC NO b_near_of F_near_of.kp g_near_of c_NEAR_START
    have CK := ok_check F_check_row B h_enumerate GW b_is_number F_is_number.kp g_is_number
    have GCI := ok_checkidx F_check_index GI b_is_within F_is_within.kp g_is_within E0_UnknownCell
    have CI := ok_cinit (P := PySem.Challenge.rw_siftchain_k14_batches_of_operations.prog) (w := w) (base := base) F_Chain_init B h_enumerate TC CH
    have CS := ok_step F_Chain_step B h_zip CO CH
    have CEm := ok_empty (P := PySem.Challenge.rw_siftchain_k14_batches_of_operations.prog) (w := w) (base := base) F_Chain_empty B CH
    have CC : ChainOk PySem.Challenge.rw_siftchain_k14_batches_of_operations.prog w K mg base 10 := by
      refine ⟨CH, ⟨_, _, (ok_text F_Chain_text TC CH LB).mono (by decide), b_Chain_text⟩, ⟨_, _, CEm.mono (by decide), b_Chain_empty⟩, ?_, ?_, ?_, ?_, ?_, ?_⟩
      · exact (fnR_of (ok_ccall F_Chain_call CH (by decide) CK b_check_row F_check_row.kp g_check_row c_LONGEST_ROW CS b_Chain_step CEm b_Chain_empty) b_Chain_call).mono (by decide)
      · exact (fnR_of (ok_clen F_Chain_len B CH) b_Chain_len).mono (by decide)
      · exact (fnR_of (ok_citem F_Chain_getitem B CH GCI b_check_index F_check_index.kp g_check_index) b_Chain_getitem).mono (by decide)
      · exact (fnR_of (ok_shift F_Chain_rshift B CH CI) b_Chain_rshift).mono (by decide)
      · exact (fnR_of (ok_cneg (by decide) F_Chain_neg CO CH CI) b_Chain_neg).mono (by decide)
      · exact (fnR_of (ok_ceq F_Chain_eq B CO CH) b_Chain_eq).mono (by decide)
    have CP := (fnR_of (ok_parse F_Chain_parse B h_enumerate TC CH CI CE b_cell_of F_cell_of.kp g_cell_of) b_Chain_parse).mono (by decide : _ ≤ 10)
    have GC := ok_chainof F__law_chain CC CP
    have GL := ok_labels F__law_labels B GB b__law_below F__law_below.kp g__law_below
    have GK := ok_kept (P := PySem.Challenge.rw_siftchain_k14_batches_of_operations.prog) (w := w) (base := base) F__law_kept B
    have GE := ok_equal (P := PySem.Challenge.rw_siftchain_k14_batches_of_operations.prog) (w := w) (base := base) F__law_equal B g__law_equal 3
    have GLS := ok_lstep F__law_step B (Fu.mk GK b__law_kept F__law_kept.kp g__law_kept)
    have U_law_step := Fu.mk GLS b__law_step F__law_step.kp g__law_step
    have WK := mkWk c X G CH TC
    have WSI := ok_stinit (P := PySem.Challenge.rw_siftchain_k14_batches_of_operations.prog) (w := w) (base := base) F_Step_init WK
    have WIN := ok_wkinit F_Worktop_init WK CH WSI b_Step_init CEm b_Chain_empty
    have WNOW := ok_now (P := PySem.Challenge.rw_siftchain_k14_batches_of_operations.prog) (w := w) (base := base) F_Worktop_now WK
    have WADV := ok_advance F_Worktop_advance WK WSI b_Step_init
    have WPUT := ok_put (by decide) F_Worktop_put WK CH GCN b_check_number F_check_number.kp g_check_number WNOW b_Worktop_now WADV b_Worktop_advance CS b_Chain_step
    have WHELD := ok_held F_Worktop_held WK WNOW b_Worktop_now
    have WLET := ok_letout (P := PySem.Challenge.rw_siftchain_k14_batches_of_operations.prog) (w := w) (base := base) F_Worktop_let_out WK
    have WCN := ok_chainnow F_Worktop_chain_now WK WNOW b_Worktop_now
    have WUN := ok_undo (P := PySem.Challenge.rw_siftchain_k14_batches_of_operations.prog) (w := w) (base := base) F_Worktop_undo WK
    have WRE := ok_redo (P := PySem.Challenge.rw_siftchain_k14_batches_of_operations.prog) (w := w) (base := base) F_Worktop_redo B WK
    have WOP := ok_ops (P := PySem.Challenge.rw_siftchain_k14_batches_of_operations.prog) (w := w) (base := base) F_Worktop_operations WK
    have WTA := ok_take (by decide) F_Worktop_take B WK CC GCI b_check_index F_check_index.kp g_check_index WNOW b_Worktop_now WADV b_Worktop_advance
    have WSW := ok_swap (by decide) F_Worktop_swap B WK TC LB CC CI GCI b_check_index F_check_index.kp g_check_index WNOW b_Worktop_now WADV b_Worktop_advance
    have GOn := ok_on F__law_worked_on B U_law_step
    have U_law_worked_on := Fu.mk GOn b__law_worked_on F__law_worked_on.kp g__law_worked_on
    have GWd := ok_worked F__law_worked B U_law_worked_on
    have U_law_worked := Fu.mk GWd b__law_worked F__law_worked.kp g__law_worked
    have GSd := ok_stands F__law_stands B CC WK (WHELD.mono (by decide)) b_Worktop_held (WLET.mono (by decide)) b_Worktop_let_out (WCN.mono (by decide)) b_Worktop_chain_now (WOP.mono (by decide)) b_Worktop_operations (Fu.mk GE b__law_equal F__law_equal.kp g__law_equal)
    have U_law_stands := Fu.mk GSd b__law_stands F__law_stands.kp g__law_stands
    have GNw := ok_new F__law_new B (Fu.mk GL b__law_labels F__law_labels.kp g__law_labels)
    have U_law_new := Fu.mk GNw b__law_new F__law_new.kp g__law_new
    have GOp := ok_oper F__law_operation B (Fu.mk GB b__law_below F__law_below.kp g__law_below)
    have U_law_operation := Fu.mk GOp b__law_operation F__law_operation.kp g__law_operation
    skip
    skip
    have GIO := ok_isop (P := PySem.Challenge.rw_siftchain_k14_batches_of_operations.prog) (w := w) (base := base) F_is_operation B KD_ARGUMENTS KV_ARGUMENTS g_ARGUMENTS
    have U_is_operation := Fu.mk GIO b_is_operation F_is_operation.kp g_is_operation
    have WEX := ok_execute F_Worktop_execute WK (WPUT.mono (by decide)) b_Worktop_put (WTA.mono (by decide)) b_Worktop_take (WSW.mono (by decide)) b_Worktop_swap WUN b_Worktop_undo WRE b_Worktop_redo
    skip
    have WBA := ok_batch F_Worktop_batch B h_enumerate WK U_is_operation WEX b_Worktop_execute
    have U_law_random := Fu.mk GR b__law_random F__law_random.kp g__law_random
    have U_law_below := Fu.mk GB b__law_below F__law_below.kp g__law_below
    have U_law_labels := Fu.mk GL b__law_labels F__law_labels.kp g__law_labels
    have U_law_chain := Fu.mk GC b__law_chain F__law_chain.kp g__law_chain
    have U_law_kept := Fu.mk GK b__law_kept F__law_kept.kp g__law_kept
    have U_law_equal := Fu.mk GE b__law_equal F__law_equal.kp g__law_equal
    have ET : ∀ e ∈ [Er.number, Er.cell], ErrX K e := fun e he => by
      rcases List.mem_cons.mp he with rfl | he
      · exact mkErrX_number c
      · rw [List.mem_singleton.mp he]
        exact mkErrX_cell c
    have XPUT := ok_putX (n := 11) (by decide) F_Worktop_put GCN b_check_number F_check_number.kp g_check_number
    have XTA := ok_takeX (by decide) F_Worktop_take B WK CC GCI b_check_index F_check_index.kp g_check_index WNOW b_Worktop_now E0_InvalidNumber
    have XSW := ok_swapX (by decide) F_Worktop_swap B WK CC GCI b_check_index F_check_index.kp g_check_index WNOW b_Worktop_now
    have WEB := fn_or WEX (ok_executeX F_Worktop_execute WK XPUT b_Worktop_put XTA b_Worktop_take XSW b_Worktop_swap)
    have WBX := ok_batchX F_Worktop_batch B h_enumerate ER.sift WK (fun e he => by rcases he with rfl | rfl; exact mkErrT_number c; exact mkErrT_cell c) U_is_operation WEB b_Worktop_execute
    exact ok_law F_law rfl B CC ER ET WK (WIN.mono (by decide)) b_Worktop_init (WUN.mono (by decide)) b_Worktop_undo (WRE.mono (by decide)) b_Worktop_redo WBA b_Worktop_batch WBX
      U_law_random U_law_below U_law_new U_law_chain U_law_operation U_law_worked U_law_equal U_law_stands ⟨_, F__law_error_of⟩ g__law_error_of (TB _ List.mem_cons_self)
end SC
open PySem PySem.W PySem.Calls PyProof.Rows
set_option maxRecDepth 100000 in
set_option maxHeartbeats 0 in
theorem PySem.Challenge.cw_siftchain_k14_batches_of_operations_holds : PySem.Challenge.rw_siftchain_k14_batches_of_operations.Holds := by
  w_on; o_law
  refine HandSHeadRun.head_any (r := SC.R) (q := view SC.R.prog [51]) (H := SC.hk) (ob := SC.ob) (M := 12000) (loose := SC.loose) (d := HandSHeadRun.topDef SC.R.prog 51) (kwd := []) SC.ob_eq
    (by kernel_rfl) (fun s => by kernel_rfl) SC.run (by kernel_rfl) (by kernel_rfl) (by kernel_rfl) (by rfl) (by first | assumption | decide +kernel) (by decide +kernel) ⟨rfl, rfl, rfl, rfl, rfl, by decide +kernel⟩ ?hw ?hc
  case hw => w_witness2
  case hc =>
    refine LamX.walk_ofTsE (l := PySem.Challenge.rw_siftchain_k14_batches_of_operations) (n := 63) (k := 20) (x := "_law_script") (CX := fun _ => L2.CX0) rfl (by decide) (by kernel_rfl) ⟨rfl, by decide, by decide⟩ ?F (fun _ _ _ _ _ z => z)
    intro w mg fa h Y G hmg0
    obtain ⟨K, KX, c, cd⟩ := Y
    have en : (HandSHeadRun.topDef SC.R.prog 51).name = ("law" : PySem.Str) := by kernel_rfl
    rw [en] at hmg0
    exact ⟨K, KX, SC.lawAt w K h mg fa KX G hmg0 c cd⟩
